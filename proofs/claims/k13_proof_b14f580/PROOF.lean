import PyProof.Rows.All
import Wide.All
import OpenK.AllK
import Wide.FinOn
import KE.KStateDown
import KE.KMathGC
import HandS.ForMost
import HandS.More
import HandS.WordsExc
import HandS.Defaults
import HandS.Property
import HandS.ClsMeth
import HandS.Star
import HandS.Gcd
import HandS.Wide
import HandS.IsInst
import HandS.Walk
import HandS.Style
import HandS.TupAny
import HandS.DictComp
import HandS.Head0
import HandS.Head1
import HandS.Head2
import HandS.HeadEnd
import HandS.HeadHook1
import HandS.HeadHook2
import HandS.Exc
import HandS.ExcInit
import HandS.FStr
import KE.KExcSuper
import HandS.ExcOwn
import HandS.ExcField
import HandS.ExcIs
import KE.KExcIs
import HandS.SetFor
import HandS.GenList
import HandS.Lambda
import HandS.HeadHook4
import HandS.HeadWalk
import HandS.Head3
import KE.GoesEnum
import KE.KTupSum
import HandS.NoneIn
import HandS.SlotsOwn
import HandS.Conv
import HandS.ListItems
import HandS.Zip
import PySem.Challenge.RW_emptiesback_k13_numbers_out_of_range
set_option Elab.async false
set_option linter.all false
set_option maxRecDepth 100000
set_option maxHeartbeats 0
/-! What every law here leans on: calls by positional promises, facts of the head, a heap that only grows. -/
namespace EB
open PySem PySem.Spec PyProof.Rows L2
section
variable {X : Cx} {CX : CXT} {k : Nat} {f C : Addr} {sp : Sp} {E : XK} {x m : Str} {e o : Expr} {es : List Expr} {ta : TE} {t : TA} {p pos apos : Pos}
/-- the promise sp asked of the values of the arguments -/
def tCR (sp : Sp) (E : XK) (t : TA) : TE := fun σ H Q => t σ H fun vs H1 => sp vs H1 Q E
theorem pe_cR (F : FnR X.prog X.w X.K X.mg X.base CX k f sp) (hr : Room k X.A) (hk : PySem.W.keepIn X.K (.ref f) = true) (hm : X.mg x = some (.ref f)) (hx : Passes CX X E) (ha : PA X (e :: es) t) (hg : Gl X x := by rfl)
    (hd : (x == ("__debug__" : Str)) = false := by decide) (he : starEach (e :: es) X.env = (false, eval e X.env) :: starEach es X.env := by rfl) (hp : (backTo pos (starEach es X.env)).any (·.1) = false := by rfl) :
    PE X (.Call (.Name x p) (e :: es) [] pos) (tCR sp E t) := by
  constructor
  intro pins s σ H Q I h
  refine wpAny_Call_Name_kw (ld_glob I hg hm ?_ hd)
  refine PySem.W.callWith_K (h₀ := X.base) I.ok.mod.kin hk (thn (ha.run pos pins s σ H _ I h) fun us s1 ⟨vs, H1, I1, r, q⟩ => ⟨I1.kIn, wpAny_call (run_fnR F hr hx I1 r q)⟩) he hp
/-- a method without arguments -/
def tM0 (C : Addr) (m : Str) (sp : Sp) (E : XK) (ta : TE) : TE := fun σ H Q => ta σ H fun x H1 => ∃ a dx fs, x = .ref a ∧ H1 a = some (.ins C dx fs) ∧ fs.lookup m = none ∧ sp [x] H1 Q E
end
/-- a tuple as the target of a comprehension -/
theorem pg_tupB {X : Cx} {s : Shared} {H : Hp} {scope : Scope} {cenv : Env} {fp : List Addr} {es : List Expr} {k : Nat} {t : TGs} {n : Nat} {pos : Pos} (h : PGs (X.blk s H scope cenv fp) es t) (hc : X.calm = true := by rfl)
    (hn : (assignEach es cenv).length = n := by rfl) (hst : (assignEach es cenv).findIdx? (·.1) = none := by rfl) : PG (X.blk s H scope cenv fp) (.Tuple es k pos) (gTup X.K n t) := pg_tup (X := X.blk s H scope cenv fp) hc h hn hst
/-! ### a heap that only grows -/
theorem same_new {H : Hp} {q : Addr} {u : HO} (h : H q = none) : Same H (upd H q u) := fun b o e => by
  rw [upd_ne (ne_of_none e h)]
  exact e
theorem same_mut {H0 H : Hp} {q : Addr} {u : HO} (s : Same H0 H) (h : H0 q = none) : Same H0 (upd H q u) := fun b o e => by
  rw [upd_ne (ne_of_none e h)]
  exact s b o e
theorem Same.tup {K : PySem.W.Frag} {H H' : Hp} {a : Addr} {xs : List V} (e : Same H H') (h : SqT K H a xs) : SqT K H' a xs := by
  rcases h with (h | ⟨o, h⟩) | h
  · exact .inl (.inl (e _ _ h))
  · exact .inl (.inr ⟨o, e _ _ h⟩)
  · exact .inr h
theorem upd_old {H : Hp} {a q : Addr} {o u : HO} (h : H a = some o) (n : H q = none) : upd H q u a = some o := by
  rw [upd_ne (ne_of_none h n)]
  exact h
/-! ### the head's facts -/
/-- the object of a def -/
def fdAt (K : PySem.W.Frag) (a : Addr) : Option FuncData := match K.lookup a with
  | some o => (match o.data with
    | .func fd => some fd
    | _ => none)
  | none => none
abbrev FS : Type := Str × Str × Arguments × FuncBody × Scope × Addr × List (Str × Addr) × Addr
def fsOf (fd : FuncData) : FS := (fd.name, fd.qualname, fd.params, fd.body, fd.scope, fd.globals, fd.closure, fd.builtins)
/-- one def of the text: where it is found, what it is -/
structure DD where
  adr : PySem.W.Frag → Addr
  nm : Str
  ql : Str
  st : Stmt
  df : List He.Dv := []
  cl : Bool := false
def DD.fs (d : DD) : FS := (d.nm, d.ql, defArgs d.st, .stmts (defBody d.st), defScope d.st, mainGlobals, [], builtinsNs)
/-- cl: the def sees __class__ from outside; its closure is looked at apart -/
def DD.obs (K : PySem.W.Frag) (d : DD) : Option FS := (fdAt K (d.adr K)).map fun fd => if d.cl then fsOf { fd with closure := [] } else fsOf fd
def DD.ok (K : PySem.W.Frag) (d : DD) : Bool := PySem.W.keepIn K (.ref (d.adr K)) && (match fdAt K (d.adr K) with
  | some fd => PySem.W.codeIn K fd.code d.ql && He.dflB K fd.defaults (d.df.map (He.Dv.v K))
  | none => false)
/-- the def d, its function's data fd -/
abbrev FnP (K : PySem.W.Frag) (d : DD) (fd : FuncData) : Prop := FunD K d.nm d.ql (defArgs d.st) (defBody d.st) (defScope d.st) (d.df.map (He.Dv.v K)) [] (d.adr K) fd
theorem DD.fun {K : PySem.W.Frag} {d : DD} (hcl : d.cl = false) (e : d.obs K = some d.fs) (c : d.ok K = true) : ∃ fd, FnP K d fd := by
  obtain ⟨kp, c2⟩ := Bool.and_eq_true_iff.mp c
  unfold DD.obs at e
  cases q : fdAt K (d.adr K) with
  | none =>
    rw [q] at e
    cases e
  | some fd =>
    rw [q] at e c2
    rw [hcl] at e
    obtain ⟨c3, c4⟩ := Bool.and_eq_true_iff.mp c2
    unfold fdAt at q
    cases l : K.lookup (d.adr K) with
    | none =>
      rw [l] at q
      cases q
    | some o =>
      rw [l] at q
      obtain ⟨oc, od, dt, osl⟩ := o
      cases dt with
      | func fd' =>
        have ef : fd' = fd := Option.some.inj q
        subst ef
        have e2 : fsOf fd' = d.fs := Option.some.inj e
        obtain ⟨n1, n2, n3, n4, n5, n6, n7, n8, n9, n10, n11, n12, n13, n14, n15⟩ := fd'
        simp only [fsOf, DD.fs, Prod.mk.injEq] at e2
        obtain ⟨h1, h2, h3, h4, h5, h6, h7, h8⟩ := e2
        subst h1 h2 h3 h4 h5 h6 h7 h8
        exact ⟨_, ⟨oc, od, n8, n9, n10, n11, n12, n13, n14, osl, rfl, l, c3, He.dflB_ok c4, .inl rfl⟩, kp⟩
      | _ => cases q
/-- a property's getter -/
def propG (K : PySem.W.Frag) (C p : Addr) : Addr := match PySem.W.recIn K p "property" with
  | some (.ref g :: _) => g
  | _ => 0
def okProp (K : PySem.W.Frag) (x f : Str) : Bool :=
  He.eqO (PySem.W.findIn K (.ref (He.ga K x)) f) (some (some (.ref (He.ma K (He.ga K x) f)))) && (He.eqO (PySem.W.specialIn K (.ref (He.ma K (He.ga K x) f)) "__get__") (some (some (.builtin "property.__get__"))) &&
  (decide (PySem.W.takesIn K (.ref (He.ma K (He.ga K x) f)) = some true) && (match PySem.W.recIn K (He.ma K (He.ga K x) f) "property" with
    | some (.ref g :: _) => decide (g = propG K (He.ga K x) (He.ma K (He.ga K x) f))
    | _ => false)))
theorem okProp_of {K : PySem.W.Frag} {x f : Str} (h : okProp K x f = true) : PropOf K (He.ga K x) f (He.ma K (He.ga K x) f) (propG K (He.ga K x) (He.ma K (He.ga K x) f)) := by
  obtain ⟨h1, h⟩ := Bool.and_eq_true_iff.mp h
  obtain ⟨h2, h⟩ := Bool.and_eq_true_iff.mp h
  obtain ⟨h3, h4⟩ := Bool.and_eq_true_iff.mp h
  refine ⟨He.eqO_ok h1, He.eqO_ok h2, of_decide_eq_true h3, ?_⟩
  split at h4
  · rename_i g rest e
    exact ⟨rest, by rw [e, ← of_decide_eq_true h4]⟩
  · cases h4
def okCallO (K : PySem.W.Frag) (x : Str) : Bool :=
  He.eqO (PySem.W.findIn K (.ref (He.ga K x)) "__call__") (some (some (.ref (He.ma K (He.ga K x) "__call__")))) && (PySem.W.isFn K (.ref (He.ma K (He.ga K x) "__call__")) && PySem.W.fnIn K (He.ma K (He.ga K x) "__call__"))
theorem okCallO_of {K : PySem.W.Frag} {x : Str} (h : okCallO K x = true) : StX.CallO K (He.ga K x) (He.ma K (He.ga K x) "__call__") := by
  obtain ⟨h1, h⟩ := Bool.and_eq_true_iff.mp h
  obtain ⟨h2, h3⟩ := Bool.and_eq_true_iff.mp h
  exact ⟨He.eqO_ok h1, h2, h3⟩
def okBlt (K : PySem.W.Frag) (x : Str) (id : String) : Bool := He.eqO (PySem.W.nsIn K mainGlobals x) (some (some (.builtin id)))
theorem okBlt_of {K : PySem.W.Frag} {h : Heap} {mg : Str → Option Value} {x : Str} {id : String} (X : K.In h) (G : h.Ns mainGlobals mg) (c : okBlt K x id = true) : mg x = some (.builtin id) := PySem.W.mg_of X G (He.eqO_ok c)
/-- all that is looked at behind the top -/
abbrev Seen : Type := Bool × List (Option FS)
def seen (fa : List He.Fa) (more : PySem.W.Frag → Bool) (ds : List DD) (K : PySem.W.Frag) : Seen := ((fa.all fun f => f.ok K) && (more K && ds.all fun d => d.ok K), ds.map fun d => d.obs K)
def want (ds : List DD) : Seen := (true, ds.map fun d => some d.fs)
def Says (fa : List He.Fa) (more : PySem.W.Frag → Bool) (ds : List DD) (K : PySem.W.Frag) : Prop := seen fa more ds K = want ds
def hook (n : Nat) (fa : List He.Fa) (more : PySem.W.Frag → Bool) (ds : List DD) : PySem.W.Hook where
  α := Seen
  obs := fun s => seen fa more ds (He.frG s.heap.get? (cStatics :: He.asD s.heap.get? n))
  val := fun _ => want ds
  says := fun _ h => ∃ K : PySem.W.Frag, K.In h ∧ Says fa more ds K
  of := fun _ _ e => ⟨_, He.frG_in, e⟩
  keeps := fun _ _ _ ⟨K, hK, c⟩ k => ⟨K, PySem.W.Frag.In.keeps hK k, c⟩
section
variable {fa : List He.Fa} {more : PySem.W.Frag → Bool} {ds : List DD} {K : PySem.W.Frag}
theorem Says.bools (c : Says fa more ds K) : (∀ f ∈ fa, f.ok K = true) ∧ more K = true ∧ ∀ d ∈ ds, d.ok K = true := by
  have c1 : ((fa.all fun f => f.ok K) && (more K && ds.all fun d => d.ok K)) = true := congrArg (fun z : Seen => z.1) c
  obtain ⟨c2, c3⟩ := Bool.and_eq_true_iff.mp c1
  obtain ⟨c4, c5⟩ := Bool.and_eq_true_iff.mp c3
  exact ⟨fun f h => List.all_eq_true.mp c2 f h, c4, fun d h => List.all_eq_true.mp c5 d h⟩
theorem Says.fact (c : Says fa more ds K) (i : Nat) {f : He.Fa} (h : fa[i]? = some f := by rfl) : f.ok K = true := c.bools.1 f (List.mem_of_getElem? h)
theorem Says.fn0 (c : Says fa more ds K) (i : Nat) {d : DD} (h : ds[i]? = some d := by rfl) : d.obs K = some d.fs ∧ d.ok K = true := by
  have e : ds.map (fun d => d.obs K) = ds.map fun d => some d.fs := congrArg (fun z : Seen => z.2) c
  have e2 : (ds.map fun d => d.obs K)[i]? = (ds.map fun d => some d.fs)[i]? := by rw [e]
  rw [List.getElem?_map, List.getElem?_map, h] at e2
  exact ⟨Option.some.inj e2, c.bools.2.2 d (List.mem_of_getElem? h)⟩
theorem Says.fn (c : Says fa more ds K) (i : Nat) {d : DD} (h : ds[i]? = some d := by rfl) (hcl : d.cl = false := by rfl) : ∃ fd, FnP K d fd := DD.fun hcl (c.fn0 i h).1 (c.fn0 i h).2
end
end EB
namespace EB
open PySem PySem.Spec PyProof.Rows L2
theorem pe_cI {X : Cx} {x : Str} {i : Int} {pos : Pos} (hm : ∃ t, X.mg x = some (.int i t)) (hg : Gl X x := by rfl) (hd : (x == ("__debug__" : Str)) = false := by decide) : PE X (.Name x pos) (tC (.int i)) := by
  obtain ⟨t, h⟩ := hm
  exact pe_glob hg h ⟨t, rfl⟩ hd
theorem pe_cS {X : Cx} {x z : Str} {pos : Pos} (hm : ∃ t, X.mg x = some (.str z t)) (hg : Gl X x := by rfl) (hd : (x == ("__debug__" : Str)) = false := by decide) : PE X (.Name x pos) (tC (.str z)) := by
  obtain ⟨t, h⟩ := hm
  exact pe_glob hg h ⟨t, rfl⟩ hd
theorem pe_cC {X : Cx} {x : Str} {C : Addr} {pos : Pos} (hm : X.mg x = some (.ref C)) (hg : Gl X x := by rfl) (hd : (x == ("__debug__" : Str)) = false := by decide) : PE X (.Name x pos) (tC (.ref C)) := pe_glob hg hm rfl hd
/-- a constant of a class, read off the class -/
def okRead (K : PySem.W.Frag) (x : Str) : Bool := PySem.W.readsIn K (He.ga K x) (.type "type") && He.eqO (PySem.W.specialIn K (.ref (He.ga K x)) "__getattribute__") (some (some (.builtin "type.__getattribute__")))
theorem okRead_of {K : PySem.W.Frag} {x : Str} (h : okRead K x = true) : ClX.CRead K (He.ga K x) (.type "type") := by
  obtain ⟨h1, h2⟩ := Bool.and_eq_true_iff.mp h
  exact ⟨h1, He.eqO_ok h2⟩
def okCVal (K : PySem.W.Frag) (x f : Str) (v : V) : Bool := match PySem.W.findCls K (.ref (He.ga K x)) (.type "type") f with
  | some (.val u) => He.relB v u
  | _ => false
theorem okCVal_of {K : PySem.W.Frag} {x f : Str} {v : V} (h : okCVal K x f v = true) : ∃ u, ClX.CVal K (He.ga K x) (.type "type") f v u := by
  unfold okCVal at h
  split at h
  · rename_i u e
    exact ⟨u, e, He.relB_ok h⟩
  · cases h
/-! ### the same rules with the written part named: within a comprehension it may not hang on the block -/
section
variable {X : Cx} {K : PySem.W.Frag}
theorem ix_listK (h : X.K = K) : IxR X (rIxL K) := h ▸ ix_list
theorem ix_seqK (h : X.K = K) : IxR X (rIx K) := h ▸ ix_seq
theorem ix_tupK (h : X.K = K) : IxR X (rIxT K) := h ▸ ix_tup
theorem sl_listK (h : X.K = K) : SlR X (rSlL K) := h ▸ sl_list
theorem sl_tupAK (h : X.K = K) : SlR X (rSlA K) := h ▸ sl_tupA
theorem op_catAK (h : X.K = K) : OpR X (binaryOp .Add) (rCatA K) := h ▸ op_catA
theorem op_in_seqK (h : X.K = K) : OpR X (compareOp .In) (rIn K false) := h ▸ op_in_seq
theorem op_notIn_seqK (h : X.K = K) : OpR X (compareOp .NotIn) (rIn K true) := h ▸ op_notIn_seq
def rLenK (K : PySem.W.Frag) : List V → Hp → VK → Prop := fun xs H Q => ∃ p ys, xs = [.ref p] ∧ (SqL K H p ys ∨ SqT K H p ys) ∧ Q (.int ys.length) H
theorem call_len_seqK (h : X.K = K) : CallR X (.builtin "len") (rLenK K) := h ▸ call_len_seq
theorem cr_sumK (hc : X.calm = true) (h : X.K = K) : CallR X (.builtin "sum") (rSum K) := h ▸ cr_sum hc
theorem pi_listK {tg l : Expr} {tl : TE} (h : X.K = K) (hl : PE X l tl) : PI X tg l (iList K tl) := h ▸ pi_list hl
theorem pi_tupK {tg l : Expr} {tl : TE} (h : X.K = K) (hl : PE X l tl) : PI X tg l (iTup K tl) := h ▸ pi_tup hl
theorem pe_fldK {e : Expr} {f : Str} {ta : TE} {pos : Pos} (h : X.K = K) (he : PE X e ta) (hb : attributeBase e f X.env (eval e X.env) = eval e X.env) : PE X (.Attribute e f pos) (tFld K ta f) := h ▸ pe_fld he hb
end
end EB

/-! an own exception's __init__ that says super().__init__(text) and then keeps one field -/
namespace EB
open PySem PySem.Spec PyProof.Rows L2
/-- its names: two parameters, __class__ from outside, super the built-in -/
structure SupS (p : Str) (sc : Scope) : Prop where
  kind : sc.kind = .function
  co : sc.isCoroutine = false
  gen : sc.isGenerator = false
  cls : sc.names.lookup ("__class__" : Str) = some .free
  sup : sc.names.lookup ("super" : Str) = some .globalImplicit
  self : sc.names.lookup ("self" : Str) = some .local
  par : sc.names.lookup p = some .local
  own : ∀ y ∈ sc.names, y.2 ≠ .cell ∧ (y.2 = .free → y.1 = ("__class__" : Str))
  ne : ("self" : Str) ≠ p
abbrev supEnv (qual : Str) (scope : Scope) (L f : Addr) (cd : Value) (cc : Addr) : Env := PySem.W.ksEnv qual scope L f cd cc
/-- the context of its body -/
def supCx (CX : CXT) (P : Program) (w : World) (K : PySem.W.Frag) (mg : Str → Option Value) (base : Heap) (p qual : Str) (scope : Scope) (f : Addr) (cd : Value) (cc : Addr) (A : Around) (outer : List Env) (s : Shared) (H : Hp) (E : XK) : Cx where
  prog := P
  w := w
  K := K
  mg := mg
  base := base
  A := A.deeper (supEnv qual scope s.heap.objs.size f cd cc)
  N := ["self", p]
  s_0 := s
  H_0 := H
  env := supEnv qual scope s.heap.objs.size f cd cc
  outer := outer
  stack := supEnv qual scope s.heap.objs.size f cd cc :: outer
  ex := []
  fn := fun _ => false
  calm := true
  pn := []
  xe := fun e s' => wpAny (model P w) (A.deeper (supEnv qual scope s.heap.objs.size f cd cc)) (leaving (supEnv qual scope s.heap.objs.size f cd cc) e) (fun _ s'' => CX outer H s E e s'') (fun e' s'' => CX outer H s E e' s'') s'
section
variable {CX : CXT} {P : Program} {w : World} {K : PySem.W.Frag} {mg : Str → Option Value} {base : Heap} {p qual : Str} {scope : Scope} {f cc : Addr} {cd : Value} {A : Around} {outer : List Env} {s : Shared} {H : Hp} {E : XK}
theorem sup_start {h₁ : Heap} {tk : Nat} {v0 v1 : V} {u0 u1 : Value} (S : SupS p scope) (hd : A.handled = none) (e0 : Env0 P w K mg base A outer s H) (hc : ∃ v, base.IsCell cc v) (r0 : RelV v0 u0) (r1 : RelV v1 u1)
    (hns : h₁.Ns s.heap.objs.size fun y => ([("self", u0), (p, u1)] : List (Str × Value)).reverse.lookup y) (kp : ∀ b o, s.heap.get? b = some o → h₁.get? b = some o) :
    Inv (supCx CX P w K mg base p qual scope f cd cc A outer s H E) [] [some v0, some v1] H { s with heap := h₁, toks := tk } := by
  have cl : ∀ {x : Str} {c : Addr}, ([("__class__", cc)] : List (Str × Addr)).lookup x = some c → x = ("__class__" : Str) ∧ c = cc := fun {x c} e => by
    simp only [List.lookup] at e
    split at e
    · rename_i z
      exact ⟨beq_iff_eq.mp z, (Option.some.inj e).symm⟩
    · cases e
  obtain ⟨v, oc, hoc, hdc⟩ := hc
  have bc := e0.bs cc oc hoc
  have noA : ∀ b : Addr, b ∉ (supCx CX P w K mg base p qual scope f cd cc A outer s H E).ex := fun b z => absurd (show b ∈ ([] : List Addr) from z) (by simp)
  refine ⟨⟨e0.mod, S.kind, rfl, rfl, Nat.le_refl _, fun y z c e1 e2 => (cl e1).1.trans (cl e2).1.symm, fun y hy => ?_, fun y c z _ => Bool.noConfusion (show false = true from z), fun _ => hd, Around.frames_deeper e0.frames, .inr ⟨rfl, rfl⟩, fun b z => absurd z (noA b), e0.bs, e0.bsz, fun b _ _ => noA b,
      fun b z => absurd z (noA b), e0.funs, e0.frf⟩,
    rfl, e0.bare, Un.kept kp, ⟨_, hns, fun i y v e1 e2 e3 => ?_⟩, fun y c e => ?_, e0.hok.fresh (Nat.le_refl _), fun y c e => ?_, fun q hq => absurd (show q ∈ ([] : List (Addr × Obj)) ++ [] from hq) (by simp), e0.hok.kept kp, rfl⟩
  · have hy : scope.names.lookup y = some .cell ∨ scope.names.lookup y = some .free := hy
    rcases hy with hy | hy
    · exact absurd rfl (S.own _ (PySem.mem_of_lookup hy)).1
    · have z := (S.own _ (PySem.mem_of_lookup hy)).2 rfl
      dsimp only at z
      subst z
      exact ⟨cc, rfl⟩
  · have e1 : (["self", p] : List Str)[i]? = some y := e1
    match i, e1, e2 with
    | 0, e1, e2 =>
      cases e1
      cases e2
      refine ⟨u0, r0, .inl ⟨S.self, ?_⟩⟩
      have ne : (("self" : Str) == p) = false := by simpa using S.ne
      show List.lookup ("self" : Str) [(p, u1), ("self", u0)] = some u0
      simp only [List.lookup, ne, beq_self_eq_true]
    | 1, e1, e2 =>
      cases e1
      cases e2
      refine ⟨u1, r1, .inl ⟨S.par, ?_⟩⟩
      show List.lookup p [(p, u1), ("self", u0)] = some u1
      simp only [List.lookup, beq_self_eq_true]
    | i + 2, e1, _ => exact nomatch e1
  · obtain ⟨_, rfl⟩ := cl e
    exact ⟨v, oc, kp _ _ bc.1, hdc⟩
  · obtain ⟨_, rfl⟩ := cl e
    exact bc.2
/-- what the written part says of such a def f, its code, its cell, its class -/
structure SupF (P : Program) (K : PySem.W.Frag) (mg : Str → Option Value) (qual : Str) (params : Arguments) (body : List Stmt) (scope : Scope) (f : Addr) (fd : FuncData) (C cda cc : Addr) : Prop where
  fn : ∃ oc od kV doc pm an ct osl, fd = PySem.W.ksFn "__init__" qual params body scope .none kV doc pm an (.ref cda) ct cc ∧ K.lookup f = some ⟨oc, od, .func fd, osl⟩
  cd : PySem.W.codeIn K (.ref cda) qual = true
  code : ∃ ccl cdd vs ccs file tf, K.lookup cda = some ⟨ccl, cdd, .fields vs, ccs⟩ ∧ vs[2]? = some (.str file tf) ∧ ((P.main.file : Str) == file) = true
  cell : ∃ cl cld csl, K.lookup cc = some ⟨cl, cld, .cell (some (.ref C)), csl⟩
  par : ∃ ar, (params.posonlyargs ++ params.args).head? = some ar ∧ ar.arg = ("self" : Str)
  top : (P.main.scope.names.lookup ("super" : Str)).isSome = false
  mgs : mg "super" = none
  cls : ∃ cd, PySem.W.clsIn K C = some cd
  self : PySem.W.mroIn K C (.ref C) = some true
  init : PySem.W.ks_superIn K C C "__init__" = some (some (.builtin "ValueError.__init__"))
  val : PySem.W.subIn K (.ref C) (.type "ValueError") = some true
  opq : PySem.W.nsIn K cStatics "thirdparty.any" = some none
  oex : OexC K C
theorem boot_super : bootBuiltins "super" = some (.type "super") := by decide +kernel
section
variable {cda C a : Addr} {params : Arguments} {body : List Stmt} {fd : FuncData} {pins : List (Addr × Obj)} {σ : L2.St} {H1 : Hp} {s1 : Shared} {x1 : Option V} {e : Expr} {es : List Expr} {t : TA} {p0 p1 p2 p3 pos : Pos} {pl : Sem Bool} {R : Hp → Prop}
theorem sup_stmt (S : SupS p scope) (F : SupF P K mg qual params body scope f fd C cda cc) (I : Inv (supCx CX P w K mg base p qual scope f (.ref cda) cc A outer s H E) pins [some (.ref a), x1] H1 s1) (ea : H1 a = some (exo a C none))
    (ha : PA (supCx CX P w K mg base p qual scope f (.ref cda) cc A outer s H E) (e :: es) t) (ht : t [some (.ref a), x1] H1 fun vs H2 => vs.length ≤ 1000 ∧ H2 a = some (exo a C none) ∧ R H2)
    (he : starEach (e :: es) (supEnv qual scope s.heap.objs.size f (.ref cda) cc) = (false, eval e (supEnv qual scope s.heap.objs.size f (.ref cda) cc)) :: starEach es (supEnv qual scope s.heap.objs.size f (.ref cda) cc) := by rfl) (hpl : (backTo pos (starEach es (supEnv qual scope s.heap.objs.size f (.ref cda) cc))).any (·.1) = false := by rfl)
    (hc : eval (.Call (.Attribute (.Call (.Name "super" p0) [] [] p1) "__init__" p2) (e :: es) [] pos) (supEnv qual scope s.heap.objs.size f (.ref cda) cc) = (do
      let ov ← attributeBase (.Call (.Name "super" p0) [] [] p1) "__init__" (supEnv qual scope s.heap.objs.size f (.ref cda) cc) (eval (.Call (.Name "super" p0) [] [] p1) (supEnv qual scope s.heap.objs.size f (.ref cda) cc))
      standAt p2.atName
      let (g, first) ← holding [ov] (getMethod ov "__init__" pl)
      callWith pos g first (backTo pos (starEach (e :: es) (supEnv qual scope s.heap.objs.size f (.ref cda) cc))) []) := by rfl)
    (hi : interactive (supEnv qual scope s.heap.objs.size f (.ref cda) cc) = false := by rfl)
    (hsw : swapsWith (.Call (.Attribute (.Call (.Name "super" p0) [] [] p1) "__init__" p2) (e :: es) [] pos) none p3.line (supEnv qual scope s.heap.objs.size f (.ref cda) cc) = pure false := by rfl) :
    PySem.wpAt (model P w) (A.deeper (supEnv qual scope s.heap.objs.size f (.ref cda) cc)) (.func body (supEnv qual scope s.heap.objs.size f (.ref cda) cc))
      (exec (.Expr (.Call (.Attribute (.Call (.Name "super" p0) [] [] p1) "__init__" p2) (e :: es) [] pos) p3) (supEnv qual scope s.heap.objs.size f (.ref cda) cc))
      (fun fl s' => fl = .next ∧ ∃ H2, Inv (supCx CX P w K mg base p qual scope f (.ref cda) cc A outer s H E) pins [some (.ref a), x1] H2 s' ∧ R H2)
      (supCx CX P w K mg base p qual scope f (.ref cda) cc A outer s H E).xe s1 := by
  obtain ⟨oc, od, kV, doc, pm, an, ct, osl, rfl, lk⟩ := F.fn
  obtain ⟨ccl, cdd, vs, ccs, file, tf, hcode, hvs, hfile⟩ := F.code
  obtain ⟨cl, cld, csl, hcell⟩ := F.cell
  obtain ⟨ar, hp, har⟩ := F.par
  obtain ⟨cdD, hD⟩ := F.cls
  have X : K.In s1.heap := I.kIn
  obtain ⟨oD, hD1, hD2⟩ : ∃ oD, s1.heap.get? C = some oD ∧ oD.data = .cls cdD := by
    unfold PySem.W.clsIn at hD
    split at hD
    · rename_i c d cd' sl ho
      cases hD
      exact ⟨_, X _ _ ho, rfl⟩
    · cases hD
  obtain ⟨t1, hox⟩ := exo_at I.hok ea
  refine ks_wpAt_Expr_any (ks_wpAt_MethodCall (pl := pl) ?_ hc) hi hsw
  refine ks_wpAt_super_base (env := supEnv qual scope s.heap.objs.size f (.ref cda) cc) S.sup S.cls rfl rfl (X _ _ lk) rfl hp rfl (X _ _ hcode) rfl hvs hfile F.top ?_
  obtain ⟨mb, hb1, hb2⟩ := I.mod.blt
  refine PySem.W.ks_loadName_global S.kind S.sup (PySem.Calls.loadGlobal_builtin (I.mod.glob.keeps I.bk) F.mgs (hb1.keeps I.bk) ((hb2 _ (by decide)).trans boot_super) ⟨rfl, ?_⟩)
  refine wpAny_loadName_free S.kind S.cls rfl ⟨_, X _ _ hcell, rfl⟩ ?_
  obtain ⟨m, hns, hl⟩ := I.loc
  obtain ⟨u, ru, hu⟩ := hl 0 "self" (.ref a) rfl rfl (.inl S.self)
  obtain rfl : u = Value.ref a := ru
  have hm : m "self" = some (.ref a) := by
    rcases hu with ⟨_, z⟩ | ⟨z, _⟩
    · exact z
    · have z : scope.names.lookup ("self" : Str) = some NameKind.cell ∨ scope.names.lookup ("self" : Str) = some NameKind.free := z
      rw [S.self] at z
      rcases z with z | z <;> cases z
  refine wpAny_loadName_local S.kind (show scope.names.lookup ar.arg = some .local by rw [har]; exact S.self) hns (by rw [har]; exact hm) ?_
  obtain ⟨hh, g, d, tk, os⟩ := s1
  refine ks_wpAny_isType_cls hD1 hD2 ⟨rfl, ?_⟩
  refine ks_wpAny_call_super hD1 hD2 hox rfl (fun c z => nomatch z) (PySem.W.looks_mroIn X F.self) (fun h' e1 k1 => ?_)
  have I1 := ClX.pin_new (t' := tk) I k1 (Nat.le_refl _) e1 (fun v z => nomatch z)
  have X1 : K.In h' := X.keeps k1
  have J1 : PySem.W.InstAt h' a _ C none := ⟨k1 _ _ hox, rfl, rfl, trivial⟩
  have hin := F.init
  unfold PySem.W.ks_superIn at hin
  rw [hD] at hin
  refine PySem.W.kxs_getMethod PySem.W.kxs_ValueError e1 (PySem.W.looks_opaque X1 F.opq) (l₀ := cdD.mro) (fun A Q E s k q => wpAny_bind ((PySem.W.looks_clsIn X1 hD) A _ E s k (wpAny_pure q))) rfl X1 hin (J1.type.andThen (PySem.W.looks_subIn X1 F.val)) (PySem.W.ks_ne X1 J1 hD) rfl ?_
  have I2 := ClX.pin_new (o := PySem.W.kxs_mw "ValueError.__init__" a) (h' := h'.push (PySem.W.kxs_mw "ValueError.__init__" a)) (t' := tk + 1) I1 (fun _ _ z => Heap.get?_push_of_some _ z) (Nat.le_refl _) (Heap.get?_push_size h' rfl) (fun v z => nomatch z)
  have hA : wpAny _ _ (spliced (backTo pos (starEach (e :: es) (supEnv qual scope s.heap.objs.size f (.ref cda) cc)))) _ _ _ := ha.run pos _ _ _ _ _ I2 ht
  rw [he] at hA ⊢
  refine PySem.W.kxs_callWith (i := "ValueError.__init__") (x := a) (by show (false || (backTo pos (starEach es (supEnv qual scope s.heap.objs.size f (.ref cda) cc))).any (·.1)) = false; rw [hpl]; rfl) (PySem.Calls.evalArgs_plain (thn hA fun us s3 ⟨vs2, H3, I3, r3, hz, ea3, hR⟩ => ?_))
  have hu := ClX.pin_at I3
  refine ⟨hu, ?_⟩
  have hlen : us.length ≤ sizeLine := by
    rw [← Paired.length r3, sizeLine_eq]
    omega
  obtain ⟨t3, hox3⟩ := exo_at I3.hok ea3
  obtain ⟨nm, q, N', bs, bm, sn, sub, ab, col, dd, k0, k1', k2, k3, k5, hC, hbm⟩ := F.oex.cls
  obtain ⟨hh3, g3, d3, tk3, os3⟩ := s3
  refine wpAny_call (codeAny_of_tree ?_)
  show wpAny _ _ (callAny (.ref h'.objs.size) ⟨us, []⟩) _ _ _
  simp only [callAny]
  refine wpAny_bind (wpAny_load hu ?_)
  simp only [PySem.W.kxs_mw, show (Value.type "method-wrapper" == Value.type "method" || Value.type "method-wrapper" == Value.type "builtin_function_or_method" || Value.type "method-wrapper" == Value.type "method-wrapper") = true by decide, if_true]
  refine PySem.W.KFB.if_so (by decide) ?_
  refine wpAny_bind (PySem.W.check_bound_init PySem.F.excBase_ValueError.toExcCallFacts (I3.kIn _ _ hC) hox3 rfl ?_)
  refine wpAny_bind (wpAny_pure (wpAny_pure ?_))
  refine ⟨plainId_quiet PySem.F.excBase_ValueError.init.plain _, codeAny_builtin PySem.F.excBase_ValueError.initEntry ?_⟩
  refine PySem.W.exc_init_tree (cls := .ref C) (t0 := t3) (dv := none) (c2 := .none) (c3 := .none) (b4 := .bool false) hox3 hlen fun h4 k4 e4 _ => ?_
  have J := I3.write (t' := tk3) (x := a) (e := a) (o := exo a C none) (by rw [ea3]; exact True.intro) (.inl rfl) k4 ⟨_, e4⟩ (exo_ok e4)
  have eu : upd H3 a (exo a C none) = H3 := by
    funext b
    by_cases hb : b = a
    · rw [hb, upd_same, ea3]
    · rw [upd_ne hb]
  rw [eu] at J
  exact ⟨trivial, H3, ClX.unpin (ClX.unpin J), hR⟩
/-- such a def, by its two statements -/
theorem sup_of {k : Nat} {st : Stmt} {tA : TA} {tB : TS} (S : SupS p scope) (F : SupF P K mg qual params [.Expr (.Call (.Attribute (.Call (.Name "super" p0) [] [] p1) "__init__" p2) (e :: es) [] pos) p3, st] scope f fd C cda cc)
    (hcell : ∃ v, base.IsCell cc v)
    (ha : ∀ (A : Around) (outer : List Env) (s : Shared) (H : Hp) (E : XK), PA (supCx CX P w K mg base p qual scope f (.ref cda) cc A outer s H E) (e :: es) tA)
    (hst : ∀ (A : Around) (outer : List Env) (s : Shared) (H : Hp) (E : XK), PSs (supCx CX P w K mg base p qual scope f (.ref cda) cc A outer s H E) [st] tB)
    (he : ∀ L, starEach (e :: es) (supEnv qual scope L f (.ref cda) cc) = (false, eval e (supEnv qual scope L f (.ref cda) cc)) :: starEach es (supEnv qual scope L f (.ref cda) cc) := by intro _; rfl) (hpl : ∀ L, (backTo pos (starEach es (supEnv qual scope L f (.ref cda) cc))).any (·.1) = false := by intro _; rfl)
    (hc : ∀ L, eval (.Call (.Attribute (.Call (.Name "super" p0) [] [] p1) "__init__" p2) (e :: es) [] pos) (supEnv qual scope L f (.ref cda) cc) = (do
      let ov ← attributeBase (.Call (.Name "super" p0) [] [] p1) "__init__" (supEnv qual scope L f (.ref cda) cc) (eval (.Call (.Name "super" p0) [] [] p1) (supEnv qual scope L f (.ref cda) cc))
      standAt p2.atName
      let (g, first) ← holding [ov] (getMethod ov "__init__" pl)
      callWith pos g first (backTo pos (starEach (e :: es) (supEnv qual scope L f (.ref cda) cc))) []) := by intro _; rfl)
    (hi : ∀ L, interactive (supEnv qual scope L f (.ref cda) cc) = false := by intro _; rfl)
    (hsw : ∀ L, swapsWith (.Call (.Attribute (.Call (.Name "super" p0) [] [] p1) "__init__" p2) (e :: es) [] pos) none p3.line (supEnv qual scope L f (.ref cda) cc) = pure false := by intro _; rfl) :
    FnOk P w K mg base CX (k + 1) f fd ["self", p] (fun vs H Q _ => ∃ (a : Addr) (v : V), vs = [.ref a, v] ∧ H a = some (exo a C none) ∧
      tA [some (.ref a), some v] H fun ws H2 => ws.length ≤ 1000 ∧ H2 a = some (exo a C none) ∧ tB { nx := fun _ H' => Q .non H', rt := Q } [some (.ref a), some v] H2) := by
  have F0 := F
  obtain ⟨oc, od, kV, doc, pm, an, ct, osl, rfl, lk⟩ := F.fn
  refine ⟨fun vs H Q E h => ?_, fun A outer s H args us vs Q E hr e0 hb r hsp => ?_⟩
  · obtain ⟨a, v, rfl, _⟩ := h
    rfl
  obtain ⟨a, v, rfl, ea, ht⟩ := hsp
  have KX : K.In s.heap := e0.mod.kin.keeps fun b o e => (e0.bs b o e).1
  have lim : s.heap.NoLimit := e0.mod.nolimit.keeps fun b o e => (e0.bs b o e).1
  cases r with
  | @cons _ u0 _ ur ra rw' =>
  cases rw' with
  | @cons _ u1 _ ur' rb rn =>
  cases rn
  have hloc : ∀ x ∈ (["self", p] : List Str).zip [u0, u1], scope.names.lookup x.1 = some .local := fun x hx => by
    have hx : x ∈ [(("self" : Str), u0), (p, u1)] := hx
    simp only [List.mem_cons, List.not_mem_nil, or_false] at hx
    rcases hx with rfl | rfl
    · exact S.self
    · exact S.par
  refine ks_codeAny_call_defAt (body := [.Expr (.Call (.Attribute (.Call (.Name "super" p0) [] [] p1) "__init__" p2) (e :: es) [] pos) p3, st]) (binds := (["self", p] : List Str).zip [u0, u1]) hr.depth (KX _ _ lk) rfl lim (PySem.W.codeRec_of KX F.cd) rfl hb (fun x hx => (S.own x hx).1) hloc (fun h₁ hns kp => ?_) S.co S.gen S.kind
  have I : Inv (supCx CX P w K mg base p qual scope f (.ref cda) cc A outer s H E) [] [some (.ref a), some v] H { s with heap := h₁, toks := s.toks + 2 } := sup_start S hr.hd e0 hcell ra rb hns kp
  refine ks_wpAt_execs_cons (ks_wpAt_mono (sup_stmt S F0 I ea (ha A outer s H E) ht (he _) (hpl _) (hc _) (hi _) (hsw _)) (fun fl s' h => ?_) fun _ _ z => z)
  obtain ⟨rfl, H2, I2, h2⟩ := h
  refine wpAt_of_wpAny (wpAny_mono ((hst A outer s H E).run [] s' _ H2 _ I2 h2) (fun fl s2 hs => ?_) fun _ _ z => z)
  have fin : ∀ {σ' : L2.St} {H' : Hp} {v' : V} {u : Value}, Inv (supCx CX P w K mg base p qual scope f (.ref cda) cc A outer s H E) [] σ' H' s2 → RelV v' u → Q v' H' → CE outer P w H s Q u s2 :=
    fun {σ' H' v' u} J rv q => ⟨v', H', J.os, J.bare, J.base, J.hok, rv, q⟩
  cases fl with
  | ret u =>
    obtain ⟨v', σ', H', J, rv, q⟩ := hs
    exact fin J rv q
  | next =>
    obtain ⟨σ', H', J, q⟩ := hs
    exact fin (v' := V.non) (u := Value.none) J rfl q
  | brk =>
    obtain ⟨_, _, _, q⟩ := hs
    exact False.elim q
  | cont =>
    obtain ⟨_, _, _, q⟩ := hs
    exact False.elim q
end
end
end EB

/-! what the head says of own exceptions, as Bools -/
namespace EB
open PySem PySem.Spec PyProof.Rows L2
def okOexCls (K : PySem.W.Frag) (C : Addr) : Bool := match K.lookup C with
  | some ⟨.type t, _, .cls cd, sl⟩ => decide (t = "type") && (match cd.mro, sl.toList with
    | .ref C' :: bm, [_, _, _, _, some (.builtin n), _] => decide (C' = C) && (decide (n = "ValueError.__new__") && (!cd.hasDel && (cd.hasDict && PySem.HandSPX.refsVE bm)))
    | _, _ => false)
  | _ => false
def okOex (K : PySem.W.Frag) (C : Addr) : Bool := okOexCls K C && (He.eqO (PySem.W.findIn K (.ref C) "__setattr__") (some (some (.builtin "object.__setattr__"))) && (decide (PySem.W.subIn K (.ref C) (.type "BaseException") = some true) &&
  (decide (PySem.W.typeIn K (.ref C) = some (.type "type")) && PySem.W.keepIn K (.ref C))))
theorem okOexCls_of {K : PySem.W.Frag} {C : Addr} (h : okOexCls K C = true) : ∃ nm q N bs bm sn sub ab col dd k0 k1 k2 k3 k5, K.lookup C = some (excClassObj nm q C N bs bm true sn sub ab col dd k0 k1 k2 k3 k5 "ValueError.__new__") ∧ PySem.HandSPX.refsVE bm = true := by
  unfold okOexCls at h
  split at h
  · rename_i t dd cd sl ho
    obtain ⟨h1, h⟩ := Bool.and_eq_true_iff.mp h
    have h1 : t = "type" := of_decide_eq_true h1
    split at h
    · rename_i C' bm k0 k1 k2 k3 n k5 hm hs
      obtain ⟨h2, h⟩ := Bool.and_eq_true_iff.mp h
      obtain ⟨h3, h⟩ := Bool.and_eq_true_iff.mp h
      obtain ⟨h4, h⟩ := Bool.and_eq_true_iff.mp h
      obtain ⟨h5, h6⟩ := Bool.and_eq_true_iff.mp h
      have h2 : C' = C := of_decide_eq_true h2
      have h3 : n = "ValueError.__new__" := of_decide_eq_true h3
      obtain ⟨nm, bs, mro, ns, qn, hd, sn, sub, ab, col, del⟩ := cd
      dsimp only at hm h4 h5
      have hdel : del = false := by
        cases del with
        | false => rfl
        | true => cases h4
      have hsl : sl = #[k0, k1, k2, k3, some (.builtin n), k5] := by
        obtain ⟨l⟩ := sl
        simp only at hs
        rw [hs]
      subst h1 h2 h3 hm hdel hsl
      have h5 : hd = true := h5
      subst h5
      exact ⟨nm, qn, ns, bs, bm, sn, sub, ab, col, dd, k0, k1, k2, k3, k5, ho, h6⟩
    · cases h
  · cases h
theorem okOex_of {K : PySem.W.Frag} {C : Addr} (h : okOex K C = true) : OexC K C := by
  obtain ⟨h1, h⟩ := Bool.and_eq_true_iff.mp h
  obtain ⟨h2, h⟩ := Bool.and_eq_true_iff.mp h
  obtain ⟨h3, h⟩ := Bool.and_eq_true_iff.mp h
  obtain ⟨h4, h5⟩ := Bool.and_eq_true_iff.mp h
  exact ⟨okOexCls_of h1, He.eqO_ok h2, of_decide_eq_true h3, of_decide_eq_true h4, h5⟩
/-- the def's code object, its cell -/
def codeA (K : PySem.W.Frag) (a : Addr) : Addr := match fdAt K a with
  | some fd => (match fd.code with
    | .ref c => c
    | _ => 0)
  | none => 0
def cellA (K : PySem.W.Frag) (a : Addr) : Addr := match fdAt K a with
  | some fd => (match fd.closure with
    | [(_, c)] => c
    | _ => 0)
  | none => 0
def okSup (K : PySem.W.Frag) (x file : Str) (a : Addr) : Bool :=
  (match fdAt K a with
    | some fd => (match fd.closure with
      | [(n, _)] => decide (n = ("__class__" : Str))
      | _ => false) && (match fd.code with
      | .ref _ => true
      | _ => false)
    | none => false) &&
  ((match K.lookup (codeA K a) with
    | some ⟨_, _, .fields vs, _⟩ => (match (vs[2]? : Option Value) with
      | some (Value.str f _) => decide (f = file)
      | _ => false)
    | _ => false) &&
  ((match K.lookup (cellA K a) with
    | some ⟨_, _, .cell (some (.ref D)), _⟩ => decide (D = He.ga K x)
    | _ => false) &&
  ((PySem.W.clsIn K (He.ga K x)).isSome && (decide (PySem.W.mroIn K (He.ga K x) (.ref (He.ga K x)) = some true) && (He.eqO (PySem.W.ks_superIn K (He.ga K x) (He.ga K x) "__init__") (some (some (.builtin "ValueError.__init__"))) &&
  (decide (PySem.W.subIn K (.ref (He.ga K x)) (.type "ValueError") = some true) && (decide (PySem.W.nsIn K cStatics "thirdparty.any" = some none) && okOex K (He.ga K x))))))))
/-- all of it but the def's text -/
structure SupG (K : PySem.W.Frag) (file : Str) (a C : Addr) : Prop where
  code : ∃ ccl cdd vs ccs tf, K.lookup (codeA K a) = some ⟨ccl, cdd, .fields vs, ccs⟩ ∧ vs[2]? = some (.str file tf)
  cell : ∃ cl cld csl, K.lookup (cellA K a) = some ⟨cl, cld, .cell (some (.ref C)), csl⟩
  fd : ∀ fd, fdAt K a = some fd → fd.closure = [(("__class__" : Str), cellA K a)] ∧ fd.code = .ref (codeA K a)
  cls : ∃ cd, PySem.W.clsIn K C = some cd
  self : PySem.W.mroIn K C (.ref C) = some true
  init : PySem.W.ks_superIn K C C "__init__" = some (some (.builtin "ValueError.__init__"))
  val : PySem.W.subIn K (.ref C) (.type "ValueError") = some true
  opq : PySem.W.nsIn K cStatics "thirdparty.any" = some none
  oex : OexC K C
theorem okSup_of {K : PySem.W.Frag} {x file : Str} {a : Addr} (h : okSup K x file a = true) : SupG K file a (He.ga K x) := by
  obtain ⟨h1, h⟩ := Bool.and_eq_true_iff.mp h
  obtain ⟨h2, h⟩ := Bool.and_eq_true_iff.mp h
  obtain ⟨h3, h⟩ := Bool.and_eq_true_iff.mp h
  obtain ⟨h4, h⟩ := Bool.and_eq_true_iff.mp h
  obtain ⟨h5, h⟩ := Bool.and_eq_true_iff.mp h
  obtain ⟨h6, h⟩ := Bool.and_eq_true_iff.mp h
  obtain ⟨h7, h⟩ := Bool.and_eq_true_iff.mp h
  obtain ⟨h8, h9⟩ := Bool.and_eq_true_iff.mp h
  refine ⟨?_, ?_, fun fd e => ?_, Option.isSome_iff_exists.mp h4, of_decide_eq_true h5, He.eqO_ok h6, of_decide_eq_true h7, of_decide_eq_true h8, okOex_of h9⟩
  · split at h2
    · rename_i o1 o2 vs o3 e
      split at h2
      · rename_i f tk e2
        rw [of_decide_eq_true h2] at e2
        exact ⟨_, _, vs, _, tk, e, e2⟩
      · cases h2
    · cases h2
  · split at h3
    · rename_i o1 o2 D o3 e
      rw [of_decide_eq_true h3] at e
      exact ⟨_, _, _, e⟩
    · cases h3
  · unfold cellA codeA
    rw [e] at h1 ⊢
    obtain ⟨k1, k2⟩ := Bool.and_eq_true_iff.mp h1
    refine ⟨?_, ?_⟩
    · clear h1 k2
      dsimp only
      split at k1
      · rename_i n c e2
        rw [e2, of_decide_eq_true k1]
      · cases k1
    · clear h1 k1
      dsimp only
      split at k2
      · rename_i c e2
        rw [e2]
      · cases k2
theorem DD.funS {P : Program} {K : PySem.W.Frag} {mg : Str → Option Value} {d : DD} {file x : Str} {ar : Arg} (hcl : d.cl = true) (hdf : d.df = []) (hn : d.nm = ("__init__" : Str)) (e : d.obs K = some d.fs) (c : d.ok K = true) (g : SupG K file (d.adr K) (He.ga K x))
    (hfile : ((P.main.file : Str) == file) = true) (htop : (P.main.scope.names.lookup ("super" : Str)).isSome = false) (hmg : mg "super" = none) (hp : ((defArgs d.st).posonlyargs ++ (defArgs d.st).args).head? = some ar) (har : ar.arg = ("self" : Str)) :
    ∃ fd, SupF P K mg d.ql (defArgs d.st) (defBody d.st) (defScope d.st) (d.adr K) fd (He.ga K x) (codeA K (d.adr K)) (cellA K (d.adr K)) := by
  obtain ⟨kp, c2⟩ := Bool.and_eq_true_iff.mp c
  unfold DD.obs at e
  cases q : fdAt K (d.adr K) with
  | none =>
    rw [q] at e
    cases e
  | some fd =>
    obtain ⟨g1, g2⟩ := g.fd fd q
    rw [q] at e c2
    rw [hcl] at e
    obtain ⟨c3, c4⟩ := Bool.and_eq_true_iff.mp c2
    unfold fdAt at q
    cases l : K.lookup (d.adr K) with
    | none =>
      rw [l] at q
      cases q
    | some o =>
      rw [l] at q
      obtain ⟨oc, od, dt, osl⟩ := o
      cases dt with
      | func fd' =>
        have ef : fd' = fd := Option.some.inj q
        subst ef
        have e2 : fsOf { fd' with closure := [] } = d.fs := Option.some.inj e
        obtain ⟨n1, n2, n3, n4, n5, n6, n7, n8, n9, n10, n11, n12, n13, n14, n15⟩ := fd'
        simp only [fsOf, DD.fs, Prod.mk.injEq] at e2
        obtain ⟨h1, h2, h3, h4, h5, h6, h7, h8⟩ := e2
        dsimp only at g1 g2 c3
        rw [hn] at h1
        subst h1 h2 h3 h4 h5 h6 h8
        obtain ⟨ccl, cdd, vs, ccs, tf, k1, k2⟩ := g.code
        have hdv : n8 = .none := by
          have z := He.dflB_ok c4
          rw [hdf] at z
          rcases z with ⟨_, h⟩ | ⟨h, _⟩
          · exact h
          · exact absurd rfl h
        subst hdv
        refine ⟨_, ⟨oc, od, n9, n10, n11, n12, n14, osl, ?_, l⟩, by rw [← g2]; exact c3, ⟨ccl, cdd, vs, ccs, file, tf, k1, k2, hfile⟩, g.cell, ⟨ar, hp, har⟩, htop, hmg, g.cls, g.self, g.init, g.val, g.opq, g.oex⟩
        rw [g1, g2]
      | _ => cases q
end EB

/-! an own exception class: what the head says of it -/
namespace EB
open PySem PySem.Spec PyProof.Rows L2
abbrev bmV : List Value := [.type "ValueError", .type "Exception", .type "BaseException", .type "object"]
structure ExcG (K : PySem.W.Frag) (x : Str) (C : Addr) : Prop where
  keep : PySem.W.keepIn K (.ref C) = true
  base : PySem.W.subIn K (.ref C) (.type "BaseException") = some true
  ty : PySem.W.typeIn K (.ref C) = some (.type "type")
  self : PySem.W.subIn K (.ref C) (.ref C) = some true
  trade : PySem.W.subIn K (.ref C) (.ref (He.ga K "TradeError")) = some true
  val : PySem.W.subIn K (.ref C) (.type "ValueError") = some true
  isc : PySem.W.isClsIn K C = true
structure ExcN (K : PySem.W.Frag) (x : Str) (C : Addr) : Prop extends ExcG K x C where
  own : PySem.W.excIn K C bmV "ValueError.__new__" = true
structure ExcI (K : PySem.W.Frag) (x : Str) (C : Addr) : Prop extends ExcG K x C where
  ini : PySem.W.findIn K (.ref C) "__init__" = some (some (.ref (He.ma K C "__init__")))
  tyi : PySem.W.typeIn K (.ref (He.ma K C "__init__")) = some (.type "function")
  idx : PySem.W.findIn K (.ref C) "index" = some none
def okExc0 (K : PySem.W.Frag) (C : Addr) : Bool := PySem.W.keepIn K (.ref C) && (decide (PySem.W.subIn K (.ref C) (.type "BaseException") = some true) && (decide (PySem.W.typeIn K (.ref C) = some (.type "type")) && (decide (PySem.W.subIn K (.ref C) (.ref C) = some true) &&
  (decide (PySem.W.subIn K (.ref C) (.ref (He.ga K "TradeError")) = some true) && (decide (PySem.W.subIn K (.ref C) (.type "ValueError") = some true) && PySem.W.isClsIn K C)))))
def okExc (K : PySem.W.Frag) (x : Str) : Bool := okExc0 K (He.ga K x) && PySem.W.excIn K (He.ga K x) bmV "ValueError.__new__"
def okExcI (K : PySem.W.Frag) (x : Str) : Bool := okExc0 K (He.ga K x) && (He.eqO (PySem.W.findIn K (.ref (He.ga K x)) "__init__") (some (some (.ref (He.ma K (He.ga K x) "__init__")))) &&
  (decide (PySem.W.typeIn K (.ref (He.ma K (He.ga K x) "__init__")) = some (.type "function")) && decide (PySem.W.findIn K (.ref (He.ga K x)) "index" = some none)))
theorem okExc_of {K : PySem.W.Frag} {x : Str} (h : okExc K x = true) : ExcN K x (He.ga K x) := by
  obtain ⟨h, h0⟩ := Bool.and_eq_true_iff.mp h
  obtain ⟨h1, h⟩ := Bool.and_eq_true_iff.mp h
  obtain ⟨h2, h⟩ := Bool.and_eq_true_iff.mp h
  obtain ⟨h3, h⟩ := Bool.and_eq_true_iff.mp h
  obtain ⟨h4, h⟩ := Bool.and_eq_true_iff.mp h
  obtain ⟨h5, h⟩ := Bool.and_eq_true_iff.mp h
  obtain ⟨h6, h7⟩ := Bool.and_eq_true_iff.mp h
  exact ⟨⟨h1, of_decide_eq_true h2, of_decide_eq_true h3, of_decide_eq_true h4, of_decide_eq_true h5, of_decide_eq_true h6, h7⟩, h0⟩
theorem okExcI_of {K : PySem.W.Frag} {x : Str} (h : okExcI K x = true) : ExcI K x (He.ga K x) := by
  obtain ⟨h, h0⟩ := Bool.and_eq_true_iff.mp h
  obtain ⟨k1, k⟩ := Bool.and_eq_true_iff.mp h0
  obtain ⟨k2, k3⟩ := Bool.and_eq_true_iff.mp k
  obtain ⟨h1, h⟩ := Bool.and_eq_true_iff.mp h
  obtain ⟨h2, h⟩ := Bool.and_eq_true_iff.mp h
  obtain ⟨h3, h⟩ := Bool.and_eq_true_iff.mp h
  obtain ⟨h4, h⟩ := Bool.and_eq_true_iff.mp h
  obtain ⟨h5, h⟩ := Bool.and_eq_true_iff.mp h
  obtain ⟨h6, h7⟩ := Bool.and_eq_true_iff.mp h
  exact ⟨⟨h1, of_decide_eq_true h2, of_decide_eq_true h3, of_decide_eq_true h4, of_decide_eq_true h5, of_decide_eq_true h6, h7⟩, He.eqO_ok k1, of_decide_eq_true k2, of_decide_eq_true k3⟩
end EB

/-! isinstance of a caught error of an own class, with or without fields of its own -/
namespace EB
open PySem PySem.Spec PyProof.Rows L2
def okExcC (K : PySem.W.Frag) (D : Addr) : Bool := He.eqO (PySem.W.findIn K (.ref D) "__getattribute__") (some (some (.builtin "BaseException.__getattribute__"))) && (decide (PySem.W.findIn K (.ref D) "__getattr__" = some none) && (decide (PySem.W.subIn K (.ref D) (.type "BaseException") = some true) &&
  (PySem.W.hasDictIn K D && (He.eqO (PySem.W.findIn K (.ref D) "__class__") (some (some (.builtin "object.__class__"))) && (He.eqO (PySem.W.specialIn K (.builtin "object.__class__") "__get__") (some (some (.builtin "getset_descriptor.__get__"))) &&
  (decide (PySem.W.takesIn K (.builtin "object.__class__") = some true) && decide (PySem.W.mroIn K D (.type "object") = some true)))))))
theorem okExcC_of {K : PySem.W.Frag} {D : Addr} (h : okExcC K D = true) : ExcC K D ∧ XfC K D := by
  obtain ⟨h1, h⟩ := Bool.and_eq_true_iff.mp h
  obtain ⟨h2, h⟩ := Bool.and_eq_true_iff.mp h
  obtain ⟨h3, h⟩ := Bool.and_eq_true_iff.mp h
  obtain ⟨h4, h⟩ := Bool.and_eq_true_iff.mp h
  obtain ⟨h5, h⟩ := Bool.and_eq_true_iff.mp h
  obtain ⟨h6, h⟩ := Bool.and_eq_true_iff.mp h
  obtain ⟨h7, h8⟩ := Bool.and_eq_true_iff.mp h
  exact ⟨⟨He.eqO_ok h1, of_decide_eq_true h2, of_decide_eq_true h3, h4, He.eqO_ok h5, He.eqO_ok h6, of_decide_eq_true h7, of_decide_eq_true h8⟩, ⟨He.eqO_ok h1, of_decide_eq_true h2, of_decide_eq_true h3, h4⟩⟩
/-- isinstance(e, c), e the exception that the suite holds, of the class cls, its dict d -/
def rIsX (K : PySem.W.Frag) (cls : Value) (d : Option Addr) (a : Addr) : List V → Hp → VK → Prop := fun xs H Q => ∃ (D : Addr) (c : V) (cv : Value) (b : Bool), cls = .ref D ∧ ExcC K D ∧ (d = none ∨ ∃ dd fs, d = some dd ∧ H dd = some (.xd fs)) ∧
  xs = [.ref a, c] ∧ (∀ u, RelV c u → u = cv) ∧ PySem.W.kitOne K (.ref D) cv = some b ∧ Q (.bl b) H
theorem call_isX {X : Cx} {a : Addr} {oe : Obj} {cls : Value} {d : Option Addr} {pn : List (Addr × Obj)} (hz : Zc cls d oe) (hf : ∃ vs, oe.data = .fields vs) : CallR (X.suite a ((a, oe) :: pn)) (.builtin "isinstance") (rIsX X.K cls d a) := by
  intro pins s σ H xs us Q I r h
  obtain ⟨D, c, cv, b, rfl, C, hd, rfl, hcv, e, q⟩ := h
  cases r with
  | cons rx rr =>
    cases rr with
    | cons rt rr =>
      cases rr
      cases rx
      have ec := hcv _ rt
      subst ec
      obtain ⟨hget, _⟩ := I.pin (a, oe) (List.mem_append.mpr (.inl List.mem_cons_self))
      obtain ⟨vs, hv⟩ := hf
      obtain ⟨od, J⟩ : ∃ od, PySem.W.InstAt s.heap a oe D od := by
        obtain ⟨oc, odd, oda, osl⟩ := oe
        obtain ⟨h1, h2⟩ := hz
        dsimp only at h1 h2 hv
        subst h1 h2 hv
        rcases hd with rfl | ⟨dd, fs, rfl, ed⟩
        · exact ⟨none, hget, rfl, rfl, trivial⟩
        · have hx : ObjOk X.prog X.w H s.heap dd (.xd fs) := I.hok dd _ ed
          obtain ⟨mA, hns, hr⟩ := hx
          obtain ⟨od, ho, hl⟩ := lookIn_ns hns
          exact ⟨some od, hget, rfl, rfl, ho⟩
      have hcl : (PySem.W.clsIn X.K D).isSome = true := by
        obtain ⟨cd, hc, _⟩ := PySem.W.any_some C.hd
        rw [hc]
        rfl
      exact PySem.W.kia_one (PySem.W.kitx_exc hcl C.hg C.hk C.hs C.ha C.hn C.ht C.hm) I.kIn J e (fun z => nomatch z) fun tk => ⟨.bl b, H, I.kept (t' := tk) fun _ _ z => z, rfl, q⟩
/-- which of the six kinds of errors it is -/
def kindsX : List Str := ["Contradiction", "InvalidNumber", "InvalidOffer", "InvalidStep", "TooGenerous", "UnknownKind"]
def okKit (K : PySem.W.Frag) (x : Str) : Bool := (kindsX.all fun y => decide (PySem.W.kitOne K (.ref (He.ga K x)) (.ref (He.ga K y)) = some (decide (x = y)))) && decide (PySem.W.kitOne K (.ref (He.ga K x)) (.type "ValueError") = some true)
structure KitX6 (K : PySem.W.Frag) (x : Str) : Prop where
  own : ∀ y ∈ kindsX, PySem.W.kitOne K (.ref (He.ga K x)) (.ref (He.ga K y)) = some (decide (x = y))
  val : PySem.W.kitOne K (.ref (He.ga K x)) (.type "ValueError") = some true
theorem okKit_of {K : PySem.W.Frag} {x : Str} (h : okKit K x = true) : KitX6 K x := by
  obtain ⟨h1, h2⟩ := Bool.and_eq_true_iff.mp h
  exact ⟨fun y hy => of_decide_eq_true (List.all_eq_true.mp h1 y hy), of_decide_eq_true h2⟩
/-- xs.count(y), flat items -/
def rCntV (K : PySem.W.Frag) : V → List V → Hp → VK → Prop := fun x xs H Q => ∃ (p : Addr) (ys : List V) (y : V), x = .ref p ∧ xs = [y] ∧ SqL K H p ys ∧ flatV y = true ∧ ys.all flatV = true ∧ Q (.int ((ys.countP fun z => eqV z y : Nat) : Int)) H
theorem count_eqU {x : V} : ∀ {xs : List V} {us : List Value}, Vals xs us → xs.all flatV = true → us.countP (eqU x) = xs.countP fun y => eqV y x
  | _, _, .nil, _ => rfl
  | y :: xs, u :: us, .cons r t, f => by
    rw [List.all_cons, Bool.and_eq_true] at f
    rw [List.countP_cons, List.countP_cons, eqU_of r f.1, count_eqU t f.2]
theorem mt_countV {X : Cx} : MtR X "list.count" (rCntV X.K) := by
  intro pins s σ H x xs v us Q I rx rxs h
  obtain ⟨p, ys, y, rfl, rfl, hs, fy, fys, q⟩ := h
  cases rx
  cases rxs with
  | cons ry rt =>
    rename_i uy ut
    cases rt
    obtain ⟨its, rv, ⟨⟨cls, dd, data, sl⟩, n, ho, hc, hdn, hd⟩, hlen⟩ := I.list hs
    simp only at hc hd
    subst hc hd
    refine call_meets PySem.F.slot_list_count ⟨_, ho, rfl⟩ PySem.F.entry_list_count (PySem.F.args_list_count_2 _ _)
      (SeqAt.list_countAt p its.toArray n dd sl uy (eqU y)) ⟨ho, fun u' hu' => mem_eqAt ry fy rv fys u' (by simpa using hu'), ?_⟩
    refine ⟨.int ((ys.countP fun z => eqV z y : Nat) : Int), H, I.tok _, ⟨s.toks, ?_⟩, q⟩
    show Value.int ((its.toArray.toList.countP (eqU y) : Nat) : Int) s.toks = _
    rw [show its.toArray.toList = its from rfl, count_eqU rv fys]
end EB


namespace EB
open PySem PySem.Spec PyProof.Rows L2
def top (i : Nat) : Stmt := PySem.Challenge.pw_emptiesback_k13_numbers_out_of_range.main.body.getD i (.Pass ⟨0, 0, 0, 0⟩)
abbrev PX : Program := PySem.Challenge.pw_emptiesback_k13_numbers_out_of_range
abbrev s_InvalidOffer_init : Stmt := inClass (top 4) 0
theorem sc_InvalidOffer_init : SupS "index" (defScope s_InvalidOffer_init) := ⟨rfl, rfl, rfl, rfl, rfl, rfl, rfl, by decide +kernel, by decide⟩
abbrev a_InvalidOffer_init (K : PySem.W.Frag) : Addr := He.ma K (He.ga K "InvalidOffer") "__init__"
def d_InvalidOffer_init : DD := ⟨a_InvalidOffer_init, "__init__", "InvalidOffer.__init__", s_InvalidOffer_init, [], true⟩
abbrev s_is_integer : Stmt := top 14
abbrev N_is_integer : List Str := ["value"]
theorem sc_is_integer : FnScope N_is_integer ["value"] (defScope s_is_integer) := ⟨rfl, rfl, rfl, by decide +kernel, rfl, by decide +kernel, by decide +kernel⟩
abbrev a_is_integer (K : PySem.W.Frag) : Addr := He.ga K "is_integer"
def d_is_integer : DD := ⟨a_is_integer, "is_integer", "is_integer", s_is_integer, [], false⟩
abbrev s_is_number : Stmt := top 15
abbrev N_is_number : List Str := ["value", "least", "most"]
theorem sc_is_number : FnScope N_is_number ["value", "least", "most"] (defScope s_is_number) := ⟨rfl, rfl, rfl, by decide +kernel, rfl, by decide +kernel, by decide +kernel⟩
abbrev a_is_number (K : PySem.W.Frag) : Addr := He.ga K "is_number"
def d_is_number : DD := ⟨a_is_number, "is_number", "is_number", s_is_number, [], false⟩
abbrev s_check_number : Stmt := top 16
abbrev N_check_number : List Str := ["value", "least", "most"]
theorem sc_check_number : FnScope N_check_number ["value", "least", "most"] (defScope s_check_number) := ⟨rfl, rfl, rfl, by decide +kernel, rfl, by decide +kernel, by decide +kernel⟩
abbrev a_check_number (K : PySem.W.Frag) : Addr := He.ga K "check_number"
def d_check_number : DD := ⟨a_check_number, "check_number", "check_number", s_check_number, [.int 0, .int 1000000000000000000], false⟩
abbrev s_is_label : Stmt := top 17
abbrev N_is_label : List Str := ["value", "letter"]
theorem sc_is_label : FnScope N_is_label ["value"] (defScope s_is_label) := ⟨rfl, rfl, rfl, by decide +kernel, rfl, by decide +kernel, by decide +kernel⟩
abbrev a_is_label (K : PySem.W.Frag) : Addr := He.ga K "is_label"
def d_is_label : DD := ⟨a_is_label, "is_label", "is_label", s_is_label, [], false⟩
abbrev s_is_kind : Stmt := top 18
abbrev N_is_kind : List Str := ["value"]
theorem sc_is_kind : FnScope N_is_kind ["value"] (defScope s_is_kind) := ⟨rfl, rfl, rfl, by decide +kernel, rfl, by decide +kernel, by decide +kernel⟩
abbrev a_is_kind (K : PySem.W.Frag) : Addr := He.ga K "is_kind"
def d_is_kind : DD := ⟨a_is_kind, "is_kind", "is_kind", s_is_kind, [], false⟩
abbrev s_cost_of : Stmt := top 20
abbrev N_cost_of : List Str := ["trades", "drinks", "_", "left", "needed"]
theorem sc_cost_of : FnScope N_cost_of ["trades", "drinks"] (defScope s_cost_of) := ⟨rfl, rfl, rfl, by decide +kernel, rfl, by decide +kernel, by decide +kernel⟩
abbrev a_cost_of (K : PySem.W.Frag) : Addr := He.ga K "cost_of"
def d_cost_of : DD := ⟨a_cost_of, "cost_of", "cost_of", s_cost_of, [], false⟩
abbrev s_drinks_of_period : Stmt := top 21
abbrev N_drinks_of_period : List Str := ["trades", "drinks", "_", "left", "needed"]
theorem sc_drinks_of_period : FnScope N_drinks_of_period ["trades"] (defScope s_drinks_of_period) := ⟨rfl, rfl, rfl, by decide +kernel, rfl, by decide +kernel, by decide +kernel⟩
abbrev a_drinks_of_period (K : PySem.W.Frag) : Addr := He.ga K "drinks_of_period"
def d_drinks_of_period : DD := ⟨a_drinks_of_period, "drinks_of_period", "drinks_of_period", s_drinks_of_period, [], false⟩
abbrev s_tops_of : Stmt := top 22
abbrev N_tops_of : List Str := ["costs", "tops", "top", "cost"]
theorem sc_tops_of : FnScope N_tops_of ["costs"] (defScope s_tops_of) := ⟨rfl, rfl, rfl, by decide +kernel, rfl, by decide +kernel, by decide +kernel⟩
abbrev a_tops_of (K : PySem.W.Frag) : Addr := He.ga K "tops_of"
def d_tops_of : DD := ⟨a_tops_of, "tops_of", "tops_of", s_tops_of, [], false⟩
abbrev s_firsts_of : Stmt := top 23
abbrev N_firsts_of : List Str := ["tops", "firsts", "drinks", "top"]
theorem sc_firsts_of : FnScope N_firsts_of ["tops"] (defScope s_firsts_of) := ⟨rfl, rfl, rfl, by decide +kernel, rfl, by decide +kernel, by decide +kernel⟩
abbrev a_firsts_of (K : PySem.W.Frag) : Addr := He.ga K "firsts_of"
def d_firsts_of : DD := ⟨a_firsts_of, "firsts_of", "firsts_of", s_firsts_of, [], false⟩
abbrev s_gaps_of : Stmt := top 24
abbrev N_gaps_of : List Str := ["tops", "firsts", "drinks", "top"]
theorem sc_gaps_of : FnScope N_gaps_of ["tops", "firsts"] (defScope s_gaps_of) := ⟨rfl, rfl, rfl, by decide +kernel, rfl, by decide +kernel, by decide +kernel⟩
abbrev a_gaps_of (K : PySem.W.Frag) : Addr := He.ga K "gaps_of"
def d_gaps_of : DD := ⟨a_gaps_of, "gaps_of", "gaps_of", s_gaps_of, [], false⟩
abbrev s_value_at : Stmt := top 25
abbrev N_value_at : List Str := ["table", "at", "span", "rise", "turns"]
theorem sc_value_at : FnScope N_value_at ["table", "at", "span", "rise"] (defScope s_value_at) := ⟨rfl, rfl, rfl, by decide +kernel, rfl, by decide +kernel, by decide +kernel⟩
abbrev a_value_at (K : PySem.W.Frag) : Addr := He.ga K "value_at"
def d_value_at : DD := ⟨a_value_at, "value_at", "value_at", s_value_at, [], false⟩
abbrev s_is_trade : Stmt := top 29
abbrev N_is_trade : List Str := ["kind", "left", "needed"]
theorem sc_is_trade : FnScope N_is_trade ["kind", "left", "needed"] (defScope s_is_trade) := ⟨rfl, rfl, rfl, by decide +kernel, rfl, by decide +kernel, by decide +kernel⟩
abbrev a_is_trade (K : PySem.W.Frag) : Addr := He.ga K "_is_trade"
def d_is_trade : DD := ⟨a_is_trade, "_is_trade", "_is_trade", s_is_trade, [], false⟩
abbrev s_check_trades : Stmt := top 30
abbrev N_check_trades : List Str := ["trades", "kinds", "index", "kind", "left", "needed"]
theorem sc_check_trades : FnScope N_check_trades ["trades"] (defScope s_check_trades) := ⟨rfl, rfl, rfl, by decide +kernel, rfl, by decide +kernel, by decide +kernel⟩
abbrev a_check_trades (K : PySem.W.Frag) : Addr := He.ga K "_check_trades"
def d_check_trades : DD := ⟨a_check_trades, "_check_trades", "_check_trades", s_check_trades, [], false⟩
abbrev s_check_generosity : Stmt := top 31
abbrev N_check_generosity : List Str := ["trades", "whole", "_", "needed", "parts", "left"]
theorem sc_check_generosity : FnScope N_check_generosity ["trades"] (defScope s_check_generosity) := ⟨rfl, rfl, rfl, by decide +kernel, rfl, by decide +kernel, by decide +kernel⟩
abbrev a_check_generosity (K : PySem.W.Frag) : Addr := He.ga K "_check_generosity"
def d_check_generosity : DD := ⟨a_check_generosity, "_check_generosity", "_check_generosity", s_check_generosity, [], false⟩
abbrev s_Offer_init : Stmt := inClass (top 32) 2
abbrev N_Offer_init : List Str := ["self", "trades", "drinks", "kind", "left", "needed", "count"]
theorem sc_Offer_init : FnScope N_Offer_init ["self", "trades"] (defScope s_Offer_init) := ⟨rfl, rfl, rfl, by decide +kernel, rfl, by decide +kernel, by decide +kernel⟩
abbrev a_Offer_init (K : PySem.W.Frag) : Addr := He.ma K (He.ga K "Offer") "__init__"
def d_Offer_init : DD := ⟨a_Offer_init, "__init__", "Offer.__init__", s_Offer_init, [], false⟩
abbrev s_Offer_trades : Stmt := inClass (top 32) 4
abbrev N_Offer_trades : List Str := ["self"]
theorem sc_Offer_trades : FnScope N_Offer_trades ["self"] (defScope s_Offer_trades) := ⟨rfl, rfl, rfl, by decide +kernel, rfl, by decide +kernel, by decide +kernel⟩
abbrev a_Offer_trades (K : PySem.W.Frag) : Addr := propG K (He.ga K "Offer") (He.ma K (He.ga K "Offer") "trades")
def d_Offer_trades : DD := ⟨a_Offer_trades, "trades", "Offer.trades", s_Offer_trades, [], false⟩
abbrev s_Offer_kinds : Stmt := inClass (top 32) 5
abbrev N_Offer_kinds : List Str := ["self", "kind", "_"]
theorem sc_Offer_kinds : FnScope N_Offer_kinds ["self"] (defScope s_Offer_kinds) := ⟨rfl, rfl, rfl, by decide +kernel, rfl, by decide +kernel, by decide +kernel⟩
abbrev a_Offer_kinds (K : PySem.W.Frag) : Addr := propG K (He.ga K "Offer") (He.ma K (He.ga K "Offer") "kinds")
def d_Offer_kinds : DD := ⟨a_Offer_kinds, "kinds", "Offer.kinds", s_Offer_kinds, [], false⟩
abbrev s_Offer_period : Stmt := inClass (top 32) 6
abbrev N_Offer_period : List Str := ["self"]
theorem sc_Offer_period : FnScope N_Offer_period ["self"] (defScope s_Offer_period) := ⟨rfl, rfl, rfl, by decide +kernel, rfl, by decide +kernel, by decide +kernel⟩
abbrev a_Offer_period (K : PySem.W.Frag) : Addr := propG K (He.ga K "Offer") (He.ma K (He.ga K "Offer") "period")
def d_Offer_period : DD := ⟨a_Offer_period, "period", "Offer.period", s_Offer_period, [], false⟩
abbrev s_Offer_steady_from : Stmt := inClass (top 32) 7
abbrev N_Offer_steady_from : List Str := ["self", "bottles", "drinks"]
theorem sc_Offer_steady_from : FnScope N_Offer_steady_from ["self"] (defScope s_Offer_steady_from) := ⟨rfl, rfl, rfl, by decide +kernel, rfl, by decide +kernel, by decide +kernel⟩
abbrev a_Offer_steady_from (K : PySem.W.Frag) : Addr := propG K (He.ga K "Offer") (He.ma K (He.ga K "Offer") "steady_from")
def d_Offer_steady_from : DD := ⟨a_Offer_steady_from, "steady_from", "Offer.steady_from", s_Offer_steady_from, [], false⟩
abbrev s_Offer_drinks_for : Stmt := inClass (top 32) 8
abbrev N_Offer_drinks_for : List Str := ["self", "bottles", "span", "rise"]
theorem sc_Offer_drinks_for : FnScope N_Offer_drinks_for ["self", "bottles"] (defScope s_Offer_drinks_for) := ⟨rfl, rfl, rfl, by decide +kernel, rfl, by decide +kernel, by decide +kernel⟩
abbrev a_Offer_drinks_for (K : PySem.W.Frag) : Addr := He.ma K (He.ga K "Offer") "_drinks_for"
def d_Offer_drinks_for : DD := ⟨a_Offer_drinks_for, "_drinks_for", "Offer._drinks_for", s_Offer_drinks_for, [], false⟩
abbrev s_Offer_most_within : Stmt := inClass (top 32) 9
abbrev N_Offer_most_within : List Str := ["self", "drinks", "rise", "span"]
theorem sc_Offer_most_within : FnScope N_Offer_most_within ["self", "drinks"] (defScope s_Offer_most_within) := ⟨rfl, rfl, rfl, by decide +kernel, rfl, by decide +kernel, by decide +kernel⟩
abbrev a_Offer_most_within (K : PySem.W.Frag) : Addr := He.ma K (He.ga K "Offer") "_most_within"
def d_Offer_most_within : DD := ⟨a_Offer_most_within, "_most_within", "Offer._most_within", s_Offer_most_within, [], false⟩
abbrev s_Offer_call : Stmt := inClass (top 32) 10
abbrev N_Offer_call : List Str := ["self", "bottles"]
theorem sc_Offer_call : FnScope N_Offer_call ["self", "bottles"] (defScope s_Offer_call) := ⟨rfl, rfl, rfl, by decide +kernel, rfl, by decide +kernel, by decide +kernel⟩
abbrev a_Offer_call (K : PySem.W.Frag) : Addr := He.ma K (He.ga K "Offer") "__call__"
def d_Offer_call : DD := ⟨a_Offer_call, "__call__", "Offer.__call__", s_Offer_call, [], false⟩
abbrev s_Offer_trades_made : Stmt := inClass (top 32) 11
abbrev N_Offer_trades_made : List Str := ["self", "bottles", "drinks", "kind", "left", "needed"]
theorem sc_Offer_trades_made : FnScope N_Offer_trades_made ["self", "bottles"] (defScope s_Offer_trades_made) := ⟨rfl, rfl, rfl, by decide +kernel, rfl, by decide +kernel, by decide +kernel⟩
abbrev a_Offer_trades_made (K : PySem.W.Frag) : Addr := He.ma K (He.ga K "Offer") "trades_made"
def d_Offer_trades_made : DD := ⟨a_Offer_trades_made, "trades_made", "Offer.trades_made", s_Offer_trades_made, [], false⟩
abbrev s_Offer_left_over : Stmt := inClass (top 32) 12
abbrev N_Offer_left_over : List Str := ["self", "bottles", "drinks", "kind", "left", "needed"]
theorem sc_Offer_left_over : FnScope N_Offer_left_over ["self", "bottles"] (defScope s_Offer_left_over) := ⟨rfl, rfl, rfl, by decide +kernel, rfl, by decide +kernel, by decide +kernel⟩
abbrev a_Offer_left_over (K : PySem.W.Frag) : Addr := He.ma K (He.ga K "Offer") "left_over"
def d_Offer_left_over : DD := ⟨a_Offer_left_over, "left_over", "Offer.left_over", s_Offer_left_over, [], false⟩
abbrev s_Offer_rounds : Stmt := inClass (top 32) 13
abbrev N_Offer_rounds : List Str := ["self", "bottles", "drunk", "full"]
theorem sc_Offer_rounds : GScope N_Offer_rounds ["self", "bottles"] (defScope s_Offer_rounds) := ⟨rfl, rfl, rfl, by decide +kernel, rfl, by decide +kernel, by decide +kernel⟩
abbrev a_Offer_rounds (K : PySem.W.Frag) : Addr := He.ma K (He.ga K "Offer") "rounds"
def d_Offer_rounds : DD := ⟨a_Offer_rounds, "rounds", "Offer.rounds", s_Offer_rounds, [], false⟩
abbrev s_Offer_credit : Stmt := inClass (top 32) 14
abbrev N_Offer_credit : List Str := ["self", "bottles", "period_bottles", "period_drinks", "turns", "rest", "drinks"]
theorem sc_Offer_credit : FnScope N_Offer_credit ["self", "bottles"] (defScope s_Offer_credit) := ⟨rfl, rfl, rfl, by decide +kernel, rfl, by decide +kernel, by decide +kernel⟩
abbrev a_Offer_credit (K : PySem.W.Frag) : Addr := He.ma K (He.ga K "Offer") "credit"
def d_Offer_credit : DD := ⟨a_Offer_credit, "credit", "Offer.credit", s_Offer_credit, [], false⟩
abbrev s_Offer_fewest_bottles : Stmt := inClass (top 32) 15
abbrev N_Offer_fewest_bottles : List Str := ["self", "drinks"]
theorem sc_Offer_fewest_bottles : FnScope N_Offer_fewest_bottles ["self", "drinks"] (defScope s_Offer_fewest_bottles) := ⟨rfl, rfl, rfl, by decide +kernel, rfl, by decide +kernel, by decide +kernel⟩
abbrev a_Offer_fewest_bottles (K : PySem.W.Frag) : Addr := He.ma K (He.ga K "Offer") "fewest_bottles"
def d_Offer_fewest_bottles : DD := ⟨a_Offer_fewest_bottles, "fewest_bottles", "Offer.fewest_bottles", s_Offer_fewest_bottles, [], false⟩
abbrev s_Offer_missing : Stmt := inClass (top 32) 16
abbrev N_Offer_missing : List Str := ["self", "first", "last", "drinks"]
theorem sc_Offer_missing : GScope N_Offer_missing ["self", "first", "last"] (defScope s_Offer_missing) := ⟨rfl, rfl, rfl, by decide +kernel, rfl, by decide +kernel, by decide +kernel⟩
abbrev a_Offer_missing (K : PySem.W.Frag) : Addr := He.ma K (He.ga K "Offer") "missing"
def d_Offer_missing : DD := ⟨a_Offer_missing, "missing", "Offer.missing", s_Offer_missing, [], false⟩
abbrev s_Offer_count_missing : Stmt := inClass (top 32) 17
abbrev N_Offer_count_missing : List Str := ["self", "last"]
theorem sc_Offer_count_missing : FnScope N_Offer_count_missing ["self", "last"] (defScope s_Offer_count_missing) := ⟨rfl, rfl, rfl, by decide +kernel, rfl, by decide +kernel, by decide +kernel⟩
abbrev a_Offer_count_missing (K : PySem.W.Frag) : Addr := He.ma K (He.ga K "Offer") "count_missing"
def d_Offer_count_missing : DD := ⟨a_Offer_count_missing, "count_missing", "Offer.count_missing", s_Offer_count_missing, [], false⟩
abbrev s_Offer_nth_missing : Stmt := inClass (top 32) 18
abbrev N_Offer_nth_missing : List Str := ["self", "number", "bottles", "drinks"]
theorem sc_Offer_nth_missing : FnScope N_Offer_nth_missing ["self", "number"] (defScope s_Offer_nth_missing) := ⟨rfl, rfl, rfl, by decide +kernel, rfl, by decide +kernel, by decide +kernel⟩
abbrev a_Offer_nth_missing (K : PySem.W.Frag) : Addr := He.ma K (He.ga K "Offer") "nth_missing"
def d_Offer_nth_missing : DD := ⟨a_Offer_nth_missing, "nth_missing", "Offer.nth_missing", s_Offer_nth_missing, [], false⟩
abbrev s_Offer_pooled : Stmt := inClass (top 32) 19
abbrev N_Offer_pooled : List Str := ["self", "counts", "bottles"]
theorem sc_Offer_pooled : FnScope N_Offer_pooled ["self", "counts"] (defScope s_Offer_pooled) := ⟨rfl, rfl, rfl, by decide +kernel, rfl, by decide +kernel, by decide +kernel⟩
abbrev a_Offer_pooled (K : PySem.W.Frag) : Addr := He.ma K (He.ga K "Offer") "pooled"
def d_Offer_pooled : DD := ⟨a_Offer_pooled, "pooled", "Offer.pooled", s_Offer_pooled, [], false⟩
abbrev s_Offer_add : Stmt := inClass (top 32) 20
abbrev N_Offer_add : List Str := ["self", "other", "trades"]
theorem sc_Offer_add : FnScope N_Offer_add ["self", "other"] (defScope s_Offer_add) := ⟨rfl, rfl, rfl, by decide +kernel, rfl, by decide +kernel, by decide +kernel⟩
abbrev a_Offer_add (K : PySem.W.Frag) : Addr := He.ma K (He.ga K "Offer") "__add__"
def d_Offer_add : DD := ⟨a_Offer_add, "__add__", "Offer.__add__", s_Offer_add, [], false⟩
abbrev s_Offer_sub : Stmt := inClass (top 32) 21
abbrev N_Offer_sub : List Str := ["self", "other", "trades", "trade"]
theorem sc_Offer_sub : FnScope N_Offer_sub ["self", "other"] (defScope s_Offer_sub) := ⟨rfl, rfl, rfl, by decide +kernel, rfl, by decide +kernel, by decide +kernel⟩
abbrev a_Offer_sub (K : PySem.W.Frag) : Addr := He.ma K (He.ga K "Offer") "__sub__"
def d_Offer_sub : DD := ⟨a_Offer_sub, "__sub__", "Offer.__sub__", s_Offer_sub, [], false⟩
abbrev s_Offer_getitem : Stmt := inClass (top 32) 22
abbrev N_Offer_getitem : List Str := ["self", "at", "kind", "left", "needed"]
theorem sc_Offer_getitem : FnScope N_Offer_getitem ["self", "at"] (defScope s_Offer_getitem) := ⟨rfl, rfl, rfl, by decide +kernel, rfl, by decide +kernel, by decide +kernel⟩
abbrev a_Offer_getitem (K : PySem.W.Frag) : Addr := He.ma K (He.ga K "Offer") "__getitem__"
def d_Offer_getitem : DD := ⟨a_Offer_getitem, "__getitem__", "Offer.__getitem__", s_Offer_getitem, [], false⟩
abbrev s_Offer_iter : Stmt := inClass (top 32) 23
abbrev N_Offer_iter : List Str := ["self"]
theorem sc_Offer_iter : FnScope N_Offer_iter ["self"] (defScope s_Offer_iter) := ⟨rfl, rfl, rfl, by decide +kernel, rfl, by decide +kernel, by decide +kernel⟩
abbrev a_Offer_iter (K : PySem.W.Frag) : Addr := He.ma K (He.ga K "Offer") "__iter__"
def d_Offer_iter : DD := ⟨a_Offer_iter, "__iter__", "Offer.__iter__", s_Offer_iter, [], false⟩
abbrev s_Offer_bool : Stmt := inClass (top 32) 24
abbrev N_Offer_bool : List Str := ["self", "_", "left"]
theorem sc_Offer_bool : FnScope N_Offer_bool ["self"] (defScope s_Offer_bool) := ⟨rfl, rfl, rfl, by decide +kernel, rfl, by decide +kernel, by decide +kernel⟩
abbrev a_Offer_bool (K : PySem.W.Frag) : Addr := He.ma K (He.ga K "Offer") "__bool__"
def d_Offer_bool : DD := ⟨a_Offer_bool, "__bool__", "Offer.__bool__", s_Offer_bool, [], false⟩
abbrev s_Offer_contains : Stmt := inClass (top 32) 25
abbrev N_Offer_contains : List Str := ["self", "x"]
theorem sc_Offer_contains : FnScope N_Offer_contains ["self", "x"] (defScope s_Offer_contains) := ⟨rfl, rfl, rfl, by decide +kernel, rfl, by decide +kernel, by decide +kernel⟩
abbrev a_Offer_contains (K : PySem.W.Frag) : Addr := He.ma K (He.ga K "Offer") "__contains__"
def d_Offer_contains : DD := ⟨a_Offer_contains, "__contains__", "Offer.__contains__", s_Offer_contains, [], false⟩
abbrev s_Offer_le : Stmt := inClass (top 32) 26
abbrev N_Offer_le : List Str := ["self", "other"]
theorem sc_Offer_le : FnScope N_Offer_le ["self", "other"] (defScope s_Offer_le) := ⟨rfl, rfl, rfl, by decide +kernel, rfl, by decide +kernel, by decide +kernel⟩
abbrev a_Offer_le (K : PySem.W.Frag) : Addr := He.ma K (He.ga K "Offer") "__le__"
def d_Offer_le : DD := ⟨a_Offer_le, "__le__", "Offer.__le__", s_Offer_le, [], false⟩
abbrev s_Offer_lt : Stmt := inClass (top 32) 27
abbrev N_Offer_lt : List Str := ["self", "other"]
theorem sc_Offer_lt : FnScope N_Offer_lt ["self", "other"] (defScope s_Offer_lt) := ⟨rfl, rfl, rfl, by decide +kernel, rfl, by decide +kernel, by decide +kernel⟩
abbrev a_Offer_lt (K : PySem.W.Frag) : Addr := He.ma K (He.ga K "Offer") "__lt__"
def d_Offer_lt : DD := ⟨a_Offer_lt, "__lt__", "Offer.__lt__", s_Offer_lt, [], false⟩
abbrev s_Offer_ge : Stmt := inClass (top 32) 28
abbrev N_Offer_ge : List Str := ["self", "other"]
theorem sc_Offer_ge : FnScope N_Offer_ge ["self", "other"] (defScope s_Offer_ge) := ⟨rfl, rfl, rfl, by decide +kernel, rfl, by decide +kernel, by decide +kernel⟩
abbrev a_Offer_ge (K : PySem.W.Frag) : Addr := He.ma K (He.ga K "Offer") "__ge__"
def d_Offer_ge : DD := ⟨a_Offer_ge, "__ge__", "Offer.__ge__", s_Offer_ge, [], false⟩
abbrev s_Offer_gt : Stmt := inClass (top 32) 29
abbrev N_Offer_gt : List Str := ["self", "other"]
theorem sc_Offer_gt : FnScope N_Offer_gt ["self", "other"] (defScope s_Offer_gt) := ⟨rfl, rfl, rfl, by decide +kernel, rfl, by decide +kernel, by decide +kernel⟩
abbrev a_Offer_gt (K : PySem.W.Frag) : Addr := He.ma K (He.ga K "Offer") "__gt__"
def d_Offer_gt : DD := ⟨a_Offer_gt, "__gt__", "Offer.__gt__", s_Offer_gt, [], false⟩
abbrev s_slack : Stmt := top 33
abbrev N_slack : List Str := ["one", "other", "bottles"]
theorem sc_slack : FnScope N_slack ["one", "other", "bottles"] (defScope s_slack) := ⟨rfl, rfl, rfl, by decide +kernel, rfl, by decide +kernel, by decide +kernel⟩
abbrev a_slack (K : PySem.W.Frag) : Addr := He.ga K "_slack"
def d_slack : DD := ⟨a_slack, "_slack", "_slack", s_slack, [], false⟩
abbrev s_repetition : Stmt := top 34
abbrev N_repetition : List Str := ["one", "other", "one_bottles", "one_drinks", "other_bottles", "other_drinks", "drinks", "span", "fall"]
theorem sc_repetition : FnScope N_repetition ["one", "other"] (defScope s_repetition) := ⟨rfl, rfl, rfl, by decide +kernel, rfl, by decide +kernel, by decide +kernel⟩
abbrev a_repetition (K : PySem.W.Frag) : Addr := He.ga K "_repetition"
def d_repetition : DD := ⟨a_repetition, "_repetition", "_repetition", s_repetition, [], false⟩
abbrev s_never_more : Stmt := top 35
abbrev N_never_more : List Str := ["one", "other", "start", "span", "fall", "bottles"]
theorem sc_never_more : FnScope N_never_more ["one", "other"] (defScope s_never_more) := ⟨rfl, rfl, rfl, by decide +kernel, rfl, by decide +kernel, by decide +kernel⟩
abbrev a_never_more (K : PySem.W.Frag) : Addr := He.ga K "_never_more"
def d_never_more : DD := ⟨a_never_more, "_never_more", "_never_more", s_never_more, [], false⟩
abbrev s_first_difference : Stmt := top 36
abbrev N_first_difference : List Str := ["one", "other", "start", "span", "fall", "bottles"]
theorem sc_first_difference : FnScope N_first_difference ["one", "other"] (defScope s_first_difference) := ⟨rfl, rfl, rfl, by decide +kernel, rfl, by decide +kernel, by decide +kernel⟩
abbrev a_first_difference (K : PySem.W.Frag) : Addr := He.ga K "first_difference"
def d_first_difference : DD := ⟨a_first_difference, "first_difference", "first_difference", s_first_difference, [], false⟩
abbrev s_Candidates_init : Stmt := inClass (top 38) 0
abbrev N_Candidates_init : List Str := ["self", "start", "early", "span", "offsets"]
theorem sc_Candidates_init : FnScope N_Candidates_init ["self", "start", "early", "span", "offsets"] (defScope s_Candidates_init) := ⟨rfl, rfl, rfl, by decide +kernel, rfl, by decide +kernel, by decide +kernel⟩
abbrev a_Candidates_init (K : PySem.W.Frag) : Addr := He.ma K (He.ga K "Candidates") "__init__"
def d_Candidates_init : DD := ⟨a_Candidates_init, "__init__", "Candidates.__init__", s_Candidates_init, [], false⟩
abbrev s_Candidates_narrowed : Stmt := inClass (top 38) 1
abbrev N_Candidates_narrowed : List Str := ["self", "fits", "span", "start", "early", "whole", "offsets", "number", "base", "offset"]
theorem sc_Candidates_narrowed : FnScope N_Candidates_narrowed ["self", "fits", "span"] (defScope s_Candidates_narrowed) := ⟨rfl, rfl, rfl, by decide +kernel, rfl, by decide +kernel, by decide +kernel⟩
abbrev a_Candidates_narrowed (K : PySem.W.Frag) : Addr := He.ma K (He.ga K "Candidates") "narrowed"
def d_Candidates_narrowed : DD := ⟨a_Candidates_narrowed, "narrowed", "Candidates.narrowed", s_Candidates_narrowed, [], false⟩
abbrev s_Candidates_many_within : Stmt := inClass (top 38) 2
abbrev N_Candidates_many_within : List Str := ["self", "last", "many", "turns", "rest", "number", "offset"]
theorem sc_Candidates_many_within : FnScope N_Candidates_many_within ["self", "last"] (defScope s_Candidates_many_within) := ⟨rfl, rfl, rfl, by decide +kernel, rfl, by decide +kernel, by decide +kernel⟩
abbrev a_Candidates_many_within (K : PySem.W.Frag) : Addr := He.ma K (He.ga K "Candidates") "many_within"
def d_Candidates_many_within : DD := ⟨a_Candidates_many_within, "many_within", "Candidates.many_within", s_Candidates_many_within, [], false⟩
abbrev s_Candidates_candidate : Stmt := inClass (top 38) 3
abbrev N_Candidates_candidate : List Str := ["self", "place", "turns", "rest"]
theorem sc_Candidates_candidate : FnScope N_Candidates_candidate ["self", "place"] (defScope s_Candidates_candidate) := ⟨rfl, rfl, rfl, by decide +kernel, rfl, by decide +kernel, by decide +kernel⟩
abbrev a_Candidates_candidate (K : PySem.W.Frag) : Addr := He.ma K (He.ga K "Candidates") "candidate"
def d_Candidates_candidate : DD := ⟨a_Candidates_candidate, "candidate", "Candidates.candidate", s_Candidates_candidate, [], false⟩
abbrev s_drunk_in_round : Stmt := top 40
abbrev N_drunk_in_round : List Str := ["offer", "number", "bottles"]
theorem sc_drunk_in_round : FnScope N_drunk_in_round ["offer", "number", "bottles"] (defScope s_drunk_in_round) := ⟨rfl, rfl, rfl, by decide +kernel, rfl, by decide +kernel, by decide +kernel⟩
abbrev a_drunk_in_round (K : PySem.W.Frag) : Addr := He.ga K "_drunk_in_round"
def d_drunk_in_round : DD := ⟨a_drunk_in_round, "_drunk_in_round", "_drunk_in_round", s_drunk_in_round, [], false⟩
abbrev s_BottleObserver_init : Stmt := inClass (top 41) 0
abbrev N_BottleObserver_init : List Str := ["self", "offer", "start"]
theorem sc_BottleObserver_init : FnScope N_BottleObserver_init ["self", "offer"] (defScope s_BottleObserver_init) := ⟨rfl, rfl, rfl, by decide +kernel, rfl, by decide +kernel, by decide +kernel⟩
abbrev a_BottleObserver_init (K : PySem.W.Frag) : Addr := He.ma K (He.ga K "BottleObserver") "__init__"
def d_BottleObserver_init : DD := ⟨a_BottleObserver_init, "__init__", "BottleObserver.__init__", s_BottleObserver_init, [], false⟩
abbrev s_BottleObserver_accept : Stmt := inClass (top 41) 2
abbrev N_BottleObserver_accept : List Str := ["self", "fits", "span", "record", "narrowed", "remaining"]
theorem sc_BottleObserver_accept : FnScope N_BottleObserver_accept ["self", "fits", "span", "record"] (defScope s_BottleObserver_accept) := ⟨rfl, rfl, rfl, by decide +kernel, rfl, by decide +kernel, by decide +kernel⟩
abbrev a_BottleObserver_accept (K : PySem.W.Frag) : Addr := He.ma K (He.ga K "BottleObserver") "_accept"
def d_BottleObserver_accept : DD := ⟨a_BottleObserver_accept, "_accept", "BottleObserver._accept", s_BottleObserver_accept, [], false⟩
abbrev s_BottleObserver_see_left : Stmt := inClass (top 41) 3
abbrev N_BottleObserver_see_left : List Str := ["self", "kind", "count", "offer", "span", "seen", "fits", "bottles"]
theorem sc_BottleObserver_see_left : FnScope N_BottleObserver_see_left ["self", "kind", "count"] (defScope s_BottleObserver_see_left) := ⟨rfl, rfl, rfl, by decide +kernel, rfl, by decide +kernel, by decide +kernel⟩
abbrev a_BottleObserver_see_left (K : PySem.W.Frag) : Addr := He.ma K (He.ga K "BottleObserver") "see_left"
def d_BottleObserver_see_left : DD := ⟨a_BottleObserver_see_left, "see_left", "BottleObserver.see_left", s_BottleObserver_see_left, [], false⟩
abbrev s_BottleObserver_see_round : Stmt := inClass (top 41) 4
abbrev N_BottleObserver_see_round : List Str := ["self", "number", "parity", "offer", "span", "seen", "fits", "bottles"]
theorem sc_BottleObserver_see_round : FnScope N_BottleObserver_see_round ["self", "number", "parity"] (defScope s_BottleObserver_see_round) := ⟨rfl, rfl, rfl, by decide +kernel, rfl, by decide +kernel, by decide +kernel⟩
abbrev a_BottleObserver_see_round (K : PySem.W.Frag) : Addr := He.ma K (He.ga K "BottleObserver") "see_round"
def d_BottleObserver_see_round : DD := ⟨a_BottleObserver_see_round, "see_round", "BottleObserver.see_round", s_BottleObserver_see_round, [], false⟩
abbrev s_BottleObserver_count_up_to : Stmt := inClass (top 41) 5
abbrev N_BottleObserver_count_up_to : List Str := ["self", "last"]
theorem sc_BottleObserver_count_up_to : FnScope N_BottleObserver_count_up_to ["self", "last"] (defScope s_BottleObserver_count_up_to) := ⟨rfl, rfl, rfl, by decide +kernel, rfl, by decide +kernel, by decide +kernel⟩
abbrev a_BottleObserver_count_up_to (K : PySem.W.Frag) : Addr := He.ma K (He.ga K "BottleObserver") "count_up_to"
def d_BottleObserver_count_up_to : DD := ⟨a_BottleObserver_count_up_to, "count_up_to", "BottleObserver.count_up_to", s_BottleObserver_count_up_to, [], false⟩
abbrev s_BottleObserver_nth_possible : Stmt := inClass (top 41) 6
abbrev N_BottleObserver_nth_possible : List Str := ["self", "number", "bottles"]
theorem sc_BottleObserver_nth_possible : FnScope N_BottleObserver_nth_possible ["self", "number"] (defScope s_BottleObserver_nth_possible) := ⟨rfl, rfl, rfl, by decide +kernel, rfl, by decide +kernel, by decide +kernel⟩
abbrev a_BottleObserver_nth_possible (K : PySem.W.Frag) : Addr := He.ma K (He.ga K "BottleObserver") "nth_possible"
def d_BottleObserver_nth_possible : DD := ⟨a_BottleObserver_nth_possible, "nth_possible", "BottleObserver.nth_possible", s_BottleObserver_nth_possible, [], false⟩
abbrev s_law_mix : Stmt := top 43
abbrev N_law_mix : List Str := ["_law_script", "_law_seed", "_law_mixed", "_law_cell"]
theorem sc_law_mix : FnScope N_law_mix ["_law_script", "_law_seed"] (defScope s_law_mix) := ⟨rfl, rfl, rfl, by decide +kernel, rfl, by decide +kernel, by decide +kernel⟩
abbrev a_law_mix (K : PySem.W.Frag) : Addr := He.ga K "_law_mix"
def d_law_mix : DD := ⟨a_law_mix, "_law_mix", "_law_mix", s_law_mix, [], false⟩
abbrev s_law_next : Stmt := top 44
abbrev N_law_next : List Str := ["_law_h", "_law_limit", "_law_cell"]
theorem sc_law_next : FnScope N_law_next ["_law_h", "_law_limit"] (defScope s_law_next) := ⟨rfl, rfl, rfl, by decide +kernel, rfl, by decide +kernel, by decide +kernel⟩
abbrev a_law_next (K : PySem.W.Frag) : Addr := He.ga K "_law_next"
def d_law_next : DD := ⟨a_law_next, "_law_next", "_law_next", s_law_next, [], false⟩
abbrev s_law_error : Stmt := top 45
abbrev N_law_error : List Str := ["_law_call", "e", "_law_kinds", "_law_name"]
theorem sc_law_error : FnScope N_law_error ["_law_call"] (defScope s_law_error) := ⟨rfl, rfl, rfl, by decide +kernel, rfl, by decide +kernel, by decide +kernel⟩
abbrev a_law_error (K : PySem.W.Frag) : Addr := He.ga K "_law_error"
def d_law_error : DD := ⟨a_law_error, "_law_error", "_law_error", s_law_error, [], false⟩
abbrev s_law_trades : Stmt := top 46
abbrev N_law_trades : List Str := ["_law_h", "_law_most", "_law_largest", "_law_found", "_law_worth", "_law_kind", "_law_needed", "_law_left"]
theorem sc_law_trades : FnScope N_law_trades ["_law_h", "_law_most", "_law_largest"] (defScope s_law_trades) := ⟨rfl, rfl, rfl, by decide +kernel, rfl, by decide +kernel, by decide +kernel⟩
abbrev a_law_trades (K : PySem.W.Frag) : Addr := He.ga K "_law_trades"
def d_law_trades : DD := ⟨a_law_trades, "_law_trades", "_law_trades", s_law_trades, [], false⟩
abbrev s_law_offer : Stmt := top 47
abbrev N_law_offer : List Str := ["_law_trades_here"]
theorem sc_law_offer : FnScope N_law_offer ["_law_trades_here"] (defScope s_law_offer) := ⟨rfl, rfl, rfl, by decide +kernel, rfl, by decide +kernel, by decide +kernel⟩
abbrev a_law_offer (K : PySem.W.Frag) : Addr := He.ga K "_law_offer"
def d_law_offer : DD := ⟨a_law_offer, "_law_offer", "_law_offer", s_law_offer, [], false⟩
abbrev s_law_buys : Stmt := top 48
abbrev N_law_buys : List Str := ["_law_trades_here", "_law_drinks", "_law_kind", "_law_left", "_law_needed"]
theorem sc_law_buys : FnScope N_law_buys ["_law_trades_here", "_law_drinks"] (defScope s_law_buys) := ⟨rfl, rfl, rfl, by decide +kernel, rfl, by decide +kernel, by decide +kernel⟩
abbrev a_law_buys (K : PySem.W.Frag) : Addr := He.ga K "_law_buys"
def d_law_buys : DD := ⟨a_law_buys, "_law_buys", "_law_buys", s_law_buys, [], false⟩
abbrev s_law_limits_right : Stmt := top 49
abbrev N_law_limits_right : List Str := ["_law_offer_here", "_law_works", "_law_observer", "_law_call"]
theorem sc_law_limits_right : FnScope N_law_limits_right ["_law_offer_here"] (defScope s_law_limits_right) := ⟨rfl, rfl, rfl, by decide +kernel, rfl, by decide +kernel, by decide +kernel⟩
abbrev a_law_limits_right (K : PySem.W.Frag) : Addr := He.ga K "_law_limits_right"
def d_law_limits_right : DD := ⟨a_law_limits_right, "_law_limits_right", "_law_limits_right", s_law_limits_right, [], false⟩
abbrev s_law : Stmt := top 50
abbrev N_law : List Str := ["_law_script", "_law_h", "_law_turn", "_law_some", "_law_due", "_law_works", "_law_number", "_law_offer_here", "_law_call"]
theorem sc_law : FnScope N_law ["_law_script"] (defScope s_law) := ⟨rfl, rfl, rfl, by decide +kernel, rfl, by decide +kernel, by decide +kernel⟩
abbrev a_law (K : PySem.W.Frag) : Addr := He.ga K "law"
def d_law : DD := ⟨a_law, "law", "law", s_law, [], false⟩
/-- what the top has left -/
structure Tx (K : PySem.W.Frag) (mg : Str → Option Value) where
  S_InvalidOffer_init : ∃ fd, SupF PX K mg "InvalidOffer.__init__" (defArgs s_InvalidOffer_init) (defBody s_InvalidOffer_init) (defScope s_InvalidOffer_init) (a_InvalidOffer_init K) fd (He.ga K "InvalidOffer") (codeA K (a_InvalidOffer_init K)) (cellA K (a_InvalidOffer_init K))
  fd_is_integer : FuncData
  F_is_integer : FnP K d_is_integer fd_is_integer
  g_is_integer : mg "is_integer" = some (.ref (a_is_integer K))
  fd_is_number : FuncData
  F_is_number : FnP K d_is_number fd_is_number
  g_is_number : mg "is_number" = some (.ref (a_is_number K))
  fd_check_number : FuncData
  F_check_number : FnP K d_check_number fd_check_number
  g_check_number : mg "check_number" = some (.ref (a_check_number K))
  fd_is_label : FuncData
  F_is_label : FnP K d_is_label fd_is_label
  g_is_label : mg "is_label" = some (.ref (a_is_label K))
  fd_is_kind : FuncData
  F_is_kind : FnP K d_is_kind fd_is_kind
  g_is_kind : mg "is_kind" = some (.ref (a_is_kind K))
  fd_cost_of : FuncData
  F_cost_of : FnP K d_cost_of fd_cost_of
  g_cost_of : mg "cost_of" = some (.ref (a_cost_of K))
  fd_drinks_of_period : FuncData
  F_drinks_of_period : FnP K d_drinks_of_period fd_drinks_of_period
  g_drinks_of_period : mg "drinks_of_period" = some (.ref (a_drinks_of_period K))
  fd_tops_of : FuncData
  F_tops_of : FnP K d_tops_of fd_tops_of
  g_tops_of : mg "tops_of" = some (.ref (a_tops_of K))
  fd_firsts_of : FuncData
  F_firsts_of : FnP K d_firsts_of fd_firsts_of
  g_firsts_of : mg "firsts_of" = some (.ref (a_firsts_of K))
  fd_gaps_of : FuncData
  F_gaps_of : FnP K d_gaps_of fd_gaps_of
  g_gaps_of : mg "gaps_of" = some (.ref (a_gaps_of K))
  fd_value_at : FuncData
  F_value_at : FnP K d_value_at fd_value_at
  g_value_at : mg "value_at" = some (.ref (a_value_at K))
  fd_is_trade : FuncData
  F_is_trade : FnP K d_is_trade fd_is_trade
  g_is_trade : mg "_is_trade" = some (.ref (a_is_trade K))
  fd_check_trades : FuncData
  F_check_trades : FnP K d_check_trades fd_check_trades
  g_check_trades : mg "_check_trades" = some (.ref (a_check_trades K))
  fd_check_generosity : FuncData
  F_check_generosity : FnP K d_check_generosity fd_check_generosity
  g_check_generosity : mg "_check_generosity" = some (.ref (a_check_generosity K))
  fd_Offer_init : FuncData
  F_Offer_init : FnP K d_Offer_init fd_Offer_init
  mk_Offer : Mk K (He.ga K "Offer") (a_Offer_init K)
  fd_Offer_trades : FuncData
  F_Offer_trades : FnP K d_Offer_trades fd_Offer_trades
  p_Offer_trades : PropOf K (He.ga K "Offer") "trades" (He.ma K (He.ga K "Offer") "trades") (a_Offer_trades K)
  fd_Offer_kinds : FuncData
  F_Offer_kinds : FnP K d_Offer_kinds fd_Offer_kinds
  p_Offer_kinds : PropOf K (He.ga K "Offer") "kinds" (He.ma K (He.ga K "Offer") "kinds") (a_Offer_kinds K)
  fd_Offer_period : FuncData
  F_Offer_period : FnP K d_Offer_period fd_Offer_period
  p_Offer_period : PropOf K (He.ga K "Offer") "period" (He.ma K (He.ga K "Offer") "period") (a_Offer_period K)
  fd_Offer_steady_from : FuncData
  F_Offer_steady_from : FnP K d_Offer_steady_from fd_Offer_steady_from
  p_Offer_steady_from : PropOf K (He.ga K "Offer") "steady_from" (He.ma K (He.ga K "Offer") "steady_from") (a_Offer_steady_from K)
  fd_Offer_drinks_for : FuncData
  F_Offer_drinks_for : FnP K d_Offer_drinks_for fd_Offer_drinks_for
  m_Offer_drinks_for : Meth K (He.ga K "Offer") "_drinks_for" (a_Offer_drinks_for K)
  fd_Offer_most_within : FuncData
  F_Offer_most_within : FnP K d_Offer_most_within fd_Offer_most_within
  m_Offer_most_within : Meth K (He.ga K "Offer") "_most_within" (a_Offer_most_within K)
  fd_Offer_call : FuncData
  F_Offer_call : FnP K d_Offer_call fd_Offer_call
  co_Offer : StX.CallO K (He.ga K "Offer") (a_Offer_call K)
  fd_Offer_trades_made : FuncData
  F_Offer_trades_made : FnP K d_Offer_trades_made fd_Offer_trades_made
  m_Offer_trades_made : Meth K (He.ga K "Offer") "trades_made" (a_Offer_trades_made K)
  fd_Offer_left_over : FuncData
  F_Offer_left_over : FnP K d_Offer_left_over fd_Offer_left_over
  m_Offer_left_over : Meth K (He.ga K "Offer") "left_over" (a_Offer_left_over K)
  fd_Offer_rounds : FuncData
  F_Offer_rounds : FnP K d_Offer_rounds fd_Offer_rounds
  m_Offer_rounds : Meth K (He.ga K "Offer") "rounds" (a_Offer_rounds K)
  fd_Offer_credit : FuncData
  F_Offer_credit : FnP K d_Offer_credit fd_Offer_credit
  m_Offer_credit : Meth K (He.ga K "Offer") "credit" (a_Offer_credit K)
  fd_Offer_fewest_bottles : FuncData
  F_Offer_fewest_bottles : FnP K d_Offer_fewest_bottles fd_Offer_fewest_bottles
  m_Offer_fewest_bottles : Meth K (He.ga K "Offer") "fewest_bottles" (a_Offer_fewest_bottles K)
  fd_Offer_missing : FuncData
  F_Offer_missing : FnP K d_Offer_missing fd_Offer_missing
  m_Offer_missing : Meth K (He.ga K "Offer") "missing" (a_Offer_missing K)
  fd_Offer_count_missing : FuncData
  F_Offer_count_missing : FnP K d_Offer_count_missing fd_Offer_count_missing
  m_Offer_count_missing : Meth K (He.ga K "Offer") "count_missing" (a_Offer_count_missing K)
  fd_Offer_nth_missing : FuncData
  F_Offer_nth_missing : FnP K d_Offer_nth_missing fd_Offer_nth_missing
  m_Offer_nth_missing : Meth K (He.ga K "Offer") "nth_missing" (a_Offer_nth_missing K)
  fd_Offer_pooled : FuncData
  F_Offer_pooled : FnP K d_Offer_pooled fd_Offer_pooled
  m_Offer_pooled : Meth K (He.ga K "Offer") "pooled" (a_Offer_pooled K)
  fd_Offer_add : FuncData
  F_Offer_add : FnP K d_Offer_add fd_Offer_add
  m_Offer_add : Meth K (He.ga K "Offer") "__add__" (a_Offer_add K)
  fd_Offer_sub : FuncData
  F_Offer_sub : FnP K d_Offer_sub fd_Offer_sub
  m_Offer_sub : Meth K (He.ga K "Offer") "__sub__" (a_Offer_sub K)
  fd_Offer_getitem : FuncData
  F_Offer_getitem : FnP K d_Offer_getitem fd_Offer_getitem
  m_Offer_getitem : Meth K (He.ga K "Offer") "__getitem__" (a_Offer_getitem K)
  fd_Offer_iter : FuncData
  F_Offer_iter : FnP K d_Offer_iter fd_Offer_iter
  m_Offer_iter : Meth K (He.ga K "Offer") "__iter__" (a_Offer_iter K)
  fd_Offer_bool : FuncData
  F_Offer_bool : FnP K d_Offer_bool fd_Offer_bool
  m_Offer_bool : Meth K (He.ga K "Offer") "__bool__" (a_Offer_bool K)
  fd_Offer_contains : FuncData
  F_Offer_contains : FnP K d_Offer_contains fd_Offer_contains
  m_Offer_contains : Meth K (He.ga K "Offer") "__contains__" (a_Offer_contains K)
  fd_Offer_le : FuncData
  F_Offer_le : FnP K d_Offer_le fd_Offer_le
  m_Offer_le : Meth K (He.ga K "Offer") "__le__" (a_Offer_le K)
  fd_Offer_lt : FuncData
  F_Offer_lt : FnP K d_Offer_lt fd_Offer_lt
  m_Offer_lt : Meth K (He.ga K "Offer") "__lt__" (a_Offer_lt K)
  fd_Offer_ge : FuncData
  F_Offer_ge : FnP K d_Offer_ge fd_Offer_ge
  m_Offer_ge : Meth K (He.ga K "Offer") "__ge__" (a_Offer_ge K)
  fd_Offer_gt : FuncData
  F_Offer_gt : FnP K d_Offer_gt fd_Offer_gt
  m_Offer_gt : Meth K (He.ga K "Offer") "__gt__" (a_Offer_gt K)
  fd_slack : FuncData
  F_slack : FnP K d_slack fd_slack
  g_slack : mg "_slack" = some (.ref (a_slack K))
  fd_repetition : FuncData
  F_repetition : FnP K d_repetition fd_repetition
  g_repetition : mg "_repetition" = some (.ref (a_repetition K))
  fd_never_more : FuncData
  F_never_more : FnP K d_never_more fd_never_more
  g_never_more : mg "_never_more" = some (.ref (a_never_more K))
  fd_first_difference : FuncData
  F_first_difference : FnP K d_first_difference fd_first_difference
  g_first_difference : mg "first_difference" = some (.ref (a_first_difference K))
  fd_Candidates_init : FuncData
  F_Candidates_init : FnP K d_Candidates_init fd_Candidates_init
  mk_Candidates : Mk K (He.ga K "Candidates") (a_Candidates_init K)
  fd_Candidates_narrowed : FuncData
  F_Candidates_narrowed : FnP K d_Candidates_narrowed fd_Candidates_narrowed
  m_Candidates_narrowed : Meth K (He.ga K "Candidates") "narrowed" (a_Candidates_narrowed K)
  fd_Candidates_many_within : FuncData
  F_Candidates_many_within : FnP K d_Candidates_many_within fd_Candidates_many_within
  m_Candidates_many_within : Meth K (He.ga K "Candidates") "many_within" (a_Candidates_many_within K)
  fd_Candidates_candidate : FuncData
  F_Candidates_candidate : FnP K d_Candidates_candidate fd_Candidates_candidate
  m_Candidates_candidate : Meth K (He.ga K "Candidates") "candidate" (a_Candidates_candidate K)
  fd_drunk_in_round : FuncData
  F_drunk_in_round : FnP K d_drunk_in_round fd_drunk_in_round
  g_drunk_in_round : mg "_drunk_in_round" = some (.ref (a_drunk_in_round K))
  fd_BottleObserver_init : FuncData
  F_BottleObserver_init : FnP K d_BottleObserver_init fd_BottleObserver_init
  mk_BottleObserver : Mk K (He.ga K "BottleObserver") (a_BottleObserver_init K)
  fd_BottleObserver_accept : FuncData
  F_BottleObserver_accept : FnP K d_BottleObserver_accept fd_BottleObserver_accept
  m_BottleObserver_accept : Meth K (He.ga K "BottleObserver") "_accept" (a_BottleObserver_accept K)
  fd_BottleObserver_see_left : FuncData
  F_BottleObserver_see_left : FnP K d_BottleObserver_see_left fd_BottleObserver_see_left
  m_BottleObserver_see_left : Meth K (He.ga K "BottleObserver") "see_left" (a_BottleObserver_see_left K)
  fd_BottleObserver_see_round : FuncData
  F_BottleObserver_see_round : FnP K d_BottleObserver_see_round fd_BottleObserver_see_round
  m_BottleObserver_see_round : Meth K (He.ga K "BottleObserver") "see_round" (a_BottleObserver_see_round K)
  fd_BottleObserver_count_up_to : FuncData
  F_BottleObserver_count_up_to : FnP K d_BottleObserver_count_up_to fd_BottleObserver_count_up_to
  m_BottleObserver_count_up_to : Meth K (He.ga K "BottleObserver") "count_up_to" (a_BottleObserver_count_up_to K)
  fd_BottleObserver_nth_possible : FuncData
  F_BottleObserver_nth_possible : FnP K d_BottleObserver_nth_possible fd_BottleObserver_nth_possible
  m_BottleObserver_nth_possible : Meth K (He.ga K "BottleObserver") "nth_possible" (a_BottleObserver_nth_possible K)
  fd_law_mix : FuncData
  F_law_mix : FnP K d_law_mix fd_law_mix
  g_law_mix : mg "_law_mix" = some (.ref (a_law_mix K))
  fd_law_next : FuncData
  F_law_next : FnP K d_law_next fd_law_next
  g_law_next : mg "_law_next" = some (.ref (a_law_next K))
  fd_law_error : FuncData
  F_law_error : FnP K d_law_error fd_law_error
  g_law_error : mg "_law_error" = some (.ref (a_law_error K))
  fd_law_trades : FuncData
  F_law_trades : FnP K d_law_trades fd_law_trades
  g_law_trades : mg "_law_trades" = some (.ref (a_law_trades K))
  fd_law_offer : FuncData
  F_law_offer : FnP K d_law_offer fd_law_offer
  g_law_offer : mg "_law_offer" = some (.ref (a_law_offer K))
  fd_law_buys : FuncData
  F_law_buys : FnP K d_law_buys fd_law_buys
  g_law_buys : mg "_law_buys" = some (.ref (a_law_buys K))
  fd_law_limits_right : FuncData
  F_law_limits_right : FnP K d_law_limits_right fd_law_limits_right
  g_law_limits_right : mg "_law_limits_right" = some (.ref (a_law_limits_right K))
  fd_law : FuncData
  F_law : FnP K d_law fd_law
  g_law : mg "law" = some (.ref (a_law K))
  g_Offer : mg "Offer" = some (.ref (He.ga K "Offer"))
  k_Offer : Cls K (He.ga K "Offer")
  r_Offer : ClX.CRead K (He.ga K "Offer") (.type "type")
  na_trades : NoAttr K (He.ga K "Offer") "_trades"
  na_period : NoAttr K (He.ga K "Offer") "_period"
  na_tops : NoAttr K (He.ga K "Offer") "_tops"
  na_firsts : NoAttr K (He.ga K "Offer") "_firsts"
  na_gaps : NoAttr K (He.ga K "Offer") "_gaps"
  v_Offer_MAX_TRADES : ∃ u, ClX.CVal K (He.ga K "Offer") (.type "type") "MAX_TRADES" (.int 3) u
  v_Offer_MAX_NEEDED : ∃ u, ClX.CVal K (He.ga K "Offer") (.type "type") "MAX_NEEDED" (.int 12) u
  g_Candidates : mg "Candidates" = some (.ref (He.ga K "Candidates"))
  k_Candidates : Cls K (He.ga K "Candidates")
  na_start : NoAttr K (He.ga K "Candidates") "_start"
  na_early : NoAttr K (He.ga K "Candidates") "_early"
  na_span : NoAttr K (He.ga K "Candidates") "_span"
  na_offsets : NoAttr K (He.ga K "Candidates") "_offsets"
  g_BottleObserver : mg "BottleObserver" = some (.ref (He.ga K "BottleObserver"))
  k_BottleObserver : Cls K (He.ga K "BottleObserver")
  na_offer : NoAttr K (He.ga K "BottleObserver") "_offer"
  na_possible : NoAttr K (He.ga K "BottleObserver") "_possible"
  na_observations : NoAttr K (He.ga K "BottleObserver") "_observations"
  c_MAX_NUMBER : ∃ t, mg "MAX_NUMBER" = some (.int (1000000000000000000) t)
  c_MAX_LABEL_LENGTH : ∃ t, mg "MAX_LABEL_LENGTH" = some (.int (8) t)
  c_DRINK : ∃ t, mg "DRINK" = some (.str "drink" t)
  c_MAX_LEFT : ∃ t, mg "MAX_LEFT" = some (.int (12) t)
  c_MAX_LOOKED_AT : ∃ t, mg "MAX_LOOKED_AT" = some (.int (10000) t)
  n_len : mg "len" = none
  n_sum : mg "sum" = none
  n_max : mg "max" = none
  n_min : mg "min" = none
  n_all : mg "all" = none
  n_any : mg "any" = none
  n_isinstance : mg "isinstance" = none
  n_range : mg "range" = none
  n_enumerate : mg "enumerate" = none
  n_zip : mg "zip" = none
  n_list : mg "list" = none
  n_tuple : mg "tuple" = none
  n_int : mg "int" = none
  n_bool : mg "bool" = none
  n_str : mg "str" = none
  n_dict : mg "dict" = none
  n_divmod : mg "divmod" = none
  g_TradeError : mg "TradeError" = some (.ref (He.ga K "TradeError"))
  x_TradeError : ExcN K "TradeError" (He.ga K "TradeError")
  g_InvalidOffer : mg "InvalidOffer" = some (.ref (He.ga K "InvalidOffer"))
  x_InvalidOffer : ExcI K "InvalidOffer" (He.ga K "InvalidOffer")
  g_TooGenerous : mg "TooGenerous" = some (.ref (He.ga K "TooGenerous"))
  x_TooGenerous : ExcN K "TooGenerous" (He.ga K "TooGenerous")
  g_InvalidNumber : mg "InvalidNumber" = some (.ref (He.ga K "InvalidNumber"))
  x_InvalidNumber : ExcN K "InvalidNumber" (He.ga K "InvalidNumber")
  g_UnknownKind : mg "UnknownKind" = some (.ref (He.ga K "UnknownKind"))
  x_UnknownKind : ExcN K "UnknownKind" (He.ga K "UnknownKind")
  g_InvalidStep : mg "InvalidStep" = some (.ref (He.ga K "InvalidStep"))
  x_InvalidStep : ExcI K "InvalidStep" (He.ga K "InvalidStep")
  g_Contradiction : mg "Contradiction" = some (.ref (He.ga K "Contradiction"))
  x_Contradiction : ExcN K "Contradiction" (He.ga K "Contradiction")
  l_TradeError : ExcC K (He.ga K "TradeError") ∧ XfC K (He.ga K "TradeError")
  l_InvalidOffer : ExcC K (He.ga K "InvalidOffer") ∧ XfC K (He.ga K "InvalidOffer")
  l_InvalidNumber : ExcC K (He.ga K "InvalidNumber") ∧ XfC K (He.ga K "InvalidNumber")
  ns_InvalidNumber : PySem.W.subIn K (.ref (He.ga K "InvalidNumber")) (.type "StopIteration") = some false
  q_InvalidNumber : KitX6 K "InvalidNumber"
  l_UnknownKind : ExcC K (He.ga K "UnknownKind") ∧ XfC K (He.ga K "UnknownKind")
  q_UnknownKind : KitX6 K "UnknownKind"
  n_super : mg "super" = none
  n_ValueError : mg "ValueError" = none
  b_gcd : mg "gcd" = some (.builtin "math.gcd")
  b_lcm : mg "lcm" = some (.builtin "math.lcm")
def fas : List He.Fa := [.glo "is_integer",
  .glo "is_number",
  .glo "check_number",
  .glo "is_label",
  .glo "is_kind",
  .glo "cost_of",
  .glo "drinks_of_period",
  .glo "tops_of",
  .glo "firsts_of",
  .glo "gaps_of",
  .glo "value_at",
  .glo "_is_trade",
  .glo "_check_trades",
  .glo "_check_generosity",
  .mkr "Offer",
  .meth "Offer" "_drinks_for",
  .meth "Offer" "_most_within",
  .meth "Offer" "trades_made",
  .meth "Offer" "left_over",
  .meth "Offer" "rounds",
  .meth "Offer" "credit",
  .meth "Offer" "fewest_bottles",
  .meth "Offer" "missing",
  .meth "Offer" "count_missing",
  .meth "Offer" "nth_missing",
  .meth "Offer" "pooled",
  .meth "Offer" "__add__",
  .meth "Offer" "__sub__",
  .meth "Offer" "__getitem__",
  .meth "Offer" "__iter__",
  .meth "Offer" "__bool__",
  .meth "Offer" "__contains__",
  .meth "Offer" "__le__",
  .meth "Offer" "__lt__",
  .meth "Offer" "__ge__",
  .meth "Offer" "__gt__",
  .glo "_slack",
  .glo "_repetition",
  .glo "_never_more",
  .glo "first_difference",
  .mkr "Candidates",
  .meth "Candidates" "narrowed",
  .meth "Candidates" "many_within",
  .meth "Candidates" "candidate",
  .glo "_drunk_in_round",
  .mkr "BottleObserver",
  .meth "BottleObserver" "_accept",
  .meth "BottleObserver" "see_left",
  .meth "BottleObserver" "see_round",
  .meth "BottleObserver" "count_up_to",
  .meth "BottleObserver" "nth_possible",
  .glo "_law_mix",
  .glo "_law_next",
  .glo "_law_error",
  .glo "_law_trades",
  .glo "_law_offer",
  .glo "_law_buys",
  .glo "_law_limits_right",
  .glo "law",
  .glo "Offer",
  .cls "Offer",
  .noat "Offer" "_trades",
  .noat "Offer" "_period",
  .noat "Offer" "_tops",
  .noat "Offer" "_firsts",
  .noat "Offer" "_gaps",
  .glo "Candidates",
  .cls "Candidates",
  .noat "Candidates" "_start",
  .noat "Candidates" "_early",
  .noat "Candidates" "_span",
  .noat "Candidates" "_offsets",
  .glo "BottleObserver",
  .cls "BottleObserver",
  .noat "BottleObserver" "_offer",
  .noat "BottleObserver" "_possible",
  .noat "BottleObserver" "_observations",
  .int "MAX_NUMBER" (1000000000000000000),
  .int "MAX_LABEL_LENGTH" (8),
  .str "DRINK" "drink",
  .int "MAX_LEFT" (12),
  .int "MAX_LOOKED_AT" (10000),
  .free "len",
  .free "sum",
  .free "max",
  .free "min",
  .free "all",
  .free "any",
  .free "isinstance",
  .free "range",
  .free "enumerate",
  .free "zip",
  .free "list",
  .free "tuple",
  .free "int",
  .free "bool",
  .free "str",
  .free "dict",
  .free "divmod",
  .glo "TradeError",
  .glo "InvalidOffer",
  .glo "TooGenerous",
  .glo "InvalidNumber",
  .glo "UnknownKind",
  .glo "InvalidStep",
  .glo "Contradiction",
  .free "super",
  .free "ValueError"]
def mores : List (PySem.W.Frag → Bool) := [fun K => okSup K "InvalidOffer" "/claim/cut.py" (a_InvalidOffer_init K),
  fun K => okProp K "Offer" "trades",
  fun K => okProp K "Offer" "kinds",
  fun K => okProp K "Offer" "period",
  fun K => okProp K "Offer" "steady_from",
  fun K => okCallO K "Offer",
  fun K => okRead K "Offer",
  fun K => okCVal K "Offer" "MAX_TRADES" (.int 3),
  fun K => okCVal K "Offer" "MAX_NEEDED" (.int 12),
  fun K => okExc K "TradeError",
  fun K => okExcI K "InvalidOffer",
  fun K => okExc K "TooGenerous",
  fun K => okExc K "InvalidNumber",
  fun K => okExc K "UnknownKind",
  fun K => okExcI K "InvalidStep",
  fun K => okExc K "Contradiction",
  fun K => okExcC K (He.ga K "TradeError"),
  fun K => okExcC K (He.ga K "InvalidOffer"),
  fun K => okExcC K (He.ga K "InvalidNumber"),
  fun K => decide (PySem.W.subIn K (.ref (He.ga K "InvalidNumber")) (.type "StopIteration") = some false),
  fun K => okKit K "InvalidNumber",
  fun K => okExcC K (He.ga K "UnknownKind"),
  fun K => okKit K "UnknownKind",
  fun K => okBlt K "gcd" "math.gcd",
  fun K => okBlt K "lcm" "math.lcm"]
def moreB (K : PySem.W.Frag) : Bool := mores.all fun f => f K
def dds : List DD := [d_InvalidOffer_init, d_is_integer, d_is_number, d_check_number, d_is_label, d_is_kind, d_cost_of, d_drinks_of_period, d_tops_of, d_firsts_of, d_gaps_of, d_value_at, d_is_trade, d_check_trades, d_check_generosity, d_Offer_init, d_Offer_trades, d_Offer_kinds, d_Offer_period, d_Offer_steady_from, d_Offer_drinks_for, d_Offer_most_within, d_Offer_call, d_Offer_trades_made, d_Offer_left_over, d_Offer_rounds, d_Offer_credit, d_Offer_fewest_bottles, d_Offer_missing, d_Offer_count_missing, d_Offer_nth_missing, d_Offer_pooled, d_Offer_add, d_Offer_sub, d_Offer_getitem, d_Offer_iter, d_Offer_bool, d_Offer_contains, d_Offer_le, d_Offer_lt, d_Offer_ge, d_Offer_gt, d_slack, d_repetition, d_never_more, d_first_difference, d_Candidates_init, d_Candidates_narrowed, d_Candidates_many_within, d_Candidates_candidate, d_drunk_in_round, d_BottleObserver_init, d_BottleObserver_accept, d_BottleObserver_see_left, d_BottleObserver_see_round, d_BottleObserver_count_up_to, d_BottleObserver_nth_possible, d_law_mix, d_law_next, d_law_error, d_law_trades, d_law_offer, d_law_buys, d_law_limits_right, d_law]
theorem more_at {K : PySem.W.Frag} (h : moreB K = true) (i : Nat) {f : PySem.W.Frag → Bool} (e : mores[i]? = some f := by rfl) : f K = true := List.all_eq_true.mp h f (List.mem_of_getElem? e)
theorem tx_of {K : PySem.W.Frag} {h : Heap} {mg : Str → Option Value} (X : K.In h) (G : h.Ns mainGlobals mg) (c : Says fas moreB dds K) : Nonempty (Tx K mg) := by
  obtain ⟨fd_is_integer, F_is_integer⟩ := c.fn 1 (d := d_is_integer) rfl
  obtain ⟨fd_is_number, F_is_number⟩ := c.fn 2 (d := d_is_number) rfl
  obtain ⟨fd_check_number, F_check_number⟩ := c.fn 3 (d := d_check_number) rfl
  obtain ⟨fd_is_label, F_is_label⟩ := c.fn 4 (d := d_is_label) rfl
  obtain ⟨fd_is_kind, F_is_kind⟩ := c.fn 5 (d := d_is_kind) rfl
  obtain ⟨fd_cost_of, F_cost_of⟩ := c.fn 6 (d := d_cost_of) rfl
  obtain ⟨fd_drinks_of_period, F_drinks_of_period⟩ := c.fn 7 (d := d_drinks_of_period) rfl
  obtain ⟨fd_tops_of, F_tops_of⟩ := c.fn 8 (d := d_tops_of) rfl
  obtain ⟨fd_firsts_of, F_firsts_of⟩ := c.fn 9 (d := d_firsts_of) rfl
  obtain ⟨fd_gaps_of, F_gaps_of⟩ := c.fn 10 (d := d_gaps_of) rfl
  obtain ⟨fd_value_at, F_value_at⟩ := c.fn 11 (d := d_value_at) rfl
  obtain ⟨fd_is_trade, F_is_trade⟩ := c.fn 12 (d := d_is_trade) rfl
  obtain ⟨fd_check_trades, F_check_trades⟩ := c.fn 13 (d := d_check_trades) rfl
  obtain ⟨fd_check_generosity, F_check_generosity⟩ := c.fn 14 (d := d_check_generosity) rfl
  obtain ⟨fd_Offer_init, F_Offer_init⟩ := c.fn 15 (d := d_Offer_init) rfl
  obtain ⟨fd_Offer_trades, F_Offer_trades⟩ := c.fn 16 (d := d_Offer_trades) rfl
  obtain ⟨fd_Offer_kinds, F_Offer_kinds⟩ := c.fn 17 (d := d_Offer_kinds) rfl
  obtain ⟨fd_Offer_period, F_Offer_period⟩ := c.fn 18 (d := d_Offer_period) rfl
  obtain ⟨fd_Offer_steady_from, F_Offer_steady_from⟩ := c.fn 19 (d := d_Offer_steady_from) rfl
  obtain ⟨fd_Offer_drinks_for, F_Offer_drinks_for⟩ := c.fn 20 (d := d_Offer_drinks_for) rfl
  obtain ⟨fd_Offer_most_within, F_Offer_most_within⟩ := c.fn 21 (d := d_Offer_most_within) rfl
  obtain ⟨fd_Offer_call, F_Offer_call⟩ := c.fn 22 (d := d_Offer_call) rfl
  obtain ⟨fd_Offer_trades_made, F_Offer_trades_made⟩ := c.fn 23 (d := d_Offer_trades_made) rfl
  obtain ⟨fd_Offer_left_over, F_Offer_left_over⟩ := c.fn 24 (d := d_Offer_left_over) rfl
  obtain ⟨fd_Offer_rounds, F_Offer_rounds⟩ := c.fn 25 (d := d_Offer_rounds) rfl
  obtain ⟨fd_Offer_credit, F_Offer_credit⟩ := c.fn 26 (d := d_Offer_credit) rfl
  obtain ⟨fd_Offer_fewest_bottles, F_Offer_fewest_bottles⟩ := c.fn 27 (d := d_Offer_fewest_bottles) rfl
  obtain ⟨fd_Offer_missing, F_Offer_missing⟩ := c.fn 28 (d := d_Offer_missing) rfl
  obtain ⟨fd_Offer_count_missing, F_Offer_count_missing⟩ := c.fn 29 (d := d_Offer_count_missing) rfl
  obtain ⟨fd_Offer_nth_missing, F_Offer_nth_missing⟩ := c.fn 30 (d := d_Offer_nth_missing) rfl
  obtain ⟨fd_Offer_pooled, F_Offer_pooled⟩ := c.fn 31 (d := d_Offer_pooled) rfl
  obtain ⟨fd_Offer_add, F_Offer_add⟩ := c.fn 32 (d := d_Offer_add) rfl
  obtain ⟨fd_Offer_sub, F_Offer_sub⟩ := c.fn 33 (d := d_Offer_sub) rfl
  obtain ⟨fd_Offer_getitem, F_Offer_getitem⟩ := c.fn 34 (d := d_Offer_getitem) rfl
  obtain ⟨fd_Offer_iter, F_Offer_iter⟩ := c.fn 35 (d := d_Offer_iter) rfl
  obtain ⟨fd_Offer_bool, F_Offer_bool⟩ := c.fn 36 (d := d_Offer_bool) rfl
  obtain ⟨fd_Offer_contains, F_Offer_contains⟩ := c.fn 37 (d := d_Offer_contains) rfl
  obtain ⟨fd_Offer_le, F_Offer_le⟩ := c.fn 38 (d := d_Offer_le) rfl
  obtain ⟨fd_Offer_lt, F_Offer_lt⟩ := c.fn 39 (d := d_Offer_lt) rfl
  obtain ⟨fd_Offer_ge, F_Offer_ge⟩ := c.fn 40 (d := d_Offer_ge) rfl
  obtain ⟨fd_Offer_gt, F_Offer_gt⟩ := c.fn 41 (d := d_Offer_gt) rfl
  obtain ⟨fd_slack, F_slack⟩ := c.fn 42 (d := d_slack) rfl
  obtain ⟨fd_repetition, F_repetition⟩ := c.fn 43 (d := d_repetition) rfl
  obtain ⟨fd_never_more, F_never_more⟩ := c.fn 44 (d := d_never_more) rfl
  obtain ⟨fd_first_difference, F_first_difference⟩ := c.fn 45 (d := d_first_difference) rfl
  obtain ⟨fd_Candidates_init, F_Candidates_init⟩ := c.fn 46 (d := d_Candidates_init) rfl
  obtain ⟨fd_Candidates_narrowed, F_Candidates_narrowed⟩ := c.fn 47 (d := d_Candidates_narrowed) rfl
  obtain ⟨fd_Candidates_many_within, F_Candidates_many_within⟩ := c.fn 48 (d := d_Candidates_many_within) rfl
  obtain ⟨fd_Candidates_candidate, F_Candidates_candidate⟩ := c.fn 49 (d := d_Candidates_candidate) rfl
  obtain ⟨fd_drunk_in_round, F_drunk_in_round⟩ := c.fn 50 (d := d_drunk_in_round) rfl
  obtain ⟨fd_BottleObserver_init, F_BottleObserver_init⟩ := c.fn 51 (d := d_BottleObserver_init) rfl
  obtain ⟨fd_BottleObserver_accept, F_BottleObserver_accept⟩ := c.fn 52 (d := d_BottleObserver_accept) rfl
  obtain ⟨fd_BottleObserver_see_left, F_BottleObserver_see_left⟩ := c.fn 53 (d := d_BottleObserver_see_left) rfl
  obtain ⟨fd_BottleObserver_see_round, F_BottleObserver_see_round⟩ := c.fn 54 (d := d_BottleObserver_see_round) rfl
  obtain ⟨fd_BottleObserver_count_up_to, F_BottleObserver_count_up_to⟩ := c.fn 55 (d := d_BottleObserver_count_up_to) rfl
  obtain ⟨fd_BottleObserver_nth_possible, F_BottleObserver_nth_possible⟩ := c.fn 56 (d := d_BottleObserver_nth_possible) rfl
  obtain ⟨fd_law_mix, F_law_mix⟩ := c.fn 57 (d := d_law_mix) rfl
  obtain ⟨fd_law_next, F_law_next⟩ := c.fn 58 (d := d_law_next) rfl
  obtain ⟨fd_law_error, F_law_error⟩ := c.fn 59 (d := d_law_error) rfl
  obtain ⟨fd_law_trades, F_law_trades⟩ := c.fn 60 (d := d_law_trades) rfl
  obtain ⟨fd_law_offer, F_law_offer⟩ := c.fn 61 (d := d_law_offer) rfl
  obtain ⟨fd_law_buys, F_law_buys⟩ := c.fn 62 (d := d_law_buys) rfl
  obtain ⟨fd_law_limits_right, F_law_limits_right⟩ := c.fn 63 (d := d_law_limits_right) rfl
  obtain ⟨fd_law, F_law⟩ := c.fn 64 (d := d_law) rfl
  have cm := c.bools.2.1
  exact ⟨⟨DD.funS (d := d_InvalidOffer_init) rfl rfl rfl (c.fn0 0 (d := d_InvalidOffer_init) rfl).1 (c.fn0 0 (d := d_InvalidOffer_init) rfl).2 (okSup_of (more_at cm 0 (f := fun K => okSup K "InvalidOffer" "/claim/cut.py" (a_InvalidOffer_init K)) rfl)) (by decide +kernel) (by decide +kernel) (He.free_ok X G (c.fact 106 (f := .free "super") rfl)) rfl rfl,
    fd_is_integer,
    F_is_integer,
    He.glo_ok X G (c.fact 0 (f := .glo "is_integer") rfl),
    fd_is_number,
    F_is_number,
    He.glo_ok X G (c.fact 1 (f := .glo "is_number") rfl),
    fd_check_number,
    F_check_number,
    He.glo_ok X G (c.fact 2 (f := .glo "check_number") rfl),
    fd_is_label,
    F_is_label,
    He.glo_ok X G (c.fact 3 (f := .glo "is_label") rfl),
    fd_is_kind,
    F_is_kind,
    He.glo_ok X G (c.fact 4 (f := .glo "is_kind") rfl),
    fd_cost_of,
    F_cost_of,
    He.glo_ok X G (c.fact 5 (f := .glo "cost_of") rfl),
    fd_drinks_of_period,
    F_drinks_of_period,
    He.glo_ok X G (c.fact 6 (f := .glo "drinks_of_period") rfl),
    fd_tops_of,
    F_tops_of,
    He.glo_ok X G (c.fact 7 (f := .glo "tops_of") rfl),
    fd_firsts_of,
    F_firsts_of,
    He.glo_ok X G (c.fact 8 (f := .glo "firsts_of") rfl),
    fd_gaps_of,
    F_gaps_of,
    He.glo_ok X G (c.fact 9 (f := .glo "gaps_of") rfl),
    fd_value_at,
    F_value_at,
    He.glo_ok X G (c.fact 10 (f := .glo "value_at") rfl),
    fd_is_trade,
    F_is_trade,
    He.glo_ok X G (c.fact 11 (f := .glo "_is_trade") rfl),
    fd_check_trades,
    F_check_trades,
    He.glo_ok X G (c.fact 12 (f := .glo "_check_trades") rfl),
    fd_check_generosity,
    F_check_generosity,
    He.glo_ok X G (c.fact 13 (f := .glo "_check_generosity") rfl),
    fd_Offer_init,
    F_Offer_init,
    He.mkr_ok (c.fact 14 (f := .mkr "Offer") rfl),
    fd_Offer_trades,
    F_Offer_trades,
    okProp_of (more_at cm 1 (f := fun K => okProp K "Offer" "trades") rfl),
    fd_Offer_kinds,
    F_Offer_kinds,
    okProp_of (more_at cm 2 (f := fun K => okProp K "Offer" "kinds") rfl),
    fd_Offer_period,
    F_Offer_period,
    okProp_of (more_at cm 3 (f := fun K => okProp K "Offer" "period") rfl),
    fd_Offer_steady_from,
    F_Offer_steady_from,
    okProp_of (more_at cm 4 (f := fun K => okProp K "Offer" "steady_from") rfl),
    fd_Offer_drinks_for,
    F_Offer_drinks_for,
    He.meth_ok (c.fact 15 (f := .meth "Offer" "_drinks_for") rfl),
    fd_Offer_most_within,
    F_Offer_most_within,
    He.meth_ok (c.fact 16 (f := .meth "Offer" "_most_within") rfl),
    fd_Offer_call,
    F_Offer_call,
    okCallO_of (more_at cm 5 (f := fun K => okCallO K "Offer") rfl),
    fd_Offer_trades_made,
    F_Offer_trades_made,
    He.meth_ok (c.fact 17 (f := .meth "Offer" "trades_made") rfl),
    fd_Offer_left_over,
    F_Offer_left_over,
    He.meth_ok (c.fact 18 (f := .meth "Offer" "left_over") rfl),
    fd_Offer_rounds,
    F_Offer_rounds,
    He.meth_ok (c.fact 19 (f := .meth "Offer" "rounds") rfl),
    fd_Offer_credit,
    F_Offer_credit,
    He.meth_ok (c.fact 20 (f := .meth "Offer" "credit") rfl),
    fd_Offer_fewest_bottles,
    F_Offer_fewest_bottles,
    He.meth_ok (c.fact 21 (f := .meth "Offer" "fewest_bottles") rfl),
    fd_Offer_missing,
    F_Offer_missing,
    He.meth_ok (c.fact 22 (f := .meth "Offer" "missing") rfl),
    fd_Offer_count_missing,
    F_Offer_count_missing,
    He.meth_ok (c.fact 23 (f := .meth "Offer" "count_missing") rfl),
    fd_Offer_nth_missing,
    F_Offer_nth_missing,
    He.meth_ok (c.fact 24 (f := .meth "Offer" "nth_missing") rfl),
    fd_Offer_pooled,
    F_Offer_pooled,
    He.meth_ok (c.fact 25 (f := .meth "Offer" "pooled") rfl),
    fd_Offer_add,
    F_Offer_add,
    He.meth_ok (c.fact 26 (f := .meth "Offer" "__add__") rfl),
    fd_Offer_sub,
    F_Offer_sub,
    He.meth_ok (c.fact 27 (f := .meth "Offer" "__sub__") rfl),
    fd_Offer_getitem,
    F_Offer_getitem,
    He.meth_ok (c.fact 28 (f := .meth "Offer" "__getitem__") rfl),
    fd_Offer_iter,
    F_Offer_iter,
    He.meth_ok (c.fact 29 (f := .meth "Offer" "__iter__") rfl),
    fd_Offer_bool,
    F_Offer_bool,
    He.meth_ok (c.fact 30 (f := .meth "Offer" "__bool__") rfl),
    fd_Offer_contains,
    F_Offer_contains,
    He.meth_ok (c.fact 31 (f := .meth "Offer" "__contains__") rfl),
    fd_Offer_le,
    F_Offer_le,
    He.meth_ok (c.fact 32 (f := .meth "Offer" "__le__") rfl),
    fd_Offer_lt,
    F_Offer_lt,
    He.meth_ok (c.fact 33 (f := .meth "Offer" "__lt__") rfl),
    fd_Offer_ge,
    F_Offer_ge,
    He.meth_ok (c.fact 34 (f := .meth "Offer" "__ge__") rfl),
    fd_Offer_gt,
    F_Offer_gt,
    He.meth_ok (c.fact 35 (f := .meth "Offer" "__gt__") rfl),
    fd_slack,
    F_slack,
    He.glo_ok X G (c.fact 36 (f := .glo "_slack") rfl),
    fd_repetition,
    F_repetition,
    He.glo_ok X G (c.fact 37 (f := .glo "_repetition") rfl),
    fd_never_more,
    F_never_more,
    He.glo_ok X G (c.fact 38 (f := .glo "_never_more") rfl),
    fd_first_difference,
    F_first_difference,
    He.glo_ok X G (c.fact 39 (f := .glo "first_difference") rfl),
    fd_Candidates_init,
    F_Candidates_init,
    He.mkr_ok (c.fact 40 (f := .mkr "Candidates") rfl),
    fd_Candidates_narrowed,
    F_Candidates_narrowed,
    He.meth_ok (c.fact 41 (f := .meth "Candidates" "narrowed") rfl),
    fd_Candidates_many_within,
    F_Candidates_many_within,
    He.meth_ok (c.fact 42 (f := .meth "Candidates" "many_within") rfl),
    fd_Candidates_candidate,
    F_Candidates_candidate,
    He.meth_ok (c.fact 43 (f := .meth "Candidates" "candidate") rfl),
    fd_drunk_in_round,
    F_drunk_in_round,
    He.glo_ok X G (c.fact 44 (f := .glo "_drunk_in_round") rfl),
    fd_BottleObserver_init,
    F_BottleObserver_init,
    He.mkr_ok (c.fact 45 (f := .mkr "BottleObserver") rfl),
    fd_BottleObserver_accept,
    F_BottleObserver_accept,
    He.meth_ok (c.fact 46 (f := .meth "BottleObserver" "_accept") rfl),
    fd_BottleObserver_see_left,
    F_BottleObserver_see_left,
    He.meth_ok (c.fact 47 (f := .meth "BottleObserver" "see_left") rfl),
    fd_BottleObserver_see_round,
    F_BottleObserver_see_round,
    He.meth_ok (c.fact 48 (f := .meth "BottleObserver" "see_round") rfl),
    fd_BottleObserver_count_up_to,
    F_BottleObserver_count_up_to,
    He.meth_ok (c.fact 49 (f := .meth "BottleObserver" "count_up_to") rfl),
    fd_BottleObserver_nth_possible,
    F_BottleObserver_nth_possible,
    He.meth_ok (c.fact 50 (f := .meth "BottleObserver" "nth_possible") rfl),
    fd_law_mix,
    F_law_mix,
    He.glo_ok X G (c.fact 51 (f := .glo "_law_mix") rfl),
    fd_law_next,
    F_law_next,
    He.glo_ok X G (c.fact 52 (f := .glo "_law_next") rfl),
    fd_law_error,
    F_law_error,
    He.glo_ok X G (c.fact 53 (f := .glo "_law_error") rfl),
    fd_law_trades,
    F_law_trades,
    He.glo_ok X G (c.fact 54 (f := .glo "_law_trades") rfl),
    fd_law_offer,
    F_law_offer,
    He.glo_ok X G (c.fact 55 (f := .glo "_law_offer") rfl),
    fd_law_buys,
    F_law_buys,
    He.glo_ok X G (c.fact 56 (f := .glo "_law_buys") rfl),
    fd_law_limits_right,
    F_law_limits_right,
    He.glo_ok X G (c.fact 57 (f := .glo "_law_limits_right") rfl),
    fd_law,
    F_law,
    He.glo_ok X G (c.fact 58 (f := .glo "law") rfl),
    He.glo_ok X G (c.fact 59 (f := .glo "Offer") rfl),
    He.cls_ok (c.fact 60 (f := .cls "Offer") rfl),
    okRead_of (more_at cm 6 (f := fun K => okRead K "Offer") rfl),
    He.noat_ok (c.fact 61 (f := .noat "Offer" "_trades") rfl),
    He.noat_ok (c.fact 62 (f := .noat "Offer" "_period") rfl),
    He.noat_ok (c.fact 63 (f := .noat "Offer" "_tops") rfl),
    He.noat_ok (c.fact 64 (f := .noat "Offer" "_firsts") rfl),
    He.noat_ok (c.fact 65 (f := .noat "Offer" "_gaps") rfl),
    okCVal_of (more_at cm 7 (f := fun K => okCVal K "Offer" "MAX_TRADES" (.int 3)) rfl),
    okCVal_of (more_at cm 8 (f := fun K => okCVal K "Offer" "MAX_NEEDED" (.int 12)) rfl),
    He.glo_ok X G (c.fact 66 (f := .glo "Candidates") rfl),
    He.cls_ok (c.fact 67 (f := .cls "Candidates") rfl),
    He.noat_ok (c.fact 68 (f := .noat "Candidates" "_start") rfl),
    He.noat_ok (c.fact 69 (f := .noat "Candidates" "_early") rfl),
    He.noat_ok (c.fact 70 (f := .noat "Candidates" "_span") rfl),
    He.noat_ok (c.fact 71 (f := .noat "Candidates" "_offsets") rfl),
    He.glo_ok X G (c.fact 72 (f := .glo "BottleObserver") rfl),
    He.cls_ok (c.fact 73 (f := .cls "BottleObserver") rfl),
    He.noat_ok (c.fact 74 (f := .noat "BottleObserver" "_offer") rfl),
    He.noat_ok (c.fact 75 (f := .noat "BottleObserver" "_possible") rfl),
    He.noat_ok (c.fact 76 (f := .noat "BottleObserver" "_observations") rfl),
    He.int_ok X G (c.fact 77 (f := .int "MAX_NUMBER" (1000000000000000000)) rfl),
    He.int_ok X G (c.fact 78 (f := .int "MAX_LABEL_LENGTH" (8)) rfl),
    He.str_ok X G (c.fact 79 (f := .str "DRINK" "drink") rfl),
    He.int_ok X G (c.fact 80 (f := .int "MAX_LEFT" (12)) rfl),
    He.int_ok X G (c.fact 81 (f := .int "MAX_LOOKED_AT" (10000)) rfl),
    He.free_ok X G (c.fact 82 (f := .free "len") rfl),
    He.free_ok X G (c.fact 83 (f := .free "sum") rfl),
    He.free_ok X G (c.fact 84 (f := .free "max") rfl),
    He.free_ok X G (c.fact 85 (f := .free "min") rfl),
    He.free_ok X G (c.fact 86 (f := .free "all") rfl),
    He.free_ok X G (c.fact 87 (f := .free "any") rfl),
    He.free_ok X G (c.fact 88 (f := .free "isinstance") rfl),
    He.free_ok X G (c.fact 89 (f := .free "range") rfl),
    He.free_ok X G (c.fact 90 (f := .free "enumerate") rfl),
    He.free_ok X G (c.fact 91 (f := .free "zip") rfl),
    He.free_ok X G (c.fact 92 (f := .free "list") rfl),
    He.free_ok X G (c.fact 93 (f := .free "tuple") rfl),
    He.free_ok X G (c.fact 94 (f := .free "int") rfl),
    He.free_ok X G (c.fact 95 (f := .free "bool") rfl),
    He.free_ok X G (c.fact 96 (f := .free "str") rfl),
    He.free_ok X G (c.fact 97 (f := .free "dict") rfl),
    He.free_ok X G (c.fact 98 (f := .free "divmod") rfl),
    He.glo_ok X G (c.fact 99 (f := .glo "TradeError") rfl),
    okExc_of (more_at cm 9 (f := fun K => okExc K "TradeError") rfl),
    He.glo_ok X G (c.fact 100 (f := .glo "InvalidOffer") rfl),
    okExcI_of (more_at cm 10 (f := fun K => okExcI K "InvalidOffer") rfl),
    He.glo_ok X G (c.fact 101 (f := .glo "TooGenerous") rfl),
    okExc_of (more_at cm 11 (f := fun K => okExc K "TooGenerous") rfl),
    He.glo_ok X G (c.fact 102 (f := .glo "InvalidNumber") rfl),
    okExc_of (more_at cm 12 (f := fun K => okExc K "InvalidNumber") rfl),
    He.glo_ok X G (c.fact 103 (f := .glo "UnknownKind") rfl),
    okExc_of (more_at cm 13 (f := fun K => okExc K "UnknownKind") rfl),
    He.glo_ok X G (c.fact 104 (f := .glo "InvalidStep") rfl),
    okExcI_of (more_at cm 14 (f := fun K => okExcI K "InvalidStep") rfl),
    He.glo_ok X G (c.fact 105 (f := .glo "Contradiction") rfl),
    okExc_of (more_at cm 15 (f := fun K => okExc K "Contradiction") rfl),
    okExcC_of (more_at cm 16 (f := fun K => okExcC K (He.ga K "TradeError")) rfl),
    okExcC_of (more_at cm 17 (f := fun K => okExcC K (He.ga K "InvalidOffer")) rfl),
    okExcC_of (more_at cm 18 (f := fun K => okExcC K (He.ga K "InvalidNumber")) rfl),
    of_decide_eq_true (more_at cm 19 (f := fun K => decide (PySem.W.subIn K (.ref (He.ga K "InvalidNumber")) (.type "StopIteration") = some false)) rfl),
    okKit_of (more_at cm 20 (f := fun K => okKit K "InvalidNumber") rfl),
    okExcC_of (more_at cm 21 (f := fun K => okExcC K (He.ga K "UnknownKind")) rfl),
    okKit_of (more_at cm 22 (f := fun K => okKit K "UnknownKind") rfl),
    He.free_ok X G (c.fact 106 (f := .free "super") rfl),
    He.free_ok X G (c.fact 107 (f := .free "ValueError") rfl),
    okBlt_of X G (more_at cm 23 (f := fun K => okBlt K "gcd" "math.gcd") rfl),
    okBlt_of X G (more_at cm 24 (f := fun K => okBlt K "lcm" "math.lcm") rfl)⟩⟩
end EB

/-! A law that makes lambdas: the tables of code objects, in the heap and at the head. -/
namespace EB
open PySem PySem.Spec PyProof.Rows L2
/-- the head's facts and the tables of the defs tf: empty, not in K -/
structure SaysL (fa : List He.Fa) (more : PySem.W.Frag → Bool) (ds : List DD) (tf : List He.Defn) (h : Heap) (K : PySem.W.Frag) : Prop where
  t : Says fa more ds K
  hd : ∀ p ∈ tf, PySem.W.codeHdIn K (He.cT K p).1 (He.cT K p).2 = true
  out : ∀ p ∈ tf, K.lookup (He.cT K p).2 = none
  empty : ∀ p ∈ tf, h.get? (He.cT K p).2 = some { cls := .none, data := .fields #[] }
abbrev SeenL : Type := Seen × Bool
def obsL (fa : List He.Fa) (more : PySem.W.Frag → Bool) (ds : List DD) (tf : List He.Defn) (g : Addr → Option Obj) (as : List Addr) : SeenL := (seen fa more ds (He.frT g as), He.tabsB g tf (He.frT g as))
theorem saysL_of {fa : List He.Fa} {more : PySem.W.Frag → Bool} {ds : List DD} {tf : List He.Defn} {h : Heap} {as : List Addr} (e : obsL fa more ds tf h.get? as = (want ds, true)) : SaysL fa more ds tf h (He.frT h.get? as) := by
  have e1 : seen fa more ds (He.frT h.get? as) = want ds := congrArg (fun z : SeenL => z.1) e
  have h2 : He.tabsB h.get? tf (He.frT h.get? as) = true := congrArg (fun z : SeenL => z.2) e
  have key : ∀ p ∈ tf, PySem.W.codeHdIn (He.frT h.get? as) (He.cT (He.frT h.get? as) p).1 (He.cT (He.frT h.get? as) p).2 = true ∧ ∃ o, h.get? (He.cT (He.frT h.get? as) p).2 = some o ∧ He.emptyTab o = true := fun p hp => by
    obtain ⟨h3, h4⟩ := Bool.and_eq_true_iff.mp (List.all_eq_true.mp h2 p hp)
    refine ⟨h3, ?_⟩
    cases q : h.get? (He.cT (He.frT h.get? as) p).2 with
    | none =>
      rw [q] at h4
      cases h4
    | some o =>
      rw [q] at h4
      exact ⟨o, rfl, h4⟩
  exact ⟨e1, fun p hp => (key p hp).1, fun p hp => by
    obtain ⟨_, o, q, z⟩ := key p hp
    exact He.frT_none q z, fun p hp => by
    obtain ⟨_, o, q, z⟩ := key p hp
    rw [q, He.emptyTab_eq z]⟩
def hookL (n : Nat) (fa : List He.Fa) (more : PySem.W.Frag → Bool) (ds : List DD) (tf : List He.Defn) : PySem.W.Hook where
  α := SeenL
  obs := fun s => obsL fa more ds tf s.heap.get? (cStatics :: He.asD s.heap.get? n)
  val := fun _ => (want ds, true)
  says := fun _ h => ∃ K : PySem.W.Frag, K.In h ∧ SaysL fa more ds tf h K
  of := fun _ _ e => ⟨_, He.frT_in, saysL_of e⟩
  keeps := fun _ _ _ ⟨K, hK, c⟩ k => ⟨K, PySem.W.Frag.In.keeps hK k, ⟨c.t, c.hd, c.out, fun p hp => k _ _ (c.empty p hp)⟩⟩
section
variable {P : Program} {w : World} {K : PySem.W.Frag} {mg : Str → Option Value} {base : Heap}
/-- a def whose code object is known -/
theorem fnCK0 {d : DD} {fd : FuncData} {N ps : List Str} {k : Nat} {sp : Sp} {c : Addr} (F : FnP K d fd) (hc : fd.code = .ref c) (S : FnScope N ps (defScope d.st)) (len : ∀ vs H Q E, sp vs H Q E → vs.length = ps.length)
    (hbody : ∀ (A : Around) (outer : List Env) (s : Shared) (H : Hp) (vs : List V) (Q : VK) (E : XK), Room k (A.deeper (envOfC d.ql (defScope d.st) s.heap.objs.size (d.adr K) (.ref c))) → sp vs H Q E →
      ∃ t, PSs (cxOf CX0 P w K mg base N d.ql (defScope d.st) (d.adr K) (.ref c) A outer s H E).nox (defBody d.st) t ∧ t { nx := fun _ H' => Q .non H', rt := Q } (start N vs) H) :
    FnOk P w K mg base CX0 (k + 1) (d.adr K) fd ps sp := by
  obtain ⟨oc, od, dV, kV, doc, pm, an, cdv, ct, osl, rfl, lk, hcd, _, _⟩ := F.ex
  obtain rfl : cdv = .ref c := hc
  refine fn_of lk hcd S len fun A outer s H vs Q E hr hsp => ?_
  obtain ⟨t, h1, h2⟩ := hbody A outer s H vs Q E hr hsp
  exact ⟨t, h1.nox, h2⟩
theorem code_of {d : DD} {fd : FuncData} (F : FnP K d fd) : ∃ oc od osl c, K.lookup (d.adr K) = some ⟨oc, od, .func fd, osl⟩ ∧ fd.code = .ref c := by
  obtain ⟨oc, od, dV, kV, doc, pm, an, cdv, ct, osl, rfl, lk, hcd, _, _⟩ := F.ex
  obtain ⟨c, rfl⟩ := He.codeIn_ref hcd
  exact ⟨oc, od, osl, c, lk, rfl⟩
end
/-! ### the heap without its tables -/
def nt (H : Hp) : Hp := fun b => match H b with
  | some (.tbl _) => none
  | o => o
theorem nt_same {H : Hp} : Same (nt H) H := fun b o e => by
  unfold nt at e
  split at e
  · cases e
  · exact e
theorem nt_no {H : Hp} {b : Addr} {ps : Array Value} : nt H b ≠ some (.tbl ps) := fun e => by
  unfold nt at e
  split at e
  · cases e
  · rename_i h
    exact h ps e
theorem nt_at {H : Hp} {b : Addr} {o : HO} (e : H b = some o) (h : ∀ ps, o ≠ .tbl ps) : nt H b = some o := by
  unfold nt
  rw [e]
  cases o with
  | tbl ps => exact absurd rfl (h ps)
  | _ => rfl
theorem nt_ext {H H1 : Hp} (e : LamX.ExtN H H1) : Same (nt H) H1 := fun b o z => e b o (nt_same b o z) fun ps q => by
  rw [q] at z
  exact nt_no z
/-- a heap that knows no table -/
def NoT (H : Hp) : Prop := ∀ b ps, H b ≠ some (.tbl ps)
theorem nt_noT {H : Hp} : NoT (nt H) := fun b ps => nt_no
theorem same_nt {B H : Hp} (n : NoT B) (s : Same B H) : Same B (nt H) := fun b o e => nt_at (s b o e) fun ps q => n b ps (by rw [e, q])
theorem tabS_same {H H' : Hp} {P : Addr} {q : Str} (t : LamX.TabS H P q) (s : Same H H') : LamX.TabS H' P q := t.ext s
end EB

namespace EB
open PySem PySem.Spec PyProof.Rows L2
abbrev R : PySem.W.OpenRow := PySem.W.OpenLaw.row PySem.Challenge.rw_emptiesback_k13_numbers_out_of_range
def df1 : He.Defn := (("law" : Str), none)
def df2 : He.Defn := (("_law_limits_right" : Str), none)
def tfs : List He.Defn := [df1, df2]
def more2 (K : PySem.W.Frag) : Bool := moreB K && decide ((He.cT K df1).2 ≠ (He.cT K df2).2)
abbrev hk : PySem.W.Hook := hookL 5 fas more2 dds tfs
def ob (s : PySem.W.SharedT) : SeenL := obsL fas more2 dds tfs (HandSHeadRun.getT s) (cStatics :: He.asD (HandSHeadRun.getT s) 5)
theorem ob_eq (s : PySem.W.SharedT) : ob s = hk.obs s.abs := by
  have e : HandSHeadRun.getT s = s.abs.heap.get? := funext (HandSHeadRun.getT_eq s)
  unfold ob
  rw [e] <;> rfl
def loose0 : List Str := ["_wall", "__name__", "TradeError", "InvalidOffer", "TooGenerous", "UnknownKind", "InvalidNumber", "InvalidStep", "Contradiction", "MAX_NUMBER", "MAX_LABEL_LENGTH", "DRINK", "is_integer", "is_number", "check_number", "is_label", "is_kind", "cost_of", "drinks_of_period", "tops_of"]
def loose1 : List Str := ["firsts_of", "gaps_of", "value_at", "MAX_LEFT", "MAX_LOOKED_AT", "_is_trade", "_check_trades", "_check_generosity", "Offer", "_slack", "_repetition", "_never_more", "first_difference", "Candidates", "_drunk_in_round", "BottleObserver", "_law_mix", "_law_next", "_law_error", "_law_trades"]
def loose2 : List Str := ["_law_offer", "_law_buys", "_law_limits_right"]
def loose : List Str := loose0 ++ loose1 ++ loose2
theorem run (w : World) : HandSHeadRun.RunEqI R (PySem.W.view R.prog [0, 50]) hk ob 12000 loose w := by
  unfold HandSHeadRun.RunEqI
  kernel_rfl
theorem says_of2 {K : PySem.W.Frag} (c : Says fas more2 dds K) : Says fas moreB dds K ∧ (He.cT K df1).2 ≠ (He.cT K df2).2 := by
  have h2 := c.bools.2.1
  obtain ⟨h1, h3⟩ := Bool.and_eq_true_iff.mp (show (moreB K && decide ((He.cT K df1).2 ≠ (He.cT K df2).2)) = true from h2)
  refine ⟨?_, of_decide_eq_true h3⟩
  unfold Says seen at c ⊢
  rw [h2] at c
  rw [h1]
  exact c
end EB

/-! enumerate over a tuple; lcm. -/
namespace EB
open PySem PySem.Spec PyProof.Rows L2
def rLcm : List V → Hp → VK → Prop := fun vs H Q => ∃ x y : Int, vs = [.int x, .int y] ∧ x.natAbs < 2 ^ 64 ∧ y.natAbs < 2 ^ 64 ∧ Q (.int ((x.natAbs.lcm y.natAbs : Nat) : Int)) H
theorem cr_lcm {X : Cx} : CallR X (.builtin "math.lcm") rLcm := by
  rintro pins s σ H vs us Q I r ⟨x, y, rfl, hx, hy, q⟩
  obtain ⟨t, u, rfl⟩ := Vals.int2 r
  exact PySem.W.mc_lcm hx hy fun _ => ⟨.int _, H, I.tok _, ⟨_, rfl⟩, q⟩
/-- sum of a tuple of ints -/
def rSumT (K : PySem.W.Frag) : List V → Hp → VK → Prop := fun vs H Q => ∃ (a : Addr) (ns : List Int), vs = [V.ref a] ∧ SqT K H a (ns.map V.int) ∧ Q (.int ns.sum) H
theorem cr_sumT {X : Cx} (hc : X.calm = true) : CallR X (.builtin "sum") (rSumT X.K) := by
  rintro pins s σ H vs us Q I r ⟨a, ns, rfl, hs, q⟩
  obtain ⟨its, rv, ht, _⟩ := I.tuple hs
  rw [Vals.ref1 r]
  have hi : IntsAre its ns := rv.ints
  obtain ⟨xs, e⟩ := hi.allInts.items
  have hn : numsOf (intItems xs).toList = ns := by
    rw [← e]
    exact hi.numsOf
  rw [nums_intItems] at hn
  have ht2 : s.heap.IsTuple a (intItems xs) := by
    rw [← e]
    exact ht
  refine PySem.W.ktm_sumG (I.ok.hd hc) ht2 fun h' tk t' hk => ?_
  rw [preSum_eq, List.take_of_length_le (by simp), hn]
  exact ⟨.int _, H, I.kept hk, ⟨_, rfl⟩, q⟩
/-- o.m(), a positional promise -/
theorem pe_methR0 {X : Cx} {CX : CXT} {k : Nat} {C f : Addr} {m : Str} {sp : Sp} {E : XK} {o : Expr} {ta : TE} {apos pos : Pos} {pl : Sem Bool} (he : PE X o ta) (c : Cls X.K C) (hm : Meth X.K C m f) (F : FnR X.prog X.w X.K X.mg X.base CX k f sp) (hr : Room k X.A) (hx : Passes CX X E)
    (ht : eval (.Call (.Attribute o m apos) [] [] pos) X.env = (do
      let v ← eval o X.env
      standAt apos.atName
      let (g, fst) ← holding [v] (getMethod v m pl)
      callWith pos g fst (backTo pos (starEach [] X.env)) (backToKw pos (keywordEach [] X.env))) := by rfl) : PE X (.Call (.Attribute o m apos) [] [] pos) (tM0 C m sp E ta) := by
  constructor
  intro pins s σ H Q I h
  refine PySem.W.methodCall_KW (pl := pl) (thn (he.run pins s σ H _ I h) fun u s1 ⟨x, H1, I1, rx, a, dx, fs, ex, ea, l, q⟩ => ?_) ht
  subst ex
  obtain rfl : u = Value.ref a := rx
  refine getmeth_ok I1 ea c hm l ?_
  exact PySem.W.callWith_K0 (first := [.ref a]) I1.kIn hm.kp (wpAny_call (run_fnR (us := [.ref a]) (vs := [.ref a]) F hr hx I1 (.cons rfl .nil) q))
theorem meets_enumV {v : Value} {o : Obj} {G : Heap → Prop} (B : Begins v o G) :
    Meets (Builtin.«enumerate.__new__» ⟨[.type "enumerate", v], []⟩) (fun _ R s => G s.heap ∧
      R (.ok (.ret (.ref (s.heap.push o).objs.size))) { s with heap := (s.heap.push o).push { cls := .type "enumerate", data := .fields #[.none, .bool false, .ref s.heap.objs.size, rawInt 0, .none, .none] } }) :=
  .of_wp fun prog w A R s h => by
    obtain ⟨hp, g, d, tk, os⟩ := s
    obtain ⟨h1, h⟩ := h
    have hsub := sub_enumerate
    have q1 : ∀ {A' : Around} {E : Value → Shared → Prop} {Q : Value → Shared → Prop}, Q (.ref hp.objs.size) ⟨hp.push o, g, d, tk, os⟩ → wpAny (model prog w) A' (pyIter v) Q E ⟨hp, g, d, tk, os⟩ :=
      fun q => B.iter prog w _ _ ⟨hp, g, d, tk, os⟩ _ h1 q
    wp_walk using q1
    refine wpAny_stack_any fun st => wpAny_pure ?_
    split
    · rename_i c _ _ _ _ _
      cases (c == Value.type "enumerate")
      · wp_walk using q1
        exact ⟨_, rfl, h⟩
      · wp_walk using q1
        exact ⟨_, rfl, h⟩
    · wp_walk using q1
      exact ⟨_, rfl, h⟩
theorem call_enumT {prog : Program} {w : World} {A : Around} {E : Value → Shared → Prop} {s : Shared} {a : Addr} {its : Array Value} {Q : Value → Shared → Prop} (ht : s.heap.IsTuple a its)
    (h : ∀ h', IsEnum h' (s.heap.objs.size + 1) s.heap.objs.size 0 .none → h'.IsTupleIter s.heap.objs.size a 0 → (∀ b o, s.heap.get? b = some o → h'.get? b = some o) → Q (.ref (s.heap.objs.size + 1)) { s with heap := h' }) :
    wpAny (model prog w) A (call (.type "enumerate") [.ref a]) Q E s := by
  refine callType_new F.called_enumerate (by decide) (F.typeCall_enumerate_1 _) (F.newCall_enumerate_1 _) (fun obj => F.args_object_init_2 obj _) F.entry_enumerate_new (meets_enumV (begins_tuple a its)) ⟨ht, ?_⟩
  have hz : (s.heap.push { cls := .type "tuple_iterator", data := .fields #[.ref a, .int 0 0] }).objs.size = s.heap.objs.size + 1 := Heap.size_push ..
  show _ ∧ _
  rw [hz]
  have he : IsEnum ((s.heap.push { cls := .type "tuple_iterator", data := .fields #[.ref a, .int 0 0] }).push { cls := .type "enumerate", data := .fields #[.none, .bool false, .ref s.heap.objs.size, rawInt 0, .none, .none] }) (s.heap.objs.size + 1) s.heap.objs.size 0 .none := by
    have z := Heap.get?_push_size (s.heap.push { cls := .type "tuple_iterator", data := .fields #[.ref a, .int 0 0] }) (o := { cls := .type "enumerate", data := .fields #[.none, .bool false, .ref s.heap.objs.size, rawInt 0, .none, .none] }) rfl
    rw [hz] at z
    exact z
  exact ⟨⟨_, he, rfl⟩, h _ he ⟨_, Heap.get?_push_of_some _ (Heap.get?_push_size _ rfl), rfl, rfl⟩ fun b o x => Heap.get?_push_of_some _ (Heap.get?_push_of_some _ x)⟩
/-- the tuple at a as it stands at each turn, each item in a new pair with its place -/
def ItE (K : PySem.W.Frag) (a : Addr) : It :=
  ⟨fun i H => ∃ (xs : List V) (x : V), SqT K H a xs ∧ xs[i]? = some x, fun i H v H' => ∃ q x, v = .ref q ∧ H q = none ∧ H' = upd H q (.tup [.int (i : Nat), x]) ∧ ∀ xs, SqT K H a xs → xs[i]? = some x,
    fun i H => ∃ xs : List V, SqT K H a xs ∧ xs.length = i⟩
theorem turn_E {P : Program} {w : World} {K : PySem.W.Frag} {elts : List Expr} {kk : Nat} {tpos : Pos} (a e it : Addr) :
    Turn P w K (.Tuple elts kk tpos) (ItE K a) [e, it] e (fun i h => (∃ old, IsEnum h e it ((i : Nat) : Int) old) ∧ h.IsTupleIter it a i ∧ e ≠ it ∧ a ≠ it ∧ a ≠ e) where
  mem := by simp
  obj := fun i h st b hb => by
    obtain ⟨⟨old, he⟩, ⟨o, ho, hc, hd⟩, _⟩ := st
    rcases (show b = e ∨ b = it by simpa using hb) with rfl | rfl
    · exact ⟨_, he, fun v q => nomatch q⟩
    · exact ⟨o, ho, fun v q => by rw [hd] at q; cases q⟩
  keep := fun i h h' st k => by
    obtain ⟨⟨old, he⟩, hi, hne⟩ := st
    exact ⟨⟨old, k e (by simp) _ he⟩, hi.at fun o q => k it (by simp) o q, hne⟩
  item := by
    intro X hP hw hK hc i pins s σ H E I hf st hg
    subst hP hw hK
    obtain ⟨⟨old, he⟩, hit, hne, hai, hae⟩ := st
    obtain ⟨xs, x, hq, hx⟩ := hg
    obtain ⟨its, rv, p, hz⟩ := I.tuple hq
    obtain ⟨u, hu, ru⟩ := rv.get hx
    have hlt : i < its.toArray.size := by
      have z := (List.getElem?_eq_some_iff.mp hu).1
      simpa using z
    have hel : e < s.heap.objs.size := Heap.lt_size he
    have hil : it < s.heap.objs.size := by
      obtain ⟨_, q, _⟩ := hit
      exact Heap.lt_size q
    have p' : s.heap.IsTuple a its.toArray := p
    refine wpAny_pyNext_enum_itemC (Draws.tuple (prog := X.prog) (w := X.w) (show X.A.in1.handled = none from I.ok.hd hc) it a hai its.toArray) he ⟨hit, p'⟩ hlt hne (by simp [hne, Ne.symm hae]) fun u' h' tk hu' ho hs' hT hsz hk => ?_
    have eu : u' = u := by
      have z : its.toArray[i]? = some u' := hu'
      rw [show its.toArray[i]? = some u by simpa using hu] at z
      exact (Option.some.inj z).symm
    subst eu
    refine ⟨_, rfl, wpAny_letOwnedTupleGo_enum (s := { s with heap := h', toks := tk + 1 }) ho fun h'' he' sb => ?_⟩
    have hT2 : h''.get? s.heap.objs.size = some { cls := .type "tuple", data := .seq #[.int i tk, u'] } := (sb.2 _ (Nat.ne_of_gt hel)).trans hT
    have new : ObjOk X.prog X.w (upd H s.heap.objs.size (.tup [.int (i : Nat), x])) h'' s.heap.objs.size (.tup [.int (i : Nat), x]) := by
      refine ⟨?_, [.int i tk, u'], .cons ⟨_, rfl⟩ (.cons ru .nil), ⟨_, hT2, rfl, _, rfl⟩⟩
      show 2 ≤ sizeLine
      decide
    have I1 : Inv X pins σ (upd H s.heap.objs.size (.tup [.int (i : Nat), x])) { s with heap := h'', toks := tk + 1 } := by
      refine I.turnedNew (ch := [e, it]) (fun b ob hb q => ?_) hf (Nat.le_refl _) new
      have b1 : b ≠ e := fun z => hb (by simp [z])
      have b2 : b ≠ it := fun z => hb (by simp [z])
      exact (sb.2 b b1).trans (hk b ob b1 b2 q)
    refine ⟨.ref s.heap.objs.size, _, I1, rfl, ⟨_, x, rfl, I.hok.fresh (Nat.le_refl _), rfl, fun ys hy => ?_⟩, ⟨⟨u', ?_⟩, ?_, hne, hai, hae⟩, fun b hb => ?_⟩
    · rw [I.tuple_inj hy hq]
      exact hx
    · rw [show ((i + 1 : Nat) : Int) = (i : Int) + 1 by omega]
      exact he'
    · exact hs'.1.at fun o q => (sb.2 it (Ne.symm hne)).trans q
    · have hb' : b < s.heap.objs.size := by
        rcases (show b = e ∨ b = it by simpa using hb) with rfl | rfl
        · exact hel
        · exact hil
      rw [upd_ne (Nat.ne_of_lt hb')]
      exact (hf b hb).1
  done := by
    intro X hP hw hK hc i pins s σ H E I hf st hg
    subst hP hw hK
    obtain ⟨⟨old, he⟩, hit, hne, hai, hae⟩ := st
    obtain ⟨xs, hq, hx⟩ := hg
    obtain ⟨its, rv, p, hz⟩ := I.tuple hq
    obtain ⟨f0, f1, f2, f3, f4, f5⟩ := hf it (by simp)
    have hl := rv.length
    have p' : s.heap.IsTuple a its.toArray := p
    have es : its.toArray.size = i := by
      rw [List.size_toArray]
      omega
    refine wpAny_pyNext_enum_endD (Draws.tuple (prog := X.prog) (w := X.w) (show X.A.in1.handled = none from I.ok.hd hc) it a hai its.toArray) he ?_ fun h' eb => ⟨rfl, I.turned (t' := s.toks) (fun b o hb q => eb b o hb q) f0 f1 f3 f4 f5⟩
    rw [es]
    exact ⟨hit, p'⟩
  self := fun A i s Q E st h => by
    obtain ⟨⟨_, he⟩, _⟩ := st
    exact wpAny_pyIter_enum he h
def iEnumT (K : PySem.W.Frag) (ta : TA) : TI := fun σ H R => ta σ H fun vs H1 => ∃ a xs, vs = [.ref a] ∧ SqT K H1 a xs ∧ R (ItE K a) H1
theorem pi_enumT {X : Cx} {e : Expr} {ta : TA} {p pos tpos : Pos} {elts : List Expr} {kk : Nat} (hg : Gl X "enumerate") (hm : X.mg "enumerate" = none) (ha : PA X [e] ta) (hs : starEach [e] X.env = [(false, eval e X.env)] := by rfl) :
    PI X (.Tuple elts kk tpos) (.Call (.Name "enumerate" p) [e] [] pos) (iEnumT X.K ta) := by
  constructor
  intro pins s σ H R I h
  refine Call_ (ld_blt I hg hm boot_enumerate (PyProof.Rows.callWith_type1 (thn (ha.run pos pins s σ H _ I h) fun us s1 ⟨vs, H1, I1, r1, q1⟩ => ?_) hs rfl))
  obtain ⟨a, xs, rfl, hq, q⟩ := q1
  cases r1 with
  | cons r rr =>
    cases rr
    cases r
    obtain ⟨its, rv, p', hz⟩ := I1.tuple hq
    have al : a < s1.heap.objs.size := by
      obtain ⟨_, z, _⟩ := (show s1.heap.IsTuple a its.toArray from p')
      exact Heap.lt_size z
    refine call_enumT (show s1.heap.IsTuple a its.toArray from p') fun h' he hit hk => wpAny_pyIter_enum he ?_
    have I2 : Inv X pins σ H1 { s1 with heap := h' } := I1.kept (t' := s1.toks) hk
    refine ⟨s1.heap.objs.size + 1, [s1.heap.objs.size + 1, s1.heap.objs.size], _, _, H1, rfl, I2, turn_E a (s1.heap.objs.size + 1) s1.heap.objs.size, ⟨⟨.none, he⟩, hit, Nat.succ_ne_self _, Nat.ne_of_lt al, Nat.ne_of_lt (Nat.lt_succ_of_lt al)⟩, fun b hb => ?_, q⟩
    have hle : s1.heap.objs.size ≤ b := by
      rcases (show b = s1.heap.objs.size + 1 ∨ b = s1.heap.objs.size by simpa using hb) with z | z
      · rw [z]
        exact Nat.le_add_right _ _
      · rw [z]
        exact Nat.le_refl _
    exact I1.fpOk hle (I1.hok.fresh hle)
theorem walk_enumT {K : PySem.W.Frag} {a : Addr} {xs : List V} : Walk (ItE K a) xs.length (fun H => SqT K H a xs) (YPair (fun i => some (.int (i : Nat))) (fun i => xs[i]?)) where
  goes := fun i H hi hs => ⟨xs, xs[i], hs, List.getElem?_eq_getElem hi⟩
  stops := fun H hs => ⟨xs, hs, rfl⟩
  yields := fun i H x H' hi hs h => by
    obtain ⟨q, y, e1, e2, e3, e4⟩ := h
    exact ⟨q, .int (i : Nat), y, e1, e2, e3, rfl, e4 xs hs⟩
end EB
namespace EB
open PySem PySem.Spec PyProof.Rows L2
section
variable {X : Cx} {CX : CXT} {k : Nat} {C g : Addr} {sp : Sp} {E : XK}
/-- x in o, o an instance whose class says __contains__ -/
def rInO (C : Addr) (neg : Bool) (sp : Sp) (E : XK) : R2 := fun x y H Q => ∃ a dx fs, y = .ref a ∧ H a = some (.ins C dx fs) ∧ sp [y, x] H (fun z H' => ∃ b, z = .bl b ∧ Q (.bl (if neg then !b else b)) H') E
theorem op_inO (hs : PySem.W.findIn X.K (.ref C) "__contains__" = some (some (.ref g))) (hf : PySem.W.isFn X.K (.ref g) = true) (F : FnR X.prog X.w X.K X.mg X.base CX k g sp) (hr : Room k X.A) (hx : Passes CX X E) : OpR X (compareOp .In) (rInO C false sp E) := by
  rintro pins s σ H x y v u Q I rx ry ⟨a, dx, fs, rfl, ha, q⟩
  cases (show u = Value.ref a from ry)
  obtain ⟨ox, od, J, _⟩ := StX.insC_at I (.inr ⟨dx, fs, ha⟩)
  obtain ⟨m, hF⟩ := I.fr
  refine PySem.W.in_K hF I.ok.mod.kin J hs hf (thn (wpAny_call (run_fnR (us := [.ref a, v]) (vs := [.ref a, x]) F hr hx I (.cons rfl (.cons rx .nil)) q)) fun w' s' hz => ?_)
  obtain ⟨z, H', I', rz, b, rfl, qb⟩ := hz
  exact thn (tru_ok (X := X) pins s' σ H' (.bl b) w' (fun k H'' => k = b ∧ H'' = H') I' rz ⟨b, rfl, rfl, rfl⟩) fun k s'' ⟨H'', I'', e1, e2⟩ => by
    subst e1 e2
    exact ⟨.bl k, H'', I'', rfl, qb⟩
theorem op_notInO (hs : PySem.W.findIn X.K (.ref C) "__contains__" = some (some (.ref g))) (hf : PySem.W.isFn X.K (.ref g) = true) (F : FnR X.prog X.w X.K X.mg X.base CX k g sp) (hr : Room k X.A) (hx : Passes CX X E) : OpR X (compareOp .NotIn) (rInO C true sp E) := by
  rintro pins s σ H x y v u Q I rx ry ⟨a, dx, fs, rfl, ha, q⟩
  cases (show u = Value.ref a from ry)
  obtain ⟨ox, od, J, _⟩ := StX.insC_at I (.inr ⟨dx, fs, ha⟩)
  obtain ⟨m, hF⟩ := I.fr
  refine PySem.W.notIn_K hF I.ok.mod.kin J hs hf (thn (wpAny_call (run_fnR (us := [.ref a, v]) (vs := [.ref a, x]) F hr hx I (.cons rfl (.cons rx .nil)) q)) fun w' s' hz => ?_)
  obtain ⟨z, H', I', rz, b, rfl, qb⟩ := hz
  exact thn (tru_ok (X := X) pins s' σ H' (.bl b) w' (fun k H'' => k = b ∧ H'' = H') I' rz ⟨b, rfl, rfl, rfl⟩) fun k s'' ⟨H'', I'', e1, e2⟩ => by
    subst e1 e2
    exact ⟨.bl (!k), H'', I'', rfl, qb⟩
/-- x op y, both instances; the class of x says op -/
def rCmpO (K : PySem.W.Frag) (C : Addr) (sp : Sp) (E : XK) : R2 := fun x y H Q => ∃ a dx fs b dy gs, x = .ref a ∧ y = .ref b ∧ H a = some (.ins C dx fs) ∧ H b = some (.ins C dy gs) ∧ PySem.W.notFirst K C (.ref C) = true ∧ sp [x, y] H Q E
theorem op_cmpO {op : CmpOp} (hop : ∀ a b, compareOp op a b = richCompare op a b) (hs : PySem.W.findIn X.K (.ref C) (cmpInfo op).2.1 = some (some (.ref g))) (hf : PySem.W.isFn X.K (.ref g) = true) (F : FnR X.prog X.w X.K X.mg X.base CX k g sp)
    (hr : Room k X.A) (hx : Passes CX X E) : OpR X (compareOp op) (rCmpO X.K C sp E) := by
  rintro pins s σ H x y v u Q I rx ry ⟨a, dx, fs, b, dy, gs, rfl, rfl, ha, hb, hn, q⟩
  cases (show v = Value.ref a from rx)
  cases (show u = Value.ref b from ry)
  obtain ⟨_, _, J, _⟩ := StX.insC_at I (.inr ⟨dx, fs, ha⟩)
  obtain ⟨_, _, J', _⟩ := StX.insC_at I (.inr ⟨dy, gs, hb⟩)
  obtain ⟨m, hF⟩ := I.fr
  rw [hop]
  refine PySem.W.cmp_K (op := op) (tb := .ref C) hr.units0 hF I.ok.mod.kin J J'.type hn hs hf (thn (wpAny_call (run_fnR (us := [.ref a, .ref b]) (vs := [.ref a, .ref b]) F hr hx I (.cons rfl (.cons rfl .nil)) q)) fun w' s' hz => ?_)
  obtain ⟨z, H', I', rz, qz⟩ := hz
  exact SlX.cmpback rz ⟨z, H', I', rz, qz⟩
end
end EB
namespace EB
open PySem PySem.Spec PyProof.Rows L2
section
variable {X : Cx} {CX : CXT} {k : Nat} {C g : Addr} {sp : Sp} {E : XK} {fe e : Expr} {es : List Expr} {tf : TE} {t : TA} {pos : Pos}
/-- o(e, ..), o an instance; its reading names no context -/
def tCallI (C : Addr) (sp : Sp) (E : XK) (tf : TE) (t : TA) : TE := fun σ H Q => tf σ H fun y H1 => ∃ a, y = V.ref a ∧ t σ H1 fun vs H2 => (∃ dx fs, H2 a = some (.ins C dx fs)) ∧ sp (V.ref a :: vs) H2 Q E
theorem pe_callI (hf : PE X fe tf) (c : StX.CallO X.K C g) (F : FnR X.prog X.w X.K X.mg X.base CX k g sp) (hr : Room k X.A) (hx : Passes CX X E) (ha : PA X (e :: es) t)
    (ht : eval (.Call fe (e :: es) [] pos) X.env = (do callWith pos (← eval fe X.env) [] (backTo pos (starEach (e :: es) X.env)) (backToKw pos (keywordEach [] X.env))) := by rfl)
    (hs : starEach (e :: es) X.env = (false, eval e X.env) :: starEach es X.env := by rfl) (hp : (backTo pos (starEach es X.env)).any (·.1) = false := by rfl) : PE X (.Call fe (e :: es) [] pos) (tCallI C sp E tf t) := by
  constructor
  intro pins s σ H Q I h
  refine Call_ (thn (hf.run pins s σ H _ I h) fun u s1 ⟨y, H1, I1, ry, a, ey, q⟩ => ?_) ht
  subst ey
  obtain rfl : u = Value.ref a := ry
  refine StX.callO_with (thn (ha.run pos pins s1 σ H1 _ I1 q) fun us s2 ⟨vs, H2, I2, r, hi, q2⟩ => ?_) hs hp
  obtain ⟨ox, od, J, hd⟩ := StX.insC_at I2 (.inr hi)
  exact ⟨⟨C, ox, od, J, hd⟩, StX.run_callO c F hr hx I2 (.inr hi) r q2⟩
end
end EB

namespace EB
/-! ### costs -/
structure CF (c : Nat → Int) (P B : Nat) : Prop where
  zero : c 0 = 0
  step : ∀ d, c (d + 1) ≤ c d + 1
  per : ∀ d, c (d + P) = c d + B
  ppos : 0 < P
  ten : ∀ d : Nat, (d : Int) ≤ 10 * c d
  sub : ∀ x y, c (x + y) ≤ c x + c y
namespace CF
variable {c : Nat → Int} {P B : Nat}
theorem bpos (h : CF c P B) : 0 < B := by
  have h1 := h.ten P
  have h2 := h.per 0
  have h3 := h.zero
  have h4 := h.ppos
  rw [Nat.zero_add, h3] at h2
  omega
theorem nonneg (h : CF c P B) (d : Nat) : 0 ≤ c d := by
  have := h.ten d
  omega
theorem le_self (h : CF c P B) : ∀ d : Nat, c d ≤ d
  | 0 => by rw [h.zero]; exact Int.le_refl _
  | d + 1 => by
    have h1 := h.le_self d
    have h2 := h.step d
    push_cast
    omega
theorem steps (h : CF c P B) (d : Nat) : ∀ k : Nat, c (d + k) ≤ c d + k
  | 0 => by simp
  | k + 1 => by
    have h1 := h.steps d k
    have h2 := h.step (d + k)
    rw [← Nat.add_assoc]
    push_cast
    omega
theorem perm (h : CF c P B) (d : Nat) : ∀ k : Nat, c (d + k * P) = c d + k * B
  | 0 => by simp
  | k + 1 => by
    have h1 := h.perm d k
    have h2 := h.per (d + k * P)
    rw [Nat.succ_mul, ← Nat.add_assoc, h2, h1]
    push_cast
    rw [Int.add_mul]
    omega
end CF
/-- the number of drinks of n bottles -/
def IsD (c : Nat → Int) (n d : Nat) : Prop := (n : Int) ≤ c d ∧ ∀ j, j < d → c j < n
theorem IsD.uniq {c : Nat → Int} {n d e : Nat} (h : IsD c n d) (g : IsD c n e) : d = e := by
  rcases Nat.lt_trichotomy d e with q | q | q
  · have := g.2 d q
    have := h.1
    omega
  · exact q
  · have := h.2 e q
    have := g.1
    omega
theorem least (p : Nat → Prop) [DecidablePred p] : ∀ n, p n → ∃ d, p d ∧ ∀ j, j < d → ¬ p j := by
  intro n
  induction n using Nat.strongRecOn with
  | ind n ih =>
    intro hn
    by_cases q : ∃ j, j < n ∧ p j
    · obtain ⟨j, hj, pj⟩ := q
      exact ih j hj pj
    · exact ⟨n, hn, fun j hj pj => q ⟨j, hj, pj⟩⟩
theorem CF.exD {c : Nat → Int} {P B : Nat} (h : CF c P B) (n : Nat) : ∃ d, IsD c n d := by
  have h1 : (n : Int) ≤ c (10 * n) := by
    have := h.ten (10 * n)
    push_cast at this
    omega
  obtain ⟨d, hd, hj⟩ := least (fun d => (n : Int) ≤ c d) (10 * n) h1
  exact ⟨d, hd, fun j q => by have := hj j q; omega⟩
open Classical in
noncomputable def D (c : Nat → Int) (n : Nat) : Nat := if h : ∃ d, IsD c n d then Classical.choose h else 0
/-- the greatest cost up to d -/
def T (c : Nat → Int) : Nat → Int
  | 0 => c 0
  | d + 1 => if c (d + 1) > T c d then c (d + 1) else T c d
namespace CF
variable {c : Nat → Int} {P B : Nat}
theorem D_is (h : CF c P B) (n : Nat) : IsD c n (D c n) := by
  have e := h.exD n
  unfold D
  rw [dif_pos e]
  exact Classical.choose_spec e
theorem D_eq (h : CF c P B) {n d : Nat} (g : IsD c n d) : D c n = d := (h.D_is n).uniq g
theorem D_cost (h : CF c P B) (n : Nat) : c (D c n) = n := by
  have g := h.D_is n
  cases e : D c n with
  | zero =>
    rw [e] at g
    have g1 := g.1
    rw [h.zero] at g1 ⊢
    omega
  | succ d =>
    rw [e] at g
    have g1 := g.1
    have g2 := g.2 d (Nat.lt_succ_self d)
    have g3 := h.step d
    omega
theorem D_zero (h : CF c P B) : D c 0 = 0 := h.D_eq ⟨by rw [h.zero]; exact Int.le_refl _, fun j q => absurd q (Nat.not_lt_zero j)⟩
theorem D_ge (h : CF c P B) (n : Nat) : n ≤ D c n := by
  have := h.D_cost n
  have := h.le_self (D c n)
  omega
theorem D_le_ten (h : CF c P B) (n : Nat) : D c n ≤ 10 * n := by
  have := h.D_cost n
  have := h.ten (D c n)
  omega
theorem D_lt (h : CF c P B) {n m : Nat} (q : n < m) : D c n < D c m := by
  have h1 := h.D_is n
  have h2 := h.D_cost m
  have h3 := h.D_cost n
  apply Nat.lt_of_not_le
  intro z
  rcases Nat.lt_or_eq_of_le z with z | z
  · have := h1.2 _ z
    omega
  · rw [z] at h2
    omega
theorem D_mono (h : CF c P B) {n m : Nat} (q : n ≤ m) : D c n ≤ D c m := by
  rcases Nat.lt_or_eq_of_le q with q | q
  · exact Nat.le_of_lt (h.D_lt q)
  · rw [q]; exact Nat.le_refl _
theorem D_super (h : CF c P B) (a b : Nat) : D c a + D c b ≤ D c (a + b) := by
  apply Nat.le_of_not_lt
  intro q
  have ca := h.D_cost a
  have cb := h.D_cost b
  have cab := h.D_cost (a + b)
  have ha := h.D_is a
  have hb := h.D_is b
  by_cases z : D c (a + b) < D c a
  · have := ha.2 _ z
    push_cast at cab
    omega
  · cases e : D c a with
    | zero =>
      rw [e] at ca q
      rw [h.zero] at ca
      have : a = 0 := by omega
      rw [this, Nat.zero_add, Nat.zero_add] at q
      exact Nat.lt_irrefl _ q
    | succ x =>
      rw [e] at q z ha
      have hx := ha.2 x (Nat.lt_succ_self x)
      obtain ⟨y, hy⟩ : ∃ y, D c (a + b) = x + y := ⟨D c (a + b) - x, by omega⟩
      have hs := h.sub x y
      rw [hy] at cab q
      push_cast at cab
      rcases Nat.lt_or_ge y (D c b) with w | w
      · have := hb.2 y w
        omega
      · have : y = D c b := by omega
        rw [this, cb] at hs
        rw [this] at cab
        omega
/-! ### the greatest cost -/
theorem T_ge (c : Nat → Int) : ∀ {d j : Nat}, j ≤ d → c j ≤ T c d
  | 0, j, q => by
    have : j = 0 := by omega
    rw [this]
    exact Int.le_refl _
  | d + 1, j, q => by
    unfold T
    rcases Nat.lt_or_eq_of_le q with q | q
    · have := T_ge c (d := d) (j := j) (by omega)
      split <;> omega
    · rw [q]
      split <;> omega
theorem T_at (c : Nat → Int) : ∀ d : Nat, ∃ j, j ≤ d ∧ T c d = c j
  | 0 => ⟨0, Nat.le_refl _, rfl⟩
  | d + 1 => by
    unfold T
    split
    · exact ⟨d + 1, Nat.le_refl _, rfl⟩
    · obtain ⟨j, q, e⟩ := T_at c d
      exact ⟨j, by omega, e⟩
theorem T_mono (c : Nat → Int) {d e : Nat} (q : d ≤ e) : T c d ≤ T c e := by
  obtain ⟨j, hj, ej⟩ := T_at c d
  rw [ej]
  exact T_ge c (by omega)
theorem T_eq (c : Nat → Int) {d : Nat} {t : Int} (h1 : ∃ j, j ≤ d ∧ c j = t) (h2 : ∀ j, j ≤ d → c j ≤ t) : T c d = t := by
  obtain ⟨j, hj, ej⟩ := h1
  obtain ⟨i, hi, ei⟩ := T_at c d
  have := T_ge c hj
  have := h2 i hi
  omega
theorem T_nonneg (h : CF c P B) (d : Nat) : 0 ≤ T c d := by
  have := T_ge c (Nat.zero_le d)
  rw [h.zero] at this
  exact this
theorem T_step (h : CF c P B) (d : Nat) : T c (d + 1) ≤ T c d + 1 := by
  show (if c (d + 1) > T c d then c (d + 1) else T c d) ≤ T c d + 1
  have := T_ge c (Nat.le_refl d)
  have := h.step d
  split <;> omega
/-- n bottles give at most d drinks just if n is at most the greatest cost up to d -/
theorem D_le_iff (h : CF c P B) {n d : Nat} : D c n ≤ d ↔ (n : Int) ≤ T c d := by
  constructor
  · intro q
    have := T_ge c q
    rw [h.D_cost] at this
    exact this
  · intro q
    obtain ⟨j, hj, ej⟩ := T_at c d
    apply Nat.le_of_not_lt
    intro z
    have := (h.D_is n).2 j (by omega)
    omega
theorem T_per (h : CF c P B) {d : Nat} (q : P ≤ d + 1) : T c (d + P) = T c d + B := by
  refine T_eq c ?_ ?_
  · obtain ⟨j, hj, ej⟩ := T_at c d
    exact ⟨j + P, by omega, by rw [h.per, ej]⟩
  · intro j hj
    rcases Nat.lt_or_ge j P with z | z
    · have := T_ge c (d := d) (j := j) (by omega)
      omega
    · obtain ⟨i, rfl⟩ : ∃ i, j = i + P := ⟨j - P, by omega⟩
      rw [h.per]
      have := T_ge c (d := d) (j := i) (by omega)
      omega
theorem T_perk (h : CF c P B) {d : Nat} (q : P ≤ d + 1) : ∀ k : Nat, T c (d + k * P) = T c d + k * B
  | 0 => by simp
  | k + 1 => by
    have h1 := h.T_perk q k
    have h2 := h.T_per (d := d + k * P) (by omega)
    rw [Nat.succ_mul, ← Nat.add_assoc, h2, h1]
    push_cast
    rw [Int.add_mul]
    omega
/-- from T (P - 1) + 1 - B on, drinks repeat -/
theorem D_per (h : CF c P B) {n : Nat} (q : T c (P - 1) < n + B) : D c (n + B) = D c n + P := by
  refine h.D_eq ⟨?_, fun j hj => ?_⟩
  · rw [h.per, h.D_cost]
    push_cast
    exact Int.le_refl _
  · rcases Nat.lt_or_ge j P with z | z
    · have := T_ge c (d := P - 1) (j := j) (by omega)
      push_cast
      omega
    · obtain ⟨i, rfl⟩ : ∃ i, j = i + P := ⟨j - P, by omega⟩
      rw [h.per]
      have := (h.D_is n).2 i (by omega)
      push_cast
      omega
theorem D_perk (h : CF c P B) {n : Nat} (q : T c (P - 1) < n + B) : ∀ k : Nat, D c (n + k * B) = D c n + k * P
  | 0 => by simp
  | k + 1 => by
    have h1 := h.D_perk q k
    have h2 := h.D_per (n := n + k * B) (by push_cast; have : (0:Int) ≤ (k : Int) * B := Int.mul_nonneg (Int.natCast_nonneg _) (Int.natCast_nonneg _); omega)
    rw [Nat.succ_mul, ← Nat.add_assoc, h2, h1, Nat.succ_mul, Nat.add_assoc]
theorem D_per_not (h : CF c P B) {n : Nat} (q : (n : Int) + B ≤ T c (P - 1)) : D c (n + B) < D c n + P := by
  have := (h.D_le_iff (n := n + B) (d := P - 1)).mpr (by push_cast; exact q)
  have := h.ppos
  omega
end CF
end EB

namespace EB
open PySem PySem.Spec PyProof.Rows L2
/-! ### data -/
/-- one trade -/
structure Tr where
  k : Str
  l : Int
  n : Int
def Tr.vs (t : Tr) : List V := [.str t.k, .int t.l, .int t.n]
def Tr.ok (t : Tr) : Prop := 0 ≤ t.l ∧ t.l ≤ 12 ∧ 1 ≤ t.n ∧ t.n ≤ 12
structure TrAt (K : PySem.W.Frag) (H : Hp) (a : Addr) (ts : List Tr) : Prop where
  ex : ∃ ps : List Addr, SqT K H a (ps.map V.ref) ∧ ps.length = ts.length ∧ ∀ (i : Nat) (p : Addr) (t : Tr), ps[i]? = some p → ts[i]? = some t → SqT K H p t.vs
theorem TrAt.mono {K : PySem.W.Frag} {H H' : Hp} {a : Addr} {ts : List Tr} (s : Same H H') (h : TrAt K H a ts) : TrAt K H' a ts := by
  obtain ⟨ps, h1, h2, h3⟩ := h.ex
  exact ⟨ps, Same.tup s h1, h2, fun i p t a b => Same.tup s (h3 i p t a b)⟩
theorem TrAt.at_ {K : PySem.W.Frag} {H : Hp} {ts : List Tr} {ps : List Addr} {i : Nat} {x : V} (h2 : ps.length = ts.length) (h3 : ∀ (i : Nat) (p : Addr) (t : Tr), ps[i]? = some p → ts[i]? = some t → SqT K H p t.vs)
    (hx : (ps.map V.ref)[i]? = some x) : ∃ (p : Addr) (t : Tr), x = .ref p ∧ ps[i]? = some p ∧ ts[i]? = some t ∧ t ∈ ts ∧ i < ts.length ∧ SqT K H p t.vs := by
  rw [List.getElem?_map] at hx
  cases ep : ps[i]? with
  | none =>
    rw [ep] at hx
    cases hx
  | some p =>
    rw [ep] at hx
    cases hx
    have li : i < ts.length := by
      rw [← h2]
      exact (List.getElem?_eq_some_iff.mp ep).1
    have et : ts[i]? = some ts[i] := List.getElem?_eq_getElem li
    exact ⟨p, ts[i], rfl, rfl, et, List.getElem_mem li, li, h3 i p _ ep et⟩
def buys (ts : List Tr) (d : Int) : Int := (ts.map fun t => t.l * d / t.n).sum
def cost (ts : List Tr) (d : Int) : Int := d - buys ts d
def gds (ts : List Tr) : Prop := ts.length ≤ 3 ∧ ∀ t ∈ ts, t.ok
theorem small3 {n : Nat} (h : n ≤ 100000) : n < sizeLine := Nat.lt_of_le_of_lt h (by decide)
theorem int_at {ns : List Int} {i : Nat} {x : V} (h : (ns.map V.int)[i]? = some x) : ∃ c, ns[i]? = some c ∧ x = .int c := by
  rw [List.getElem?_map] at h
  cases e : ns[i]? with
  | none =>
    rw [e] at h
    cases h
  | some c =>
    rw [e] at h
    exact ⟨c, rfl, (Option.some.inj h).symm⟩
theorem lt_of_at {α : Type} {l : List α} {i : Nat} {x : α} (h : l[i]? = some x) : i < l.length := (List.getElem?_eq_some_iff.mp h).1
theorem take_at {α : Type} {l : List α} {i : Nat} {x : α} (h : l[i]? = some x) : l.take (i + 1) = l.take i ++ [x] := by
  rw [List.take_add_one, h]
  rfl
section
variable {P : Program} {w : World} {K : PySem.W.Frag} {mg : Str → Option Value} {base : Heap}
/-- a def that lets nothing out -/
theorem fnK0 {d : DD} {fd : FuncData} {N ps : List Str} {k : Nat} {sp : Sp} (F : FnP K d fd) (S : FnScope N ps (defScope d.st)) (len : ∀ vs H Q E, sp vs H Q E → vs.length = ps.length)
    (hbody : ∀ (cdv : Value) (A : Around) (outer : List Env) (s : Shared) (H : Hp) (vs : List V) (Q : VK) (E : XK), Room k (A.deeper (envOfC d.ql (defScope d.st) s.heap.objs.size (d.adr K) cdv)) → sp vs H Q E →
      ∃ t, PSs (cxOf CX0 P w K mg base N d.ql (defScope d.st) (d.adr K) cdv A outer s H E).nox (defBody d.st) t ∧ t { nx := fun _ H' => Q .non H', rt := Q } (start N vs) H) :
    FnOk P w K mg base CX0 (k + 1) (d.adr K) fd ps sp := FunD.ok F S len fun cdv A outer s H vs Q E hr h => by
  obtain ⟨t, h1, h2⟩ := hbody cdv A outer s H vs Q E hr h
  exact ⟨t, h1.nox, h2⟩
/-- .. without defaults -/
theorem fnR0 {d : DD} {fd : FuncData} {N ps : List Str} {k : Nat} {sp : Sp} (F : FnP K d fd) (S : FnScope N ps (defScope d.st)) (e : d.df = [])
    (b : ∀ (kV doc pm : Value) (an : Option Addr) (cdv ct : Value) (us : List Value), us.length = ps.length → bindArgs (PySem.W.fnOf d.nm d.ql (defArgs d.st) (defBody d.st) (defScope d.st) .none kV doc pm an cdv ct) ⟨us, []⟩ = pure (ps.zip us))
    (len : ∀ vs H Q E, sp vs H Q E → vs.length = ps.length)
    (hbody : ∀ (cdv : Value) (A : Around) (outer : List Env) (s : Shared) (H : Hp) (vs : List V) (Q : VK) (E : XK), Room k (A.deeper (envOfC d.ql (defScope d.st) s.heap.objs.size (d.adr K) cdv)) → sp vs H Q E →
      ∃ t, PSs (cxOf CX0 P w K mg base N d.ql (defScope d.st) (d.adr K) cdv A outer s H E).nox (defBody d.st) t ∧ t { nx := fun _ H' => Q .non H', rt := Q } (start N vs) H) :
    FnR P w K mg base CX0 (k + 1) (d.adr K) sp := by
  have F1 : FnOk P w K mg base CX0 (k + 1) (d.adr K) fd ps sp := FunD.ok F S len fun cdv A outer s H vs Q E hr h => by
    obtain ⟨t, h1, h2⟩ := hbody cdv A outer s H vs Q E hr h
    exact ⟨t, h1.nox, h2⟩
  have F2 : FunD K d.nm d.ql (defArgs d.st) (defBody d.st) (defScope d.st) [] [] (d.adr K) fd := by
    have z : FnP K d fd := F
    unfold FnP at z
    rw [e] at z
    exact z
  refine (F1.raw (F2.bindsN b) .nil).imp fun vs H Q E h => ?_
  rw [List.append_nil]
  exact h
end
def perS (d : Nat) (t : Tr) : Nat := d.lcm (t.n / ((t.l.natAbs.gcd t.n.natAbs : Nat) : Int)).natAbs
def per (ts : List Tr) : Nat := ts.foldl perS 1
theorem gcd_pos' {t : Tr} (ht : t.ok) : 0 < ((t.l.natAbs.gcd t.n.natAbs : Nat) : Int) ∧ ((t.l.natAbs.gcd t.n.natAbs : Nat) : Int) ≤ 12 := by
  obtain ⟨_, _, h3, h4⟩ := ht
  have h5 : 0 < t.n.natAbs := by omega
  have h6 : 0 < t.l.natAbs.gcd t.n.natAbs := Nat.gcd_pos_of_pos_right _ h5
  have h7 : t.l.natAbs.gcd t.n.natAbs ≤ t.n.natAbs := Nat.gcd_le_right _ h5
  omega
theorem quo_le {t : Tr} (ht : t.ok) : (t.n / ((t.l.natAbs.gcd t.n.natAbs : Nat) : Int)).natAbs ≤ 12 := by
  have h1 := gcd_pos' ht
  have h2 := ht.2.2.1
  have h3 := ht.2.2.2
  have h4 : 0 ≤ t.n / ((t.l.natAbs.gcd t.n.natAbs : Nat) : Int) := Int.ediv_nonneg (by omega) (by omega)
  have h5 : t.n / ((t.l.natAbs.gcd t.n.natAbs : Nat) : Int) ≤ t.n := Int.ediv_le_self _ (by omega)
  omega
theorem per_le : ∀ (ts : List Tr) (d : Nat), (∀ t ∈ ts, t.ok) → ts.foldl perS d ≤ d * 12 ^ ts.length
  | [], d, _ => by simp
  | t :: ts, d, h => by
    have h1 := per_le ts (perS d t) fun u hu => h u (List.mem_cons_of_mem _ hu)
    have h2 : perS d t ≤ d * 12 := Nat.le_trans (PySem.W.mc_lcm_le _ _) (Nat.mul_le_mul_left _ (quo_le (h t (List.mem_cons_self ..))))
    have h3 : perS d t * 12 ^ ts.length ≤ d * 12 * 12 ^ ts.length := Nat.mul_le_mul_right _ h2
    rw [List.foldl_cons, List.length_cons, Nat.pow_succ]
    rw [Nat.mul_assoc, Nat.mul_comm 12] at h3
    omega
theorem per_most {ts : List Tr} (h : gds ts) (i : Nat) : (ts.take i).foldl perS 1 ≤ 1728 := by
  have h1 := per_le (ts.take i) 1 fun t ht => h.2 t (List.mem_of_mem_take ht)
  have h2 : (ts.take i).length ≤ 3 := by
    rw [List.length_take]
    have := h.1
    omega
  have h3 : 12 ^ (ts.take i).length ≤ 12 ^ 3 := Nat.pow_le_pow_right (by omega) h2
  omega
section
variable {P : Program} {w : World} {K : PySem.W.Frag} {mg : Str → Option Value} {base : Heap} (T : Tx K mg)
include T
/-! ### patterns -/
def spCost (K : PySem.W.Frag) : Sp := fun vs H Q _ => ∃ (a : Addr) (ts : List Tr) (d : Int), vs = [.ref a, .int d] ∧ TrAt K H a ts ∧ gds ts ∧ ∀ H', Same H H' → Q (.int (cost ts d)) H'
theorem ok_cost_of : FnR P w K mg base CX0 1 (a_cost_of K) (spCost K) := by
  refine fnR0 (d := d_cost_of) T.F_cost_of sc_cost_of rfl (fun _ _ _ _ _ _ us hl => match us, hl with | [_, _], _ => rfl) (fun vs H Q E h => ?_) (fun cdv A outer s H vs Q E hr h => ?_)
  · obtain ⟨a, ts, d, rfl, _⟩ := h
    rfl
  obtain ⟨a, ts, d, rfl, hT, ⟨hlen, hok⟩, k⟩ := h
  obtain ⟨ps, h1, h2, h3⟩ := hT.ex
  refine ⟨_, (pss_one (ps_ret (pe_op op_sub (pv 1) (pe_callB (cr_sum rfl) (by rfl) T.n_sum (by decide +kernel) (pa_cons (pe_lc (own := [("_", 2), ("left", 3), ("needed", 4)]) rfl sc_cost_of.nd (pi_tup (pv 0)) (blkOk_by (own := [("_", 2), ("left", 3), ("needed", 4)]) (N := N_cost_of) (sc := defScope s_cost_of) (by decide +kernel)) (fun _ _ _ _ _ => (pg_tupB (n := 3) (pgs_cons (pg_name (i := 2) sc_cost_of.nd rfl (Or.inl rfl) (.inr rfl)) (pgs_cons (pg_name (i := 3) sc_cost_of.nd rfl (Or.inl rfl) (.inr rfl)) (pgs_cons (pg_name (i := 4) sc_cost_of.nd rfl (Or.inl rfl) (.inr rfl)) pgs_nil))))) (fun _ _ _ _ _ => pts_nil) (fun _ _ _ _ _ => (pe_op op_fdiv (pe_op op_mul (pv 3) (pv 1)) (pv 4)))) pa_nil))))), ?_⟩
  refine ⟨_, rfl, _, rfl, a, rfl, ⟨_, h1⟩, fun D hD => ?_⟩
  refine lc_tup (xs := ps.map V.ref) (fun i H1 => Same H H1 ∧ H D = none ∧ H1 D = some (.lst ((ts.take i).map fun t => V.int (t.l * d / t.n)))) ⟨same_new hD, hD, upd_same⟩ (fun i H1 _ q => Same.tup q.1 h1) ?_ ?_
  · rintro i x H1 hx ⟨s1, n1, e1⟩
    obtain ⟨p, t, rfl, ep, et, hm, li, hp⟩ := TrAt.at_ h2 h3 hx
    have ht := hok _ hm
    refine ⟨p, _, rfl, Same.tup s1 hp, rfl, _, _, rfl, _, _, rfl, _, _, rfl, rfl, rfl, ?_⟩
    refine ⟨_, rfl, _, rfl, _, _, rfl, rfl, .inl ⟨by have := ht.1; omega, by have := ht.2.1; omega⟩, _, rfl, _, _, rfl, rfl, ⟨by have := ht.2.2.1; omega, by have := ht.2.2.2; omega⟩, ?_⟩
    refine ⟨_, e1, small3 ?_, same_mut s1 n1, n1, ?_⟩
    · rw [List.length_map, List.length_take]
      omega
    · rw [upd_same, take_at et, List.map_append]
      rfl
  · rintro H1 ⟨s1, n1, e1⟩
    refine ⟨D, ts.map fun t => t.l * d / t.n, rfl, SqL.of ?_, ?_⟩
    · rw [e1, List.length_map, h2, List.take_length, List.map_map]
      rfl
    · exact ⟨_, _, rfl, rfl, k _ s1⟩
def spPer (K : PySem.W.Frag) : Sp := fun vs H Q _ => ∃ (a : Addr) (ts : List Tr), vs = [.ref a] ∧ TrAt K H a ts ∧ gds ts ∧ ∀ H', Same H H' → Q (.int (per ts : Nat)) H'
theorem ok_drinks_of_period : FnR P w K mg base CX0 1 (a_drinks_of_period K) (spPer K) := by
  refine fnR0 (d := d_drinks_of_period) T.F_drinks_of_period sc_drinks_of_period rfl (fun _ _ _ _ _ _ us hl => match us, hl with | [_], _ => rfl) (fun vs H Q E h => ?_) (fun cdv A outer s H vs Q E hr h => ?_)
  · obtain ⟨a, ts, rfl, _⟩ := h
    rfl
  obtain ⟨a, ts, rfl, hT, hg, k⟩ := h
  obtain ⟨ps, h1, h2, h3⟩ := hT.ex
  refine ⟨_, (pss_cons (ps_set (i := 1) sc_drinks_of_period.nd rfl (Or.inl rfl) pe_int) (pss_cons (ps_for PassesOwn.never rfl (pi_tup (pv 0)) (pg_tup rfl (pgs_cons (pg_name (i := 2) sc_drinks_of_period.nd rfl (Or.inl rfl)) (pgs_cons (pg_name (i := 3) sc_drinks_of_period.nd rfl (Or.inl rfl)) (pgs_cons (pg_name (i := 4) sc_drinks_of_period.nd rfl (Or.inl rfl)) pgs_nil)))) (pss_one (ps_set (i := 1) sc_drinks_of_period.nd rfl (Or.inl rfl) (pe_callBfun cr_lcm (by rfl) T.b_lcm (pa_cons (pv 1) (pa_cons (pe_op op_fdiv (pv 4) (pe_callBfun cr_gcd (by rfl) T.b_gcd (pa_cons (pv 3) (pa_cons (pv 4) pa_nil)))) pa_nil)))))) (pss_one (ps_ret (pv 1))))), ?_⟩
  refine ⟨_, rfl, a, rfl, ⟨_, h1⟩, for_tup (xs := ps.map V.ref) (fun i σ H1 => H1 = H ∧ ∃ x2 x3 x4, σ = [some (.ref a), some (.int (((ts.take i).foldl perS 1 : Nat) : Int)), x2, x3, x4]) ⟨rfl, _, _, _, rfl⟩ (fun i σ H1 _ q => by rw [q.1]; exact h1) ?_ ?_⟩
  · rintro i x σ H1 hx ⟨rfl, x2, x3, x4, rfl⟩
    obtain ⟨p, t, rfl, ep, et, hm, li, hp⟩ := TrAt.at_ h2 h3 hx
    have ht := hg.2 _ hm
    have hq := gcd_pos' ht
    refine ⟨p, _, rfl, hp, rfl, _, _, rfl, _, _, rfl, _, _, rfl, rfl, ?_⟩
    refine ⟨_, rfl, _, rfl, _, rfl, _, rfl, _, _, rfl, _, _, rfl, rfl, ⟨hq.1, by omega⟩, _, _, rfl, ?_, ?_, rfl, some (.str t.k), some (.int t.l), some (.int t.n), ?_⟩
    · have := per_most hg i
      exact Nat.lt_of_le_of_lt (by omega : _ ≤ 1728) (by decide)
    · exact Nat.lt_of_le_of_lt (quo_le ht) (by decide)
    · rw [take_at et, List.foldl_append]
      rfl
  · rintro σ H1 ⟨rfl, x2, x3, x4, rfl⟩
    refine ⟨_, rfl, ?_⟩
    have e : (ts.take (ps.map V.ref).length).foldl perS 1 = per ts := by
      rw [List.length_map, h2, List.take_length]
      rfl
    rw [e]
    exact k _ (Same.refl _)
end
end EB

namespace EB
open PySem PySem.Spec PyProof.Rows L2
/-! ### tables -/
def topsF : Int → List Int → List Int
  | _, [] => []
  | m, c :: cs => (if m < c then c else m) :: topsF (if m < c then c else m) cs
def topsM (m : Int) (cs : List Int) : Int := cs.foldl (fun m c => if m < c then c else m) m
theorem topsF_length : ∀ (m : Int) (cs : List Int), (topsF m cs).length = cs.length
  | _, [] => rfl
  | m, c :: cs => by
    show (topsF _ cs).length + 1 = _
    rw [topsF_length]
    rfl
theorem topsF_snoc : ∀ (m : Int) (cs : List Int) (c : Int), topsF m (cs ++ [c]) = topsF m cs ++ [topsM m (cs ++ [c])]
  | m, [], c => rfl
  | m, x :: cs, c => by
    show _ :: topsF _ (cs ++ [c]) = _ :: (topsF _ cs ++ _)
    rw [topsF_snoc]
    rfl
theorem topsM_snoc (m : Int) (cs : List Int) (c : Int) : topsM m (cs ++ [c]) = if topsM m cs < c then c else topsM m cs := by
  unfold topsM
  rw [List.foldl_append]
  rfl
/-- the first place of each value that a table reaches: what is there, what is still to be gone through from place i on -/
def firstsF : Nat → List Int → List Int → List Int
  | _, acc, [] => acc
  | i, acc, t :: ts => firstsF (i + 1) (if t = (acc.length : Int) then acc ++ [(i : Int)] else acc) ts
theorem firstsF_snoc : ∀ (i : Nat) (acc ts : List Int) (t : Int), firstsF i acc (ts ++ [t]) = if t = ((firstsF i acc ts).length : Int) then firstsF i acc ts ++ [((i + ts.length : Nat) : Int)] else firstsF i acc ts
  | i, acc, [], t => rfl
  | i, acc, x :: ts, t => by
    show firstsF (i + 1) _ (ts ++ [t]) = _
    rw [firstsF_snoc]
    have e : i + 1 + ts.length = i + (x :: ts).length := by
      rw [List.length_cons]
      omega
    rw [e]
    rfl
theorem firstsF_length : ∀ (i : Nat) (acc ts : List Int), (firstsF i acc ts).length ≤ acc.length + ts.length
  | _, acc, [] => Nat.le_refl _
  | i, acc, t :: ts => by
    have h := firstsF_length (i + 1) (if t = (acc.length : Int) then acc ++ [(i : Int)] else acc) ts
    have h2 : (if t = (acc.length : Int) then acc ++ [(i : Int)] else acc).length ≤ acc.length + 1 := by
      split
      · rw [List.length_append, List.length_singleton]
        exact Nat.le_refl _
      · exact Nat.le_succ _
    rw [List.length_cons]
    show (firstsF (i + 1) (if t = (acc.length : Int) then acc ++ [(i : Int)] else acc) ts).length ≤ _
    omega
def valueAt (xs : List Int) (at_ span rise : Int) : Int :=
  if at_ < xs.length then xs.getD at_.toNat 0 else xs.getD (at_ - ((at_ - xs.length) / span + 1) * span).toNat 0 + ((at_ - xs.length) / span + 1) * rise
theorem getD_at {xs : List Int} {i : Int} (h0 : 0 ≤ i) (h1 : i < xs.length) : atI (xs.map V.int) i = some (.int (xs.getD i.toNat 0)) := by
  have hi : i.toNat < xs.length := by omega
  refine at_of (j := i.toNat) (by omega) ?_
  rw [List.getElem?_map, List.getElem?_eq_getElem hi, List.getD_eq_getElem?_getD, List.getElem?_eq_getElem hi]
  rfl
/-- the places at which a table of first places does not lead back -/
def gapsF (fs : List Int) : Nat → List Int → List Int
  | _, [] => []
  | i, t :: ts => (if fs.getD t.toNat 0 = (i : Int) then [] else [(i : Int)]) ++ gapsF fs (i + 1) ts
theorem gapsF_snoc (fs : List Int) : ∀ (i : Nat) (ts : List Int) (t : Int), gapsF fs i (ts ++ [t]) = gapsF fs i ts ++ (if fs.getD t.toNat 0 = ((i + ts.length : Nat) : Int) then [] else [((i + ts.length : Nat) : Int)])
  | i, [], t => by
    show (if _ then _ else _) ++ [] = [] ++ _
    rw [List.append_nil, List.nil_append]
    rfl
  | i, x :: ts, t => by
    show _ ++ gapsF fs (i + 1) (ts ++ [t]) = _ ++ gapsF fs (i + 1) ts ++ _
    rw [gapsF_snoc, List.append_assoc]
    have e : i + 1 + ts.length = i + (x :: ts).length := by
      rw [List.length_cons]
      omega
    rw [e]
theorem gapsF_length (fs : List Int) : ∀ (i : Nat) (ts : List Int), (gapsF fs i ts).length ≤ ts.length
  | _, [] => Nat.le_refl _
  | i, t :: ts => by
    show ((if _ then _ else _) ++ gapsF fs (i + 1) ts).length ≤ ts.length + 1
    have := gapsF_length fs (i + 1) ts
    rw [List.length_append]
    split
    · simp only [List.length_nil]
      omega
    · simp only [List.length_singleton]
      omega
section
variable {P : Program} {w : World} {K : PySem.W.Frag} {mg : Str → Option Value} {base : Heap} (T : Tx K mg)
include T
def spTops (K : PySem.W.Frag) : Sp := fun vs H Q _ => ∃ (a : Addr) (cs : List Int), vs = [.ref a] ∧ SqL K H a (cs.map V.int) ∧ cs.length ≤ 10000 ∧ ∀ H' p, Same H H' → H p = none → H' p = some (.lst ((topsF 0 cs).map V.int)) → Q (.ref p) H'
theorem ok_tops_of : FnR P w K mg base CX0 1 (a_tops_of K) (spTops K) := by
  refine fnR0 (d := d_tops_of) T.F_tops_of sc_tops_of rfl (fun _ _ _ _ _ _ us hl => match us, hl with | [_], _ => rfl) (fun vs H Q E h => ?_) (fun cdv A outer s H vs Q E hr h => ?_)
  · obtain ⟨a, cs, rfl, _⟩ := h
    rfl
  obtain ⟨a, cs, rfl, hS, hl, k⟩ := h
  refine ⟨_, (pss_cons (ps_set (i := 1) sc_tops_of.nd rfl (Or.inl rfl) (pe_lst pa_nil)) (pss_cons (ps_set (i := 2) sc_tops_of.nd rfl (Or.inl rfl) pe_int) (pss_cons (ps_for PassesOwn.never rfl (pi_list (pv 0)) (pg_name (i := 3) sc_tops_of.nd rfl (Or.inl rfl)) (pss_cons (ps_if (pt_cmpR op_gt (pv 3) (pv 2) (nomark _)) (pss_one (ps_set (i := 2) sc_tops_of.nd rfl (Or.inl rfl) (pv 3))) pss_nil) (pss_one (ps_expr (pe_bm PySem.F.plainAttrs_list PySem.F.slot_list_append PySem.F.type_list_append mt_append (pv 1) (pa_cons (pv 2) pa_nil)))))) (pss_one (ps_ret (pv 1)))))), ?_⟩
  refine ⟨Nat.zero_le _, fun p hp => ?_⟩
  refine ⟨_, rfl, a, rfl, ⟨_, (same_new hp).seq hS⟩, for_list (K := K) (a := a) (xs := cs.map V.int) (fun i σ H1 => Same H H1 ∧ H1 p = some (.lst ((topsF 0 (cs.take i)).map V.int)) ∧ ∃ x, σ = [some (.ref a), some (.ref p), some (.int (topsM 0 (cs.take i))), x])
    ⟨same_new hp, upd_same, _, rfl⟩ (fun i σ H1 _ q => q.1.seq hS) ?_ ?_⟩
  · rintro i x σ H1 hx ⟨s1, e1, x3, rfl⟩
    obtain ⟨c, ec, rfl⟩ := int_at hx
    have hi := lt_of_at ec
    have e2 : topsM 0 (cs.take (i + 1)) = if topsM 0 (cs.take i) < c then c else topsM 0 (cs.take i) := by rw [take_at ec, topsM_snoc]
    have e3 : topsF 0 (cs.take (i + 1)) = topsF 0 (cs.take i) ++ [topsM 0 (cs.take (i + 1))] := by rw [take_at ec, topsF_snoc]
    have hz : ((topsF 0 (cs.take i)).map V.int).length < sizeLine := small3 (by rw [List.length_map, topsF_length, List.length_take]; omega)
    refine ⟨_, rfl, _, rfl, _, _, rfl, rfl, _, rfl, ite2 (fun hd => ?_) (fun hd => ?_)⟩
    · have hd : topsM 0 (cs.take i) < c := of_decide_eq_true hd
      rw [if_pos hd] at e2
      refine ⟨_, rfl, ?_⟩
      refine ⟨_, rfl, .inl ⟨rfl, _, SqL.of e1⟩, _, rfl, p, _, _, rfl, rfl, e1, hz, same_mut s1 hp, ?_, some (.int c), ?_⟩
      · rw [upd_same, e3, e2, List.map_append]
        rfl
      · rw [e2]
        rfl
    · have hd : ¬ topsM 0 (cs.take i) < c := fun z => hd (decide_eq_true z)
      rw [if_neg hd] at e2
      refine ⟨_, rfl, .inl ⟨rfl, _, SqL.of e1⟩, _, rfl, p, _, _, rfl, rfl, e1, hz, same_mut s1 hp, ?_, some (.int c), ?_⟩
      · rw [upd_same, e3, e2, List.map_append]
        rfl
      · rw [e2]
        rfl
  · rintro σ H1 ⟨s1, e1, x, rfl⟩
    refine ⟨_, rfl, k _ _ s1 hp ?_⟩
    rw [e1, List.length_map, List.take_length]
def spFirsts (K : PySem.W.Frag) : Sp := fun vs H Q _ => ∃ (a : Addr) (ts : List Int), vs = [.ref a] ∧ SqL K H a (ts.map V.int) ∧ ts.length ≤ 10000 ∧ ∀ H' p, Same H H' → H p = none → H' p = some (.lst ((firstsF 0 [] ts).map V.int)) → Q (.ref p) H'
theorem ok_firsts_of : FnR P w K mg base CX0 1 (a_firsts_of K) (spFirsts K) := by
  refine fnR0 (d := d_firsts_of) T.F_firsts_of sc_firsts_of rfl (fun _ _ _ _ _ _ us hl => match us, hl with | [_], _ => rfl) (fun vs H Q E h => ?_) (fun cdv A outer s H vs Q E hr h => ?_)
  · obtain ⟨a, cs, rfl, _⟩ := h
    rfl
  obtain ⟨a, ts, rfl, hS, hl, k⟩ := h
  refine ⟨_, (pss_cons (ps_set (i := 1) sc_firsts_of.nd rfl (Or.inl rfl) (pe_lst pa_nil)) (pss_cons (ps_for PassesOwn.never rfl (pi_enum (by rfl) T.n_enumerate (pa_cons (pv 0) pa_nil)) (pg_tup rfl (pgs_cons (pg_name (i := 2) sc_firsts_of.nd rfl (Or.inl rfl)) (pgs_cons (pg_name (i := 3) sc_firsts_of.nd rfl (Or.inl rfl)) pgs_nil))) (pss_one (ps_if (pt_cmpR op_eq (pv 3) (pe_callB call_len_seq (by rfl) T.n_len PySem.boot_len (pa_cons (pv 1) pa_nil)) (nomark _)) (pss_one (ps_expr (pe_bm PySem.F.plainAttrs_list PySem.F.slot_list_append PySem.F.type_list_append mt_append (pv 1) (pa_cons (pv 2) pa_nil)))) pss_nil))) (pss_one (ps_ret (pv 1))))), ?_⟩
  refine ⟨Nat.zero_le _, fun p hp => ?_⟩
  refine ⟨_, rfl, a, _, rfl, (same_new hp).seq hS, for_it (walk_enum (K := K) (a := a) (xs := ts.map V.int)) (fun i σ H1 => Same H H1 ∧ H1 p = some (.lst ((firstsF 0 [] (ts.take i)).map V.int)) ∧ ∃ x y, σ = [some (.ref a), some (.ref p), x, y])
    ⟨same_new hp, upd_same, _, _, rfl⟩ (fun i σ H1 _ q => q.1.seq hS) ?_ ?_⟩
  · rintro i x σ H1 H2 hi ⟨s1, e1, x2, x3, rfl⟩ ⟨q, u, v, rfl, nq, rfl, eu, ev⟩
    cases eu
    obtain ⟨c, ec, rfl⟩ := int_at ev
    have li := lt_of_at ec
    have hz : (firstsF 0 [] (ts.take i)).length ≤ 10000 := by
      have := firstsF_length 0 [] (ts.take i)
      rw [List.length_take] at this
      simp only [List.length_nil] at this
      omega
    have e3 := firstsF_snoc 0 [] (ts.take i) c
    rw [← take_at ec, List.length_take, Nat.min_eq_left (Nat.le_of_lt li), Nat.zero_add] at e3
    have e1' := upd_old (u := .tup [.int (i : Nat), .int c]) e1 nq
    refine ⟨q, _, rfl, SqT.of upd_same, rfl, _, _, rfl, _, _, rfl, rfl, ?_⟩
    refine ⟨_, rfl, _, rfl, p, _, rfl, .inl (SqL.of e1'), rfl, _, rfl, ?_⟩
    refine ite2 (fun hd => ?_) (fun hd => ?_)
    · have hd2 : c = ((firstsF 0 [] (ts.take i)).length : Int) := by
        have z := of_decide_eq_true hd
        rw [List.length_map] at z
        exact V.int.inj z
      rw [if_pos hd2] at e3
      refine ⟨_, rfl, .inl ⟨rfl, _, SqL.of e1'⟩, _, rfl, p, _, _, rfl, rfl, e1', small3 (by rw [List.length_map]; omega), same_mut (s1.trans (same_new nq)) hp, ?_, _, _, rfl⟩
      rw [upd_same, e3, List.map_append]
      rfl
    · have hd2 : ¬ c = ((firstsF 0 [] (ts.take i)).length : Int) := fun z => hd (decide_eq_true (by rw [List.length_map, z]))
      rw [if_neg hd2] at e3
      exact ⟨s1.trans (same_new nq), by rw [e1', e3], _, _, rfl⟩
  · rintro σ H1 ⟨s1, e1, x, y, rfl⟩
    refine ⟨_, rfl, k _ _ s1 hp ?_⟩
    rw [e1, List.length_map, List.take_length]
def spValue (K : PySem.W.Frag) : Sp := fun vs H Q _ => ∃ (a : Addr) (xs : List Int) (i span rise : Int), vs = [.ref a, .int i, .int span, .int rise] ∧ SqL K H a (xs.map V.int) ∧ 0 ≤ i ∧ 0 < span ∧ span < 10000 ∧ -(10000) < rise ∧ rise < 10000 ∧ span ≤ xs.length ∧
  Q (.int (valueAt xs i span rise)) H
theorem ok_value_at : FnR P w K mg base CX0 1 (a_value_at K) (spValue K) := by
  refine fnR0 (d := d_value_at) T.F_value_at sc_value_at rfl (fun _ _ _ _ _ _ us hl => match us, hl with | [_, _, _, _], _ => rfl) (fun vs H Q E h => ?_) (fun cdv A outer s H vs Q E hr h => ?_)
  · obtain ⟨a, xs, i, span, rise, rfl, _⟩ := h
    rfl
  obtain ⟨a, xs, i, span, rise, rfl, hS, h0, h1, h2, h3, h4, h5, k⟩ := h
  refine ⟨_, (pss_cons (ps_if (pt_cmpR op_lt (pv 1) (pe_callB call_len_seq (by rfl) T.n_len PySem.boot_len (pa_cons (pv 0) pa_nil)) (nomark _)) (pss_one (ps_ret (pe_ix ix_list (pv 0) (pv 1) (fun _ _ => rfl)))) pss_nil) (pss_cons (ps_set (i := 4) sc_value_at.nd rfl (Or.inl rfl) (pe_op op_add (pe_op op_fdiv (pe_op op_sub (pv 1) (pe_callB call_len_seq (by rfl) T.n_len PySem.boot_len (pa_cons (pv 0) pa_nil))) (pv 2)) pe_int)) (pss_one (ps_ret (pe_op op_add (pe_ix ix_list (pv 0) (pe_op op_sub (pv 1) (pe_op op_mul (pv 4) (pv 2))) (fun _ _ => rfl)) (pe_op op_mul (pv 4) (pv 3))))))), ?_⟩
  refine ⟨_, rfl, _, rfl, a, _, rfl, .inl hS, _, _, rfl, rfl, _, rfl, ite2 (fun hd => ?_) (fun hd => ?_)⟩
  · have hd : i < (xs.length : Int) := by
      have z := of_decide_eq_true hd
      rw [List.length_map] at z
      exact z
    refine ⟨_, rfl, _, rfl, a, _, _, _, rfl, rfl, hS, getD_at h0 hd, ?_⟩
    unfold valueAt at k
    rw [if_pos hd] at k
    exact k
  · have hd : ¬ i < (xs.length : Int) := fun z => hd (decide_eq_true (by rw [List.length_map]; exact z))
    unfold valueAt at k
    rw [if_neg hd] at k
    refine ⟨_, rfl, _, rfl, a, _, rfl, .inl hS, _, _, rfl, rfl, _, rfl, _, _, rfl, rfl, ⟨h1, by omega⟩, _, _, rfl, rfl, ?_⟩
    have em : i % span = i - i / span * span := by
      have := Int.emod_add_mul_ediv i span
      rw [Int.mul_comm] at this
      omega
    have f1 : (i - xs.length) / span * span ≤ i - xs.length := by
      have := Int.emod_add_mul_ediv (i - xs.length) span
      have := Int.emod_nonneg (i - xs.length) (show span ≠ 0 by omega)
      rw [Int.mul_comm]
      omega
    have f2 : i - xs.length < (i - xs.length) / span * span + span := by
      have := Int.emod_add_mul_ediv (i - xs.length) span
      have := Int.emod_lt_of_pos (i - xs.length) h1
      rw [Int.mul_comm]
      omega
    have f3 : ((i - xs.length) / span + 1) * span = (i - xs.length) / span * span + span := by rw [Int.add_mul, Int.one_mul]
    refine ⟨_, rfl, _, rfl, _, rfl, _, rfl, _, _, rfl, rfl, .inr ⟨by omega, by omega⟩, _, _, rfl, rfl, a, _, _, .int (xs.getD (i - ((i - (xs.length : Int)) / span + 1) * span).toNat 0), rfl, rfl, hS, ?_, ?_⟩
    · show atI (xs.map V.int) (i - ((i - ((xs.map V.int).length : Int)) / span + 1) * span) = _
      rw [List.length_map]
      refine getD_at ?_ ?_
      · omega
      · omega
    · refine ⟨_, rfl, _, rfl, _, _, rfl, rfl, .inr ⟨by omega, by omega⟩, _, _, rfl, rfl, ?_⟩
      rw [List.length_map]
      exact k
def spGaps (K : PySem.W.Frag) : Sp := fun vs H Q _ => ∃ (a b : Addr) (ts fs : List Int), vs = [.ref a, .ref b] ∧ SqL K H a (ts.map V.int) ∧ SqL K H b (fs.map V.int) ∧ ts.length ≤ 10000 ∧ (∀ t ∈ ts, 0 ≤ t ∧ t < fs.length) ∧
  ∀ H' p, Same H H' → H p = none → H' p = some (.lst ((gapsF fs 0 ts).map V.int)) → Q (.ref p) H'
theorem ok_gaps_of : FnR P w K mg base CX0 1 (a_gaps_of K) (spGaps K) := by
  refine fnR0 (d := d_gaps_of) T.F_gaps_of sc_gaps_of rfl (fun _ _ _ _ _ _ us hl => match us, hl with | [_, _], _ => rfl) (fun vs H Q E h => ?_) (fun cdv A outer s H vs Q E hr h => ?_)
  · obtain ⟨a, b, ts, fs, rfl, _⟩ := h
    rfl
  obtain ⟨a, b, ts, fs, rfl, hS, hF, hl, hb, k⟩ := h
  refine ⟨_, (pss_one (ps_ret (pe_lc (own := [("drinks", 2), ("top", 3)]) rfl sc_gaps_of.nd (pi_enum (by rfl) T.n_enumerate (pa_cons (pv 0) pa_nil)) (blkOk_by (own := [("drinks", 2), ("top", 3)]) (N := N_gaps_of) (sc := defScope s_gaps_of) (by decide +kernel)) (fun _ _ _ _ _ => (pg_tupB (n := 2) (pgs_cons (pg_name (i := 2) sc_gaps_of.nd rfl (Or.inl rfl) (.inr rfl)) (pgs_cons (pg_name (i := 3) sc_gaps_of.nd rfl (Or.inl rfl) (.inr rfl)) pgs_nil)))) (fun _ _ _ _ _ => (pts_one (pt_cmpR op_ne (pe_ix (ix_listK (K := K) rfl) (pv 1) (pv 3) (fun _ _ => rfl)) (pv 2) (nomark _)))) (fun _ _ _ _ _ => (pv 2))))), ?_⟩
  refine ⟨_, rfl, a, _, rfl, hS, fun D hD => ?_⟩
  refine lc_it (walk_enum (K := K) (a := a) (xs := ts.map V.int)) (fun i H1 => Same H H1 ∧ H1 D = some (.lst ((gapsF fs 0 (ts.take i)).map V.int))) ⟨same_new hD, upd_same⟩ (fun i H1 _ q => q.1.seq hS) ?_ ?_
  · rintro i x H1 H2 hi ⟨s1, e1⟩ ⟨q, u, v, rfl, nq, rfl, eu, ev⟩
    cases eu
    obtain ⟨c, ec, rfl⟩ := int_at ev
    have li := lt_of_at ec
    have hc := hb c (List.mem_of_getElem? ec)
    have e1' := upd_old (u := .tup [.int (i : Nat), .int c]) e1 nq
    have e3 := gapsF_snoc fs 0 (ts.take i) c
    rw [← take_at ec, List.length_take, Nat.min_eq_left (Nat.le_of_lt li), Nat.zero_add] at e3
    have hz : (gapsF fs 0 (ts.take i)).length ≤ 10000 := by
      have := gapsF_length fs 0 (ts.take i)
      rw [List.length_take] at this
      omega
    refine ⟨q, _, rfl, SqT.of upd_same, rfl, _, _, rfl, _, _, rfl, rfl, rfl, ?_⟩
    refine ⟨_, rfl, _, rfl, b, _, _, _, rfl, rfl, (s1.trans (same_new nq)).seq hF, getD_at hc.1 hc.2, _, rfl, rfl, _, rfl, ?_⟩
    refine ite2 (fun hd => ?_) (fun hd => ?_)
    · have hd2 : ¬ fs.getD c.toNat 0 = (i : Int) := fun z => by
        rw [z, decide_eq_true rfl] at hd
        cases hd
      rw [if_neg hd2] at e3
      refine ⟨_, rfl, _, e1', small3 (by rw [List.length_map]; omega), same_mut (s1.trans (same_new nq)) hD, ?_⟩
      rw [upd_same, e3, List.map_append]
      rfl
    · have hd2 : fs.getD c.toNat 0 = (i : Int) := by
        apply Classical.byContradiction
        intro z
        apply hd
        rw [decide_eq_false (fun y => z (V.int.inj y))]
        rfl
      rw [if_pos hd2, List.append_nil] at e3
      exact ⟨s1.trans (same_new nq), by rw [e1', e3]⟩
  · rintro H1 ⟨s1, e1⟩
    refine k _ _ s1 hD ?_
    rw [e1, List.length_map, List.take_length]
end
end EB

namespace EB
open PySem PySem.Spec PyProof.Rows L2
/-! ### checks -/
def signOk (c : Nat) : Bool := if (!decide ((⟨#[c]⟩ : Str).cps.toList < ("a" : Str).cps.toList)) = true then (!decide (("z" : Str).cps.toList < (⟨#[c]⟩ : Str).cps.toList)) else false
def labelOk (z : Str) : Bool := if (!(if decide ((1 : Int) ≤ z.length) = true then decide ((z.length : Int) ≤ 8) else false)) = true then false else (z.cps.toList.map signOk).all id
def kindOk (z : Str) : Bool := if labelOk z = true then !decide (z = "drink") else false
def numOk (i lo hi : Int) : Bool := if decide (lo ≤ i) = true then decide (i ≤ hi) else false
def trOk (t : Tr) : Bool := if kindOk t.k = true then (if numOk t.l 0 12 = true then numOk t.n 1 12 else false) else false
theorem numOk_iff {i lo hi : Int} : numOk i lo hi = true ↔ lo ≤ i ∧ i ≤ hi := by
  unfold numOk
  by_cases h : lo ≤ i
  · rw [decide_eq_true h, if_pos rfl]
    exact ⟨fun z => ⟨h, of_decide_eq_true z⟩, fun z => decide_eq_true z.2⟩
  · rw [decide_eq_false h, if_neg Bool.false_ne_true]
    exact ⟨fun z => absurd z Bool.false_ne_true, fun z => absurd z.1 h⟩
theorem trOk_of {t : Tr} (h : t.ok) (k : kindOk t.k = true) : trOk t = true := by
  unfold trOk
  rw [if_pos k, if_pos (numOk_iff.mpr ⟨h.1, h.2.1⟩)]
  exact numOk_iff.mpr ⟨h.2.2.1, h.2.2.2⟩
section
variable {P : Program} {w : World} {K : PySem.W.Frag} {mg : Str → Option Value} {base : Heap} (T : Tx K mg)
include T
def spIsInt : Sp := fun vs H Q _ => ∃ i : Int, vs = [.int i] ∧ Q (.bl true) H
theorem ok_is_integer : FnR P w K mg base CX0 1 (a_is_integer K) spIsInt := by
  refine fnR0 (d := d_is_integer) T.F_is_integer sc_is_integer rfl (fun _ _ _ _ _ _ us hl => match us, hl with | [_], _ => rfl) (fun vs H Q E h => ?_) (fun cdv A outer s H vs Q E hr h => ?_)
  · obtain ⟨i, rfl, _⟩ := h
    rfl
  obtain ⟨i, rfl, k⟩ := h
  refine ⟨_, (pss_one (ps_ret (pe_and (pe_callB call_isi (by rfl) T.n_isinstance (by decide +kernel) (pa_cons (pv 0) (pa_cons (pe_bltn (v := .ty "int") (u := .type "int") rfl T.n_int (by decide +kernel) rfl) pa_nil))) (pe_one (pe_not (pe_callB call_isi (by rfl) T.n_isinstance (by decide +kernel) (pa_cons (pv 0) (pa_cons (pe_bltn (v := .ty "bool") (u := .type "bool") rfl T.n_bool (by decide +kernel) rfl) pa_nil)))))))), ?_⟩
  refine ⟨_, rfl, .int i, .ty "int", _, _, true, rfl, ClsV.ty "int", .base (.int i), kit_ty (by decide +kernel), true, rfl, iteT ?_⟩
  exact ⟨_, rfl, .int i, .ty "bool", _, _, false, rfl, ClsV.ty "bool", .base (.int i), kit_ty (by decide +kernel), false, rfl, k⟩
def spIsNum : Sp := fun vs H Q _ => ∃ i lo hi : Int, vs = [.int i, .int lo, .int hi] ∧ Q (.bl (numOk i lo hi)) H
theorem ok_is_number : FnR P w K mg base CX0 2 (a_is_number K) spIsNum := by
  refine fnR0 (d := d_is_number) T.F_is_number sc_is_number rfl (fun _ _ _ _ _ _ us hl => match us, hl with | [_, _, _], _ => rfl) (fun vs H Q E h => ?_) (fun cdv A outer s H vs Q E hr h => ?_)
  · obtain ⟨i, lo, hi, rfl, _⟩ := h
    rfl
  obtain ⟨i, lo, hi, rfl, k⟩ := h
  refine ⟨_, (pss_one (ps_ret (pe_and (pe_cR (ok_is_integer T) (hr.mono (by decide)) T.F_is_integer.kp T.g_is_integer pass0 (pa_cons (pv 0) pa_nil)) (pe_one (pe_chain op_le op_le (pv 1) (pv 0) (pv 2)))))), ?_⟩
  refine ⟨_, rfl, i, rfl, true, rfl, iteT ?_⟩
  refine ⟨_, rfl, _, rfl, _, _, rfl, rfl, _, rfl, ?_⟩
  unfold numOk at k
  refine ite2 (fun hd => ?_) (fun hd => ?_)
  · rw [if_pos hd] at k
    exact ⟨_, rfl, _, _, rfl, rfl, k⟩
  · rw [if_neg hd] at k
    exact k
def spIsLabel : Sp := fun vs H Q _ => ∃ z : Str, vs = [.str z] ∧ z.length ≤ 1000 ∧ ∀ H', Same H H' → Q (.bl (labelOk z)) H'
theorem ok_is_label : FnR P w K mg base CX0 1 (a_is_label K) spIsLabel := by
  refine fnR0 (d := d_is_label) T.F_is_label sc_is_label rfl (fun _ _ _ _ _ _ us hl => match us, hl with | [_], _ => rfl) (fun vs H Q E h => ?_) (fun cdv A outer s H vs Q E hr h => ?_)
  · obtain ⟨z, rfl, _⟩ := h
    rfl
  obtain ⟨z, rfl, hz, k⟩ := h
  have hz2 : z.length ≤ sizeLine := Nat.le_trans hz (by decide)
  refine ⟨_, (pss_cons (ps_if (PW.pt (pw_or (pt_not (pt_val (pe_callB call_isi (by rfl) T.n_isinstance (by decide +kernel) (pa_cons (pv 0) (pa_cons (pe_bltn (v := .ty "str") (u := .type "str") rfl T.n_str (by decide +kernel) rfl) pa_nil))))) (pw_or1 (pt_not (pt_chain op_le op_le pe_int (pe_callB call_len_str (by rfl) T.n_len PySem.boot_len (pa_cons (pv 0) pa_nil)) (pe_cI T.c_MAX_LABEL_LENGTH)))))) (pss_one (ps_ret pe_bl)) pss_nil) (pss_one (ps_ret (pe_callB (cr_all rfl) (by rfl) T.n_all (by decide +kernel) (pa_cons (pe_lc (own := [("letter", 1)]) rfl sc_is_label.nd (pi_str (pv 0)) (blkOk_by (own := [("letter", 1)]) (N := N_is_label) (sc := defScope s_is_label) (by decide +kernel)) (fun _ _ _ _ _ => (pg_name (i := 1) sc_is_label.nd rfl (Or.inl rfl) (.inr rfl))) (fun _ _ _ _ _ => pts_nil) (fun _ _ _ _ _ => (pe_chain op_le_str op_le_str pe_str (pv 1) pe_str))) pa_nil))))), ?_⟩
  refine ⟨_, rfl, .str z, .ty "str", _, _, true, rfl, ClsV.ty "str", .base (.str z), kit_ty (by decide +kernel), true, rfl, ?_⟩
  show (if false = true then _ else _)
  refine iteF ?_
  have hlast : ∀ (c : Bool), (if decide ((1 : Int) ≤ z.length) = true then decide ((z.length : Int) ≤ 8) else false) = c → labelOk z = if (!c) = true then false else (z.cps.toList.map signOk).all id := by
    rintro c rfl
    rfl
  refine ⟨_, rfl, z, rfl, hz2, _, _, rfl, rfl, _, rfl, ?_⟩
  refine ite2 (fun h1 => ?_) (fun h1 => ?_)
  · rw [if_pos h1] at hlast
    refine ⟨_, _, rfl, rfl, _, rfl, ?_⟩
    by_cases h2 : (z.length : Int) ≤ 8
    · rw [decide_eq_true h2]
      rw [hlast true (decide_eq_true h2)] at k
      refine iteF ?_
      refine ⟨_, rfl, z, rfl, fun D hD => ?_⟩
      refine lc_it (walk_str (z := z)) (fun i H1 => Same H H1 ∧ H1 D = some (.lst ((z.cps.toList.take i).map fun c => V.bl (signOk c)))) ⟨same_new hD, upd_same⟩ (fun _ _ _ _ => True.intro) ?_ ?_
      · rintro i x H1 H2 hi ⟨s1, e1⟩ ⟨rfl, c, ec, rfl⟩
        have ec2 : z.cps.toList[i]? = some c := by
          rw [Array.getElem?_toList]
          exact ec
        have hz3 : ((z.cps.toList.take i).map fun c => V.bl (signOk c)).length < sizeLine := by
          rw [List.length_map, List.length_take]
          refine small3 ?_
          have h3 : i < z.cps.size := hi
          have h4 : z.cps.size = z.length := rfl
          omega
        refine ⟨rfl, _, rfl, _, _, rfl, rfl, _, rfl, ?_⟩
        have hs : signOk c = if (!decide ((⟨#[c]⟩ : Str).cps.toList < ("a" : Str).cps.toList)) = true then (!decide (("z" : Str).cps.toList < (⟨#[c]⟩ : Str).cps.toList)) else false := rfl
        refine ite2 (fun h5 => ?_) (fun h5 => ?_)
        · rw [if_pos h5] at hs
          refine ⟨_, _, rfl, rfl, _, e1, hz3, same_mut s1 hD, ?_⟩
          rw [upd_same, take_at ec2, List.map_append, ← hs]
          rfl
        · rw [if_neg h5] at hs
          refine ⟨_, e1, hz3, same_mut s1 hD, ?_⟩
          rw [upd_same, take_at ec2, List.map_append, ← hs]
          rfl
      · rintro H1 ⟨s1, e1⟩
        refine ⟨D, z.cps.toList.map signOk, rfl, SqL.of ?_, k _ s1⟩
        rw [e1, ← Array.length_toList, List.take_length, List.map_map]
        rfl
    · rw [decide_eq_false h2]
      rw [hlast false (decide_eq_false h2)] at k
      exact iteT (k _ (Same.refl _))
  · rw [if_neg h1] at hlast
    rw [hlast false rfl] at k
    exact ⟨false, rfl, iteT (k _ (Same.refl _))⟩
def spIsKind : Sp := fun vs H Q _ => ∃ z : Str, vs = [.str z] ∧ z.length ≤ 1000 ∧ ∀ H', Same H H' → Q (.bl (kindOk z)) H'
theorem ok_is_kind : FnR P w K mg base CX0 2 (a_is_kind K) spIsKind := by
  refine fnR0 (d := d_is_kind) T.F_is_kind sc_is_kind rfl (fun _ _ _ _ _ _ us hl => match us, hl with | [_], _ => rfl) (fun vs H Q E h => ?_) (fun cdv A outer s H vs Q E hr h => ?_)
  · obtain ⟨z, rfl, _⟩ := h
    rfl
  obtain ⟨z, rfl, hz, k⟩ := h
  refine ⟨_, (pss_one (ps_ret (pe_and (pe_cR (ok_is_label T) (hr.mono (by decide)) T.F_is_label.kp T.g_is_label pass0 (pa_cons (pv 0) pa_nil)) (pe_one (pe_cmpR op_ne (pv 0) (pe_cS T.c_DRINK) (nomark _)))))), ?_⟩
  refine ⟨_, rfl, z, rfl, hz, fun H1 s1 => ⟨_, rfl, ?_⟩⟩
  unfold kindOk at k
  refine ite2 (fun h1 => ?_) (fun h1 => ?_)
  · rw [if_pos h1] at k
    refine ⟨_, rfl, rfl, ?_⟩
    have e : decide (V.str z = V.str "drink") = decide (z = "drink") := decide_eq_decide.mpr ⟨V.str.inj, fun y => by rw [y]⟩
    show Q (V.bl !decide (V.str z = V.str "drink")) H1
    rw [e]
    exact k _ s1
  · rw [if_neg h1] at k
    exact k _ s1
def spIsTrade : Sp := fun vs H Q _ => ∃ t : Tr, vs = t.vs ∧ t.k.length ≤ 1000 ∧ ∀ H', Same H H' → Q (.bl (trOk t)) H'
theorem ok_is_trade : FnR P w K mg base CX0 3 (a_is_trade K) spIsTrade := by
  refine fnR0 (d := d_is_trade) T.F_is_trade sc_is_trade rfl (fun _ _ _ _ _ _ us hl => match us, hl with | [_, _, _], _ => rfl) (fun vs H Q E h => ?_) (fun cdv A outer s H vs Q E hr h => ?_)
  · obtain ⟨t, rfl, _⟩ := h
    rfl
  obtain ⟨t, rfl, hz, k⟩ := h
  obtain ⟨uE, hE⟩ := T.v_Offer_MAX_NEEDED
  refine ⟨_, (pss_one (ps_ret (pe_and (pe_cR (ok_is_kind T) (hr.mono (by decide)) T.F_is_kind.kp T.g_is_kind pass0 (pa_cons (pv 0) pa_nil)) (pe_and (pe_cR (ok_is_number T) (hr.mono (by decide)) T.F_is_number.kp T.g_is_number pass0 (pa_cons (pv 1) (pa_cons pe_int (pa_cons (pe_cI T.c_MAX_LEFT) pa_nil)))) (pe_one (pe_cR (ok_is_number T) (hr.mono (by decide)) T.F_is_number.kp T.g_is_number pass0 (pa_cons (pv 2) (pa_cons pe_int (pa_cons (ClX.pe_cval (pe_cC T.g_Offer)) pa_nil))))))))), ?_⟩
  refine ⟨_, rfl, t.k, rfl, hz, fun H1 s1 => ⟨_, rfl, ?_⟩⟩
  unfold trOk at k
  refine ite2 (fun h1 => ?_) (fun h1 => ?_)
  · rw [if_pos h1] at k
    refine ⟨_, rfl, t.l, 0, 12, rfl, _, rfl, ite2 (fun h2 => ?_) (fun h2 => ?_)⟩
    · rw [if_pos h2] at k
      exact ⟨_, rfl, He.ga K "Offer", _, _, _, rfl, T.r_Offer, hE, t.n, 1, 12, rfl, k _ s1⟩
    · rw [if_neg h2] at k
      exact k _ s1
  · rw [if_neg h1] at k
    exact k _ s1
end
end EB

namespace EB
open PySem PySem.Spec PyProof.Rows L2
/-! ### the mathematics of offers -/
abbrev cN (ts : List Tr) : Nat → Int := fun d => cost ts (d : Int)
def worth (ts : List Tr) : Int := (ts.map fun t => 27720 / t.n * t.l).sum
/-- a good offer: at most three trades in range, together not too generous -/
structure Fair (ts : List Tr) : Prop where
  g : gds ts
  w : 10 * worth ts ≤ 9 * 27720
theorem dvd_big {n : Int} (h1 : 1 ≤ n) (h2 : n ≤ 12) : n ∣ 27720 := by
  have h : n = 1 ∨ n = 2 ∨ n = 3 ∨ n = 4 ∨ n = 5 ∨ n = 6 ∨ n = 7 ∨ n = 8 ∨ n = 9 ∨ n = 10 ∨ n = 11 ∨ n = 12 := by omega
  rcases h with rfl | rfl | rfl | rfl | rfl | rfl | rfl | rfl | rfl | rfl | rfl | rfl <;> decide
theorem sum_map_le {α : Type} {f g : α → Int} : ∀ {l : List α}, (∀ x ∈ l, f x ≤ g x) → (l.map f).sum ≤ (l.map g).sum
  | [], _ => Int.le_refl _
  | a :: l, h => by
    have h1 := h a (List.mem_cons_self ..)
    have h2 := sum_map_le (l := l) fun x hx => h x (List.mem_cons_of_mem _ hx)
    rw [List.map_cons, List.map_cons, List.sum_cons, List.sum_cons]
    omega
theorem sum_map_eq {α : Type} {f g : α → Int} : ∀ {l : List α}, (∀ x ∈ l, f x = g x) → (l.map f).sum = (l.map g).sum
  | [], _ => rfl
  | a :: l, h => by
    rw [List.map_cons, List.map_cons, List.sum_cons, List.sum_cons, h a (List.mem_cons_self ..), sum_map_eq (l := l) fun x hx => h x (List.mem_cons_of_mem _ hx)]
theorem sum_map_add {α : Type} {f g : α → Int} : ∀ {l : List α}, (l.map fun x => f x + g x).sum = (l.map f).sum + (l.map g).sum
  | [] => rfl
  | a :: l => by
    rw [List.map_cons, List.map_cons, List.map_cons, List.sum_cons, List.sum_cons, List.sum_cons, sum_map_add (l := l)]
    omega
theorem sum_map_mul {α : Type} {f : α → Int} {k : Int} : ∀ {l : List α}, (l.map fun x => f x * k).sum = (l.map f).sum * k
  | [] => by simp
  | a :: l => by
    rw [List.map_cons, List.map_cons, List.sum_cons, List.sum_cons, sum_map_mul (l := l), Int.add_mul]
theorem fl_mono {l n x y : Int} (hl : 0 ≤ l) (hn : 0 < n) (h : x ≤ y) : l * x / n ≤ l * y / n := Int.ediv_le_ediv hn (Int.mul_le_mul_of_nonneg_left h hl)
theorem fl_super {l n x y : Int} (hn : 0 < n) : l * x / n + l * y / n ≤ l * (x + y) / n := by
  rw [Int.mul_add]
  have h1 := Int.ediv_mul_le (l * x) (Int.ne_of_gt hn)
  have h2 := Int.ediv_mul_le (l * y) (Int.ne_of_gt hn)
  refine Int.le_ediv_of_mul_le hn ?_
  rw [Int.add_mul]
  omega
theorem tr_pos {t : Tr} (h : t.ok) : 0 < t.n := by
  have := h.2.2.1
  omega
/-! periods -/
theorem quo_dvd {t : Tr} (h : t.ok) {d : Nat} : (t.n / ((t.l.natAbs.gcd t.n.natAbs : Nat) : Int)).natAbs ∣ d ↔ t.n ∣ t.l * (d : Int) := by
  obtain ⟨l, hl⟩ := Int.eq_ofNat_of_zero_le h.1
  obtain ⟨n, hn⟩ := Int.eq_ofNat_of_zero_le (Int.le_of_lt (tr_pos h))
  have hp := tr_pos h
  rw [hl, hn]
  rw [hn] at hp
  have hp2 : 0 < n := by omega
  simp only [Int.natAbs_natCast]
  have hg : 0 < l.gcd n := Nat.gcd_pos_of_pos_right _ hp2
  rw [← Int.natCast_ediv, Int.natAbs_natCast]
  have e1 : ((n : Int) ∣ (l : Int) * (d : Int)) ↔ n ∣ l * d := by
    rw [← Int.natCast_mul]
    exact Int.natCast_dvd_natCast
  rw [e1]
  have hn2 : n = n / l.gcd n * l.gcd n := (Nat.div_mul_cancel (Nat.gcd_dvd_right l n)).symm
  have hl2 : l = l / l.gcd n * l.gcd n := (Nat.div_mul_cancel (Nat.gcd_dvd_left l n)).symm
  have co : Nat.Coprime (n / l.gcd n) (l / l.gcd n) := (Nat.coprime_div_gcd_div_gcd hg).symm
  constructor
  · rintro ⟨k, rfl⟩
    refine ⟨l / l.gcd n * k, ?_⟩
    have : l * (n / l.gcd n * k) = (l / l.gcd n * l.gcd n) * (n / l.gcd n * k) := by rw [← hl2]
    rw [this]
    have : n * (l / l.gcd n * k) = (n / l.gcd n * l.gcd n) * (l / l.gcd n * k) := by rw [← hn2]
    rw [this]
    simp only [Nat.mul_comm, Nat.mul_left_comm, Nat.mul_assoc]
  · rintro ⟨k, hk⟩
    refine co.dvd_of_dvd_mul_left (⟨k, ?_⟩ : n / l.gcd n ∣ l / l.gcd n * d)
    refine Nat.eq_of_mul_eq_mul_right hg ?_
    have e2 : l / l.gcd n * d * l.gcd n = l / l.gcd n * l.gcd n * d := by simp only [Nat.mul_comm, Nat.mul_left_comm]
    have e3 : n / l.gcd n * k * l.gcd n = n / l.gcd n * l.gcd n * k := by simp only [Nat.mul_comm, Nat.mul_left_comm]
    rw [e2, e3, ← hl2, ← hn2]
    exact hk
theorem perF_dvd : ∀ (ts : List Tr) (p d : Nat), (∀ t ∈ ts, t.ok) → (ts.foldl perS p ∣ d ↔ p ∣ d ∧ ∀ t ∈ ts, t.n ∣ t.l * (d : Int))
  | [], p, d, _ => by simp
  | t :: ts, p, d, h => by
    rw [List.foldl_cons, perF_dvd ts (perS p t) d fun u hu => h u (List.mem_cons_of_mem _ hu)]
    have e : perS p t ∣ d ↔ p ∣ d ∧ t.n ∣ t.l * (d : Int) := by
      unfold perS
      rw [Nat.lcm_dvd_iff, quo_dvd (h t (List.mem_cons_self ..))]
    rw [e]
    constructor
    · rintro ⟨⟨a, b⟩, c⟩
      refine ⟨a, fun u hu => ?_⟩
      rcases List.mem_cons.mp hu with rfl | hu
      · exact b
      · exact c u hu
    · rintro ⟨a, b⟩
      exact ⟨⟨a, b t (List.mem_cons_self ..)⟩, fun u hu => b u (List.mem_cons_of_mem _ hu)⟩
/-- the period divides just the numbers of drinks that leave whole trades -/
theorem per_dvd {ts : List Tr} (h : gds ts) {d : Nat} : per ts ∣ d ↔ ∀ t ∈ ts, t.n ∣ t.l * (d : Int) := by
  unfold per
  rw [perF_dvd ts 1 d h.2]
  exact ⟨fun z => z.2, fun z => ⟨Nat.one_dvd d, z⟩⟩
theorem perF_pos : ∀ (ts : List Tr) (p : Nat), 0 < p → (∀ t ∈ ts, t.ok) → 0 < ts.foldl perS p
  | [], p, hp, _ => hp
  | t :: ts, p, hp, h => by
    rw [List.foldl_cons]
    refine perF_pos ts _ ?_ fun u hu => h u (List.mem_cons_of_mem _ hu)
    have ht := h t (List.mem_cons_self ..)
    refine Nat.lcm_pos hp ?_
    have h1 := gcd_pos' ht
    have hn := tr_pos ht
    have h3 : ((t.l.natAbs.gcd t.n.natAbs : Nat) : Int) ≤ t.n := by
      have := Nat.gcd_le_right t.l.natAbs (show 0 < t.n.natAbs by omega)
      omega
    have h4 : 0 < t.n / ((t.l.natAbs.gcd t.n.natAbs : Nat) : Int) := Int.ediv_pos_of_pos_of_dvd hn (by omega) (by
      have : t.l.natAbs.gcd t.n.natAbs ∣ t.n.natAbs := Nat.gcd_dvd_right _ _
      exact Int.dvd_natAbs.mp (Int.natCast_dvd_natCast.mpr this))
    omega
theorem per_pos {ts : List Tr} (h : gds ts) : 0 < per ts := perF_pos ts 1 (by omega) h.2
/-! costs -/
theorem ten_buys {ts : List Tr} (f : Fair ts) (d : Nat) : 10 * buys ts d ≤ 9 * (d : Int) := by
  have h1 : buys ts d * 27720 ≤ worth ts * d := by
    unfold buys worth
    rw [← sum_map_mul, ← sum_map_mul]
    refine sum_map_le fun t ht => ?_
    have hn := tr_pos (f.g.2 t ht)
    obtain ⟨q, hq⟩ := dvd_big (f.g.2 t ht).2.2.1 (f.g.2 t ht).2.2.2
    have e1 : 27720 / t.n = q := by
      rw [hq]
      exact Int.mul_ediv_cancel_left _ (Int.ne_of_gt hn)
    have hq0 : 0 ≤ q := by
      rw [← e1]
      exact Int.ediv_nonneg (by omega) (by omega)
    rw [e1, hq]
    have h2 := Int.ediv_mul_le (t.l * (d : Int)) (Int.ne_of_gt hn)
    have h3 := Int.mul_le_mul_of_nonneg_right h2 hq0
    have e2 : t.l * (d : Int) / t.n * (t.n * q) = t.l * (d : Int) / t.n * t.n * q := by rw [Int.mul_assoc]
    have e3 : q * t.l * (d : Int) = t.l * (d : Int) * q := by rw [Int.mul_assoc, Int.mul_comm]
    rw [e2, e3]
    exact h3
  have h2 : worth ts * d ≤ 24948 * (d : Int) := Int.mul_le_mul_of_nonneg_right (by have := f.w; omega) (by omega)
  omega
theorem buys_nonneg {ts : List Tr} (f : gds ts) (d : Nat) : 0 ≤ buys ts d := by
  have h : ((ts.map fun _ => (0 : Int))).sum ≤ buys ts d := sum_map_le fun t ht => Int.ediv_nonneg (Int.mul_nonneg (f.2 t ht).1 (by omega)) (Int.le_of_lt (tr_pos (f.2 t ht)))
  have e : ((ts.map fun _ => (0 : Int))).sum = 0 := by
    have : ∀ l : List Tr, ((l.map fun _ => (0 : Int))).sum = 0 := by
      intro l
      induction l with
      | nil => rfl
      | cons a l ih => rw [List.map_cons, List.sum_cons, ih]; rfl
    exact this ts
  omega
/-- the bottles of a period -/
def perB (ts : List Tr) : Nat := (cN ts (per ts)).toNat
theorem cf {ts : List Tr} (f : Fair ts) : CF (cN ts) (per ts) (perB ts) where
  zero := by
    show (0 : Int) - buys ts 0 = 0
    have : buys ts 0 = 0 := by
      unfold buys
      have e : (ts.map fun t => t.l * 0 / t.n).sum = ((ts.map fun _ => (0 : Int) * 0)).sum := sum_map_eq fun t _ => by rw [Int.mul_zero, Int.zero_ediv]; rfl
      rw [e, sum_map_mul, Int.mul_zero]
    omega
  step := fun d => by
    show ((d + 1 : Nat) : Int) - buys ts ((d + 1 : Nat) : Int) ≤ (d : Int) - buys ts d + 1
    have h : buys ts d ≤ buys ts ((d + 1 : Nat) : Int) := sum_map_le fun t ht => fl_mono (f.g.2 t ht).1 (tr_pos (f.g.2 t ht)) (by omega)
    omega
  per := fun d => by
    have e : buys ts ((d + per ts : Nat) : Int) = buys ts d + buys ts (per ts) := by
      unfold buys
      rw [← sum_map_add]
      refine sum_map_eq fun t ht => ?_
      have hd := (per_dvd f.g (d := per ts)).mp (Nat.dvd_refl _) t ht
      rw [Int.natCast_add, Int.mul_add]
      exact Int.add_ediv_of_dvd_right hd
    have h10 := ten_buys f (per ts)
    have hB : ((perB ts : Nat) : Int) = (per ts : Int) - buys ts (per ts) := by
      unfold perB cN cost
      omega
    show ((d + per ts : Nat) : Int) - buys ts ((d + per ts : Nat) : Int) = (d : Int) - buys ts d + (perB ts : Int)
    rw [e, hB]
    omega
  ppos := per_pos f.g
  ten := fun d => by
    have := ten_buys f d
    show (d : Int) ≤ 10 * ((d : Int) - buys ts d)
    omega
  sub := fun x y => by
    have e : buys ts x + buys ts y ≤ buys ts ((x + y : Nat) : Int) := by
      unfold buys
      rw [← sum_map_add]
      refine sum_map_le fun t ht => ?_
      rw [Int.natCast_add]
      exact fl_super (tr_pos (f.g.2 t ht))
    show ((x + y : Nat) : Int) - buys ts ((x + y : Nat) : Int) ≤ (x : Int) - buys ts x + ((y : Int) - buys ts y)
    omega
theorem perB_eq {ts : List Tr} (f : Fair ts) : ((perB ts : Nat) : Int) = cost ts (per ts) := by
  have h := (cf f).nonneg (per ts)
  unfold perB
  exact Int.toNat_of_nonneg h
theorem perB_le {ts : List Tr} (f : Fair ts) : perB ts ≤ per ts := by
  have h : cost ts (per ts) ≤ (per ts : Int) := (cf f).le_self (per ts)
  have e := perB_eq f
  omega
/-! tables -/
theorem tops_eq {c : Nat → Int} (h0 : c 0 = 0) : ∀ n : Nat, topsF 0 ((List.range (n + 1)).map c) = (List.range (n + 1)).map (T c) ∧ topsM 0 ((List.range (n + 1)).map c) = T c n
  | 0 => by
    constructor
    · show [if (0 : Int) < c 0 then c 0 else 0] = [c 0]
      rw [h0]
      rfl
    · show (if (0 : Int) < c 0 then c 0 else 0) = c 0
      rw [h0]
      rfl
  | n + 1 => by
    obtain ⟨h1, h2⟩ := tops_eq h0 n
    have e : topsM 0 ((List.range (n + 1 + 1)).map c) = T c (n + 1) := by
      rw [List.range_succ, List.map_append, List.map_singleton, topsM_snoc, h2]
      rfl
    refine ⟨?_, e⟩
    rw [List.range_succ, List.map_append, List.map_append, List.map_singleton, List.map_singleton, topsF_snoc, h1, ← e]
    rw [List.range_succ (n := n + 1), List.map_append, List.map_singleton]
theorem firsts_eq {c : Nat → Int} {P B : Nat} (h : CF c P B) : ∀ n : Nat, firstsF 0 [] ((List.range (n + 1)).map (T c)) = (List.range ((T c n).toNat + 1)).map fun k => ((D c k : Nat) : Int)
  | 0 => by
    have e : T c 0 = 0 := h.zero
    show (if T c 0 = ((([] : List Int)).length : Int) then [] ++ [((0 : Nat) : Int)] else []) = _
    rw [e]
    show [((0 : Nat) : Int)] = [((D c 0 : Nat) : Int)]
    rw [h.D_zero]
  | n + 1 => by
    have ih := firsts_eq h n
    have hs := h.T_step n
    have hm := CF.T_mono c (Nat.le_add_right n 1)
    have hn := h.T_nonneg n
    rw [List.range_succ, List.map_append, List.map_singleton, firstsF_snoc, ih]
    simp only [List.length_map, List.length_range, Nat.zero_add]
    by_cases q : T c (n + 1) = (((T c n).toNat + 1 : Nat) : Int)
    · rw [if_pos q]
      have e1 : (T c (n + 1)).toNat = (T c n).toNat + 1 := by omega
      rw [e1, List.range_succ (n := (T c n).toNat + 1), List.map_append, List.map_singleton]
      have e2 : D c ((T c n).toNat + 1) = n + 1 := by
        refine h.D_eq ⟨?_, fun j hj => ?_⟩
        · obtain ⟨j, hj, ej⟩ := CF.T_at c (n + 1)
          rcases Nat.lt_or_eq_of_le hj with z | z
          · have := CF.T_ge c (d := n) (j := j) (by omega)
            omega
          · rw [z] at ej
            omega
        · have := CF.T_ge c (d := n) (j := j) (by omega)
          push_cast
          omega
      rw [e2]
    · rw [if_neg q]
      have e1 : (T c (n + 1)).toNat = (T c n).toNat := by
        push_cast at q
        omega
      rw [e1]
theorem getD_map {f : Nat → Int} {n i : Nat} (h : i < n) : ((List.range n).map f).getD i 0 = f i := by
  rw [List.getD_eq_getElem?_getD, List.getElem?_map, List.getElem?_range h]
  rfl
/-- behind its end the table of the greatest costs goes on as it is said -/
theorem value_tops {c : Nat → Int} {P B : Nat} (h : CF c P B) (d : Nat) : valueAt ((List.range (2 * P)).map (T c)) d P B = T c d := by
  have hp := h.ppos
  unfold valueAt
  simp only [List.length_map, List.length_range]
  by_cases q : (d : Int) < ((2 * P : Nat) : Int)
  · rw [if_pos q, Int.toNat_natCast, getD_map (by omega)]
  · rw [if_neg q]
    obtain ⟨e, he⟩ : ∃ e, d = 2 * P + e := ⟨d - 2 * P, by omega⟩
    have e1 : (d : Int) - ((2 * P : Nat) : Int) = (e : Int) := by omega
    rw [e1, ← Int.natCast_ediv]
    have h1 := Nat.div_add_mod e P
    have h2 := Nat.mod_lt e hp
    have h3 : (e / P + 1) * P = P * (e / P) + P := by rw [Nat.add_mul, Nat.one_mul, Nat.mul_comm]
    have e2 : (d : Int) - (((e / P : Nat) : Int) + 1) * (P : Int) = ((P + e % P : Nat) : Int) := by
      have : (((e / P : Nat) : Int) + 1) * (P : Int) = (((e / P + 1) * P : Nat) : Int) := by push_cast; rfl
      rw [this]
      omega
    rw [e2, Int.toNat_natCast, getD_map (by omega)]
    have e3 : d = P + e % P + (e / P + 1) * P := by omega
    have h5 := h.T_perk (d := P + e % P) (by omega) (e / P + 1)
    rw [← e3] at h5
    rw [h5]
    push_cast
    rfl
theorem value_firsts {c : Nat → Int} {P B : Nat} (h : CF c P B) (n : Nat) : valueAt ((List.range ((T c (2 * P - 1)).toNat + 1)).map fun k => ((D c k : Nat) : Int)) n B P = ((D c n : Nat) : Int) := by
  have hp := h.ppos
  have hb := h.bpos
  have ht : T c (2 * P - 1) = T c (P - 1) + B := by
    have := h.T_per (d := P - 1) (by omega)
    rw [show P - 1 + P = 2 * P - 1 by omega] at this
    exact this
  have h0 := h.T_nonneg (P - 1)
  generalize hL : (T c (2 * P - 1)).toNat + 1 = L
  unfold valueAt
  simp only [List.length_map, List.length_range]
  by_cases q : (n : Int) < (L : Int)
  · rw [if_pos q, Int.toNat_natCast, getD_map (by omega)]
  · rw [if_neg q]
    obtain ⟨e, he⟩ : ∃ e, n = L + e := ⟨n - L, by omega⟩
    have e1 : (n : Int) - (L : Int) = (e : Int) := by omega
    rw [e1, ← Int.natCast_ediv]
    have h1 := Nat.div_add_mod e B
    have h2 := Nat.mod_lt e hb
    have h3 : (e / B + 1) * B = B * (e / B) + B := by rw [Nat.add_mul, Nat.one_mul, Nat.mul_comm]
    obtain ⟨g, hg⟩ : ∃ g, L = B + g := ⟨L - B, by omega⟩
    have e2 : (n : Int) - (((e / B : Nat) : Int) + 1) * (B : Int) = ((g + e % B : Nat) : Int) := by
      have : (((e / B : Nat) : Int) + 1) * (B : Int) = (((e / B + 1) * B : Nat) : Int) := by push_cast; rfl
      rw [this]
      omega
    rw [e2, Int.toNat_natCast, getD_map (by omega)]
    have e3 : n = g + e % B + (e / B + 1) * B := by omega
    have h5 := h.D_perk (n := g + e % B) (by omega) (e / B + 1)
    rw [← e3] at h5
    rw [h5]
    push_cast
    rfl
end EB

namespace EB
open PySem PySem.Spec PyProof.Rows L2
/-! ### what an offer is -/
def nmOk (ts : List Tr) : Prop := (ts.map Tr.k).Nodup ∧ ∀ t ∈ ts, kindOk t.k = true ∧ t.k.length ≤ 1000
def wholeS (d : Nat) (t : Tr) : Nat := d.lcm t.n.natAbs
def wholeF (ts : List Tr) : Nat := ts.foldl wholeS 1
theorem wholeF_le : ∀ (ts : List Tr) (d : Nat), (∀ t ∈ ts, t.ok) → ts.foldl wholeS d ≤ d * 12 ^ ts.length
  | [], d, _ => by simp
  | t :: ts, d, h => by
    have h1 := wholeF_le ts (wholeS d t) fun u hu => h u (List.mem_cons_of_mem _ hu)
    have ht := h t (List.mem_cons_self ..)
    have h2 : wholeS d t ≤ d * 12 := Nat.le_trans (PySem.W.mc_lcm_le _ _) (Nat.mul_le_mul_left _ (by have := ht.2.2.1; have := ht.2.2.2; omega))
    have h3 : wholeS d t * 12 ^ ts.length ≤ d * 12 * 12 ^ ts.length := Nat.mul_le_mul_right _ h2
    rw [List.foldl_cons, List.length_cons, Nat.pow_succ]
    rw [Nat.mul_assoc, Nat.mul_comm 12] at h3
    omega
theorem wholeF_most {ts : List Tr} (h : gds ts) (i : Nat) : (ts.take i).foldl wholeS 1 ≤ 1728 := by
  have h1 := wholeF_le (ts.take i) 1 fun t ht => h.2 t (List.mem_of_mem_take ht)
  have h2 : (ts.take i).length ≤ 3 := by
    rw [List.length_take]
    have := h.1
    omega
  have h3 : 12 ^ (ts.take i).length ≤ 12 ^ 3 := Nat.pow_le_pow_right (by omega) h2
  omega
theorem wholeF_dvd : ∀ (ts : List Tr) (d m : Nat), (ts.foldl wholeS d ∣ m ↔ d ∣ m ∧ ∀ t ∈ ts, t.n.natAbs ∣ m)
  | [], d, m => by simp
  | t :: ts, d, m => by
    rw [List.foldl_cons, wholeF_dvd ts (wholeS d t) m]
    unfold wholeS
    rw [Nat.lcm_dvd_iff]
    constructor
    · rintro ⟨⟨a, b⟩, c⟩
      refine ⟨a, fun u hu => ?_⟩
      rcases List.mem_cons.mp hu with rfl | hu
      · exact b
      · exact c u hu
    · rintro ⟨a, b⟩
      exact ⟨⟨a, b t (List.mem_cons_self ..)⟩, fun u hu => b u (List.mem_cons_of_mem _ hu)⟩
def parts (ts : List Tr) : Int := (ts.map fun t => (wholeF ts : Int) / t.n * t.l).sum
theorem parts_fair {ts : List Tr} (g : gds ts) : 10 * parts ts ≤ 9 * (wholeF ts : Int) ↔ 10 * worth ts ≤ 9 * 27720 := by
  have hd : wholeF ts ∣ 27720 := by
    refine (wholeF_dvd ts 1 27720).mpr ⟨Nat.one_dvd _, fun t ht => ?_⟩
    have := dvd_big (g.2 t ht).2.2.1 (g.2 t ht).2.2.2
    exact Int.natAbs_dvd_natAbs.mpr this
  obtain ⟨k, hk⟩ := hd
  have hk0 : 0 < k := by
    rcases Nat.eq_zero_or_pos k with z | z
    · rw [z] at hk
      omega
    · exact z
  have hw : worth ts = parts ts * k := by
    unfold worth parts
    rw [← sum_map_mul]
    refine sum_map_eq fun t ht => ?_
    have hn := tr_pos (g.2 t ht)
    have h1 : t.n.natAbs ∣ wholeF ts := ((wholeF_dvd ts 1 (wholeF ts)).mp (Nat.dvd_refl _)).2 t ht
    obtain ⟨q, hq⟩ := h1
    have hq2 : (wholeF ts : Int) = t.n * (q : Int) := by
      rw [hq]
      push_cast
      rw [Int.natAbs_of_nonneg (Int.le_of_lt hn)]
    have e1 : (wholeF ts : Int) / t.n = q := by
      rw [hq2]
      exact Int.mul_ediv_cancel_left _ (Int.ne_of_gt hn)
    have e2 : (27720 : Int) / t.n = (q : Int) * k := by
      have : (27720 : Int) = t.n * ((q : Int) * k) := by
        have z : (27720 : Int) = ((wholeF ts * k : Nat) : Int) := by rw [← hk]; rfl
        rw [z]
        push_cast
        rw [hq2, Int.mul_assoc]
      rw [this]
      exact Int.mul_ediv_cancel_left _ (Int.ne_of_gt hn)
    rw [e1, e2, Int.mul_assoc, Int.mul_assoc, Int.mul_comm (k : Int)]
  have hz : (27720 : Int) = (wholeF ts : Int) * k := by
    have z : (27720 : Int) = ((wholeF ts * k : Nat) : Int) := by rw [← hk]; rfl
    rw [z]
    push_cast
    rfl
  have hk1 : (0 : Int) < k := by omega
  rw [hw, hz]
  constructor
  · intro h
    have := Int.mul_le_mul_of_nonneg_right h (Int.le_of_lt hk1)
    rw [Int.mul_assoc, Int.mul_assoc] at this
    exact this
  · intro h
    refine Int.le_of_mul_le_mul_right ?_ hk1
    rw [Int.mul_assoc, Int.mul_assoc]
    exact h
/-- the tables of an offer -/
abbrev topsL (ts : List Tr) : List Int := (List.range (2 * per ts)).map (T (cN ts))
noncomputable abbrev firstsL (ts : List Tr) : List Int := (List.range ((T (cN ts) (2 * per ts - 1)).toNat + 1)).map fun k => ((D (cN ts) k : Nat) : Int)
noncomputable abbrev gapsL (ts : List Tr) : List Int := gapsF (firstsL ts) 0 (topsL ts)
def ofs (t p o f g : Addr) : List (Str × V) := [("_trades", .ref t), ("_period", .ref p), ("_tops", .ref o), ("_firsts", .ref f), ("_gaps", .ref g)]
/-- at a an offer of these trades -/
structure OfAt (K : PySem.W.Frag) (H : Hp) (a : Addr) (ts : List Tr) : Prop where
  ex : ∃ dx t p o f g, H a = some (.ins (He.ga K "Offer") dx (ofs t p o f g)) ∧ TrAt K H t ts ∧ SqT K H p [.int (perB ts : Nat), .int (per ts : Nat)] ∧ SqL K H o ((topsL ts).map V.int) ∧ SqL K H f ((firstsL ts).map V.int) ∧ SqL K H g ((gapsL ts).map V.int)
theorem OfAt.mono {K : PySem.W.Frag} {H H' : Hp} {a : Addr} {ts : List Tr} (s : Same H H') (h : OfAt K H a ts) : OfAt K H' a ts := by
  obtain ⟨dx, t, p, o, f, g, h1, h2, h3, h4, h5, h6⟩ := h.ex
  exact ⟨dx, t, p, o, f, g, s _ _ h1, h2.mono s, Same.tup s h3, s.seq h4, s.seq h5, s.seq h6⟩
section
variable {P : Program} {w : World} {K : PySem.W.Frag} {mg : Str → Option Value} {base : Heap} (T' : Tx K mg)
theorem inV_str {z : Str} {l : List Str} (h : z ∉ l) : inV (.str z) (l.map V.str) = false := by
  unfold inV
  rw [List.any_eq_false]
  intro y hy
  obtain ⟨x, hx, rfl⟩ := List.mem_map.mp hy
  show ¬ ((x == z) = true)
  intro e
  exact h (eq_of_beq e ▸ hx)
theorem flat_str (l : List Str) : (l.map V.str).all flatV = true := by
  rw [List.all_eq_true]
  intro y hy
  obtain ⟨x, hx, rfl⟩ := List.mem_map.mp hy
  rfl
end
section
variable {P : Program} {w : World} {K : PySem.W.Frag} {mg : Str → Option Value} {base : Heap} (T : Tx K mg)
include T
def spChkTr (K : PySem.W.Frag) : Sp := fun vs H Q _ => ∃ (a : Addr) (ts : List Tr), vs = [.ref a] ∧ TrAt K H a ts ∧ gds ts ∧ ts ≠ [] ∧ nmOk ts ∧ ∀ H', Same H H' → Q .non H'
theorem ok_check_trades : FnR P w K mg base CX0 4 (a_check_trades K) (spChkTr K) := by
  refine fnR0 (d := d_check_trades) T.F_check_trades sc_check_trades rfl (fun _ _ _ _ _ _ us hl => match us, hl with | [_], _ => rfl) (fun vs H Q E h => ?_) (fun cdv A outer s H vs Q E hr h => ?_)
  · obtain ⟨a, ts, rfl, _⟩ := h
    rfl
  obtain ⟨a, ts, rfl, hT, hg, hne, hnm, k⟩ := h
  obtain ⟨ps, h1, h2, h3⟩ := hT.ex
  obtain ⟨uE, hE⟩ := T.v_Offer_MAX_TRADES
  refine ⟨_, (pss_cons (ps_if (pt_not (pt_truth (pv 0) (by intro _; rfl))) (pss_one ps_never) pss_nil) (pss_cons (ps_set (i := 1) sc_check_trades.nd rfl (Or.inl rfl) (pe_lst pa_nil)) (pss_one (ps_for PassesOwn.never rfl (pi_enumT (by rfl) T.n_enumerate (pa_cons (pv 0) pa_nil)) (pg_tup rfl (pgs_cons (pg_name (i := 2) sc_check_trades.nd rfl (Or.inl rfl)) (pgs_cons (pg_tup rfl (pgs_cons (pg_name (i := 3) sc_check_trades.nd rfl (Or.inl rfl)) (pgs_cons (pg_name (i := 4) sc_check_trades.nd rfl (Or.inl rfl)) (pgs_cons (pg_name (i := 5) sc_check_trades.nd rfl (Or.inl rfl)) pgs_nil)))) pgs_nil))) (pss_cons (ps_if (PW.pt (pw_or (pt_cmpR op_eq (pv 2) (ClX.pe_cval (pe_cC T.g_Offer)) (nomark _)) (pw_or (pt_cmpR op_in_seq (pv 3) (pv 1) rfl) (pw_or1 (pt_not (pt_val (pe_cR (ok_is_trade T) (hr.mono (by decide)) T.F_is_trade.kp T.g_is_trade pass0 (pa_cons (pv 3) (pa_cons (pv 4) (pa_cons (pv 5) pa_nil)))))))))) (pss_one ps_never) pss_nil) (pss_one (ps_expr (pe_bm PySem.F.plainAttrs_list PySem.F.slot_list_append PySem.F.type_list_append mt_append (pv 1) (pa_cons (pv 3) pa_nil))))))))), ?_⟩
  have hps : (ps.map V.ref).isEmpty = false := by
    cases ps with
    | nil =>
      cases ts with
      | nil => exact absurd rfl hne
      | cons _ _ => cases h2
    | cons _ _ => rfl
  refine ⟨_, rfl, true, .inr (.inl ⟨_, h1, by rw [hps]; rfl⟩), iteF ?_⟩
  refine ⟨Nat.zero_le _, fun p hp => ?_⟩
  refine ⟨_, rfl, a, _, rfl, Same.tup (same_new hp) h1, for_it (walk_enumT (K := K) (a := a) (xs := ps.map V.ref)) (fun i σ H1 => Same H H1 ∧ H1 p = some (.lst (((ts.take i).map Tr.k).map V.str)) ∧ ∃ x2 x3 x4 x5, σ = [some (.ref a), some (.ref p), x2, x3, x4, x5])
    ⟨same_new hp, upd_same, _, _, _, _, rfl⟩ (fun i σ H1 _ q => Same.tup q.1 h1) ?_ ?_⟩
  · rintro i x σ H1 H2 hi ⟨s1, e1, x2, x3, x4, x5, rfl⟩ ⟨q, u, v, rfl, nq, rfl, eu, ev⟩
    cases eu
    obtain ⟨pt, t, rfl, ep, et, hm, li, hpt⟩ := TrAt.at_ h2 h3 ev
    have s2 : Same H (upd H1 q (.tup [.int (i : Nat), .ref pt])) := s1.trans (same_new nq)
    have e2 := upd_old (u := .tup [.int (i : Nat), .ref pt]) e1 nq
    have ht := hg.2 _ hm
    have hk := hnm.2 _ hm
    refine ⟨q, _, rfl, SqT.of upd_same, rfl, _, _, rfl, _, _, rfl, ⟨pt, _, rfl, Same.tup s2 hpt, rfl, _, _, rfl, _, _, rfl, _, _, rfl, rfl, rfl, ?_⟩⟩
    refine ⟨_, rfl, He.ga K "Offer", _, _, _, rfl, T.r_Offer, hE, rfl, _, rfl, ite2 (fun hd => ?_) (fun _ => ?_)⟩
    · have hd := V.int.inj (of_decide_eq_true hd)
      have := hg.1
      omega
    have hnotin : t.k ∉ (ts.take i).map Tr.k := by
      intro hin
      have hnd : ((ts.take (i + 1)).map Tr.k).Nodup := (hnm.1.sublist ((List.take_sublist _ _).map _))
      rw [take_at et, List.map_append, List.nodup_append] at hnd
      exact hnd.2.2 _ hin _ (List.mem_singleton.mpr rfl) rfl
    refine ⟨_, rfl, _, rfl, p, _, rfl, .inl (SqL.of e2), rfl, flat_str _, _, rfl, ite2 (fun hd => ?_) (fun _ => ?_)⟩
    · rw [if_neg Bool.false_ne_true, inV_str hnotin] at hd
      cases hd
    refine ⟨_, rfl, _, rfl, _, rfl, t, rfl, hk.2, fun H3 s3 => ⟨_, rfl, ?_⟩⟩
    rw [trOk_of ht hk.1]
    refine iteF ?_
    have e3 := s3 _ _ e2
    refine ⟨_, rfl, .inl ⟨rfl, _, SqL.of e3⟩, _, rfl, p, _, _, rfl, rfl, e3, small3 ?_, same_mut (s2.trans s3) hp, ?_, _, _, _, _, rfl⟩
    · rw [List.length_map, List.length_map, List.length_take]
      have := hg.1
      omega
    · rw [upd_same, take_at et, List.map_append, List.map_append]
      rfl
  · rintro σ H1 ⟨s1, e1, x2, x3, x4, x5, rfl⟩
    exact k _ s1
def spChkGen (K : PySem.W.Frag) : Sp := fun vs H Q _ => ∃ (a : Addr) (ts : List Tr), vs = [.ref a] ∧ TrAt K H a ts ∧ Fair ts ∧ ∀ H', Same H H' → Q .non H'
theorem ok_check_generosity : FnR P w K mg base CX0 1 (a_check_generosity K) (spChkGen K) := by
  refine fnR0 (d := d_check_generosity) T.F_check_generosity sc_check_generosity rfl (fun _ _ _ _ _ _ us hl => match us, hl with | [_], _ => rfl) (fun vs H Q E h => ?_) (fun cdv A outer s H vs Q E hr h => ?_)
  · obtain ⟨a, ts, rfl, _⟩ := h
    rfl
  obtain ⟨a, ts, rfl, hT, hf, k⟩ := h
  obtain ⟨ps, h1, h2, h3⟩ := hT.ex
  refine ⟨_, (pss_cons (ps_set (i := 1) sc_check_generosity.nd rfl (Or.inr rfl) pe_int) (pss_cons (ps_for PassesOwn.never rfl (pi_tup (pv 0)) (pg_tup rfl (pgs_cons (pg_name (i := 2) sc_check_generosity.nd rfl (Or.inl rfl)) (pgs_cons (pg_name (i := 2) sc_check_generosity.nd rfl (Or.inl rfl)) (pgs_cons (pg_name (i := 3) sc_check_generosity.nd rfl (Or.inl rfl)) pgs_nil)))) (pss_one (ps_set (i := 1) sc_check_generosity.nd rfl (Or.inr rfl) (pe_callBfun cr_lcm (by rfl) T.b_lcm (pa_cons (pv 1) (pa_cons (pv 3) pa_nil)))))) (pss_cons (ps_set (i := 4) sc_check_generosity.nd rfl (Or.inl rfl) (pe_callB (cr_sum rfl) (by rfl) T.n_sum (by decide +kernel) (pa_cons (pe_lc (own := [("_", 2), ("left", 5), ("needed", 3)]) rfl sc_check_generosity.nd (pi_tup (pv 0)) (blkOk_by (own := [("_", 2), ("left", 5), ("needed", 3)]) (N := N_check_generosity) (sc := defScope s_check_generosity) (by decide +kernel)) (fun _ _ _ _ _ => (pg_tupB (n := 3) (pgs_cons (pg_name (i := 2) sc_check_generosity.nd rfl (Or.inl rfl) (.inr rfl)) (pgs_cons (pg_name (i := 5) sc_check_generosity.nd rfl (Or.inl rfl) (.inr rfl)) (pgs_cons (pg_name (i := 3) sc_check_generosity.nd rfl (Or.inl rfl) (.inr rfl)) pgs_nil))))) (fun _ _ _ _ _ => pts_nil) (fun _ _ _ _ _ => (pe_op op_mul (pe_op op_fdiv (pv 1) (pv 3)) (pv 5)))) pa_nil))) (pss_one (ps_if (pt_cmpR op_gt (pe_op op_mul pe_int (pv 4)) (pe_op op_mul pe_int (pv 1)) (nomark _)) (pss_one ps_never) pss_nil))))), ?_⟩
  refine ⟨_, rfl, a, rfl, ⟨_, h1⟩, for_tup (xs := ps.map V.ref) (fun i σ H1 => H1 = H ∧ ∃ x2 x3 x4 x5, σ = [some (.ref a), some (.int (((ts.take i).foldl wholeS 1 : Nat) : Int)), x2, x3, x4, x5]) ⟨rfl, _, _, _, _, rfl⟩ (fun i σ H1 _ q => by rw [q.1]; exact h1) ?_ ?_⟩
  · rintro i x σ H1 hx ⟨rfl, x2, x3, x4, x5, rfl⟩
    obtain ⟨p, t, rfl, ep, et, hm, li, hp⟩ := TrAt.at_ h2 h3 hx
    have ht := hf.g.2 _ hm
    refine ⟨p, _, rfl, hp, rfl, _, _, rfl, _, _, rfl, _, _, rfl, rfl, ?_⟩
    refine ⟨_, rfl, _, rfl, _, _, rfl, ?_, ?_, rfl, some (.int t.l), some (.int t.n), x4, x5, ?_⟩
    · have := wholeF_most hf.g i
      exact Nat.lt_of_le_of_lt (by omega : _ ≤ 1728) (by decide)
    · have := ht.2.2.1
      have := ht.2.2.2
      exact Nat.lt_of_le_of_lt (by omega : _ ≤ 12) (by decide)
    · rw [take_at et, List.foldl_append]
      rfl
  · rintro σ H1 ⟨rfl, x2, x3, x4, x5, rfl⟩
    have ew : (ts.take (ps.map V.ref).length).foldl wholeS 1 = wholeF ts := by
      rw [List.length_map, h2, List.take_length]
      rfl
    rw [ew]
    have hw : wholeF ts ≤ 1728 := by
      have := wholeF_most hf.g ts.length
      rw [List.take_length] at this
      exact this
    refine ⟨_, rfl, a, rfl, ⟨_, h1⟩, fun D hD => ?_⟩
    refine lc_tup (xs := ps.map V.ref) (fun i H2 => Same H1 H2 ∧ H1 D = none ∧ H2 D = some (.lst ((ts.take i).map fun t => V.int ((wholeF ts : Int) / t.n * t.l)))) ⟨same_new hD, hD, upd_same⟩ (fun i H2 _ q => Same.tup q.1 h1) ?_ ?_
    · rintro i x H2 hx ⟨s1, n1, e1⟩
      obtain ⟨p, t, rfl, ep, et, hm, li, hp⟩ := TrAt.at_ h2 h3 hx
      have ht := hf.g.2 _ hm
      refine ⟨p, _, rfl, Same.tup s1 hp, rfl, _, _, rfl, _, _, rfl, _, _, rfl, rfl, rfl, ?_⟩
      refine ⟨_, rfl, _, rfl, _, _, rfl, rfl, ⟨by have := ht.2.2.1; omega, by have := ht.2.2.2; omega⟩, _, rfl, _, _, rfl, rfl, .inr ⟨by have := ht.1; omega, by have := ht.2.1; omega⟩, ?_⟩
      refine ⟨_, e1, small3 ?_, same_mut s1 n1, n1, ?_⟩
      · rw [List.length_map, List.length_take]
        have := hf.g.1
        omega
      · rw [upd_same, take_at et, List.map_append]
        rfl
    · rintro H2 ⟨s1, n1, e1⟩
      refine ⟨D, ts.map fun t => (wholeF ts : Int) / t.n * t.l, rfl, SqL.of ?_, ?_⟩
      · rw [e1, List.length_map, h2, List.take_length, List.map_map]
        rfl
      · refine ⟨_, rfl, _, _, rfl, rfl, .inl ⟨by decide, by decide⟩, _, rfl, _, _, rfl, rfl, .inl ⟨by decide, by decide⟩, _, _, rfl, rfl, _, rfl, ite2 (fun hd => ?_) (fun _ => k _ s1)⟩
        have hd : 9 * (wholeF ts : Int) < 10 * parts ts := of_decide_eq_true hd
        have := (parts_fair hf.g).mpr hf.w
        omega
end
end EB

namespace EB
open PySem PySem.Spec PyProof.Rows L2
/-! ### a heap with one object left out -/
def hid (H : Hp) (x : Addr) : Hp := fun b => if b = x then none else H b
theorem hid_x {H : Hp} {x : Addr} : hid H x x = none := if_pos rfl
theorem hid_ne {H : Hp} {x b : Addr} (h : b ≠ x) : hid H x b = H b := if_neg h
theorem hid_same {H : Hp} {x : Addr} : Same (hid H x) H := fun b o e => by
  by_cases h : b = x
  · rw [h, hid_x] at e
    cases e
  · rw [hid_ne h] at e
    exact e
theorem same_hid {H0 H : Hp} {x : Addr} (s : Same H0 H) (h : H0 x = none) : Same H0 (hid H x) := fun b o e => by
  rw [hid_ne (ne_of_none e h)]
  exact s b o e
theorem hid_old {H : Hp} {x b : Addr} {o u : HO} (h : H b = some o) (hx : H x = some u) (d : o ≠ u) : hid H x b = some o := by
  rw [hid_ne (ne_of h hx d)]
  exact h
theorem hid_upd {H : Hp} {x : Addr} {o : HO} : hid (upd H x o) x = hid H x := funext fun b => by
  by_cases h : b = x
  · rw [h, hid_x, hid_x]
  · rw [hid_ne h, hid_ne h, upd_ne h]
theorem putF_ne {f g : Str} {v x : V} {r : List (Str × V)} (h : ¬ g = f) : putF f v ((g, x) :: r) = (g, x) :: putF f v r := by
  show (if g = f then _ else _) = _
  rw [if_neg h]
theorem put1 {a : V} : putF "_trades" a [] = ([("_trades", a)] : List (Str × V)) := rfl
theorem put2 {a b : V} : putF "_period" b ([("_trades", a)] : List (Str × V)) = ([("_trades", a), ("_period", b)] : List (Str × V)) := by
  rw [putF_ne (by decide +kernel)]
  rfl
theorem put3 {a b c : V} : putF "_tops" c ([("_trades", a), ("_period", b)] : List (Str × V)) = ([("_trades", a), ("_period", b), ("_tops", c)] : List (Str × V)) := by
  rw [putF_ne (by decide +kernel), putF_ne (by decide +kernel)]
  rfl
theorem put4 {a b c d : V} : putF "_firsts" d ([("_trades", a), ("_period", b), ("_tops", c)] : List (Str × V)) = ([("_trades", a), ("_period", b), ("_tops", c), ("_firsts", d)] : List (Str × V)) := by
  rw [putF_ne (by decide +kernel), putF_ne (by decide +kernel), putF_ne (by decide +kernel)]
  rfl
theorem put5 {a b c d e : V} : putF "_gaps" e ([("_trades", a), ("_period", b), ("_tops", c), ("_firsts", d)] : List (Str × V)) = ([("_trades", a), ("_period", b), ("_tops", c), ("_firsts", d), ("_gaps", e)] : List (Str × V)) := by
  rw [putF_ne (by decide +kernel), putF_ne (by decide +kernel), putF_ne (by decide +kernel), putF_ne (by decide +kernel)]
  rfl
theorem lkN {k g : Str} {v : V} {r : List (Str × V)} (h : (k == g) = false) : ((g, v) :: r).lookup k = r.lookup k := by rw [List.lookup_cons, h]
theorem lkY {k : Str} {v : V} {r : List (Str × V)} : ((k, v) :: r).lookup k = some v := by rw [List.lookup_cons, beq_self_eq_true]
theorem lk_tops {a b c : V} {r : List (Str × V)} : (("_trades", a) :: ("_period", b) :: ("_tops", c) :: r : List (Str × V)).lookup ("_tops" : Str) = some c := by
  rw [lkN (by decide +kernel), lkN (by decide +kernel), lkY]
theorem lk_firsts {a b c d : V} {r : List (Str × V)} : (("_trades", a) :: ("_period", b) :: ("_tops", c) :: ("_firsts", d) :: r : List (Str × V)).lookup ("_firsts" : Str) = some d := by
  rw [lkN (by decide +kernel), lkN (by decide +kernel), lkN (by decide +kernel), lkY]
theorem lk_gaps {a b c d e : V} {r : List (Str × V)} : (("_trades", a) :: ("_period", b) :: ("_tops", c) :: ("_firsts", d) :: ("_gaps", e) :: r : List (Str × V)).lookup ("_gaps" : Str) = some e := by
  rw [lkN (by decide +kernel), lkN (by decide +kernel), lkN (by decide +kernel), lkN (by decide +kernel), lkY]
theorem lk_period {a b : V} {r : List (Str × V)} : (("_trades", a) :: ("_period", b) :: r : List (Str × V)).lookup ("_period" : Str) = some b := by
  rw [lkN (by decide +kernel), lkY]
theorem lk_trades {a : V} {r : List (Str × V)} : (("_trades", a) :: r : List (Str × V)).lookup ("_trades" : Str) = some a := lkY
theorem lk_no {t p o f g : Addr} {m : Str} (h : ((m == "_trades") || ((m == "_period") || ((m == "_tops") || ((m == "_firsts") || (m == "_gaps"))))) = false) : (ofs t p o f g).lookup m = none := by
  obtain ⟨h1, h⟩ := Bool.or_eq_false_iff.mp h
  obtain ⟨h2, h⟩ := Bool.or_eq_false_iff.mp h
  obtain ⟨h3, h⟩ := Bool.or_eq_false_iff.mp h
  obtain ⟨h4, h5⟩ := Bool.or_eq_false_iff.mp h
  unfold ofs
  rw [lkN h1, lkN h2, lkN h3, lkN h4, lkN h5]
  rfl
theorem per_le' {ts : List Tr} (g : gds ts) : per ts ≤ 1728 := by
  have := per_most g ts.length
  rw [List.take_length] at this
  exact this
theorem tops_in {ts : List Tr} (f : Fair ts) : ∀ t ∈ topsL ts, 0 ≤ t ∧ t < (firstsL ts).length := by
  intro t ht
  obtain ⟨d, hd, rfl⟩ := List.mem_map.mp ht
  have h1 := List.mem_range.mp hd
  have h2 := (cf f).T_nonneg d
  have h3 := CF.T_mono (cN ts) (show d ≤ 2 * per ts - 1 by omega)
  refine ⟨h2, ?_⟩
  rw [List.length_map, List.length_range]
  omega
/-- an offer at a whose tables were not there ahead of it -/
structure OfNew (K : PySem.W.Frag) (H0 H : Hp) (a : Addr) (ts : List Tr) : Prop where
  ex : ∃ dx t p o f g, H a = some (.ins (He.ga K "Offer") dx (ofs t p o f g)) ∧ TrAt K H t ts ∧ SqT K H p [.int (perB ts : Nat), .int (per ts : Nat)] ∧ SqL K H o ((topsL ts).map V.int) ∧ SqL K H f ((firstsL ts).map V.int) ∧ SqL K H g ((gapsL ts).map V.int) ∧
    H0 o = none ∧ H0 f = none ∧ H0 g = none
section
variable {P : Program} {w : World} {K : PySem.W.Frag} {mg : Str → Option Value} {base : Heap}
/-- a def whose last parameter takes what is left over -/
theorem fnRS {d : DD} {fd : FuncData} {N ps : List Str} {pv : Str} {k : Nat} {sp : Sp} (F : FnP K d fd) (S : FnScope N (ps ++ [pv]) (defScope d.st)) (e : d.df = [])
    (b : ∀ (kV doc pm : Value) (an : Option Addr) (cdv ct : Value) (us rest : List Value), us.length = ps.length → bindArgs (PySem.W.fnOf d.nm d.ql (defArgs d.st) (defBody d.st) (defScope d.st) .none kV doc pm an cdv ct) ⟨us ++ rest, []⟩ = (newTuple rest >>= fun t => pure (ps.zip us ++ [(pv, t)])))
    (hbody : ∀ (cdv : Value) (A : Around) (outer : List Env) (s : Shared) (H : Hp) (vs : List V) (Q : VK) (E : XK), Room k (A.deeper (envOfC d.ql (defScope d.st) s.heap.objs.size (d.adr K) cdv)) → sp vs H Q E →
      ∃ t, PSs (cxOf CX0 P w K mg base N d.ql (defScope d.st) (d.adr K) cdv A outer s H E).nox (defBody d.st) t ∧ t { nx := fun _ H' => Q .non H', rt := Q } (start N vs) H) :
    FnR P w K mg base CX0 (k + 1) (d.adr K) (fun vs H Q E => ∃ ws rest, vs = ws ++ rest ∧ ws.length = ps.length ∧ rest.length ≤ sizeLine ∧ ∀ p, H p = none → sp (ws ++ [V.ref p]) (upd H p (.tup rest)) Q E) := by
  have z : FnP K d fd := F
  unfold FnP at z
  rw [e] at z
  obtain ⟨oc, od, dV, kV, doc, pm, an, cdv, ct, osl, rfl, lk, hcd, hD, hK⟩ := z.ex
  have hdV : dV = .none := by
    rcases hD with ⟨_, h⟩ | ⟨h, _⟩
    · exact h
    · exact absurd rfl h
  subst hdV
  exact StX.fn_star lk hcd S StX.cxUp_none (fun us rest hl => b kV doc pm an cdv ct us rest hl) fun A outer s H vs Q E hr h => by
    obtain ⟨t, h1, h2⟩ := hbody cdv A outer s H vs Q E hr h
    exact ⟨t, h1.nox, h2⟩
/-- a def called with its first values, the others filled up by its defaults -/
theorem fnRD {d : DD} {fd : FuncData} {N ps : List Str} {k : Nat} {sp : Sp} (F : FnP K d fd) (S : FnScope N ps (defScope d.st)) (n j : Nat) (hd : d.df.map (He.Dv.v K) ≠ []) (hn : n + ((d.df.map (He.Dv.v K)).length - j) = ps.length)
    (b : ∀ (Tt : Addr) (kV doc pm : Value) (an : Option Addr) (cdv ct : Value) (us its : List Value), us.length = n → its.length = (d.df.map (He.Dv.v K)).length →
      ∃ k, bindArgs (PySem.W.fnOf d.nm d.ql (defArgs d.st) (defBody d.st) (defScope d.st) (.ref Tt) kV doc pm an cdv ct) ⟨us, []⟩ = seqItems? (.ref Tt) >>= k ∧ k (some its.toArray) = pure (ps.zip (us ++ its.drop j)))
    (len : ∀ vs H Q E, sp vs H Q E → vs.length = ps.length)
    (hbody : ∀ (cdv : Value) (A : Around) (outer : List Env) (s : Shared) (H : Hp) (vs : List V) (Q : VK) (E : XK), Room k (A.deeper (envOfC d.ql (defScope d.st) s.heap.objs.size (d.adr K) cdv)) → sp vs H Q E →
      ∃ t, PSs (cxOf CX0 P w K mg base N d.ql (defScope d.st) (d.adr K) cdv A outer s H E).nox (defBody d.st) t ∧ t { nx := fun _ H' => Q .non H', rt := Q } (start N vs) H) :
    FnR P w K mg base CX0 (k + 1) (d.adr K) (fun vs H Q E => sp (vs ++ (d.df.map (He.Dv.v K)).drop j) H Q E) := by
  have F1 : FnOk P w K mg base CX0 (k + 1) (d.adr K) fd ps sp := FunD.ok F S len fun cdv A outer s H vs Q E hr h => by
    obtain ⟨t, h1, h2⟩ := hbody cdv A outer s H vs Q E hr h
    exact ⟨t, h1.nox, h2⟩
  obtain ⟨ds, h1, h2⟩ := FunD.binds1 F n j hd hn b
  exact F1.raw h2 h1
end
section
variable {P : Program} {w : World} {K : PySem.W.Frag} {mg : Str → Option Value} {base : Heap} (T : Tx K mg)
include T
def spChkNum : Sp := fun vs H Q _ => ∃ i lo hi : Int, vs = [.int i, .int lo, .int hi] ∧ lo ≤ i ∧ i ≤ hi ∧ Q .non H
def spChkNum1 : Sp := fun vs H Q _ => ∃ i : Int, vs = [.int i] ∧ 0 ≤ i ∧ i ≤ 1000000000000000000 ∧ Q .non H
theorem ok_check_number : FnR P w K mg base CX0 3 (a_check_number K) spChkNum1 := by
  refine (fnRD (d := d_check_number) (sp := spChkNum) (k := 2) (ps := ["value", "least", "most"]) T.F_check_number sc_check_number 1 0 (fun z => nomatch z) rfl (fun _ _ _ _ _ _ _ us its hl hi => match us, its, hl, hi with | [_], [_, _], _, _ => ⟨_, rfl, rfl⟩) (fun vs H Q E h => ?_) (fun cdv A outer s H vs Q E hr h => ?_)).imp fun vs H Q E h => ?_
  · obtain ⟨i, lo, hi, rfl, _⟩ := h
    rfl
  · obtain ⟨i, lo, hi, rfl, h1, h2, k⟩ := h
    refine ⟨_, (pss_one (ps_if (pt_not (pt_val (pe_cR (ok_is_number T) (hr.mono (by decide)) T.F_is_number.kp T.g_is_number pass0 (pa_cons (pv 0) (pa_cons (pv 1) (pa_cons (pv 2) pa_nil)))))) (pss_one ps_never) pss_nil)), ?_⟩
    refine ⟨_, rfl, _, rfl, _, rfl, i, lo, hi, rfl, _, rfl, ?_⟩
    rw [numOk_iff.mpr ⟨h1, h2⟩]
    exact iteF k
  · obtain ⟨i, rfl, h1, h2, k⟩ := h
    exact ⟨i, 0, 1000000000000000000, rfl, h1, h2, k⟩
def spInit (K : PySem.W.Frag) : Sp := fun vs H Q _ => ∃ (x p : Addr) (H0 : Hp) (dx : Addr) (ts : List Tr), vs = [.ref x, .ref p] ∧ Same H0 H ∧ H0 x = none ∧ H x = some (.ins (He.ga K "Offer") dx []) ∧ TrAt K H0 p ts ∧ Fair ts ∧ ts ≠ [] ∧ nmOk ts ∧
  ∀ H', Same H0 H' → OfNew K H0 H' x ts → Q .non H'
theorem ok_Offer_init : FnR P w K mg base CX0 5 (a_Offer_init K) (fun vs H Q E => ∃ ws rest, vs = ws ++ rest ∧ ws.length = 1 ∧ rest.length ≤ sizeLine ∧ ∀ p, H p = none → spInit K (ws ++ [V.ref p]) (upd H p (.tup rest)) Q E) := by
  refine fnRS (d := d_Offer_init) (ps := ["self"]) T.F_Offer_init sc_Offer_init rfl (fun kV doc pm an cdv ct => StX.bind_star1 (B := fun us => bindArgs (PySem.W.fnOf d_Offer_init.nm d_Offer_init.ql (defArgs d_Offer_init.st) (defBody d_Offer_init.st) (defScope d_Offer_init.st) .none kV doc pm an cdv ct) ⟨us, []⟩) (fun _ => rfl) (fun _ _ _ => rfl)) (fun cdv A outer s H vs Q E hr h => ?_)
  obtain ⟨x, p, H0, dx, ts, rfl, s0, n0, hx, hT0, hf, hne, hnm, k⟩ := h
  refine ⟨_, (pss_cons (ps_expr (pe_cR (ok_check_trades T) (hr.mono (by decide)) T.F_check_trades.kp T.g_check_trades pass0 (pa_cons (pv 1) pa_nil))) (pss_cons (ps_expr (pe_cR (ok_check_generosity T) (hr.mono (by decide)) T.F_check_generosity.kp T.g_check_generosity pass0 (pa_cons (pv 1) pa_nil))) (pss_cons (ps_fld (pv 0) (pe_callTy call_tuple_of (by rfl) T.n_tuple (by decide +kernel) (pa_cons (pe_lc (own := [("kind", 3), ("left", 4), ("needed", 5)]) rfl sc_Offer_init.nd (pi_tup (pv 1)) (blkOk_by (own := [("kind", 3), ("left", 4), ("needed", 5)]) (N := N_Offer_init) (sc := defScope s_Offer_init) (by decide +kernel)) (fun _ _ _ _ _ => (pg_tupB (n := 3) (pgs_cons (pg_name (i := 3) sc_Offer_init.nd rfl (Or.inl rfl) (.inr rfl)) (pgs_cons (pg_name (i := 4) sc_Offer_init.nd rfl (Or.inl rfl) (.inr rfl)) (pgs_cons (pg_name (i := 5) sc_Offer_init.nd rfl (Or.inl rfl) (.inr rfl)) pgs_nil))))) (fun _ _ _ _ _ => pts_nil) (fun _ _ _ _ _ => (pe_tup (pa_cons (pv 3) (pa_cons (pv 4) (pa_cons (pv 5) pa_nil)))))) pa_nil)) rfl) (pss_cons (ps_set (i := 2) sc_Offer_init.nd rfl (Or.inl rfl) (pe_cR (ok_drinks_of_period T) (hr.mono (by decide)) T.F_drinks_of_period.kp T.g_drinks_of_period pass0 (pa_cons (pv 1) pa_nil))) (pss_cons (ps_fld (pv 0) (pe_tup (pa_cons (pe_cR (ok_cost_of T) (hr.mono (by decide)) T.F_cost_of.kp T.g_cost_of pass0 (pa_cons (pv 1) (pa_cons (pv 2) pa_nil))) (pa_cons (pv 2) pa_nil))) rfl) (pss_cons (ps_fld (pv 0) (pe_cR (ok_tops_of T) (hr.mono (by decide)) T.F_tops_of.kp T.g_tops_of pass0 (pa_cons (pe_lc (own := [("count", 6)]) rfl sc_Offer_init.nd (pi_range1 rfl T.n_range (pa_cons (pe_op op_mul pe_int (pv 2)) pa_nil)) (blkOk_by (own := [("count", 6)]) (N := N_Offer_init) (sc := defScope s_Offer_init) (by decide +kernel)) (fun _ _ _ _ _ => (pg_name (i := 6) sc_Offer_init.nd rfl (Or.inl rfl) (.inr rfl))) (fun _ _ _ _ _ => pts_nil) (fun _ _ _ _ _ => (pe_cR (ok_cost_of T) (hr.mono (by decide)) T.F_cost_of.kp T.g_cost_of pass0 (pa_cons (pv 1) (pa_cons (pv 6) pa_nil))))) pa_nil)) rfl) (pss_cons (ps_fld (pv 0) (pe_cR (ok_firsts_of T) (hr.mono (by decide)) T.F_firsts_of.kp T.g_firsts_of pass0 (pa_cons (pe_fld (pv 0) rfl) pa_nil)) rfl) (pss_one (ps_fld (pv 0) (pe_cR (ok_gaps_of T) (hr.mono (by decide)) T.F_gaps_of.kp T.g_gaps_of pass0 (pa_cons (pe_fld (pv 0) rfl) (pa_cons (pe_fld (pv 0) rfl) pa_nil))) rfl))))))))), ?_⟩
  -- the checks
  refine ⟨_, rfl, p, ts, rfl, hT0.mono s0, hf.g, hne, hnm, fun H1 s1 => ?_⟩
  refine ⟨_, rfl, p, ts, rfl, hT0.mono (s0.trans s1), hf, fun H2 s2 => ?_⟩
  have s02 : Same H0 H2 := s0.trans (s1.trans s2)
  have hx2 : H2 x = some (.ins (He.ga K "Offer") dx []) := s2 _ _ (s1 _ _ hx)
  obtain ⟨ps, h1, h2, h3⟩ := (hT0.mono s02).ex
  -- the trades
  refine ⟨_, rfl, p, rfl, ⟨_, h1⟩, fun D hD => ?_⟩
  refine lc_tup (xs := ps.map V.ref) (fun i H3 => Same H2 H3 ∧ ∃ qs : List Addr, qs.length = i ∧ H3 D = some (.lst (qs.map V.ref)) ∧ ∀ (j : Nat) (q : Addr) (t : Tr), qs[j]? = some q → ts[j]? = some t → H3 q = some (.tup t.vs))
    ⟨same_new hD, [], rfl, upd_same, fun j q t hq => by cases hq⟩ (fun i H3 _ q => Same.tup q.1 h1) ?_ ?_
  · rintro i y H3 hy ⟨s3, qs, hq1, e3, hq2⟩
    obtain ⟨pt, t, rfl, ep, et, hm, li, hpt⟩ := TrAt.at_ h2 h3 hy
    refine ⟨pt, _, rfl, Same.tup s3 hpt, rfl, _, _, rfl, _, _, rfl, _, _, rfl, rfl, rfl, ?_⟩
    refine ⟨_, rfl, _, rfl, _, rfl, by show 3 ≤ sizeLine; decide, fun q nq => ?_⟩
    have nD : D ≠ q := ne_of_none e3 nq
    refine ⟨_, upd_old e3 nq, small3 (by rw [List.length_map, hq1]; have := hf.g.1; omega), same_mut (s3.trans (same_new nq)) hD, qs ++ [q], by rw [List.length_append, hq1]; rfl, by rw [upd_same, List.map_append]; rfl, fun j q' t' hj ht' => ?_⟩
    rcases Nat.lt_or_ge j qs.length with z | z
    · rw [List.getElem?_append_left z] at hj
      have e4 := upd_old (u := .tup t.vs) (hq2 j q' t' hj ht') nq
      rw [upd_ne (ne_of (upd_old (u := .tup t.vs) (hq2 j q' t' hj ht') nq) (upd_old (u := .tup t.vs) e3 nq) (by intro z; cases z))]
      exact e4
    · rw [List.getElem?_append_right z] at hj
      have ej : j = qs.length := by
        have := lt_of_at hj
        simp only [List.length_singleton] at this
        omega
      rw [ej, Nat.sub_self] at hj
      have eq : q = q' := Option.some.inj hj
      subst eq
      rw [ej, hq1, et] at ht'
      have ett : t = t' := Option.some.inj ht'
      subst ett
      rw [upd_ne nD.symm]
      exact upd_same
  rintro H3 ⟨s3, qs, hq1, e3, hq2⟩
  rw [List.length_map] at hq1
  refine ⟨D, _, rfl, .inl ⟨SqL.of e3, fun l hl => ?_⟩⟩
  have hx3 : H3 x = some (.ins (He.ga K "Offer") dx []) := s3 _ _ hx2
  have hx4 := upd_old (u := .tup (qs.map V.ref)) hx3 hl
  have s04 : Same H0 (upd H3 l (.tup (qs.map V.ref))) := s02.trans (s3.trans (same_new hl))
  refine ⟨_, rfl, x, _, dx, [], rfl, hx4, T.k_Offer, T.na_trades, by show 0 < 1000; decide, ?_⟩
  -- the period
  generalize hH4 : upd H3 l (.tup (qs.map V.ref)) = H4 at hx4 s04
  have e4 : H4 l = some (.tup (qs.map V.ref)) := by rw [← hH4]; exact upd_same
  have q4 : ∀ (j : Nat) (q : Addr) (t : Tr), qs[j]? = some q → ts[j]? = some t → H4 q = some (.tup t.vs) := fun j q t a b => by
    rw [← hH4]
    exact upd_old (hq2 j q t a b) hl
  -- B4: all but the offer itself
  have sB4 : Same H0 (hid H4 x) := same_hid s04 n0
  have tB4 : TrAt K (hid H4 x) l ts := by
    refine ⟨qs, SqT.of (hid_old e4 hx4 (by intro z; cases z)), by rw [hq1, h2], fun j q t a b => SqT.of (hid_old (q4 j q t a b) hx4 (by intro z; cases z))⟩
  have pB4 : TrAt K (hid H4 x) p ts := hT0.mono sB4
  generalize hB4 : hid H4 x = B4 at sB4 tB4 pB4
  have nB4 : B4 x = none := by rw [← hB4]; exact hid_x
  rw [put1]
  have sb5 : Same B4 (upd H4 x (.ins (He.ga K "Offer") dx [("_trades", .ref l)])) := by
    rw [← hB4]
    exact same_mut hid_same hid_x
  generalize hH5 : upd H4 x (.ins (He.ga K "Offer") dx [("_trades", .ref l)]) = H5 at sb5
  have hx5 : H5 x = some (.ins (He.ga K "Offer") dx [("_trades", .ref l)]) := by rw [← hH5]; exact upd_same
  refine ⟨_, rfl, p, ts, rfl, pB4.mono sb5, hf.g, fun H6 s6 => ?_⟩
  refine ⟨_, rfl, _, rfl, p, ts, _, rfl, pB4.mono (sb5.trans s6), hf.g, fun H7 s7 => ⟨_, rfl, by show 2 ≤ sizeLine; decide, fun pp hpp => ?_⟩⟩
  have hx8 := upd_old (u := .tup [.int (cost ts (per ts : Nat)), .int (per ts : Nat)]) (s7 _ _ (s6 _ _ hx5)) hpp
  have sb8 : Same B4 (upd H7 pp (.tup [.int (cost ts (per ts : Nat)), .int (per ts : Nat)])) := sb5.trans (s6.trans (s7.trans (same_new hpp)))
  refine ⟨_, rfl, x, _, dx, _, rfl, hx8, T.k_Offer, T.na_period, by show 1 < 1000; decide, ?_⟩
  rw [put2]
  generalize hH8 : upd H7 pp (.tup [.int (cost ts (per ts : Nat)), .int (per ts : Nat)]) = H8 at hx8 sb8
  have e8 : H8 pp = some (.tup [.int (perB ts : Nat), .int (per ts : Nat)]) := by rw [← hH8, upd_same, perB_eq hf]
  have sB8 : Same B4 (hid H8 x) := same_hid sb8 nB4
  have eB8 : hid H8 x pp = some (.tup [.int (perB ts : Nat), .int (per ts : Nat)]) := hid_old e8 hx8 (by intro z; cases z)
  generalize hB8 : hid H8 x = B8 at sB8 eB8
  have nB8 : B8 x = none := by rw [← hB8]; exact hid_x
  have sb9 : Same B8 (upd H8 x (.ins (He.ga K "Offer") dx [("_trades", .ref l), ("_period", .ref pp)])) := by
    rw [← hB8]
    exact same_mut hid_same hid_x
  generalize hH9 : upd H8 x (.ins (He.ga K "Offer") dx [("_trades", .ref l), ("_period", .ref pp)]) = H9 at sb9
  have hx9 : H9 x = some (.ins (He.ga K "Offer") dx [("_trades", .ref l), ("_period", .ref pp)]) := by rw [← hH9]; exact upd_same
  have hp := per_le' hf.g
  have pB8 : TrAt K B8 p ts := pB4.mono sB8
  -- the tops
  refine ⟨_, rfl, _, _, rfl, rfl, .inl ⟨by decide, by decide⟩, _, rfl, ?_, ?_, fun D2 hD2 => ?_⟩
  · omega
  · omega
  refine lc_range (lo := 0) (n := (2 * (per ts : Int)).toNat) (fun i H10 => Same H9 H10 ∧ H10 D2 = some (.lst (((List.range i).map (cN ts)).map V.int))) ⟨same_new hD2, upd_same⟩ ?_ ?_
  · rintro i H10 hi ⟨s10, e10⟩
    refine ⟨rfl, _, rfl, _, rfl, p, ts, _, rfl, pB8.mono (sb9.trans s10), hf.g, fun H11 s11 => ⟨_, s11 _ _ e10, small3 ?_, same_mut (s10.trans s11) hD2, ?_⟩⟩
    · rw [List.length_map, List.length_map, List.length_range]
      omega
    · rw [upd_same, List.range_succ, List.map_append, List.map_append]
      show _ = some (HO.lst (_ ++ [V.int (cost ts (i : Int))]))
      rw [Int.zero_add]
  rintro H10 ⟨s10, e10⟩
  have en : (2 * (per ts : Int)).toNat = 2 * per ts := by omega
  rw [en] at e10
  obtain ⟨m, hm⟩ : ∃ m, 2 * per ts = m + 1 := ⟨2 * per ts - 1, by have := per_pos hf.g; omega⟩
  have etops : topsF 0 ((List.range (2 * per ts)).map (cN ts)) = topsL ts := by
    unfold topsL
    rw [hm]
    exact (tops_eq (cf hf).zero m).1
  refine ⟨D2, _, rfl, SqL.of e10, by rw [List.length_map, List.length_range]; omega, fun H11 o s11 no e11 => ?_⟩
  rw [etops] at e11
  have hx11 : H11 x = some (.ins (He.ga K "Offer") dx [("_trades", .ref l), ("_period", .ref pp)]) := s11 _ _ (s10 _ _ hx9)
  have sb11 : Same B8 H11 := sb9.trans (s10.trans s11)
  refine ⟨_, rfl, x, _, dx, _, rfl, hx11, T.k_Offer, T.na_tops, by show 2 < 1000; decide, ?_⟩
  rw [put3]
  have sB11 : Same B8 (hid H11 x) := same_hid sb11 nB8
  have eB11 : hid H11 x o = some (.lst ((topsL ts).map V.int)) := hid_old e11 hx11 (by intro z; cases z)
  generalize hB11 : hid H11 x = B11 at sB11 eB11
  have nB11 : B11 x = none := by rw [← hB11]; exact hid_x
  have sb12 : Same B11 (upd H11 x (.ins (He.ga K "Offer") dx [("_trades", .ref l), ("_period", .ref pp), ("_tops", .ref o)])) := by
    rw [← hB11]
    exact same_mut hid_same hid_x
  generalize hH12 : upd H11 x (.ins (He.ga K "Offer") dx [("_trades", .ref l), ("_period", .ref pp), ("_tops", .ref o)]) = H12 at sb12
  have hx12 : H12 x = some (.ins (He.ga K "Offer") dx [("_trades", .ref l), ("_period", .ref pp), ("_tops", .ref o)]) := by rw [← hH12]; exact upd_same
  -- the firsts
  have efirsts : firstsF 0 [] (topsL ts) = firstsL ts := by
    show firstsF 0 [] ((List.range (2 * per ts)).map (EB.T (cN ts))) = (List.range ((EB.T (cN ts) (2 * per ts - 1)).toNat + 1)).map _
    rw [hm]
    exact firsts_eq (cf hf) m
  have ltop : (topsL ts).length ≤ 10000 := by
    rw [List.length_map, List.length_range]
    omega
  refine ⟨_, rfl, x, _, dx, _, _, rfl, hx12, T.k_Offer, T.na_tops, lk_tops, o, topsL ts, rfl, SqL.of (sb12 _ _ eB11), ltop, fun H13 f s13 nf e13 => ?_⟩
  rw [efirsts] at e13
  have hx13 := s13 _ _ hx12
  refine ⟨_, rfl, x, _, dx, _, rfl, hx13, T.k_Offer, T.na_firsts, by show 3 < 1000; decide, ?_⟩
  rw [put4]
  have sB13 : Same B11 (hid H13 x) := same_hid (sb12.trans s13) nB11
  have eB13 : hid H13 x f = some (.lst ((firstsL ts).map V.int)) := hid_old e13 hx13 (by intro z; cases z)
  generalize hB13 : hid H13 x = B13 at sB13 eB13
  have nB13 : B13 x = none := by rw [← hB13]; exact hid_x
  have sb14 : Same B13 (upd H13 x (.ins (He.ga K "Offer") dx [("_trades", .ref l), ("_period", .ref pp), ("_tops", .ref o), ("_firsts", .ref f)])) := by
    rw [← hB13]
    exact same_mut hid_same hid_x
  generalize hH14 : upd H13 x (.ins (He.ga K "Offer") dx [("_trades", .ref l), ("_period", .ref pp), ("_tops", .ref o), ("_firsts", .ref f)]) = H14 at sb14
  have hx14 : H14 x = some (.ins (He.ga K "Offer") dx [("_trades", .ref l), ("_period", .ref pp), ("_tops", .ref o), ("_firsts", .ref f)]) := by rw [← hH14]; exact upd_same
  -- the gaps
  refine ⟨_, rfl, x, _, dx, _, _, rfl, hx14, T.k_Offer, T.na_tops, lk_tops, _, rfl, x, _, dx, _, _, rfl, hx14, T.k_Offer, T.na_firsts, lk_firsts, o, f, topsL ts, firstsL ts, rfl, SqL.of (sb14 _ _ (sB13 _ _ eB11)), SqL.of (sb14 _ _ eB13), ltop, tops_in hf, fun H15 g s15 ng e15 => ?_⟩
  have hx15 := s15 _ _ hx14
  refine ⟨_, rfl, x, _, dx, _, rfl, hx15, T.k_Offer, T.na_gaps, by show 4 < 1000; decide, ?_⟩
  rw [put5]
  have s16 : Same B13 (upd H15 x (.ins (He.ga K "Offer") dx (ofs l pp o f g))) := same_mut (sb14.trans s15) nB13
  have s017 : Same H0 B13 := sB4.trans (sB8.trans (sB11.trans sB13))
  refine k _ (s017.trans s16) ⟨dx, l, pp, o, f, g, upd_same, tB4.mono (sB8.trans (sB11.trans (sB13.trans s16))), SqT.of (s16 _ _ (sB13 _ _ (sB11 _ _ eB8))), SqL.of (s16 _ _ (sB13 _ _ eB11)), SqL.of (s16 _ _ eB13), SqL.of ?_, Same.free (sB4.trans (sB8.trans (sb9.trans s10))) no, Same.free (sB4.trans (sB8.trans (sB11.trans sb12))) nf, Same.free (s017.trans sb14) ng⟩
  rw [upd_ne (ne_of e15 hx15 (by intro z; cases z))]
  exact e15
end
end EB

namespace EB
open PySem PySem.Spec PyProof.Rows L2
/-! ### the source of draws: a list at h, its cells at l -/
def hid2 (H : Hp) (h l : Addr) : Hp := fun b => if b = h ∨ b = l then none else H b
theorem hid2_h {H : Hp} {h l : Addr} : hid2 H h l h = none := if_pos (.inl rfl)
theorem hid2_l {H : Hp} {h l : Addr} : hid2 H h l l = none := if_pos (.inr rfl)
theorem hid2_ne {H : Hp} {h l b : Addr} (h1 : b ≠ h) (h2 : b ≠ l) : hid2 H h l b = H b := if_neg fun z => z.elim h1 h2
theorem hid2_same {H : Hp} {h l : Addr} : Same (hid2 H h l) H := fun b o e => by
  by_cases q : b = h ∨ b = l
  · unfold hid2 at e
    rw [if_pos q] at e
    cases e
  · unfold hid2 at e
    rw [if_neg q] at e
    exact e
theorem same_hid2 {H0 H : Hp} {h l : Addr} (s : Same H0 H) (n1 : H0 h = none) (n2 : H0 l = none) : Same H0 (hid2 H h l) := fun b o e => by
  rw [hid2_ne (ne_of_none e n1) (ne_of_none e n2)]
  exact s b o e
/-- the state of the draws; H0 knows nothing of it -/
structure HS (H0 H : Hp) (h l : Addr) : Prop where
  same : Same H0 H
  nh : H0 h = none
  nl : H0 l = none
  ne : h ≠ l
  ex : ∃ (m i : Int) (ns : List Int), H h = some (.lst [.int m, .ref l, .int i]) ∧ H l = some (.lst (ns.map V.int)) ∧ 0 ≤ m ∧ m < 2147483647 ∧ 0 ≤ i ∧ ns.length ≤ 63
theorem HS.grow {H0 H H' : Hp} {h l : Addr} (x : HS H0 H h l) (s : Same H H') : HS H0 H' h l := by
  obtain ⟨m, i, ns, e1, e2, r⟩ := x.ex
  exact ⟨x.same.trans s, x.nh, x.nl, x.ne, m, i, ns, s _ _ e1, s _ _ e2, r⟩
theorem HS.re {H0 H : Hp} {h l : Addr} (x : HS H0 H h l) : HS (hid2 H h l) H h l := ⟨hid2_same, hid2_h, hid2_l, x.ne, x.ex⟩
theorem HS.sub {H0 H : Hp} {h l : Addr} (x : HS H0 H h l) : Same H0 (hid2 H h l) := same_hid2 x.same x.nh x.nl
theorem HS.tup {K : PySem.W.Frag} {H0 H : Hp} {h l a : Addr} {xs : List V} (x : HS H0 H h l) (t : SqT K H a xs) : SqT K (hid2 H h l) a xs := by
  obtain ⟨m, i, ns, e1, e2, _⟩ := x.ex
  rcases t with (t | ⟨o, t⟩) | t
  · exact .inl (.inl (by rw [hid2_ne (ne_of t e1 (by intro z; cases z)) (ne_of t e2 (by intro z; cases z))]; exact t))
  · exact .inl (.inr ⟨o, by rw [hid2_ne (ne_of t e1 (by intro z; cases z)) (ne_of t e2 (by intro z; cases z))]; exact t⟩)
  · exact .inr t
theorem HS.tr {K : PySem.W.Frag} {H0 H : Hp} {h l a : Addr} {ts : List Tr} (x : HS H0 H h l) (t : TrAt K H a ts) : TrAt K (hid2 H h l) a ts := by
  obtain ⟨ps, h1, h2, h3⟩ := t.ex
  exact ⟨ps, x.tup h1, h2, fun i p t a b => x.tup (h3 i p t a b)⟩
theorem HS.lst {K : PySem.W.Frag} {H0 H : Hp} {h l a : Addr} {xs : List V} (x : HS H0 H h l) (t : SqL K H a xs) (n1 : a ≠ h) (n2 : a ≠ l) : SqL K (hid2 H h l) a xs := by
  rcases t with (t | ⟨o, t⟩) | t
  · exact .inl (.inl (by rw [hid2_ne n1 n2]; exact t))
  · exact .inl (.inr ⟨o, by rw [hid2_ne n1 n2]; exact t⟩)
  · exact .inr t
theorem HS.of_ {K : PySem.W.Frag} {H0 H H1 : Hp} {h l a : Addr} {ts : List Tr} (x : HS H0 H h l) (s : Same H H1) (t : OfNew K H H1 a ts) : OfAt K (hid2 H1 h l) a ts := by
  obtain ⟨dx, t, p, o, f, g, h1, h2, h3, h4, h5, h6, n1, n2, n3⟩ := t.ex
  have y := x.grow s
  obtain ⟨m, i, ns, e1, e2, _⟩ := x.ex
  have q : ∀ b, H b = none → b ≠ h ∧ b ≠ l := fun b n => ⟨(ne_of_none e1 n).symm, (ne_of_none e2 n).symm⟩
  refine ⟨dx, t, p, o, f, g, ?_, y.tr h2, y.tup h3, y.lst h4 (q o n1).1 (q o n1).2, y.lst h5 (q f n2).1 (q f n2).2, y.lst h6 (q g n3).1 (q g n3).2⟩
  rw [hid2_ne (ne_of h1 (s _ _ e1) (by intro z; cases z)) (ne_of h1 (s _ _ e2) (by intro z; cases z))]
  exact h1
theorem ixN_int {n : Nat} {i : Int} (h0 : 0 ≤ i) (h1 : i < n) : ixN n i = some i.toNat := by
  unfold ixN
  rw [if_pos h0, if_pos h1]
section
variable {P : Program} {w : World} {K : PySem.W.Frag} {mg : Str → Option Value} {base : Heap} (T : Tx K mg)
include T
def spMix (K : PySem.W.Frag) : Sp := fun vs H Q _ => ∃ (a : Addr) (ns : List Int) (seed : Int), vs = [.ref a, .int seed] ∧ SqL K H a (ns.map V.int) ∧ ns.length ≤ 63 ∧ 0 ≤ seed ∧ seed < 2147483647 ∧ ∀ H' h l, HS H H' h l → Q (.ref h) H'
theorem ok_law_mix : FnR P w K mg base CX0 1 (a_law_mix K) (spMix K) := by
  refine fnR0 (d := d_law_mix) T.F_law_mix sc_law_mix rfl (fun _ _ _ _ _ _ us hl => match us, hl with | [_, _], _ => rfl) (fun vs H Q E h => ?_) (fun cdv A outer s H vs Q E hr h => ?_)
  · obtain ⟨a, ns, seed, rfl, _⟩ := h
    rfl
  obtain ⟨a, ns, seed, rfl, hS, hl, h0, h1, k⟩ := h
  refine ⟨_, (pss_cons (ps_set (i := 2) sc_law_mix.nd rfl (Or.inl rfl) (pv 1)) (pss_cons (ps_for PassesOwn.never rfl (pi_list (pv 0)) (pg_name (i := 3) sc_law_mix.nd rfl (Or.inl rfl)) (pss_one (ps_set (i := 2) sc_law_mix.nd rfl (Or.inl rfl) (pe_op op_mod (pe_op op_add (pe_op op_add (pe_op op_mul (pv 2) pe_int) (pe_op op_mod (pv 3) pe_int)) pe_int) pe_int)))) (pss_one (ps_ret (pe_lst (pa_cons (pv 2) (pa_cons (pe_callTy call_list_of (by rfl) T.n_list (by decide +kernel) (pa_cons (pv 0) pa_nil)) (pa_cons pe_int pa_nil)))))))), ?_⟩
  refine ⟨_, rfl, _, rfl, a, rfl, ⟨_, hS⟩, for_list (K := K) (a := a) (xs := ns.map V.int) (fun i σ H1 => H1 = H ∧ ∃ (m : Int) (x : Option V), 0 ≤ m ∧ m < 2147483647 ∧ σ = [some (.ref a), some (.int seed), some (.int m), x]) ⟨rfl, seed, none, h0, h1, rfl⟩ (fun i σ H1 _ q => by rw [q.1]; exact hS) ?_ ?_⟩
  · rintro i x σ H1 hx ⟨rfl, m, x3, m0, m1, rfl⟩
    obtain ⟨c, ec, rfl⟩ := int_at hx
    refine ⟨_, rfl, _, _, rfl, rfl, .inr ⟨by decide, by decide⟩, _, rfl, _, _, rfl, rfl, by show (0 : Int) < 2147483629; decide, _, _, rfl, rfl, _, _, rfl, rfl, _, _, rfl, rfl, by show (0 : Int) < 2147483647; decide, rfl, _, some (.int c), ?_, ?_, rfl⟩
    · exact Int.emod_nonneg _ (by decide)
    · exact Int.emod_lt_of_pos _ (by decide)
  · rintro σ H1 ⟨rfl, m, x3, m0, m1, rfl⟩
    refine ⟨_, rfl, _, rfl, a, _, rfl, .inl hS, fun l hl1 => ⟨by show 3 ≤ sizeLine; decide, fun h hh => ?_⟩⟩
    have nh : h ≠ l := fun z => by
      rw [z, upd_same] at hh
      cases hh
    have hh2 : H1 h = none := by
      rw [upd_ne nh] at hh
      exact hh
    refine k _ h l ⟨(same_new hl1).trans (same_new hh), hh2, hl1, nh, m, 0, ns, upd_same, ?_, m0, m1, Int.le_refl _, hl⟩
    rw [upd_ne nh.symm]
    exact upd_same
def spNext : Sp := fun vs H Q _ => ∃ (h l : Addr) (lim : Int) (H0 : Hp), vs = [.ref h, .int lim] ∧ 0 < lim ∧ lim ≤ 2000000000000000000 ∧ HS H0 H h l ∧ ∀ H' r, HS H0 H' h l → 0 ≤ r → r < lim → Q (.int r) H'
theorem ok_law_next : FnR P w K mg base CX0 1 (a_law_next K) spNext := by
  refine fnR0 (d := d_law_next) T.F_law_next sc_law_next rfl (fun _ _ _ _ _ _ us hl => match us, hl with | [_, _], _ => rfl) (fun vs H Q E h => ?_) (fun cdv A outer s H vs Q E hr h => ?_)
  · obtain ⟨h, l, lim, H0, rfl, _⟩ := h
    rfl
  obtain ⟨h, l, lim, H0, rfl, l0, l1, hs, k⟩ := h
  obtain ⟨s0, nh, nl, hne, m, i, ns, eh, el, m0, m1, i0, hl⟩ := hs
  refine ⟨_, (pss_cons (ps_set (i := 2) sc_law_next.nd rfl (Or.inl rfl) (pe_ix ix_list (pe_op op_cat (pe_ix ix_list (pv 0) pe_int (fun _ _ => rfl)) (pe_lst (pa_cons pe_int pa_nil))) (pe_op op_mod (pe_ix ix_list (pv 0) pe_int (fun _ _ => rfl)) (pe_callB (call_max2 rfl) (by rfl) T.n_max (by decide +kernel) (pa_cons pe_int (pa_cons (pe_callB call_len_seq (by rfl) T.n_len PySem.boot_len (pa_cons (pe_ix ix_list (pv 0) pe_int (fun _ _ => rfl)) pa_nil)) pa_nil)))) (fun _ _ => rfl))) (pss_cons (ps_if (pt_cmpR op_ge (pv 2) (pe_op op_pow pe_int pe_int) (nomark _)) (pss_cons (ps_asg (pe_op op_fdivW (pv 2) (pv 1)) (pg_sub (pe_ix ix_list (pv 0) pe_int (fun _ _ => rfl)) (pe_op op_mod (pe_ix ix_list (pv 0) pe_int (fun _ _ => rfl)) (pe_callB call_len_seq (by rfl) T.n_len PySem.boot_len (pa_cons (pe_ix ix_list (pv 0) pe_int (fun _ _ => rfl)) pa_nil))) set_list)) (pss_one (ps_ret (pe_op op_mod (pv 2) (pv 1))))) pss_nil) (pss_cons (ps_asg (pe_op op_mod (pe_op op_add (pe_op op_add (pe_op op_mul (pe_ix ix_list (pv 0) pe_int (fun _ _ => rfl)) pe_int) (pe_op op_mul (pv 2) pe_int)) pe_int) pe_int) (pg_sub (pv 0) pe_int set_list)) (pss_cons (ps_asg (pe_op op_add (pe_ix ix_list (pv 0) pe_int (fun _ _ => rfl)) pe_int) (pg_sub (pv 0) pe_int set_list)) (pss_one (ps_ret (pe_op op_mod (pe_op op_fdiv (pe_ix ix_list (pv 0) pe_int (fun _ _ => rfl)) pe_int) (pv 1)))))))), ?_⟩
  refine ⟨_, rfl, h, _, 1, _, rfl, rfl, SqL.of eh, rfl, by show 1 ≤ sizeLine; decide, fun z hz => ?_⟩
  refine ⟨l, z, _, _, rfl, rfl, upd_old el hz, upd_same, by rw [List.length_map]; exact Nat.le_trans (Nat.succ_le_succ hl) (by decide), fun y hy => ?_⟩
  have eh2 := upd_old (u := .lst (ns.map V.int ++ [.int 0])) (upd_old (u := .lst [.int 0]) eh hz) hy
  have el2 := upd_old (u := .lst (ns.map V.int ++ [.int 0])) (upd_old (u := .lst [.int 0]) el hz) hy
  have s2 : Same H (upd (upd H z (.lst [.int 0])) y (.lst (ns.map V.int ++ [.int 0]))) := (same_new hz).trans (same_new hy)
  have ey : (upd (upd H z (.lst [.int 0])) y (.lst (ns.map V.int ++ [.int 0]))) y = some (.lst (ns.map V.int ++ [.int 0])) := upd_same
  generalize upd (upd H z (.lst [.int 0])) y (.lst (ns.map V.int ++ [.int 0])) = H2 at eh2 el2 s2 ey
  refine ⟨_, rfl, h, _, 2, _, rfl, rfl, SqL.of eh2, rfl, _, rfl, h, _, 1, _, rfl, rfl, SqL.of eh2, rfl, l, _, rfl, .inl (SqL.of el2), 1, _, rfl, ?_⟩
  have hlen : ((ns.map V.int).length : Int) = (ns.length : Int) := by rw [List.length_map]
  rw [hlen]
  have hj : 0 < (if (ns.length : Int) > 1 then (ns.length : Int) else 1) := by split <;> omega
  have hjm : (if (ns.length : Int) > 1 then (ns.length : Int) else 1) ≤ ns.length + 1 := by split <;> omega
  have hj2 : ns ≠ [] → (if (ns.length : Int) > 1 then (ns.length : Int) else 1) = ns.length := fun hn => by
    have : 0 < ns.length := List.length_pos_iff.mpr hn
    split <;> omega
  generalize (if (ns.length : Int) > 1 then (ns.length : Int) else 1) = j at hj hjm hj2
  refine ⟨_, _, rfl, rfl, hj, ?_⟩
  have r0 := Int.emod_nonneg i (Int.ne_of_gt hj)
  have r1 := Int.emod_lt_of_pos i hj
  -- the cell that is read
  obtain ⟨c, hc, hc2⟩ : ∃ c : Int, (ns.map V.int ++ [V.int 0])[(i % j).toNat]? = some (.int c) ∧ (0 < c → ns ≠ []) := by
    by_cases hn : ns = []
    · subst hn
      have : (i % j).toNat = 0 := by
        simp only [List.length_nil] at hjm
        omega
      rw [this]
      exact ⟨0, rfl, fun z => absurd z (by decide)⟩
    · have ej := hj2 hn
      have lt : (i % j).toNat < ns.length := by omega
      refine ⟨ns[(i % j).toNat], ?_, fun _ => hn⟩
      rw [List.getElem?_append_left (by rw [List.length_map]; exact lt), List.getElem?_map, List.getElem?_eq_getElem lt]
      rfl
  refine ⟨y, _, _, .int c, rfl, rfl, SqL.of ey, at_of (j := (i % j).toNat) (by omega) hc, ?_⟩
  refine ⟨_, rfl, _, _, rfl, rfl, ⟨by decide, by decide, by decide⟩, _, _, rfl, rfl, _, rfl, ite2 (fun hd => ?_) (fun hd => ?_)⟩
  · -- a great cell: a digit of it
    have hd : (10 : Int) ^ (18 : Int).toNat ≤ c := of_decide_eq_true hd
    have hc0 : 0 < c := Int.lt_of_lt_of_le (by decide) hd
    have hn := hc2 hc0
    have ej := hj2 hn
    have hp : 0 < ns.length := List.length_pos_iff.mpr hn
    refine ⟨_, rfl, _, rfl, _, _, rfl, rfl, wide_div l0 (b := 64) ?_ (by decide) (by decide), ?_⟩
    · have : lim.natAbs ≤ 2000000000000000000 := by omega
      exact Nat.lt_of_le_of_lt this (by decide)
    refine ⟨_, rfl, h, _, 1, _, rfl, rfl, SqL.of eh2, rfl, _, rfl, h, _, 2, _, rfl, rfl, SqL.of eh2, rfl, _, rfl, h, _, 1, _, rfl, rfl, SqL.of eh2, rfl, l, _, rfl, .inl (SqL.of el2), _, _, rfl, rfl, ?_, ?_⟩
    · show (0 : Int) < ((ns.map V.int).length : Int)
      rw [hlen]
      omega
    rw [hlen]
    have q0 := Int.emod_nonneg i (show (ns.length : Int) ≠ 0 by omega)
    have q1 := Int.emod_lt_of_pos i (show (0 : Int) < ns.length by omega)
    refine ⟨l, _, _, _, rfl, rfl, el2, ixN_int q0 (by rw [List.length_map]; exact q1), ?_⟩
    refine ⟨_, rfl, _, rfl, _, _, rfl, rfl, l0, ?_⟩
    refine k _ _ ⟨same_mut (s0.trans s2) nl, nh, nl, hne, m, i, ns.set (i % (ns.length : Int)).toNat (c / lim), ?_, ?_, m0, m1, i0, by rw [List.length_set]; exact hl⟩ (Int.emod_nonneg _ (Int.ne_of_gt l0)) (Int.emod_lt_of_pos _ l0)
    · rw [upd_ne hne]
      exact eh2
    · rw [upd_same, List.map_set]
  · -- mixed with the cell
    refine ⟨_, rfl, h, _, 0, _, rfl, rfl, SqL.of eh2, rfl, _, _, rfl, rfl, .inr ⟨by decide, by decide⟩, _, rfl, _, _, rfl, rfl, .inr ⟨by decide, by decide⟩, _, _, rfl, rfl, _, _, rfl, rfl, _, _, rfl, rfl, by show (0 : Int) < 2147483647; decide, ?_⟩
    refine ⟨_, rfl, h, _, 0, 0, rfl, rfl, eh2, rfl, ?_⟩
    have b0 : 0 ≤ (m * 48271 + c * 69621 + 11) % 2147483647 := Int.emod_nonneg _ (by decide)
    have b1 : (m * 48271 + c * 69621 + 11) % 2147483647 < 2147483647 := Int.emod_lt_of_pos _ (by decide)
    have e3 : upd H2 h (.lst ([V.int m, .ref l, .int i].set 0 (.int ((m * 48271 + c * 69621 + 11) % 2147483647)))) h = some (.lst [V.int ((m * 48271 + c * 69621 + 11) % 2147483647), .ref l, .int i]) := upd_same
    refine ⟨_, rfl, h, _, 2, _, rfl, rfl, SqL.of e3, rfl, _, _, rfl, rfl, _, rfl, h, _, 2, 2, rfl, rfl, e3, rfl, ?_⟩
    rw [upd_upd]
    have e4 : upd H2 h (.lst ([V.int ((m * 48271 + c * 69621 + 11) % 2147483647), .ref l, .int i].set 2 (.int (i + 1)))) h = some (.lst [V.int ((m * 48271 + c * 69621 + 11) % 2147483647), .ref l, .int (i + 1)]) := upd_same
    refine ⟨_, rfl, h, _, 0, _, rfl, rfl, SqL.of e4, rfl, _, _, rfl, rfl, ⟨by decide, by decide⟩, _, rfl, _, _, rfl, rfl, l0, ?_⟩
    refine k _ _ ⟨same_mut (s0.trans s2) nh, nh, nl, hne, (m * 48271 + c * 69621 + 11) % 2147483647, i + 1, ns, e4, ?_, b0, b1, by omega, hl⟩ (Int.emod_nonneg _ (Int.ne_of_gt l0)) (Int.emod_lt_of_pos _ l0)
    rw [upd_ne hne.symm]
    exact el2
def spBuys (K : PySem.W.Frag) : Sp := fun vs H Q _ => ∃ (a : Addr) (ts : List Tr) (d : Int), vs = [.ref a, .int d] ∧ TrAt K H a ts ∧ gds ts ∧ ∀ H', Same H H' → Q (.int (buys ts d)) H'
theorem ok_law_buys : FnR P w K mg base CX0 1 (a_law_buys K) (spBuys K) := by
  refine fnR0 (d := d_law_buys) T.F_law_buys sc_law_buys rfl (fun _ _ _ _ _ _ us hl => match us, hl with | [_, _], _ => rfl) (fun vs H Q E h => ?_) (fun cdv A outer s H vs Q E hr h => ?_)
  · obtain ⟨a, ts, d, rfl, _⟩ := h
    rfl
  obtain ⟨a, ts, d, rfl, hT, ⟨hlen, hok⟩, k⟩ := h
  obtain ⟨ps, h1, h2, h3⟩ := hT.ex
  refine ⟨_, (pss_one (ps_ret (pe_callB (cr_sum rfl) (by rfl) T.n_sum (by decide +kernel) (pa_cons (pe_lc (own := [("_law_kind", 2), ("_law_left", 3), ("_law_needed", 4)]) rfl sc_law_buys.nd (pi_tup (pv 0)) (blkOk_by (own := [("_law_kind", 2), ("_law_left", 3), ("_law_needed", 4)]) (N := N_law_buys) (sc := defScope s_law_buys) (by decide +kernel)) (fun _ _ _ _ _ => (pg_tupB (n := 3) (pgs_cons (pg_name (i := 2) sc_law_buys.nd rfl (Or.inl rfl) (.inr rfl)) (pgs_cons (pg_name (i := 3) sc_law_buys.nd rfl (Or.inl rfl) (.inr rfl)) (pgs_cons (pg_name (i := 4) sc_law_buys.nd rfl (Or.inl rfl) (.inr rfl)) pgs_nil))))) (fun _ _ _ _ _ => pts_nil) (fun _ _ _ _ _ => (pe_op op_fdiv (pe_op op_mul (pv 3) (pv 1)) (pv 4)))) pa_nil)))), ?_⟩
  refine ⟨_, rfl, a, rfl, ⟨_, h1⟩, fun D hD => ?_⟩
  refine lc_tup (xs := ps.map V.ref) (fun i H1 => Same H H1 ∧ H D = none ∧ H1 D = some (.lst ((ts.take i).map fun t => V.int (t.l * d / t.n)))) ⟨same_new hD, hD, upd_same⟩ (fun i H1 _ q => Same.tup q.1 h1) ?_ ?_
  · rintro i x H1 hx ⟨s1, n1, e1⟩
    obtain ⟨p, t, rfl, ep, et, hm, li, hp⟩ := TrAt.at_ h2 h3 hx
    have ht := hok _ hm
    refine ⟨p, _, rfl, Same.tup s1 hp, rfl, _, _, rfl, _, _, rfl, _, _, rfl, rfl, rfl, ?_⟩
    refine ⟨_, rfl, _, rfl, _, _, rfl, rfl, .inl ⟨by have := ht.1; omega, by have := ht.2.1; omega⟩, _, rfl, _, _, rfl, rfl, ⟨by have := ht.2.2.1; omega, by have := ht.2.2.2; omega⟩, ?_⟩
    refine ⟨_, e1, small3 ?_, same_mut s1 n1, n1, ?_⟩
    · rw [List.length_map, List.length_take]
      omega
    · rw [upd_same, take_at et, List.map_append]
      rfl
  · rintro H1 ⟨s1, n1, e1⟩
    refine ⟨D, ts.map fun t => t.l * d / t.n, rfl, SqL.of ?_, ?_⟩
    · rw [e1, List.length_map, h2, List.take_length, List.map_map]
      rfl
    · exact k _ s1
end
end EB

namespace EB
open PySem PySem.Spec PyProof.Rows L2
theorem HS.keep {H0 H : Hp} {h l b : Addr} {o : HO} (e : H b = some o) (n1 : b ≠ h) (n2 : b ≠ l) : hid2 H h l b = some o := by
  rw [hid2_ne n1 n2]
  exact e
theorem HS.new {H0 H : Hp} {h l b : Addr} (x : HS H0 H h l) (n : H b = none) : b ≠ h ∧ b ≠ l := by
  obtain ⟨m, i, ns, e1, e2, _⟩ := x.ex
  exact ⟨(ne_of_none e1 n).symm, (ne_of_none e2 n).symm⟩
theorem HS.mut {H0 H : Hp} {h l b : Addr} {o : HO} (x : HS H0 H h l) (n : H0 b = none) (n1 : b ≠ h) (n2 : b ≠ l) : HS H0 (upd H b o) h l := by
  obtain ⟨m, i, ns, e1, e2, r⟩ := x.ex
  exact ⟨same_mut x.same n, x.nh, x.nl, x.ne, m, i, ns, by rw [upd_ne n1.symm]; exact e1, by rw [upd_ne n2.symm]; exact e2, r⟩
theorem HS.down {H0 H H' : Hp} {h l : Addr} (x : HS H0 H h l) (y : HS (hid2 H h l) H' h l) : HS H0 H' h l := ⟨x.sub.trans y.same, x.nh, x.nl, x.ne, y.ex⟩
def kinds3 : List Str := ["empty", "cap", "label"]
/-- trades as the law draws them -/
structure Drawn (ts : List Tr) (most largest : Int) : Prop where
  ks : ts.map Tr.k = kinds3.take ts.length
  len : (ts.length : Int) ≤ most
  len3 : ts.length ≤ 3
  each : ∀ t ∈ ts, t.ok ∧ t.n ≤ largest ∧ t.l ≤ t.n
  w : 10 * worth ts ≤ 9 * 27720
theorem Drawn.fair {ts : List Tr} {a b : Int} (d : Drawn ts a b) : Fair ts := ⟨⟨d.len3, fun t ht => (d.each t ht).1⟩, d.w⟩
theorem Drawn.nm {ts : List Tr} {a b : Int} (d : Drawn ts a b) : nmOk ts := by
  have hk : ∀ k ∈ kinds3, kindOk k = true ∧ k.length ≤ 1000 := by decide +kernel
  have hn : kinds3.Nodup := by decide +kernel
  refine ⟨by rw [d.ks]; exact hn.sublist (List.take_sublist _ _), fun t ht => ?_⟩
  have : t.k ∈ ts.map Tr.k := List.mem_map.mpr ⟨t, ht, rfl⟩
  rw [d.ks] at this
  exact hk _ (List.mem_of_mem_take this)
theorem worth_snoc (ts : List Tr) (t : Tr) : worth (ts ++ [t]) = worth ts + 27720 / t.n * t.l := by
  unfold worth
  rw [List.map_append, List.sum_append]
  simp
/-- new tuples, one for each trade -/
def NewTr (H : Hp) (qs : List Addr) (ts : List Tr) : Prop := qs.length = ts.length ∧ ∀ (j : Nat) (q : Addr) (t : Tr), qs[j]? = some q → ts[j]? = some t → H q = some (.tup t.vs)
theorem NewTr.at_ {K : PySem.W.Frag} {H : Hp} {qs : List Addr} {ts : List Tr} {p : Addr} (n : NewTr H qs ts) (h : SqT K H p (qs.map V.ref)) : TrAt K H p ts := ⟨qs, h, n.1, fun i q t a b => SqT.of (n.2 i q t a b)⟩
theorem NewTr.mono {H H' : Hp} {qs : List Addr} {ts : List Tr} (n : NewTr H qs ts) (h : ∀ q xs, H q = some (.tup xs) → H' q = some (.tup xs)) : NewTr H' qs ts := ⟨n.1, fun j q t a b => h _ _ (n.2 j q t a b)⟩
theorem NewTr.snoc {H : Hp} {qs : List Addr} {ts : List Tr} {q : Addr} {t : Tr} (n : NewTr H qs ts) (h : H q = some (.tup t.vs)) : NewTr H (qs ++ [q]) (ts ++ [t]) := by
  refine ⟨by rw [List.length_append, List.length_append, n.1]; rfl, fun j q' t' hj ht' => ?_⟩
  rcases Nat.lt_or_ge j qs.length with z | z
  · rw [List.getElem?_append_left z] at hj
    rw [List.getElem?_append_left (by rw [← n.1]; exact z)] at ht'
    exact n.2 j q' t' hj ht'
  · rw [List.getElem?_append_right z] at hj
    rw [List.getElem?_append_right (by rw [← n.1]; exact z)] at ht'
    have ej : j - qs.length = 0 := by
      have := lt_of_at hj
      simp only [List.length_singleton] at this
      omega
    rw [ej] at hj
    rw [← n.1, ej] at ht'
    cases Option.some.inj hj
    cases Option.some.inj ht'
    exact h
theorem HS.keepT {H : Hp} {h l q : Addr} {xs : List V} {H0 : Hp} (x : HS H0 H h l) (e : H q = some (.tup xs)) : hid2 H h l q = some (.tup xs) := by
  obtain ⟨m, i, ns, e1, e2, _⟩ := x.ex
  exact HS.keep (H0 := H0) e (ne_of e e1 (by intro z; cases z)) (ne_of e e2 (by intro z; cases z))
section
variable {P : Program} {w : World} {K : PySem.W.Frag} {mg : Str → Option Value} {base : Heap} (T : Tx K mg)
include T
def spTrades (K : PySem.W.Frag) : Sp := fun vs H Q _ => ∃ (h l : Addr) (most largest : Int) (H0 : Hp), vs = [.ref h, .int most, .int largest] ∧ 1 ≤ most ∧ most ≤ 3 ∧ 1 ≤ largest ∧ largest ≤ 12 ∧ HS H0 H h l ∧
  ∀ H' p ts, HS H0 H' h l → TrAt K H' p ts → ts ≠ [] → Drawn ts most largest → Q (.ref p) H'
theorem ok_law_trades : FnR P w K mg base CX0 2 (a_law_trades K) (spTrades K) := by
  refine fnR0 (d := d_law_trades) T.F_law_trades sc_law_trades rfl (fun _ _ _ _ _ _ us hl => match us, hl with | [_, _, _], _ => rfl) (fun vs H Q E h => ?_) (fun cdv A outer s H vs Q E hr h => ?_)
  · obtain ⟨h, l, most, largest, H0, rfl, _⟩ := h
    rfl
  obtain ⟨h, l, most, largest, H0, rfl, m1, m3, g1, g12, hs, k⟩ := h
  refine ⟨_, (pss_cons (ps_par (i := 3) (j := 4) (by rfl) sc_law_trades.nd rfl rfl (by decide) rfl rfl (pa_cons (pe_lst pa_nil) (pa_cons pe_int pa_nil)) (by rfl)) (pss_cons (ps_for PassesOwn.never rfl (pi_list (pe_slice sl_list (pe_lst (pa_cons pe_str (pa_cons pe_str (pa_cons pe_str pa_nil)))) po_none (po_some (pe_op op_add pe_int (pe_cR (ok_law_next T) (hr.mono (by decide)) T.F_law_next.kp T.g_law_next pass0 (pa_cons (pv 0) (pa_cons (pv 1) pa_nil))))))) (pg_name (i := 5) sc_law_trades.nd rfl (Or.inl rfl)) (pss_cons (ps_set (i := 6) sc_law_trades.nd rfl (Or.inl rfl) (pe_op op_add pe_int (pe_cR (ok_law_next T) (hr.mono (by decide)) T.F_law_next.kp T.g_law_next pass0 (pa_cons (pv 0) (pa_cons (pv 2) pa_nil))))) (pss_cons (ps_set (i := 7) sc_law_trades.nd rfl (Or.inl rfl) (pe_cR (ok_law_next T) (hr.mono (by decide)) T.F_law_next.kp T.g_law_next pass0 (pa_cons (pv 0) (pa_cons (pe_op op_add (pv 6) pe_int) pa_nil)))) (pss_cons (ps_while PassesOwn.never (pt_cmpR op_gt (pe_op op_mul pe_int (pe_op op_add (pe_op op_mul (pv 4) (pv 6)) (pe_op op_mul (pv 7) pe_int))) (pe_op op_mul (pe_op op_mul pe_int pe_int) (pv 6)) (nomark _)) (pss_one (ps_set (i := 7) sc_law_trades.nd rfl (Or.inl rfl) (pe_op op_sub (pv 7) pe_int)))) (pss_cons (ps_set (i := 4) sc_law_trades.nd rfl (Or.inl rfl) (pe_op op_add (pv 4) (pe_op op_fdiv (pe_op op_mul (pv 7) pe_int) (pv 6)))) (pss_one (ps_expr (pe_bm PySem.F.plainAttrs_list PySem.F.slot_list_append PySem.F.type_list_append mt_append (pv 3) (pa_cons (pe_tup (pa_cons (pv 5) (pa_cons (pv 7) (pa_cons (pv 6) pa_nil)))) pa_nil))))))))) (pss_one (ps_ret (pe_callTy call_tuple_of (by rfl) T.n_tuple (by decide +kernel) (pa_cons (pv 3) pa_nil)))))), ?_⟩
  refine ⟨Nat.zero_le _, fun F hF => ⟨_, _, rfl, ?_⟩⟩
  have nF := hs.new hF
  have n0F : H0 F = none := hs.same.free hF
  have hsA := hs.grow (same_new (u := .lst []) hF)
  refine ⟨by show 3 ≤ sizeLine; decide, fun L hL => ?_⟩
  have nL := hsA.new hL
  have nFL : F ≠ L := ne_of_none upd_same hL
  have hsB := hsA.grow (same_new (u := .lst [.str "empty", .str "cap", .str "label"]) hL)
  have eF : upd (upd H F (.lst [])) L (.lst [.str "empty", .str "cap", .str "label"]) F = some (.lst []) := by
    rw [upd_ne nFL]
    exact upd_same
  have eL : upd (upd H F (.lst [])) L (.lst [.str "empty", .str "cap", .str "label"]) L = some (.lst (kinds3.map V.str)) := upd_same
  have n0L : H0 L = none := hsA.same.free hL
  generalize upd (upd H F (.lst [])) L (.lst [.str "empty", .str "cap", .str "label"]) = HB at hsB eF eL
  refine ⟨_, rfl, _, rfl, h, l, most, hid2 HB h l, rfl, by omega, by omega, hsB.re, fun HC r hsC r0 r1 => ⟨_, _, rfl, rfl, _, rfl, L, _, rfl, SqL.of (hsC.same _ _ (HS.keep (H0 := H0) eL nL.1 nL.2)), fun p hp => ?_⟩⟩
  have eFC : HC F = some (.lst []) := hsC.same _ _ (HS.keep (H0 := H0) eF nF.1 nF.2)
  have hsC' : HS H0 HC h l := hsB.down hsC
  have np := hsC'.new hp
  have n0p : H0 p = none := hsC'.same.free hp
  have npF : p ≠ F := (ne_of_none eFC hp).symm
  -- the kinds that are gone through
  obtain ⟨n, hn, hn1, hn3⟩ : ∃ n : Nat, (1 + r) = (n : Int) ∧ 1 ≤ n ∧ n ≤ 3 := ⟨(1 + r).toNat, by omega, by omega, by omega⟩
  have hnm : (n : Int) ≤ most := by omega
  have ecut : cutV (kinds3.map V.str) none (some (1 + r)) = (kinds3.take n).map V.str := by
    rw [hn]
    unfold cutV
    rw [HT.sIx_none, HT.sIx_nat]
    have hl3 : (kinds3.map V.str).length = 3 := rfl
    rw [hl3, Nat.min_eq_left hn3, Nat.sub_zero, List.drop_zero, List.map_take]
  rw [ecut]
  have hsD := hsC'.grow (same_new (u := .lst ((kinds3.take n).map V.str)) hp)
  have eFD : upd HC p (.lst ((kinds3.take n).map V.str)) F = some (.lst []) := by
    rw [upd_ne npF.symm]
    exact eFC
  have epD : upd HC p (.lst ((kinds3.take n).map V.str)) p = some (.lst ((kinds3.take n).map V.str)) := upd_same
  generalize upd HC p (.lst ((kinds3.take n).map V.str)) = HD at hsD eFD epD
  refine ⟨p, rfl, ⟨_, SqL.of epD⟩, for_list (K := K) (a := p) (xs := (kinds3.take n).map V.str) (fun i σ H1 => HS H0 H1 h l ∧ H1 p = some (.lst ((kinds3.take n).map V.str)) ∧ ∃ (ts : List Tr) (qs : List Addr) (x5 x6 x7 : Option V),
      ts.length = i ∧ H1 F = some (.lst (qs.map V.ref)) ∧ NewTr H1 qs ts ∧ (i ≤ n → ts.map Tr.k = kinds3.take i) ∧ (∀ t ∈ ts, t.ok ∧ t.n ≤ largest ∧ t.l ≤ t.n) ∧ 10 * worth ts ≤ 9 * 27720 ∧ 0 ≤ worth ts ∧
      σ = [some (.ref h), some (.int most), some (.int largest), some (.ref F), some (.int (worth ts)), x5, x6, x7])
    ⟨hsD, epD, [], [], none, none, none, rfl, eFD, ⟨rfl, fun j q t a => (by cases a)⟩, fun _ => rfl, fun t ht => (by cases ht), by decide, by decide, rfl⟩ (fun i σ H1 _ q => SqL.of q.2.1) ?_ ?_⟩
  · rintro i x σ H1 hx ⟨hs1, ep1, ts, qs, x5, x6, x7, hti, eF1, hnt, hks, hall, hw, hw0, rfl⟩
    have hin : i < n := by
      have := lt_of_at hx
      rw [List.length_map, List.length_take] at this
      omega
    obtain ⟨kd, ekd, rfl⟩ : ∃ kd, (kinds3.take n)[i]? = some kd ∧ x = .str kd := by
      rw [List.getElem?_map] at hx
      cases e : (kinds3.take n)[i]? with
      | none =>
        rw [e] at hx
        cases hx
      | some kd =>
        rw [e] at hx
        exact ⟨kd, rfl, (Option.some.inj hx).symm⟩
    have ekd2 : kinds3[i]? = some kd := by
      rw [List.getElem?_take] at ekd
      rw [if_pos hin] at ekd
      exact ekd
    -- needed
    refine ⟨_, rfl, _, rfl, h, l, largest, hid2 H1 h l, rfl, by omega, by omega, hs1.re, fun H2 r2 hs2 r20 r21 => ⟨_, _, rfl, rfl, ?_⟩⟩
    have hs2' := hs1.down hs2
    have ep2 := hs2.same _ _ (HS.keep (H0 := H0) ep1 np.1 np.2)
    have eF2 := hs2.same _ _ (HS.keep (H0 := H0) eF1 nF.1 nF.2)
    have hnt2 := hnt.mono fun q xs e => hs2.same _ _ (hs1.keepT e)
    -- left
    refine ⟨_, rfl, _, rfl, _, _, rfl, rfl, h, l, (1 + r2) + 1, hid2 H2 h l, rfl, by omega, by omega, hs2'.re, fun H3 r3 hs3 r30 r31 => ?_⟩
    have hs3' := hs2'.down hs3
    have ep3 := hs3.same _ _ (HS.keep (H0 := H0) ep2 np.1 np.2)
    have eF3 := hs3.same _ _ (HS.keep (H0 := H0) eF2 nF.1 nF.2)
    have hnt3 := hnt2.mono fun q xs e => hs3.same _ _ (hs2'.keepT e)
    obtain ⟨nd, hnd⟩ : ∃ nd : Int, nd = 1 + r2 := ⟨_, rfl⟩
    have nd1 : 1 ≤ nd := by omega
    have nd2 : nd ≤ 12 := by omega
    have e27 : (9 : Int) * 27720 * nd = 249480 * nd := rfl
    refine ⟨fun m σ H => H = H3 ∧ ∃ lf : Int, 0 ≤ lf ∧ lf ≤ r3 ∧ m = lf.toNat ∧ σ = [some (.ref h), some (.int most), some (.int largest), some (.ref F), some (.int (worth ts)), some (.str kd), some (.int nd), some (.int lf)], ⟨r3.toNat, rfl, r3, r30, Int.le_refl _, rfl, (by rw [hnd]; rfl)⟩, ?_⟩
    rintro m σ H4 ⟨rfl, lf, lf0, lf1, hm, rfl⟩
    have hwn : 10 * (worth ts * nd) ≤ 249480 * nd := by
      have := Int.mul_le_mul_of_nonneg_right hw (show 0 ≤ nd by omega)
      rw [Int.mul_assoc] at this
      exact this
    have hww : worth ts ≤ 24948 := by omega
    refine ⟨_, rfl, _, rfl, _, _, rfl, rfl, .inr ⟨by omega, by omega⟩, _, rfl, _, _, rfl, rfl, .inr ⟨by decide, by decide⟩, _, _, rfl, rfl, _, _, rfl, rfl, .inl ⟨by decide, by decide⟩, _, _, rfl, rfl, .inl ⟨by decide, by decide⟩, _, rfl, _, _, rfl, rfl, .inr ⟨by omega, by omega⟩, _, _, rfl, rfl, _, rfl, ite2 (fun hd => ?_) (fun hd => ?_)⟩
    · have hd : 9 * 27720 * nd < 10 * (worth ts * nd + lf * 27720) := of_decide_eq_true hd
      refine ⟨fun σ' H' => ∃ m', m' < m ∧ (H' = H4 ∧ ∃ lf : Int, 0 ≤ lf ∧ lf ≤ r3 ∧ m' = lf.toNat ∧ σ' = [some (.ref h), some (.int most), some (.int largest), some (.ref F), some (.int (worth ts)), some (.str kd), some (.int nd), some (.int lf)]), fun _ _ z => z, ?_⟩
      exact ⟨_, rfl, _, _, rfl, rfl, (lf - 1).toNat, by omega, rfl, lf - 1, by omega, by omega, rfl, rfl⟩
    · have hd : ¬ 9 * 27720 * nd < 10 * (worth ts * nd + lf * 27720) := fun z => hd (decide_eq_true z)
      obtain ⟨q0, hq0⟩ := dvd_big nd1 nd2
      have eq1 : lf * 27720 / nd = q0 * lf := by
        rw [hq0, show lf * (nd * q0) = nd * (q0 * lf) by rw [Int.mul_left_comm, Int.mul_comm lf q0]]
        exact Int.mul_ediv_cancel_left _ (by omega)
      have eq2 : (27720 : Int) / nd = q0 := by
        rw [hq0]
        exact Int.mul_ediv_cancel_left _ (by omega)
      have hle : 10 * (worth ts + q0 * lf) ≤ 9 * 27720 := by
        have h1 : 10 * (worth ts + q0 * lf) * nd ≤ 9 * 27720 * nd := by
          have h2 : lf * 27720 = q0 * lf * nd := by
            rw [hq0, Int.mul_comm (q0 * lf) nd, Int.mul_left_comm, Int.mul_comm lf q0]
          have h3 : 10 * (worth ts + q0 * lf) * nd = 10 * (worth ts * nd + q0 * lf * nd) := by
            rw [Int.mul_assoc, Int.add_mul]
          rw [h3, ← h2]
          omega
        exact Int.le_of_mul_le_mul_right h1 (by omega)
      have hq00 : 0 ≤ q0 := by
        rw [← eq2]
        exact Int.ediv_nonneg (by decide) (by omega)
      have hql : 0 ≤ q0 * lf := Int.mul_nonneg hq00 lf0
      have ewt : worth (ts ++ [⟨kd, lf, nd⟩]) = worth ts + lf * 27720 / nd := by
        rw [worth_snoc, eq1]
        show worth ts + 27720 / nd * lf = _
        rw [eq2]
      -- worth, and the trade
      refine ⟨_, rfl, _, rfl, _, _, rfl, rfl, .inr ⟨by decide, by decide⟩, _, rfl, _, _, rfl, rfl, ⟨by omega, by omega⟩, _, _, rfl, rfl, ?_⟩
      refine ⟨_, rfl, .inl ⟨rfl, _, SqL.of eF3⟩, _, rfl, _, rfl, _, rfl, by show 3 ≤ sizeLine; decide, fun q hq => ?_⟩
      have eF5 := upd_old (u := .tup [.str kd, .int lf, .int nd]) eF3 hq
      have nq := hs3'.new hq
      have npq : p ≠ q := ne_of_none ep3 hq
      have nFq : F ≠ q := ne_of_none eF3 hq
      refine ⟨F, _, _, rfl, rfl, eF5, small3 ?_, ?_⟩
      · rw [List.length_map, hnt3.1]
        omega
      refine ⟨(hs3'.grow (same_new hq)).mut n0F nF.1 nF.2, ?_, ts ++ [⟨kd, lf, nd⟩], qs ++ [q], some (.str kd), some (.int nd), some (.int lf), ?_, ?_, ?_, fun hi => ?_, fun t ht => ?_, ?_, ?_, ?_⟩
      · rw [upd_ne npF]
        exact upd_old ep3 hq
      · rw [List.length_append, hti]
        rfl
      · rw [upd_same, List.map_append]
        rfl
      · refine NewTr.snoc (hnt3.mono fun q' xs e => ?_) ?_
        · rw [upd_ne (ne_of e eF3 (by intro z; cases z))]
          exact upd_old e hq
        · rw [upd_ne nFq.symm]
          exact upd_same
      · rw [List.map_append, hks (by omega), take_at ekd2]
        rfl
      · rcases List.mem_append.mp ht with ht | ht
        · exact hall t ht
        · cases List.mem_singleton.mp ht
          exact ⟨⟨lf0, by show lf ≤ 12; omega, nd1, nd2⟩, by show nd ≤ largest; omega, by show lf ≤ nd; omega⟩
      · rw [ewt, eq1]
        exact hle
      · rw [ewt, eq1]
        omega
      · rw [ewt]
        rfl
  · rintro σ H1 ⟨hs1, ep1, ts, qs, x5, x6, x7, hti, eF1, hnt, hks, hall, hw, hw0, rfl⟩
    have hlen : ((kinds3.take n).map V.str).length = n := by
      rw [List.length_map, List.length_take]
      exact Nat.min_eq_left hn3
    rw [hlen] at hti
    refine ⟨_, rfl, F, _, rfl, .inl ⟨SqL.of eF1, fun p' hp' => ?_⟩⟩
    refine k _ p' ts (hs1.grow (same_new hp')) ((hnt.mono fun q xs e => upd_old e hp').at_ (SqT.of upd_same)) (fun z => by rw [z] at hti; simp only [List.length_nil] at hti; omega) ⟨?_, by omega, by omega, hall, hw⟩
    rw [hlen] at hks
    rw [hks (Nat.le_refl _), hti]
end
end EB

namespace EB
open PySem PySem.Spec PyProof.Rows L2
theorem upd_none {H : Hp} {a b : Addr} {o : HO} (h : upd H a o b = none) : b ≠ a ∧ H b = none := by
  have n : b ≠ a := fun z => by
    rw [z, upd_same] at h
    cases h
  rw [upd_ne n] at h
  exact ⟨n, h⟩
/-- what a new offer asks, its trades handed on one by one -/
theorem make_ok {K : PySem.W.Frag} {H : Hp} {ts : List Tr} {ps : List Addr} {Q : VK} {E : XK} {x dx : Addr} (h2 : ps.length = ts.length) (h3 : ∀ (i : Nat) (p : Addr) (t : Tr), ps[i]? = some p → ts[i]? = some t → SqT K H p t.vs)
    (hf : Fair ts) (hne : ts ≠ []) (hnm : nmOk ts) (nx : H x = none) (nd : H dx = none) (ned : dx ≠ x) (k : ∀ H', Same H H' → OfNew K H H' x ts → Q (.ref x) H') :
    ∃ ws rest, (V.ref x :: ps.map V.ref) = ws ++ rest ∧ ws.length = 1 ∧ rest.length ≤ sizeLine ∧ ∀ p, (upd (upd H dx (.own x)) x (.ins (He.ga K "Offer") dx [])) p = none →
      spInit K (ws ++ [V.ref p]) (upd (upd (upd H dx (.own x)) x (.ins (He.ga K "Offer") dx [])) p (.tup rest)) (fun v H2 => v = .non ∧ Q (.ref x) H2) E := by
  refine ⟨[.ref x], ps.map V.ref, rfl, rfl, ?_, fun p hp => ?_⟩
  · rw [List.length_map, h2]
    exact Nat.le_trans hf.g.1 (by decide)
  obtain ⟨npx, hp1⟩ := upd_none hp
  obtain ⟨npd, hp2⟩ := upd_none hp1
  have sH : Same H (upd H p (.tup (ps.map V.ref))) := same_new hp2
  refine ⟨x, p, upd H p (.tup (ps.map V.ref)), dx, ts, rfl, fun b o e => ?_, by rw [upd_ne npx.symm]; exact nx, by rw [upd_ne npx.symm]; exact upd_same, ⟨ps, SqT.of upd_same, h2, fun i q t a b => Same.tup sH (h3 i q t a b)⟩, hf, hne, hnm, fun H' s' o' => ⟨rfl, ?_⟩⟩
  · by_cases z : b = p
    · rw [z, upd_same] at e
      rw [z, upd_same]
      exact e
    · rw [upd_ne z] at e
      rw [upd_ne z, upd_ne (ne_of_none e nx), upd_ne (ne_of_none e nd)]
      exact e
  · obtain ⟨d, t, q, o, f, g, e1, e2, e3, e4, e5, e6, n1, n2, n3⟩ := o'.ex
    exact k _ (sH.trans s') ⟨d, t, q, o, f, g, e1, e2, e3, e4, e5, e6, (upd_none n1).2, (upd_none n2).2, (upd_none n3).2⟩
section
variable {P : Program} {w : World} {K : PySem.W.Frag} {mg : Str → Option Value} {base : Heap} (T : Tx K mg)
include T
def spOffer (K : PySem.W.Frag) : Sp := fun vs H Q _ => ∃ (p : Addr) (ts : List Tr), vs = [.ref p] ∧ TrAt K H p ts ∧ Fair ts ∧ ts ≠ [] ∧ nmOk ts ∧ ∀ H' x, Same H H' → OfNew K H H' x ts → Q (.ref x) H'
theorem ok_law_offer : FnR P w K mg base CX0 7 (a_law_offer K) (spOffer K) := by
  refine fnR0 (d := d_law_offer) T.F_law_offer sc_law_offer rfl (fun _ _ _ _ _ _ us hl => match us, hl with | [_], _ => rfl) (fun vs H Q E h => ?_) (fun cdv A outer s H vs Q E hr h => ?_)
  · obtain ⟨p, ts, rfl, _⟩ := h
    rfl
  obtain ⟨p, ts, rfl, hT, hf, hne, hnm, k⟩ := h
  obtain ⟨ps, h1, h2, h3⟩ := hT.ex
  refine ⟨_, (pss_cons (ps_if (pt_cmpR op_eq (pe_callB call_len_seq (by rfl) T.n_len PySem.boot_len (pa_cons (pv 0) pa_nil)) pe_int (nomark _)) (pss_one (ps_ret (StX.pe_makeR T.mk_Offer (ok_Offer_init T) (hr.mono (by decide)) (by rfl) T.g_Offer pass0 (pa_cons (pe_ix ix_tup (pv 0) pe_int (fun _ _ => rfl)) pa_nil)))) pss_nil) (pss_one (ps_ret (pe_ifExp (pt_cmpR op_eq (pe_callB call_len_seq (by rfl) T.n_len PySem.boot_len (pa_cons (pv 0) pa_nil)) pe_int (nomark _)) (StX.pe_makeR T.mk_Offer (ok_Offer_init T) (hr.mono (by decide)) (by rfl) T.g_Offer pass0 (pa_cons (pe_ix ix_tup (pv 0) pe_int (fun _ _ => rfl)) (pa_cons (pe_ix ix_tup (pv 0) pe_int (fun _ _ => rfl)) pa_nil))) (StX.pe_makeR T.mk_Offer (ok_Offer_init T) (hr.mono (by decide)) (by rfl) T.g_Offer pass0 (pa_cons (pe_ix ix_tup (pv 0) pe_int (fun _ _ => rfl)) (pa_cons (pe_ix ix_tup (pv 0) pe_int (fun _ _ => rfl)) (pa_cons (pe_ix ix_tup (pv 0) pe_int (fun _ _ => rfl)) pa_nil)))))))), ?_⟩
  refine ⟨_, rfl, p, _, rfl, .inr h1, rfl, _, rfl, ite2 (fun hd => ?_) (fun hd => ?_)⟩
  · have hd : ((ps.map V.ref).length : Int) = 1 := V.int.inj (of_decide_eq_true hd)
    match ps, hd, h1, h2, h3 with
    | [a], _, h1, h2, h3 =>
      refine ⟨_, rfl, p, _, 0, _, rfl, rfl, h1, rfl, fun x dx nx nd ned => ?_⟩
      exact make_ok h2 h3 hf hne hnm nx nd ned fun H' s' o' => k H' x s' o'
    | [], hd, _, _, _ => exact absurd hd (by decide)
    | a :: b :: r, hd, _, _, _ =>
      simp only [List.map_cons, List.length_cons] at hd
      omega
  · have hd : ¬ ((ps.map V.ref).length : Int) = 1 := fun z => hd (decide_eq_true (by rw [z]))
    refine ⟨_, rfl, p, _, rfl, .inr h1, rfl, _, rfl, ite2 (fun hd2 => ?_) (fun hd2 => ?_)⟩
    · have hd2 : ((ps.map V.ref).length : Int) = 2 := V.int.inj (of_decide_eq_true hd2)
      match ps, hd2, h1, h2, h3 with
      | [a, b], _, h1, h2, h3 =>
        refine ⟨_, rfl, p, _, 0, _, rfl, rfl, h1, rfl, _, rfl, p, _, 1, _, rfl, rfl, h1, rfl, fun x dx nx nd ned => ?_⟩
        exact make_ok h2 h3 hf hne hnm nx nd ned fun H' s' o' => k H' x s' o'
      | [], hd, _, _, _ => exact absurd hd (by decide)
      | [_], hd, _, _, _ => exact absurd hd (by simp)
      | a :: b :: c :: r, hd, _, _, _ =>
        simp only [List.map_cons, List.length_cons] at hd
        omega
    · have hd2 : ¬ ((ps.map V.ref).length : Int) = 2 := fun z => hd2 (decide_eq_true (by rw [z]))
      have hl := hf.g.1
      match ps, hd, hd2, h1, h2, h3 with
      | [a, b, c], _, _, h1, h2, h3 =>
        refine ⟨_, rfl, p, _, 0, _, rfl, rfl, h1, rfl, _, rfl, p, _, 1, _, rfl, rfl, h1, rfl, _, rfl, p, _, 2, _, rfl, rfl, h1, rfl, fun x dx nx nd ned => ?_⟩
        exact make_ok h2 h3 hf hne hnm nx nd ned fun H' s' o' => k H' x s' o'
      | [], _, _, _, h2, _ =>
        cases ts with
        | nil => exact absurd rfl hne
        | cons _ _ => cases h2
      | [_], hd, _, _, _, _ => exact absurd rfl hd
      | [_, _], _, hd, _, _, _ => exact absurd rfl hd
      | a :: b :: c :: d :: r, _, _, _, h2, _ =>
        simp only [List.length_cons] at h2
        omega
/-! ### an offer's methods -/
def spDF (K : PySem.W.Frag) : Sp := fun vs H Q _ => ∃ (a : Addr) (ts : List Tr) (n : Nat), vs = [.ref a, .int (n : Nat)] ∧ OfAt K H a ts ∧ Fair ts ∧ Q (.int (D (cN ts) n : Nat)) H
theorem ok_Offer_drinks_for : FnR P w K mg base CX0 2 (a_Offer_drinks_for K) (spDF K) := by
  refine fnR0 (d := d_Offer_drinks_for) T.F_Offer_drinks_for sc_Offer_drinks_for rfl (fun _ _ _ _ _ _ us hl => match us, hl with | [_, _], _ => rfl) (fun vs H Q E h => ?_) (fun cdv A outer s H vs Q E hr h => ?_)
  · obtain ⟨a, ts, n, rfl, _⟩ := h
    rfl
  obtain ⟨a, ts, n, rfl, ho, hf, k⟩ := h
  obtain ⟨dx, t, p, o, f, g, e1, e2, e3, e4, e5, e6⟩ := ho.ex
  refine ⟨_, (pss_cons (ps_asg (pe_fld (pv 0) rfl) (pg_tup rfl (pgs_cons (pg_name (i := 2) sc_Offer_drinks_for.nd rfl (Or.inl rfl)) (pgs_cons (pg_name (i := 3) sc_Offer_drinks_for.nd rfl (Or.inl rfl)) pgs_nil)))) (pss_one (ps_ret (pe_cR (ok_value_at T) (hr.mono (by decide)) T.F_value_at.kp T.g_value_at pass0 (pa_cons (pe_fld (pv 0) rfl) (pa_cons (pv 1) (pa_cons (pv 2) (pa_cons (pv 3) pa_nil)))))))), ?_⟩
  refine ⟨_, rfl, a, _, dx, _, _, rfl, e1, T.k_Offer, T.na_period, lk_period, p, _, rfl, e3, rfl, _, _, rfl, _, _, rfl, rfl, ?_⟩
  refine ⟨_, rfl, a, _, dx, _, _, rfl, e1, T.k_Offer, T.na_firsts, lk_firsts, _, rfl, _, rfl, _, rfl, f, firstsL ts, n, perB ts, per ts, rfl, e5, by omega, ?_, ?_, ?_, ?_, ?_, ?_⟩
  all_goals have hp := per_le' hf.g
  all_goals have hb := (cf hf).bpos
  all_goals have hB := perB_le hf
  · omega
  · omega
  · omega
  · omega
  · have ht := (cf hf).T_per (d := per ts - 1) (by have := per_pos hf.g; omega)
    have h0 := (cf hf).T_nonneg (per ts - 1)
    have e : per ts - 1 + per ts = 2 * per ts - 1 := by have := per_pos hf.g; omega
    rw [e] at ht
    rw [List.length_map, List.length_range]
    omega
  · rw [value_firsts (cf hf)]
    exact k
def spCall (K : PySem.W.Frag) : Sp := fun vs H Q _ => ∃ (a : Addr) (ts : List Tr) (n : Nat), vs = [.ref a, .int (n : Nat)] ∧ OfAt K H a ts ∧ Fair ts ∧ n ≤ 1000000000000000000 ∧ Q (.int (D (cN ts) n : Nat)) H
theorem ok_Offer_call : FnR P w K mg base CX0 4 (a_Offer_call K) (spCall K) := by
  refine fnR0 (d := d_Offer_call) T.F_Offer_call sc_Offer_call rfl (fun _ _ _ _ _ _ us hl => match us, hl with | [_, _], _ => rfl) (fun vs H Q E h => ?_) (fun cdv A outer s H vs Q E hr h => ?_)
  · obtain ⟨a, ts, n, rfl, _⟩ := h
    rfl
  obtain ⟨a, ts, n, rfl, ho, hf, hn, k⟩ := h
  obtain ⟨dx, t, p, o, f, g, e1, e2, e3, e4, e5, e6⟩ := ho.ex
  refine ⟨_, (pss_cons (ps_expr (pe_cR (ok_check_number T) (hr.mono (by decide)) T.F_check_number.kp T.g_check_number pass0 (pa_cons (pv 1) pa_nil))) (pss_one (ps_ret (pe_methR (pv 0) T.k_Offer T.m_Offer_drinks_for (ok_Offer_drinks_for T) (hr.mono (by decide)) pass0 (pa_cons (pv 1) pa_nil))))), ?_⟩
  refine ⟨_, rfl, n, rfl, by omega, by omega, ?_⟩
  exact ⟨_, rfl, a, dx, _, rfl, e1, lk_no (by decide +kernel), _, rfl, a, ts, n, rfl, ho, hf, k⟩
end
end EB

namespace EB
open PySem PySem.Spec PyProof.Rows L2
section
variable {w : World} {K : PySem.W.Frag} {mg : Str → Option Value} {base : Heap} (T : Tx K mg)
include T
/-- InvalidOffer(i), its own __init__ -/
def spXI (K : PySem.W.Frag) : Sp := fun vs H Q _ => ∃ (a : Addr) (i : Int), vs = [.ref a, .int i] ∧ 0 ≤ i ∧ i < 4 ∧ H a = some (exo a (He.ga K "InvalidOffer") none) ∧
  ∀ dx, H dx = none → dx ≠ a → Q .non (upd (upd H dx (exd dx [("index", .int i)])) a (exo a (He.ga K "InvalidOffer") (some dx)))
theorem okX_InvalidOffer_init (hK : K.In base) : ∃ fd, FnOk PX w K mg base CX0 1 (a_InvalidOffer_init K) fd ["self", "index"] (spXI K) ∧ Binds K fd ["self", "index"] [] := by
  obtain ⟨fd, F⟩ := T.S_InvalidOffer_init
  refine ⟨fd, ?_, ?_⟩
  · refine FnOk.imp (sup_of (CX := CX0) (P := PX) (w := w) (base := base) (k := 0) (tA := ?tA) (tB := tOst K "index" (tVar 0) (tVar 1)) sc_InvalidOffer_init F ?hc ?hA ?hS) ?im
    case hc =>
      obtain ⟨cl, cld, csl, hc⟩ := F.cell
      exact ⟨_, _, hK _ _ hc, rfl⟩
    case hA =>
      intro A outer s H E
      exact pa_cons (X := supCx CX0 PX w K mg base "index" "InvalidOffer.__init__" (defScope s_InvalidOffer_init) (a_InvalidOffer_init K) (.ref (codeA K (a_InvalidOffer_init K))) (cellA K (a_InvalidOffer_init K)) A outer s H E) (pe_joined (.cons pe_str (.cons (pe_fmt (pv (X := supCx CX0 PX w K mg base "index" "InvalidOffer.__init__" (defScope s_InvalidOffer_init) (a_InvalidOffer_init K) (.ref (codeA K (a_InvalidOffer_init K))) (cellA K (a_InvalidOffer_init K)) A outer s H E) 1)) (.cons pe_str .nil)))) pa_nil
    case hS =>
      intro A outer s H E
      exact pss_one (X := supCx CX0 PX w K mg base "index" "InvalidOffer.__init__" (defScope s_InvalidOffer_init) (a_InvalidOffer_init K) (.ref (codeA K (a_InvalidOffer_init K))) (cellA K (a_InvalidOffer_init K)) A outer s H E) (ps_ost (pv (X := supCx CX0 PX w K mg base "index" "InvalidOffer.__init__" (defScope s_InvalidOffer_init) (a_InvalidOffer_init K) (.ref (codeA K (a_InvalidOffer_init K))) (cellA K (a_InvalidOffer_init K)) A outer s H E) 0) (pv (X := supCx CX0 PX w K mg base "index" "InvalidOffer.__init__" (defScope s_InvalidOffer_init) (a_InvalidOffer_init K) (.ref (codeA K (a_InvalidOffer_init K))) (cellA K (a_InvalidOffer_init K)) A outer s H E) 1))
    case im =>
      rintro vs H Q E ⟨a, i, rfl, i0, i1, ea, k⟩
      refine ⟨a, .int i, rfl, ea, ?_⟩
      have X := T.x_InvalidOffer
      refine ⟨_, rfl, by decide +kernel, _, rfl, .inr ⟨i, rfl, ?_, _, rfl, ?_, _, rfl, ?_, by show 1 ≤ 1000; decide, ea, _, rfl, _, rfl, a, _, rfl, F.oex, X.idx, .inl ⟨ea, k⟩⟩⟩
      all_goals rcases (show i = 0 ∨ i = 1 ∨ i = 2 ∨ i = 3 by omega) with rfl | rfl | rfl | rfl <;> decide +kernel
  · obtain ⟨oc, od, kV, doc, pm, an, ct, osl, rfl, lk⟩ := F.fn
    exact Binds.all fun us hl => match us, hl with | [_, _], _ => rfl
end
section
variable {w : World} {K : PySem.W.Frag} {mg : Str → Option Value} {base : Heap} {P : Program}
theorem fnRX {d : DD} {fd : FuncData} {N ps : List Str} {k : Nat} {sp : Sp} (F : FnP K d fd) (S : FnScope N ps (defScope d.st)) (e : d.df = [])
    (b : ∀ (kV doc pm : Value) (an : Option Addr) (cdv ct : Value) (us : List Value), us.length = ps.length → bindArgs (PySem.W.fnOf d.nm d.ql (defArgs d.st) (defBody d.st) (defScope d.st) .none kV doc pm an cdv ct) ⟨us, []⟩ = pure (ps.zip us))
    (len : ∀ vs H Q E, sp vs H Q E → vs.length = ps.length)
    (hbody : ∀ (cdv : Value) (A : Around) (outer : List Env) (s : Shared) (H : Hp) (vs : List V) (Q : VK) (E : XK), Room k (A.deeper (envOfC d.ql (defScope d.st) s.heap.objs.size (d.adr K) cdv)) → sp vs H Q E →
      ∃ t, PSs (cxOf (L2.CX P w) P w K mg base N d.ql (defScope d.st) (d.adr K) cdv A outer s H E) (defBody d.st) t ∧ t { nx := fun _ H' => Q .non H', rt := Q } (start N vs) H) :
    FnR P w K mg base (L2.CX P w) (k + 1) (d.adr K) sp := by
  have F1 : FnOk P w K mg base (L2.CX P w) (k + 1) (d.adr K) fd ps sp := FunD.ok F S len fun cdv A outer s H vs Q E hr h => hbody cdv A outer s H vs Q E hr h
  have F2 : FunD K d.nm d.ql (defArgs d.st) (defBody d.st) (defScope d.st) [] [] (d.adr K) fd := by
    have z : FnP K d fd := F
    unfold FnP at z
    rw [e] at z
    exact z
  refine (F1.raw (F2.bindsN b) .nil).imp fun vs H Q E h => ?_
  rw [List.append_nil]
  exact h
end
theorem inV_mem {z : Str} {l : List Str} (h : z ∈ l) : inV (.str z) (l.map V.str) = true := by
  unfold inV
  refine List.any_eq_true.mpr ⟨.str z, List.mem_map_of_mem h, ?_⟩
  show (z == z) = true
  exact beq_self_eq_true _
/-- InvalidOffer(i) raised: its dict is new, nothing else changes -/
theorem mkI {K : PySem.W.Frag} {H : Hp} {i : Nat} {Q : XK} {E : XK} (hi : i < 4) (k : ∀ H' d, Same H H' → H d = none → H' d = some (.xd [("index", .int i)]) → Q (.ref (He.ga K "InvalidOffer")) (some d) H') :
    [V.int (i : Nat)].length ≤ 1000 ∧ ∀ a, H a = none → spXI K (.ref a :: ([V.int (i : Nat)] ++ [])) (upd H a (exo a (He.ga K "InvalidOffer") none))
      (fun v H2 => v = .non ∧ ∃ (d : Addr) (fs : List (Str × V)), H2 a = some (exo a (He.ga K "InvalidOffer") (some d)) ∧ H2 d = some (exd d fs) ∧ H d = none ∧ Q (.ref (He.ga K "InvalidOffer")) (some d) (upd (del H2 a) d (.xd fs))) E := by
  refine ⟨by show 1 ≤ 1000; decide, fun a ha => ⟨a, i, rfl, by omega, by omega, upd_same, fun dx hdx hne => ⟨rfl, dx, [("index", .int i)], upd_same, ?_, (upd_none hdx).2, k _ dx (fun b o e => ?_) (upd_none hdx).2 upd_same⟩⟩⟩
  · rw [upd_ne hne]
    exact upd_same
  · have n1 : b ≠ a := ne_of_none e ha
    have n2 : b ≠ dx := ne_of_none e (upd_none hdx).2
    rw [upd_ne n2, del_ne n1, upd_ne n1, upd_ne n2, upd_ne n1]
    exact e
/-- the first trade that is not allowed -/
def badTr (seen : List Str) : Nat → List Tr → Option Nat
  | _, [] => none
  | i, t :: ts => if i = 3 ∨ t.k ∈ seen ∨ trOk t = false then some i else badTr (seen ++ [t.k]) (i + 1) ts
def badOf (ts : List Tr) : Option Nat := if ts = [] then some 0 else badTr [] 0 ts
section
variable {w : World} {K : PySem.W.Frag} {mg : Str → Option Value} {base : Heap} (T : Tx K mg)
include T
/-- trades with one that is not allowed: InvalidOffer with its index -/
def spBadTr (K : PySem.W.Frag) : Sp := fun vs H _ E => ∃ (a : Addr) (ts : List Tr) (i : Nat), vs = [.ref a] ∧ TrAt K H a ts ∧ ts.length ≤ 5 ∧ (∀ t ∈ ts, t.k.length ≤ 1000) ∧ badOf ts = some i ∧
  ∀ H' d, Same H H' → H d = none → H' d = some (.xd [("index", .int i)]) → E (.ref (He.ga K "InvalidOffer")) (some d) H'
theorem okX_check_trades (hK : K.In base) : FnR PX w K mg base (L2.CX PX w) 4 (a_check_trades K) (spBadTr K) := by
  obtain ⟨fdI, F_InvalidOffer, B_InvalidOffer⟩ := okX_InvalidOffer_init (w := w) T hK
  have O_InvalidOffer : OexC K (He.ga K "InvalidOffer") := T.S_InvalidOffer_init.elim fun _ F => F.oex
  refine fnRX (d := d_check_trades) T.F_check_trades sc_check_trades rfl (fun _ _ _ _ _ _ us hl => match us, hl with | [_], _ => rfl) (fun vs H Q E h => ?_) (fun cdv A outer s H vs Q E hr h => ?_)
  · obtain ⟨a, ts, i, rfl, _⟩ := h
    rfl
  obtain ⟨a, ts, n, rfl, hT, hl, hz, hbad, k⟩ := h
  obtain ⟨ps, h1, h2, h3⟩ := hT.ex
  obtain ⟨uE, hE⟩ := T.v_Offer_MAX_TRADES
  refine ⟨_, (pss_cons (ps_if (pt_not (pt_truth (pv 0) (by intro _; rfl))) (pss_one (ps_raise rfl (takes_of rfl rfl rfl rfl) (pmk_oex O_InvalidOffer T.x_InvalidOffer.ini T.x_InvalidOffer.tyi F_InvalidOffer (hr.mono (by decide)) B_InvalidOffer .nil pass0 (by rfl) T.g_InvalidOffer (pa_cons pe_int pa_nil)))) pss_nil) (pss_cons (ps_set (i := 1) sc_check_trades.nd rfl (Or.inl rfl) (pe_lst pa_nil)) (pss_one (ps_for (passes_of rfl) rfl (pi_enumT (by rfl) T.n_enumerate (pa_cons (pv 0) pa_nil)) (pg_tup rfl (pgs_cons (pg_name (i := 2) sc_check_trades.nd rfl (Or.inl rfl)) (pgs_cons (pg_tup rfl (pgs_cons (pg_name (i := 3) sc_check_trades.nd rfl (Or.inl rfl)) (pgs_cons (pg_name (i := 4) sc_check_trades.nd rfl (Or.inl rfl)) (pgs_cons (pg_name (i := 5) sc_check_trades.nd rfl (Or.inl rfl)) pgs_nil)))) pgs_nil))) (pss_cons (ps_if (PW.pt (pw_or (pt_cmpR op_eq (pv 2) (ClX.pe_cval (pe_cC T.g_Offer)) (nomark _)) (pw_or (pt_cmpR op_in_seq (pv 3) (pv 1) rfl) (pw_or1 (pt_not (pt_val (pe_cR (ok_is_trade T) (hr.mono (by decide)) T.F_is_trade.kp T.g_is_trade pass0 (pa_cons (pv 3) (pa_cons (pv 4) (pa_cons (pv 5) pa_nil)))))))))) (pss_one (ps_raise rfl (takes_of rfl rfl rfl rfl) (pmk_oex O_InvalidOffer T.x_InvalidOffer.ini T.x_InvalidOffer.tyi F_InvalidOffer (hr.mono (by decide)) B_InvalidOffer .nil pass0 (by rfl) T.g_InvalidOffer (pa_cons (pv 2) pa_nil)))) pss_nil) (pss_one (ps_expr (pe_bm PySem.F.plainAttrs_list PySem.F.slot_list_append PySem.F.type_list_append mt_append (pv 1) (pa_cons (pv 3) pa_nil))))))))), ?_⟩
  cases hts : ts with
  | nil =>
    subst hts
    have hps : ps = [] := List.length_eq_zero_iff.mp h2
    subst hps
    have hn : n = 0 := (Option.some.inj hbad).symm
    subst hn
    refine ⟨_, rfl, false, .inr (.inl ⟨_, h1, rfl⟩), iteT ?_⟩
    exact mkI (i := 0) (by decide) k
  | cons t0 tr =>
  have hne : ts ≠ [] := fun z => by
    rw [hts] at z
    cases z
  have hps : (ps.map V.ref).isEmpty = false := by
    cases ps with
    | nil =>
      rw [hts] at h2
      cases h2
    | cons _ _ => rfl
  unfold badOf at hbad
  rw [if_neg hne] at hbad
  refine ⟨_, rfl, true, .inr (.inl ⟨_, h1, by rw [hps]; rfl⟩), iteF ?_⟩
  refine ⟨Nat.zero_le _, fun p hp => ?_⟩
  refine ⟨_, rfl, a, _, rfl, Same.tup (same_new hp) h1, for_it (walk_enumT (K := K) (a := a) (xs := ps.map V.ref)) (fun i σ H1 => Same H H1 ∧ H1 p = some (.lst (((ts.take i).map Tr.k).map V.str)) ∧ badTr ((ts.take i).map Tr.k) i (ts.drop i) = some n ∧ i ≤ 3 ∧ ∃ x2 x3 x4 x5, σ = [some (.ref a), some (.ref p), x2, x3, x4, x5])
    ⟨same_new hp, upd_same, hbad, Nat.zero_le _, _, _, _, _, rfl⟩ (fun i σ H1 _ q => Same.tup q.1 h1) ?_ ?_⟩
  · rintro i x σ H1 H2 hi ⟨s1, e1, hb, hi3', x2, x3, x4, x5, rfl⟩ ⟨q, u, v, rfl, nq, rfl, eu, ev⟩
    cases eu
    obtain ⟨pt, t, rfl, ep, et, hm, li, hpt⟩ := TrAt.at_ h2 h3 ev
    have s2 : Same H (upd H1 q (.tup [.int (i : Nat), .ref pt])) := s1.trans (same_new nq)
    have e2 := upd_old (u := .tup [.int (i : Nat), .ref pt]) e1 nq
    have hdrop : ts.drop i = t :: ts.drop (i + 1) := by
      rw [List.drop_eq_getElem_cons li]
      rw [List.getElem?_eq_getElem li] at et
      rw [Option.some.inj et]
    rw [hdrop] at hb
    unfold badTr at hb
    generalize hH2 : upd H1 q (.tup [.int (i : Nat), .ref pt]) = H2 at s2 e2
    have raise : ∀ H3, Same H2 H3 → (i = 3 ∨ t.k ∈ (ts.take i).map Tr.k ∨ trOk t = false) → i < 4 ∧ (∀ H' d, Same H3 H' → H3 d = none → H' d = some (.xd [("index", .int i)]) → E (.ref (He.ga K "InvalidOffer")) (some d) H') := fun H3 s3 hc => by
      rw [if_pos hc] at hb
      have hn : i = n := Option.some.inj hb
      subst hn
      refine ⟨by omega, fun H' d s4 n4 e4 => k H' d (s2.trans (s3.trans s4)) ?_ e4⟩
      exact (s2.trans s3).free n4
    refine ⟨q, _, rfl, SqT.of (by rw [← hH2]; exact upd_same), rfl, _, _, rfl, _, _, rfl, ⟨pt, _, rfl, Same.tup s2 hpt, rfl, _, _, rfl, _, _, rfl, _, _, rfl, rfl, rfl, ?_⟩⟩
    refine ⟨_, rfl, He.ga K "Offer", _, _, _, rfl, T.r_Offer, hE, rfl, _, rfl, ite2 (fun hd => ?_) (fun hd3 => ?_)⟩
    · have hd := V.int.inj (of_decide_eq_true hd)
      obtain ⟨r1, r2⟩ := raise H2 (Same.refl _) (.inl (by omega))
      exact ⟨_, rfl, mkI r1 r2⟩
    have hi3 : i ≠ 3 := fun z => hd3 (decide_eq_true (by rw [z]; rfl))
    refine ⟨_, rfl, _, rfl, p, _, rfl, .inl (SqL.of e2), rfl, flat_str _, _, rfl, ite2 (fun hd => ?_) (fun hdn => ?_)⟩
    · have hin : t.k ∈ (ts.take i).map Tr.k := Classical.byContradiction fun z => by
        rw [if_neg Bool.false_ne_true, inV_str z] at hd
        cases hd
      obtain ⟨r1, r2⟩ := raise H2 (Same.refl _) (.inr (.inl hin))
      exact ⟨_, rfl, mkI r1 r2⟩
    have hni : t.k ∉ (ts.take i).map Tr.k := fun z => hdn (by rw [if_neg Bool.false_ne_true]; exact inV_mem z)
    refine ⟨_, rfl, _, rfl, _, rfl, t, rfl, hz _ hm, fun H3 s3 => ⟨_, rfl, ite2 (fun hd => ?_) (fun hd => ?_)⟩⟩
    · obtain ⟨r1, r2⟩ := raise H3 s3 (.inr (.inr (by simpa using hd)))
      exact ⟨_, rfl, mkI r1 r2⟩
    have hok : trOk t = true := by simpa using hd
    rw [if_neg (by rw [hok]; simp only [hi3, hni, false_or]; exact Bool.noConfusion)] at hb
    have e3 := s3 _ _ e2
    refine ⟨_, rfl, .inl ⟨rfl, _, SqL.of e3⟩, _, rfl, p, _, _, rfl, rfl, e3, small3 ?_, same_mut (s2.trans s3) hp, ?_, ?_, by omega, _, _, _, _, rfl⟩
    · rw [List.length_map, List.length_map, List.length_take]
      omega
    · rw [upd_same, take_at et, List.map_append, List.map_append]
      rfl
    · rw [take_at et, List.map_append]
      exact hb
  · rintro σ H1 ⟨s1, e1, hb, _, x2, x3, x4, x5, rfl⟩
    rw [List.length_map, h2, List.drop_length] at hb
    cases hb
/-- trades that give too much: TooGenerous -/
def spBadGen (K : PySem.W.Frag) : Sp := fun vs H _ E => ∃ (a : Addr) (ts : List Tr), vs = [.ref a] ∧ TrAt K H a ts ∧ gds ts ∧ ¬ 10 * worth ts ≤ 9 * 27720 ∧ ∀ H', Same H H' → E (.ref (He.ga K "TooGenerous")) none H'
theorem okX_check_generosity (hK : K.In base) : FnR PX w K mg base (L2.CX PX w) 2 (a_check_generosity K) (spBadGen K) := by
  refine fnRX (d := d_check_generosity) T.F_check_generosity sc_check_generosity rfl (fun _ _ _ _ _ _ us hl => match us, hl with | [_], _ => rfl) (fun vs H Q E h => ?_) (fun cdv A outer s H vs Q E hr h => ?_)
  · obtain ⟨a, ts, rfl, _⟩ := h
    rfl
  obtain ⟨a, ts, rfl, hT, hg, hw0, k⟩ := h
  obtain ⟨ps, h1, h2, h3⟩ := hT.ex
  refine ⟨_, (pss_cons (ps_set (i := 1) sc_check_generosity.nd rfl (Or.inr rfl) pe_int) (pss_cons (ps_for (passes_of rfl) rfl (pi_tup (pv 0)) (pg_tup rfl (pgs_cons (pg_name (i := 2) sc_check_generosity.nd rfl (Or.inl rfl)) (pgs_cons (pg_name (i := 2) sc_check_generosity.nd rfl (Or.inl rfl)) (pgs_cons (pg_name (i := 3) sc_check_generosity.nd rfl (Or.inl rfl)) pgs_nil)))) (pss_one (ps_set (i := 1) sc_check_generosity.nd rfl (Or.inr rfl) (pe_callBfun cr_lcm (by rfl) T.b_lcm (pa_cons (pv 1) (pa_cons (pv 3) pa_nil)))))) (pss_cons (ps_set (i := 4) sc_check_generosity.nd rfl (Or.inl rfl) (pe_callB (cr_sum rfl) (by rfl) T.n_sum (by decide +kernel) (pa_cons (pe_lc (own := [("_", 2), ("left", 5), ("needed", 3)]) rfl sc_check_generosity.nd (pi_tup (pv 0)) (blkOk_by (own := [("_", 2), ("left", 5), ("needed", 3)]) (N := N_check_generosity) (sc := defScope s_check_generosity) (by decide +kernel)) (fun _ _ _ _ _ => (pg_tupB (n := 3) (pgs_cons (pg_name (i := 2) sc_check_generosity.nd rfl (Or.inl rfl) (.inr rfl)) (pgs_cons (pg_name (i := 5) sc_check_generosity.nd rfl (Or.inl rfl) (.inr rfl)) (pgs_cons (pg_name (i := 3) sc_check_generosity.nd rfl (Or.inl rfl) (.inr rfl)) pgs_nil))))) (fun _ _ _ _ _ => pts_nil) (fun _ _ _ _ _ => (pe_op op_mul (pe_op op_fdiv (pv 1) (pv 3)) (pv 5)))) pa_nil))) (pss_one (ps_if (pt_cmpR op_gt (pe_op op_mul pe_int (pv 4)) (pe_op op_mul pe_int (pv 1)) (nomark _)) (pss_one (ps_raise rfl (takes_of rfl rfl rfl rfl) (pmk_own PySem.F.excBase_ValueError T.x_TooGenerous.own T.g_TooGenerous T.x_TooGenerous.keep (raises_own T.x_TooGenerous.base T.x_TooGenerous.ty) (by rfl)))) pss_nil))))), ?_⟩
  refine ⟨_, rfl, a, rfl, ⟨_, h1⟩, for_tup (xs := ps.map V.ref) (fun i σ H1 => H1 = H ∧ ∃ x2 x3 x4 x5, σ = [some (.ref a), some (.int (((ts.take i).foldl wholeS 1 : Nat) : Int)), x2, x3, x4, x5]) ⟨rfl, _, _, _, _, rfl⟩ (fun i σ H1 _ q => by rw [q.1]; exact h1) ?_ ?_⟩
  · rintro i x σ H1 hx ⟨rfl, x2, x3, x4, x5, rfl⟩
    obtain ⟨p, t, rfl, ep, et, hm, li, hp⟩ := TrAt.at_ h2 h3 hx
    have ht := hg.2 _ hm
    refine ⟨p, _, rfl, hp, rfl, _, _, rfl, _, _, rfl, _, _, rfl, rfl, ?_⟩
    refine ⟨_, rfl, _, rfl, _, _, rfl, ?_, ?_, rfl, some (.int t.l), some (.int t.n), x4, x5, ?_⟩
    · have := wholeF_most hg i
      exact Nat.lt_of_le_of_lt (by omega : _ ≤ 1728) (by decide)
    · have := ht.2.2.1
      have := ht.2.2.2
      exact Nat.lt_of_le_of_lt (by omega : _ ≤ 12) (by decide)
    · rw [take_at et, List.foldl_append]
      rfl
  · rintro σ H1 ⟨rfl, x2, x3, x4, x5, rfl⟩
    have ew : (ts.take (ps.map V.ref).length).foldl wholeS 1 = wholeF ts := by
      rw [List.length_map, h2, List.take_length]
      rfl
    rw [ew]
    have hw : wholeF ts ≤ 1728 := by
      have := wholeF_most hg ts.length
      rw [List.take_length] at this
      exact this
    refine ⟨_, rfl, a, rfl, ⟨_, h1⟩, fun D hD => ?_⟩
    refine lc_tup (xs := ps.map V.ref) (fun i H2 => Same H1 H2 ∧ H1 D = none ∧ H2 D = some (.lst ((ts.take i).map fun t => V.int ((wholeF ts : Int) / t.n * t.l)))) ⟨same_new hD, hD, upd_same⟩ (fun i H2 _ q => Same.tup q.1 h1) ?_ ?_
    · rintro i x H2 hx ⟨s1, n1, e1⟩
      obtain ⟨p, t, rfl, ep, et, hm, li, hp⟩ := TrAt.at_ h2 h3 hx
      have ht := hg.2 _ hm
      refine ⟨p, _, rfl, Same.tup s1 hp, rfl, _, _, rfl, _, _, rfl, _, _, rfl, rfl, rfl, ?_⟩
      refine ⟨_, rfl, _, rfl, _, _, rfl, rfl, ⟨by have := ht.2.2.1; omega, by have := ht.2.2.2; omega⟩, _, rfl, _, _, rfl, rfl, .inr ⟨by have := ht.1; omega, by have := ht.2.1; omega⟩, ?_⟩
      refine ⟨_, e1, small3 ?_, same_mut s1 n1, n1, ?_⟩
      · rw [List.length_map, List.length_take]
        have := hg.1
        omega
      · rw [upd_same, take_at et, List.map_append]
        rfl
    · rintro H2 ⟨s1, n1, e1⟩
      refine ⟨D, ts.map fun t => (wholeF ts : Int) / t.n * t.l, rfl, SqL.of ?_, ?_⟩
      · rw [e1, List.length_map, h2, List.take_length, List.map_map]
        rfl
      · refine ⟨_, rfl, _, _, rfl, rfl, .inl ⟨by decide, by decide⟩, _, rfl, _, _, rfl, rfl, .inl ⟨by decide, by decide⟩, _, _, rfl, rfl, _, rfl, ite2 (fun _ => k _ s1) (fun hd => ?_)⟩
        exfalso
        have hd : ¬ 9 * (wholeF ts : Int) < 10 * parts ts := fun z => hd (decide_eq_true z)
        exact hw0 ((parts_fair hg).mp (by omega))
end
section
variable {w : World} {K : PySem.W.Frag} {mg : Str → Option Value} {base : Heap} {P : Program}
theorem fnRSX {d : DD} {fd : FuncData} {N ps : List Str} {pv : Str} {k : Nat} {sp : Sp} (F : FnP K d fd) (S : FnScope N (ps ++ [pv]) (defScope d.st)) (e : d.df = [])
    (b : ∀ (kV doc pm : Value) (an : Option Addr) (cdv ct : Value) (us rest : List Value), us.length = ps.length → bindArgs (PySem.W.fnOf d.nm d.ql (defArgs d.st) (defBody d.st) (defScope d.st) .none kV doc pm an cdv ct) ⟨us ++ rest, []⟩ = (newTuple rest >>= fun t => pure (ps.zip us ++ [(pv, t)])))
    (hbody : ∀ (cdv : Value) (A : Around) (outer : List Env) (s : Shared) (H : Hp) (vs : List V) (Q : VK) (E : XK), Room k (A.deeper (envOfC d.ql (defScope d.st) s.heap.objs.size (d.adr K) cdv)) → sp vs H Q E →
      ∃ t, PSs (cxOf (L2.CX P w) P w K mg base N d.ql (defScope d.st) (d.adr K) cdv A outer s H E) (defBody d.st) t ∧ t { nx := fun _ H' => Q .non H', rt := Q } (start N vs) H) :
    FnR P w K mg base (L2.CX P w) (k + 1) (d.adr K) (fun vs H Q E => ∃ ws rest, vs = ws ++ rest ∧ ws.length = ps.length ∧ rest.length ≤ sizeLine ∧ ∀ p, H p = none → sp (ws ++ [V.ref p]) (upd H p (.tup rest)) Q E) := by
  have z : FnP K d fd := F
  unfold FnP at z
  rw [e] at z
  obtain ⟨oc, od, dV, kV, doc, pm, an, cdv, ct, osl, rfl, lk, hcd, hD, hK⟩ := z.ex
  have hdV : dV = .none := by
    rcases hD with ⟨_, h⟩ | ⟨h, _⟩
    · exact h
    · exact absurd rfl h
  subst hdV
  exact StX.fn_star lk hcd S StX.cxUp (fun us rest hl => b kV doc pm an cdv ct us rest hl) fun A outer s H vs Q E hr h => hbody cdv A outer s H vs Q E hr h
end
section
variable {w : World} {K : PySem.W.Frag} {mg : Str → Option Value} {base : Heap} (T : Tx K mg)
include T
/-- an offer that is refused -/
def spInitX (K : PySem.W.Frag) : Sp := fun vs H _ E => ∃ (x p : Addr) (H0 : Hp) (ts : List Tr), vs = [.ref x, .ref p] ∧ Same H0 H ∧ TrAt K H0 p ts ∧
  ((ts.length ≤ 5 ∧ (∀ t ∈ ts, t.k.length ≤ 1000) ∧ ∃ i : Nat, badOf ts = some i ∧ ∀ H' d, Same H0 H' → H0 d = none → H' d = some (.xd [("index", .int i)]) → E (.ref (He.ga K "InvalidOffer")) (some d) H') ∨
    (gds ts ∧ ts ≠ [] ∧ nmOk ts ∧ ¬ 10 * worth ts ≤ 9 * 27720 ∧ ∀ H', Same H0 H' → E (.ref (He.ga K "TooGenerous")) none H'))
theorem okX_Offer_init (hK : K.In base) : FnR PX w K mg base (L2.CX PX w) 6 (a_Offer_init K) (fun vs H Q E => ∃ ws rest, vs = ws ++ rest ∧ ws.length = 1 ∧ rest.length ≤ sizeLine ∧ ∀ p, H p = none → spInitX K (ws ++ [V.ref p]) (upd H p (.tup rest)) Q E) := by
  refine fnRSX (d := d_Offer_init) (ps := ["self"]) T.F_Offer_init sc_Offer_init rfl (fun kV doc pm an cdv ct => StX.bind_star1 (B := fun us => bindArgs (PySem.W.fnOf d_Offer_init.nm d_Offer_init.ql (defArgs d_Offer_init.st) (defBody d_Offer_init.st) (defScope d_Offer_init.st) .none kV doc pm an cdv ct) ⟨us, []⟩) (fun _ => rfl) (fun _ _ _ => rfl)) (fun cdv A outer s H vs Q E hr h => ?_)
  obtain ⟨x, p, H0, ts, rfl, s0, hT0, h⟩ := h
  rcases h with ⟨hl, hz, i, hb, k⟩ | ⟨hg, hne, hnm, hw, k⟩
  · refine ⟨_, (pss_cons (ps_expr (pe_cR (okX_check_trades T hK) (hr.mono (by decide)) T.F_check_trades.kp T.g_check_trades (passes_call (takes_of rfl rfl rfl rfl) (fun _ _ _ _ h => h)) (pa_cons (pv 1) pa_nil))) (pss_cons (ps_expr (pe_cR (ok_check_generosity T) (hr.mono (by decide)) T.F_check_generosity.kp T.g_check_generosity pass0 (pa_cons (pv 1) pa_nil))) (pss_cons (ps_fld (pv 0) (pe_callTy call_tuple_of (by rfl) T.n_tuple (by decide +kernel) (pa_cons (pe_lc (own := [("kind", 3), ("left", 4), ("needed", 5)]) rfl sc_Offer_init.nd (pi_tup (pv 1)) (blkOk_by (own := [("kind", 3), ("left", 4), ("needed", 5)]) (N := N_Offer_init) (sc := defScope s_Offer_init) (by decide +kernel)) (fun _ _ _ _ _ => (pg_tupB (n := 3) (pgs_cons (pg_name (i := 3) sc_Offer_init.nd rfl (Or.inl rfl) (.inr rfl)) (pgs_cons (pg_name (i := 4) sc_Offer_init.nd rfl (Or.inl rfl) (.inr rfl)) (pgs_cons (pg_name (i := 5) sc_Offer_init.nd rfl (Or.inl rfl) (.inr rfl)) pgs_nil))))) (fun _ _ _ _ _ => pts_nil) (fun _ _ _ _ _ => (pe_tup (pa_cons (pv 3) (pa_cons (pv 4) (pa_cons (pv 5) pa_nil)))))) pa_nil)) rfl) (pss_cons (ps_set (i := 2) sc_Offer_init.nd rfl (Or.inl rfl) (pe_cR (ok_drinks_of_period T) (hr.mono (by decide)) T.F_drinks_of_period.kp T.g_drinks_of_period pass0 (pa_cons (pv 1) pa_nil))) (pss_cons (ps_fld (pv 0) (pe_tup (pa_cons (pe_cR (ok_cost_of T) (hr.mono (by decide)) T.F_cost_of.kp T.g_cost_of pass0 (pa_cons (pv 1) (pa_cons (pv 2) pa_nil))) (pa_cons (pv 2) pa_nil))) rfl) (pss_cons (ps_fld (pv 0) (pe_cR (ok_tops_of T) (hr.mono (by decide)) T.F_tops_of.kp T.g_tops_of pass0 (pa_cons (pe_lc (own := [("count", 6)]) rfl sc_Offer_init.nd (pi_range1 rfl T.n_range (pa_cons (pe_op op_mul pe_int (pv 2)) pa_nil)) (blkOk_by (own := [("count", 6)]) (N := N_Offer_init) (sc := defScope s_Offer_init) (by decide +kernel)) (fun _ _ _ _ _ => (pg_name (i := 6) sc_Offer_init.nd rfl (Or.inl rfl) (.inr rfl))) (fun _ _ _ _ _ => pts_nil) (fun _ _ _ _ _ => (pe_cR (ok_cost_of T) (hr.mono (by decide)) T.F_cost_of.kp T.g_cost_of pass0 (pa_cons (pv 1) (pa_cons (pv 6) pa_nil))))) pa_nil)) rfl) (pss_cons (ps_fld (pv 0) (pe_cR (ok_firsts_of T) (hr.mono (by decide)) T.F_firsts_of.kp T.g_firsts_of pass0 (pa_cons (pe_fld (pv 0) rfl) pa_nil)) rfl) (pss_one (ps_fld (pv 0) (pe_cR (ok_gaps_of T) (hr.mono (by decide)) T.F_gaps_of.kp T.g_gaps_of pass0 (pa_cons (pe_fld (pv 0) rfl) (pa_cons (pe_fld (pv 0) rfl) pa_nil))) rfl))))))))), ?_⟩
    refine ⟨_, rfl, p, ts, i, rfl, hT0.mono s0, hl, hz, hb, fun H' d s1 n1 e1 => k H' d (s0.trans s1) (s0.free n1) e1⟩
  · refine ⟨_, (pss_cons (ps_expr (pe_cR (ok_check_trades T) (hr.mono (by decide)) T.F_check_trades.kp T.g_check_trades pass0 (pa_cons (pv 1) pa_nil))) (pss_cons (ps_expr (pe_cR (okX_check_generosity T hK) (hr.mono (by decide)) T.F_check_generosity.kp T.g_check_generosity (passes_call (takes_of rfl rfl rfl rfl) (fun _ _ _ _ h => h)) (pa_cons (pv 1) pa_nil))) (pss_cons (ps_fld (pv 0) (pe_callTy call_tuple_of (by rfl) T.n_tuple (by decide +kernel) (pa_cons (pe_lc (own := [("kind", 3), ("left", 4), ("needed", 5)]) rfl sc_Offer_init.nd (pi_tup (pv 1)) (blkOk_by (own := [("kind", 3), ("left", 4), ("needed", 5)]) (N := N_Offer_init) (sc := defScope s_Offer_init) (by decide +kernel)) (fun _ _ _ _ _ => (pg_tupB (n := 3) (pgs_cons (pg_name (i := 3) sc_Offer_init.nd rfl (Or.inl rfl) (.inr rfl)) (pgs_cons (pg_name (i := 4) sc_Offer_init.nd rfl (Or.inl rfl) (.inr rfl)) (pgs_cons (pg_name (i := 5) sc_Offer_init.nd rfl (Or.inl rfl) (.inr rfl)) pgs_nil))))) (fun _ _ _ _ _ => pts_nil) (fun _ _ _ _ _ => (pe_tup (pa_cons (pv 3) (pa_cons (pv 4) (pa_cons (pv 5) pa_nil)))))) pa_nil)) rfl) (pss_cons (ps_set (i := 2) sc_Offer_init.nd rfl (Or.inl rfl) (pe_cR (ok_drinks_of_period T) (hr.mono (by decide)) T.F_drinks_of_period.kp T.g_drinks_of_period pass0 (pa_cons (pv 1) pa_nil))) (pss_cons (ps_fld (pv 0) (pe_tup (pa_cons (pe_cR (ok_cost_of T) (hr.mono (by decide)) T.F_cost_of.kp T.g_cost_of pass0 (pa_cons (pv 1) (pa_cons (pv 2) pa_nil))) (pa_cons (pv 2) pa_nil))) rfl) (pss_cons (ps_fld (pv 0) (pe_cR (ok_tops_of T) (hr.mono (by decide)) T.F_tops_of.kp T.g_tops_of pass0 (pa_cons (pe_lc (own := [("count", 6)]) rfl sc_Offer_init.nd (pi_range1 rfl T.n_range (pa_cons (pe_op op_mul pe_int (pv 2)) pa_nil)) (blkOk_by (own := [("count", 6)]) (N := N_Offer_init) (sc := defScope s_Offer_init) (by decide +kernel)) (fun _ _ _ _ _ => (pg_name (i := 6) sc_Offer_init.nd rfl (Or.inl rfl) (.inr rfl))) (fun _ _ _ _ _ => pts_nil) (fun _ _ _ _ _ => (pe_cR (ok_cost_of T) (hr.mono (by decide)) T.F_cost_of.kp T.g_cost_of pass0 (pa_cons (pv 1) (pa_cons (pv 6) pa_nil))))) pa_nil)) rfl) (pss_cons (ps_fld (pv 0) (pe_cR (ok_firsts_of T) (hr.mono (by decide)) T.F_firsts_of.kp T.g_firsts_of pass0 (pa_cons (pe_fld (pv 0) rfl) pa_nil)) rfl) (pss_one (ps_fld (pv 0) (pe_cR (ok_gaps_of T) (hr.mono (by decide)) T.F_gaps_of.kp T.g_gaps_of pass0 (pa_cons (pe_fld (pv 0) rfl) (pa_cons (pe_fld (pv 0) rfl) pa_nil))) rfl))))))))), ?_⟩
    refine ⟨_, rfl, p, ts, rfl, hT0.mono s0, hg, hne, hnm, fun H1 s1 => ?_⟩
    exact ⟨_, rfl, p, ts, rfl, hT0.mono (s0.trans s1), hg, hw, fun H' s2 => k H' (s0.trans (s1.trans s2))⟩
end
end EB


namespace EB
open PySem PySem.Spec PyProof.Rows L2
section
variable {X : Cx} {CX : CXT} {k : Nat} {C f : Addr} {sp : Sp} {E : XK} {x : PySem.Str} {p pos : Pos}
/-- C(), all that is asked of no argument -/
theorem pe_makeR0 (M : Mk X.K C f) (F : FnR X.prog X.w X.K X.mg X.base CX k f sp) (hr : Room (k + 1) X.A) (hg : Gl X x) (hm : X.mg x = some (.ref C)) (hx : Passes CX X E) (hdb : (x == ("__debug__" : Str)) = false := by decide) :
    PE X (.Call (.Name x p) [] [] pos) (StX.tMakeR C sp E tNil) := by
  refine ⟨fun pins s σ H Q I h => ?_⟩
  refine wpAny_Call_Name_kw (ld_glob I hg hm ?_ hdb)
  exact PySem.W.callWith_K0 I.kIn M.kp (StX.run_makeR (us := []) M F hr hx I .nil h)
end
/-- what becomes of an offer that is refused -/
def Refused (K : PySem.W.Frag) (ts : List Tr) (H : Hp) (E : XK) : Prop :=
  (ts.length ≤ 5 ∧ (∀ t ∈ ts, t.k.length ≤ 1000) ∧ ∃ i : Nat, badOf ts = some i ∧ ∀ H' d, Same H H' → H d = none → H' d = some (.xd [("index", .int i)]) → E (.ref (He.ga K "InvalidOffer")) (some d) H') ∨
    (gds ts ∧ ts ≠ [] ∧ nmOk ts ∧ ¬ 10 * worth ts ≤ 9 * 27720 ∧ ∀ H', Same H H' → E (.ref (He.ga K "TooGenerous")) none H')
theorem makeX_ok {K : PySem.W.Frag} {H : Hp} {ts : List Tr} {ps : List Addr} {Q : VK} {E : XK} {x dx : Addr} (h2 : ps.length = ts.length) (h3 : ∀ (i : Nat) (p : Addr) (t : Tr), ps[i]? = some p → ts[i]? = some t → SqT K H p t.vs)
    (hl : ts.length ≤ 5) (nx : H x = none) (nd : H dx = none) (ned : dx ≠ x) (hr : Refused K ts H E) :
    ∃ ws rest, (V.ref x :: ps.map V.ref) = ws ++ rest ∧ ws.length = 1 ∧ rest.length ≤ sizeLine ∧ ∀ p, (upd (upd H dx (.own x)) x (.ins (He.ga K "Offer") dx [])) p = none →
      spInitX K (ws ++ [V.ref p]) (upd (upd (upd H dx (.own x)) x (.ins (He.ga K "Offer") dx [])) p (.tup rest)) Q E := by
  refine ⟨[.ref x], ps.map V.ref, rfl, rfl, ?_, fun p hp => ?_⟩
  · rw [List.length_map, h2]
    exact Nat.le_trans hl (by decide)
  obtain ⟨npx, hp1⟩ := upd_none hp
  obtain ⟨npd, hp2⟩ := upd_none hp1
  have sH : Same H (upd H p (.tup (ps.map V.ref))) := same_new hp2
  refine ⟨x, p, upd H p (.tup (ps.map V.ref)), ts, rfl, fun b o e => ?_, ⟨ps, SqT.of upd_same, h2, fun i q t a b => Same.tup sH (h3 i q t a b)⟩, ?_⟩
  · by_cases z : b = p
    · rw [z, upd_same] at e
      rw [z, upd_same]
      exact e
    · rw [upd_ne z] at e
      rw [upd_ne z, upd_ne (ne_of_none e nx), upd_ne (ne_of_none e nd)]
      exact e
  · rcases hr with ⟨a, b, i, c, k⟩ | ⟨a, b, c, d, k⟩
    · exact .inl ⟨a, b, i, c, fun H' d s n e => k H' d (sH.trans s) (upd_none n).2 e⟩
    · exact .inr ⟨a, b, c, d, fun H' s => k H' (sH.trans s)⟩
section
variable {P : Program} {w : World} {K : PySem.W.Frag} {mg : Str → Option Value} {base : Heap} {j k : Nat} {f : Addr} {sp sp' : Sp}
theorem fnR_up (F : FnR P w K mg base CX0 k f sp) : FnR P w K mg base (L2.CX P w) k f sp := fun A outer s H us vs Q E hr e0 rv hs => codeAny_mono (F A outer s H us vs Q E hr e0 rv hs) fun r s' h => by
  cases r with
  | error e => exact False.elim h
  | ok fl => cases fl <;> exact h
theorem fnR_or {CX : CXT} (F : FnR P w K mg base CX j f sp) (G : FnR P w K mg base CX k f sp') : FnR P w K mg base CX (max j k) f (fun vs H Q E => sp vs H Q E ∨ sp' vs H Q E) := fun A outer s H us vs Q E hr e0 rv hs => by
  rcases hs with h | h
  · exact F A outer s H us vs Q E (hr.mono (Nat.le_max_left ..)) e0 rv h
  · exact G A outer s H us vs Q E (hr.mono (Nat.le_max_right ..)) e0 rv h
end
section
variable {w : World} {K : PySem.W.Frag} {mg : Str → Option Value} {base : Heap} (T : Tx K mg)
include T
def spOfferX (K : PySem.W.Frag) : Sp := fun vs H _ E => ∃ (p : Addr) (ts : List Tr), vs = [.ref p] ∧ TrAt K H p ts ∧ ts ≠ [] ∧ ts.length ≤ 3 ∧ Refused K ts H E
theorem okX_law_offer (hK : K.In base) : FnR PX w K mg base (L2.CX PX w) 8 (a_law_offer K) (spOfferX K) := by
  refine fnRX (d := d_law_offer) T.F_law_offer sc_law_offer rfl (fun _ _ _ _ _ _ us hl => match us, hl with | [_], _ => rfl) (fun vs H Q E h => ?_) (fun cdv A outer s H vs Q E hr h => ?_)
  · obtain ⟨p, ts, rfl, _⟩ := h
    rfl
  obtain ⟨p, ts, rfl, hT, hne, hl3, k⟩ := h
  obtain ⟨ps, h1, h2, h3⟩ := hT.ex
  refine ⟨_, (pss_cons (ps_if (pt_cmpR op_eq (pe_callB call_len_seq (by rfl) T.n_len PySem.boot_len (pa_cons (pv 0) pa_nil)) pe_int (nomark _)) (pss_one (ps_ret (StX.pe_makeR T.mk_Offer (okX_Offer_init T hK) (hr.mono (by decide)) (by rfl) T.g_Offer (passes_call (takes_of rfl rfl rfl rfl) (fun _ _ _ _ h => h)) (pa_cons (pe_ix ix_tup (pv 0) pe_int (fun _ _ => rfl)) pa_nil)))) pss_nil) (pss_one (ps_ret (pe_ifExp (pt_cmpR op_eq (pe_callB call_len_seq (by rfl) T.n_len PySem.boot_len (pa_cons (pv 0) pa_nil)) pe_int (nomark _)) (StX.pe_makeR T.mk_Offer (okX_Offer_init T hK) (hr.mono (by decide)) (by rfl) T.g_Offer (passes_call (takes_of rfl rfl rfl rfl) (fun _ _ _ _ h => h)) (pa_cons (pe_ix ix_tup (pv 0) pe_int (fun _ _ => rfl)) (pa_cons (pe_ix ix_tup (pv 0) pe_int (fun _ _ => rfl)) pa_nil))) (StX.pe_makeR T.mk_Offer (okX_Offer_init T hK) (hr.mono (by decide)) (by rfl) T.g_Offer (passes_call (takes_of rfl rfl rfl rfl) (fun _ _ _ _ h => h)) (pa_cons (pe_ix ix_tup (pv 0) pe_int (fun _ _ => rfl)) (pa_cons (pe_ix ix_tup (pv 0) pe_int (fun _ _ => rfl)) (pa_cons (pe_ix ix_tup (pv 0) pe_int (fun _ _ => rfl)) pa_nil)))))))), ?_⟩
  refine ⟨_, rfl, p, _, rfl, .inr h1, rfl, _, rfl, ite2 (fun hd => ?_) (fun hd => ?_)⟩
  · have hd : ((ps.map V.ref).length : Int) = 1 := V.int.inj (of_decide_eq_true hd)
    match ps, hd, h1, h2, h3 with
    | [a], _, h1, h2, h3 =>
      refine ⟨_, rfl, p, _, 0, _, rfl, rfl, h1, rfl, fun x dx nx nd ned => ?_⟩
      exact makeX_ok h2 h3 (by omega) nx nd ned k
    | [], hd, _, _, _ => exact absurd hd (by decide)
    | a :: b :: r, hd, _, _, _ =>
      simp only [List.map_cons, List.length_cons] at hd
      omega
  · have hd : ¬ ((ps.map V.ref).length : Int) = 1 := fun z => hd (decide_eq_true (by rw [z]))
    refine ⟨_, rfl, p, _, rfl, .inr h1, rfl, _, rfl, ite2 (fun hd2 => ?_) (fun hd2 => ?_)⟩
    · have hd2 : ((ps.map V.ref).length : Int) = 2 := V.int.inj (of_decide_eq_true hd2)
      match ps, hd2, h1, h2, h3 with
      | [a, b], _, h1, h2, h3 =>
        refine ⟨_, rfl, p, _, 0, _, rfl, rfl, h1, rfl, _, rfl, p, _, 1, _, rfl, rfl, h1, rfl, fun x dx nx nd ned => ?_⟩
        exact makeX_ok h2 h3 (by omega) nx nd ned k
      | [], hd, _, _, _ => exact absurd hd (by decide)
      | [_], hd, _, _, _ => exact absurd hd (by simp)
      | a :: b :: c :: r, hd, _, _, _ =>
        simp only [List.map_cons, List.length_cons] at hd
        omega
    · have hd2 : ¬ ((ps.map V.ref).length : Int) = 2 := fun z => hd2 (decide_eq_true (by rw [z]))
      match ps, hd, hd2, h1, h2, h3 with
      | [a, b, c], _, _, h1, h2, h3 =>
        refine ⟨_, rfl, p, _, 0, _, rfl, rfl, h1, rfl, _, rfl, p, _, 1, _, rfl, rfl, h1, rfl, _, rfl, p, _, 2, _, rfl, rfl, h1, rfl, fun x dx nx nd ned => ?_⟩
        exact makeX_ok h2 h3 (by omega) nx nd ned k
      | [], hd, _, _, h2, _ =>
        cases ts with
        | nil => exact absurd rfl hne
        | cons _ _ => cases h2
      | [_], hd, _, _, _, _ => exact absurd rfl hd
      | [_, _], _, hd, _, _, _ => exact absurd rfl hd
      | a :: b :: c :: d :: r, _, _, _, h2, _ =>
        simp only [List.length_cons] at h2
        omega
end
end EB

namespace EB
open PySem PySem.Spec PyProof.Rows L2
/-- what leaves a body is told at slots of the def's own number -/
theorem takes_len {X : Cx} {W : WX} {n : Nat} (hn : X.N.length = n) (tk : Takes X W) : Takes X (fun cls d σ H => σ.length = n → W cls d σ H) := fun u s' ⟨a, B, sI, pins, σ, H, cls, d, e, I, nb, up, sky, na, os, ag, w⟩ =>
  tk u s' ⟨a, B, sI, pins, σ, H, cls, d, e, I, nb, up, sky, na, os, ag, w (I.len.trans hn)⟩
abbrev errCx (P : Program) (w : World) (K : PySem.W.Frag) (mg : Str → Option Value) (base : Heap) (cdg : Value) (A : Around) (st : List Env) (s : Shared) (H : Hp) : Cx := (cxOf CX0 P w K mg base N_law_error "_law_error" (defScope s_law_error) (a_law_error K) cdg A st s H E0).nox
/-- what _law_error makes of the lambda's reading -/
def TTErr (K : PySem.W.Frag) : (XK → Hp → VK → Prop) → Hp → VK → Prop := fun tl H Q =>
  tl (fun cls d H' => (cls = .ref (He.ga K "InvalidNumber") ∧ d = none ∧ ∀ H2 p, Same H' H2 → SqT K H2 p [.str "number"] → Q (.ref p) H2) ∨
      (cls = .ref (He.ga K "UnknownKind") ∧ d = none ∧ ∀ H2 p, Same H' H2 → SqT K H2 p [.str "kind"] → Q (.ref p) H2)) H
    fun _ H' => [V.str "none"].length ≤ sizeLine ∧ ∀ p, H' p = none → Q (.ref p) (upd H' p (.tup [.str "none"]))
/-- what the suite asks -/
def tsErr (K : PySem.W.Frag) (a : Addr) (cls : Value) (d : Option Addr) : TS := fun D σ H => (∃ x0 x2 x3, σ = [x0, some (.ref a), x2, x3]) ∧
  ((cls = .ref (He.ga K "InvalidNumber") ∧ d = none ∧ ∀ H2 p, Same H H2 → SqT K H2 p [.str "number"] → D.rt (.ref p) H2) ∨
      (cls = .ref (He.ga K "UnknownKind") ∧ d = none ∧ ∀ H2 p, Same H H2 → SqT K H2 p [.str "kind"] → D.rt (.ref p) H2))
theorem pss_by {X : Cx} {st : List Stmt} {t t' : TS} (h : PSs X st t) (k : ∀ D σ H, t' D σ H → t D σ H) : PSs X st t' := ⟨fun pins s σ H D I hw => h.run pins s σ H D I (k D σ H hw)⟩
section
variable {P : Program} {w : World} {K : PySem.W.Frag} {mg : Str → Option Value} {base : Heap} (T : Tx K mg) {N0 : List Str} {ql0 : Str} {sc0 : Scope} {ad0 : Addr} {cdv0 : Value} {A0 : Around} {outer0 : List Env} {s0 : Shared} {H0 : Hp} {E1 : XK}
include T
theorem err_gives {cdg : Value} {q : Str} : LamX.GivesTo (cxOf CX0 P w K mg base N0 ql0 sc0 ad0 cdv0 A0 outer0 s0 H0 E1) N_law_error "_law_error" (defScope s_law_error) (a_law_error K) cdg (defBody s_law_error) "_law_call" q (TTErr K) := by
  intro f c' s H Q tl act hc h
  refine ⟨_, pss_cons (ps_try_as (X := (cxOf CX0 P w K mg base N_law_error "_law_error" (defScope s_law_error) (a_law_error K) cdg (cxOf CX0 P w K mg base N0 ql0 sc0 ad0 cdv0 A0 outer0 s0 H0 E1).A (cxOf CX0 P w K mg base N0 ql0 sc0 ad0 cdv0 A0 outer0 s0 H0 E1).stack s H E0).nox) (i := 1) (ts := tsErr K) (c := .ref (He.ga K "TradeError"))
      (tb := fun W D σ H => ∃ Ech : XK, (∀ cls d σ' H', σ'.length = 4 → Ech cls d H' → W cls d σ' H') ∧ σ[0]? = some (some (.ref f)) ∧ H c' = some (LamX.CodeO c' q) ∧ tl Ech H fun _ H' => D.nx σ H')
      rfl rfl sc_law_error.nd rfl rfl ⟨rfl, by decide, .inl T.g_TradeError⟩ LamX.takes0 ?hb ?hs) (pss_one (ps_ret (pe_tup (pa_cons pe_str pa_nil)))), ?_⟩
  case hs =>
    intro a oe cls d pn hz hf
    refine pss_by (pss_cons (ps_set (i := 2) sc_law_error.nd rfl (Or.inl rfl) (pe_lst (pa_cons (pe_callB (call_isX (X := errCx P w K mg base cdg _ _ s H) hz hf) (by rfl) T.n_isinstance (by decide +kernel) (pa_cons (pv 1) (pa_cons (pe_cC T.g_Contradiction) pa_nil))) (pa_cons (pe_callB (call_isX (X := errCx P w K mg base cdg _ _ s H) hz hf) (by rfl) T.n_isinstance (by decide +kernel) (pa_cons (pv 1) (pa_cons (pe_cC T.g_InvalidNumber) pa_nil))) (pa_cons (pe_callB (call_isX (X := errCx P w K mg base cdg _ _ s H) hz hf) (by rfl) T.n_isinstance (by decide +kernel) (pa_cons (pv 1) (pa_cons (pe_cC T.g_InvalidOffer) pa_nil))) pa_nil))))) (pss_cons (ps_expr (pe_bm PySem.F.plainAttrs_list PySem.F.slot_list_extend PySem.F.type_list_extend mt_extend (pv 2) (pa_cons (pe_lst (pa_cons (pe_callB (call_isX (X := errCx P w K mg base cdg _ _ s H) hz hf) (by rfl) T.n_isinstance (by decide +kernel) (pa_cons (pv 1) (pa_cons (pe_cC T.g_InvalidStep) pa_nil))) (pa_cons (pe_callB (call_isX (X := errCx P w K mg base cdg _ _ s H) hz hf) (by rfl) T.n_isinstance (by decide +kernel) (pa_cons (pv 1) (pa_cons (pe_cC T.g_TooGenerous) pa_nil))) (pa_cons (pe_callB (call_isX (X := errCx P w K mg base cdg _ _ s H) hz hf) (by rfl) T.n_isinstance (by decide +kernel) (pa_cons (pv 1) (pa_cons (pe_cC T.g_UnknownKind) pa_nil))) pa_nil)))) pa_nil))) (pss_cons (ps_if (PW.pt (pw_or (pt_cmpR op_ne (pe_bm PySem.F.plainAttrs_list PySem.F.slot_list_count PySem.F.type_list_count mt_countV (pv 2) (pa_cons pe_bl pa_nil)) pe_int (nomark _)) (pw_or1 (pt_not (pt_val (pe_callB (call_isX (X := errCx P w K mg base cdg _ _ s H) hz hf) (by rfl) T.n_isinstance (by decide +kernel) (pa_cons (pv 1) (pa_cons (pe_bltn (v := .ty "ValueError") (u := .type "ValueError") (by rfl) T.n_ValueError (by decide +kernel) rfl) pa_nil)))))))) (pss_one (ps_ret (pe_tup (pa_cons pe_str pa_nil)))) pss_nil) (pss_cons (ps_set (i := 3) sc_law_error.nd rfl (Or.inl rfl) (pe_ix ix_list (pe_lst (pa_cons pe_str (pa_cons pe_str (pa_cons pe_str (pa_cons pe_str (pa_cons pe_str (pa_cons pe_str pa_nil))))))) (pe_bm PySem.F.plainAttrs_list PySem.F.slot_list_index PySem.F.type_list_index mt_index (pv 2) (pa_cons pe_bl pa_nil)) (fun _ _ => rfl))) (pss_one (ps_ret (pe_ifExp (pt_cmpR op_in_seq (pv 3) (pe_tup (pa_cons pe_str (pa_cons pe_str pa_nil))) rfl) (pe_tup (pa_cons (pv 3) (pa_cons (pe_xf (X := errCx P w K mg base cdg _ _ s H) T.l_InvalidOffer.2 T.x_InvalidOffer.idx hz hf (pv 1)) pa_nil))) (pe_tup (pa_cons (pv 3) pa_nil))))))))) ?_
    rintro D σ H1 ⟨⟨x0, x2, x3, rfl⟩, hw⟩
    rcases hw with ⟨rfl, rfl, k⟩ | ⟨rfl, rfl, k⟩
    · skip
      have Q := T.q_InvalidNumber
      have L := T.l_InvalidNumber.1
      refine ⟨_, rfl, _, _, _, false, rfl, L, .inl rfl, rfl, fun u r => r, (Q.own "Contradiction" (by decide)).trans (by decide +kernel), ?_⟩
      refine ⟨_, rfl, _, _, _, true, rfl, L, .inl rfl, rfl, fun u r => r, (Q.own "InvalidNumber" (by decide)).trans (by decide +kernel), ?_⟩
      refine ⟨_, rfl, _, _, _, false, rfl, L, .inl rfl, rfl, fun u r => r, (Q.own "InvalidOffer" (by decide)).trans (by decide +kernel), ?_⟩
      refine ⟨by show 3 ≤ sizeLine; decide, fun L1 m1 => ?_⟩
      refine ⟨_, rfl, .inl ⟨rfl, _, SqL.of upd_same⟩, ?_⟩
      refine ⟨_, rfl, _, _, _, false, rfl, L, .inl rfl, rfl, fun u r => r, (Q.own "InvalidStep" (by decide)).trans (by decide +kernel), ?_⟩
      refine ⟨_, rfl, _, _, _, false, rfl, L, .inl rfl, rfl, fun u r => r, (Q.own "TooGenerous" (by decide)).trans (by decide +kernel), ?_⟩
      refine ⟨_, rfl, _, _, _, false, rfl, L, .inl rfl, rfl, fun u r => r, (Q.own "UnknownKind" (by decide)).trans (by decide +kernel), ?_⟩
      refine ⟨by show 3 ≤ sizeLine; decide, fun L2 m2 => ⟨L1, L2, _, _, rfl, rfl, upd_old upd_same m2, upd_same, by show 3 + 3 ≤ sizeLine; decide, ?_⟩⟩
      have s3 : Same H1 (upd (upd (upd H1 L1 (.lst [.bl false, .bl true, .bl false])) L2 (.lst [.bl false, .bl false, .bl false])) L1 (.lst ([.bl false, .bl true, .bl false] ++ [.bl false, .bl false, .bl false]))) := same_mut ((same_new m1).trans (same_new m2)) m1
      have e3 : (upd (upd (upd H1 L1 (.lst [.bl false, .bl true, .bl false])) L2 (.lst [.bl false, .bl false, .bl false])) L1 (.lst ([.bl false, .bl true, .bl false] ++ [.bl false, .bl false, .bl false]))) L1 = some (.lst [.bl false, .bl true, .bl false, .bl false, .bl false, .bl false]) := upd_same
      dsimp only
      generalize upd (upd (upd H1 L1 (.lst [.bl false, .bl true, .bl false])) L2 (.lst [.bl false, .bl false, .bl false])) L1 (.lst ([.bl false, .bl true, .bl false] ++ [.bl false, .bl false, .bl false])) = H3 at s3 e3
      refine ⟨_, rfl, .inl ⟨rfl, _, SqL.of e3⟩, L1, _, .bl true, rfl, rfl, SqL.of e3, rfl, rfl, rfl, _, rfl, ite2 (fun z => absurd z (by decide +kernel)) (fun _ => ?_)⟩
      refine ⟨_, rfl, _, _, _, true, rfl, L, .inl rfl, rfl, fun u r => r, Q.val, true, rfl, iteF ?_⟩
      refine ⟨by show 6 ≤ sizeLine; decide, fun L3 m3 => ?_⟩
      have s4 : Same H3 (upd H3 L3 (.lst [.str "contradiction", .str "number", .str "offer", .str "step", .str "generous", .str "kind"])) := same_new m3
      have e4 : (upd H3 L3 (.lst [.str "contradiction", .str "number", .str "offer", .str "step", .str "generous", .str "kind"])) L3 = some (.lst [.str "contradiction", .str "number", .str "offer", .str "step", .str "generous", .str "kind"]) := upd_same
      generalize upd H3 L3 (.lst [.str "contradiction", .str "number", .str "offer", .str "step", .str "generous", .str "kind"]) = H4 at s4 e4
      refine ⟨_, rfl, .inl ⟨rfl, _, SqL.of (s4 _ _ e3)⟩, L1, _, .bl true, 1, .bl true, rfl, rfl, SqL.of (s4 _ _ e3), rfl, rfl, rfl, rfl, ?_, L3, _, _, _, rfl, rfl, SqL.of e4, at_of (j := 1) rfl rfl, ?_⟩
      · intro m z' hm hz'
        match m, hm, hz' with
        | 0, _, hz' => cases hz'; rfl
        | m + 1, hm, _ => omega
      refine ⟨_, rfl, by show 2 ≤ sizeLine; decide, fun p5 m5 => ⟨p5, _, rfl, .inr (SqT.of upd_same), rfl, rfl, _, rfl, ?_⟩⟩
      have s5 := s3.trans (s4.trans (same_new (u := .tup [.str "offer", .str "step"]) m5))
      refine ite2 (fun z => absurd z (by decide +kernel)) (fun _ => ?_)
      exact ⟨_, rfl, by show 1 ≤ sizeLine; decide, fun p6 m6 => k _ p6 (s5.trans (same_new m6)) (SqT.of upd_same)⟩
    · skip
      have Q := T.q_UnknownKind
      have L := T.l_UnknownKind.1
      refine ⟨_, rfl, _, _, _, false, rfl, L, .inl rfl, rfl, fun u r => r, (Q.own "Contradiction" (by decide)).trans (by decide +kernel), ?_⟩
      refine ⟨_, rfl, _, _, _, false, rfl, L, .inl rfl, rfl, fun u r => r, (Q.own "InvalidNumber" (by decide)).trans (by decide +kernel), ?_⟩
      refine ⟨_, rfl, _, _, _, false, rfl, L, .inl rfl, rfl, fun u r => r, (Q.own "InvalidOffer" (by decide)).trans (by decide +kernel), ?_⟩
      refine ⟨by show 3 ≤ sizeLine; decide, fun L1 m1 => ?_⟩
      refine ⟨_, rfl, .inl ⟨rfl, _, SqL.of upd_same⟩, ?_⟩
      refine ⟨_, rfl, _, _, _, false, rfl, L, .inl rfl, rfl, fun u r => r, (Q.own "InvalidStep" (by decide)).trans (by decide +kernel), ?_⟩
      refine ⟨_, rfl, _, _, _, false, rfl, L, .inl rfl, rfl, fun u r => r, (Q.own "TooGenerous" (by decide)).trans (by decide +kernel), ?_⟩
      refine ⟨_, rfl, _, _, _, true, rfl, L, .inl rfl, rfl, fun u r => r, (Q.own "UnknownKind" (by decide)).trans (by decide +kernel), ?_⟩
      refine ⟨by show 3 ≤ sizeLine; decide, fun L2 m2 => ⟨L1, L2, _, _, rfl, rfl, upd_old upd_same m2, upd_same, by show 3 + 3 ≤ sizeLine; decide, ?_⟩⟩
      have s3 : Same H1 (upd (upd (upd H1 L1 (.lst [.bl false, .bl false, .bl false])) L2 (.lst [.bl false, .bl false, .bl true])) L1 (.lst ([.bl false, .bl false, .bl false] ++ [.bl false, .bl false, .bl true]))) := same_mut ((same_new m1).trans (same_new m2)) m1
      have e3 : (upd (upd (upd H1 L1 (.lst [.bl false, .bl false, .bl false])) L2 (.lst [.bl false, .bl false, .bl true])) L1 (.lst ([.bl false, .bl false, .bl false] ++ [.bl false, .bl false, .bl true]))) L1 = some (.lst [.bl false, .bl false, .bl false, .bl false, .bl false, .bl true]) := upd_same
      dsimp only
      generalize upd (upd (upd H1 L1 (.lst [.bl false, .bl false, .bl false])) L2 (.lst [.bl false, .bl false, .bl true])) L1 (.lst ([.bl false, .bl false, .bl false] ++ [.bl false, .bl false, .bl true])) = H3 at s3 e3
      refine ⟨_, rfl, .inl ⟨rfl, _, SqL.of e3⟩, L1, _, .bl true, rfl, rfl, SqL.of e3, rfl, rfl, rfl, _, rfl, ite2 (fun z => absurd z (by decide +kernel)) (fun _ => ?_)⟩
      refine ⟨_, rfl, _, _, _, true, rfl, L, .inl rfl, rfl, fun u r => r, Q.val, true, rfl, iteF ?_⟩
      refine ⟨by show 6 ≤ sizeLine; decide, fun L3 m3 => ?_⟩
      have s4 : Same H3 (upd H3 L3 (.lst [.str "contradiction", .str "number", .str "offer", .str "step", .str "generous", .str "kind"])) := same_new m3
      have e4 : (upd H3 L3 (.lst [.str "contradiction", .str "number", .str "offer", .str "step", .str "generous", .str "kind"])) L3 = some (.lst [.str "contradiction", .str "number", .str "offer", .str "step", .str "generous", .str "kind"]) := upd_same
      generalize upd H3 L3 (.lst [.str "contradiction", .str "number", .str "offer", .str "step", .str "generous", .str "kind"]) = H4 at s4 e4
      refine ⟨_, rfl, .inl ⟨rfl, _, SqL.of (s4 _ _ e3)⟩, L1, _, .bl true, 5, .bl true, rfl, rfl, SqL.of (s4 _ _ e3), rfl, rfl, rfl, rfl, ?_, L3, _, _, _, rfl, rfl, SqL.of e4, at_of (j := 5) rfl rfl, ?_⟩
      · intro m z' hm hz'
        match m, hm, hz' with
        | 0, _, hz' => cases hz'; rfl
        | 1, _, hz' => cases hz'; rfl
        | 2, _, hz' => cases hz'; rfl
        | 3, _, hz' => cases hz'; rfl
        | 4, _, hz' => cases hz'; rfl
        | m + 5, hm, _ => omega
      refine ⟨_, rfl, by show 2 ≤ sizeLine; decide, fun p5 m5 => ⟨p5, _, rfl, .inr (SqT.of upd_same), rfl, rfl, _, rfl, ?_⟩⟩
      have s5 := s3.trans (s4.trans (same_new (u := .tup [.str "offer", .str "step"]) m5))
      refine ite2 (fun z => absurd z (by decide +kernel)) (fun _ => ?_)
      exact ⟨_, rfl, by show 1 ≤ sizeLine; decide, fun p6 m6 => k _ p6 (s5.trans (same_new m6)) (SqT.of upd_same)⟩
  case hb =>
    intro W pn xe tk _
    refine ⟨fun pins s' σ H' D I h' => ?_⟩
    obtain ⟨Ech, hW, h1, h2, h3⟩ := h'
    exact (pss_one (ps_expr (act _ pn xe Ech _ _ (takes_len (n := 4) rfl tk) (fun cls d σ' H' e hl => hW cls d σ' H' hl e)))).run pins s' σ H' D I ⟨h1, h2, h3⟩
  · refine ⟨_, fun cls d σ' H' hl e => ⟨true, ?_, fun _ a _ => ⟨?_, e⟩, fun z => nomatch z⟩, rfl, hc, h⟩
    · rcases e with ⟨rfl, _⟩ | ⟨rfl, _⟩
      · exact PySem.W.exm_ref T.x_TradeError.base T.l_TradeError.1.hd T.x_TradeError.ty T.x_InvalidNumber.trade
      · exact PySem.W.exm_ref T.x_TradeError.base T.l_TradeError.1.hd T.x_TradeError.ty T.x_UnknownKind.trade
    · match σ', hl with
      | [y0, y1, y2, y3], _ => exact ⟨y0, y2, y3, rfl⟩
end
end EB

namespace EB
open PySem PySem.Spec PyProof.Rows L2
/-! ### data of some depth -/
inductive Lev : Nat → PyData → Prop
  | non {n : Nat} : Lev n .none
  | bl {n : Nat} (b : Bool) : Lev n (.bool b)
  | int {n : Nat} (i : Int) : Lev n (.int i)
  | str {n : Nat} (z : Str) : Lev n (.str z)
  | lst {n : Nat} {ds : List PyData} (h : ∀ d ∈ ds, Lev n d) (hl : ds.length ≤ 10000) : Lev (n + 1) (.list ds)
  | tup {n : Nat} {ds : List PyData} (h : ∀ d ∈ ds, Lev n d) (hl : ds.length ≤ 10000) : Lev (n + 1) (.tuple ds)
mutual
theorem dp_mono {K : PySem.W.Frag} {H H' : Hp} (s : Same H H') : ∀ {v : V} {d : PyData}, Dp K H v d → Dp K H' v d
  | _, _, .non => .non
  | _, _, .bl b => .bl b
  | _, _, .int i => .int i
  | _, _, .str z => .str z
  | _, _, .lst h a => .lst (s.seq h) (dps_mono s a)
  | _, _, .tup h a => .tup (Same.tup s h) (dps_mono s a)
theorem dps_mono {K : PySem.W.Frag} {H H' : Hp} (s : Same H H') : ∀ {vs : List V} {ds : List PyData}, DpAll K H vs ds → DpAll K H' vs ds
  | _, _, .nil => .nil
  | _, _, .cons a b => .cons (dp_mono s a) (dps_mono s b)
end
theorem dps_len {K : PySem.W.Frag} {H : Hp} : ∀ {vs : List V} {ds : List PyData}, DpAll K H vs ds → vs.length = ds.length
  | _, _, .nil => rfl
  | _, _, .cons _ b => congrArg Nat.succ (dps_len b)
theorem dps_at {K : PySem.W.Frag} {H : Hp} : ∀ {vs : List V} {ds : List PyData} {i : Nat}, DpAll K H vs ds → i < ds.length → ∃ v d, vs[i]? = some v ∧ d ∈ ds ∧ Dp K H v d ∧ ds[i]? = some d
  | _, _, 0, .cons a b, _ => ⟨_, _, rfl, List.mem_cons_self .., a, rfl⟩
  | _, _, i + 1, .cons a b, h => by
    obtain ⟨v, d, e1, e2, e3, e4⟩ := dps_at (i := i) b (Nat.lt_of_succ_lt_succ h)
    exact ⟨v, d, e1, List.mem_cons_of_mem _ e2, e3, e4⟩
theorem dps_ints {K : PySem.W.Frag} {H : Hp} : ∀ (ns : List Int), DpAll K H (ns.map V.int) (ns.map PyData.int)
  | [] => .nil
  | n :: ns => .cons (.int n) (dps_ints ns)
theorem tyL {K : PySem.W.Frag} {H : Hp} {a : Addr} {xs : List V} (h : SqL K H a xs) : TyX K H (.ref a) (.type "list") := by
  rcases h with (h | ⟨o, h⟩) | ⟨o, its, n, h1, h2, _⟩
  · exact .base (.lst h)
  · exact .base (.frz h)
  · exact .kList h1 h2
theorem tyT {K : PySem.W.Frag} {H : Hp} {a : Addr} {xs : List V} (h : SqT K H a xs) : TyX K H (.ref a) (.type "tuple") := by
  rcases h with (h | ⟨o, h⟩) | ⟨o, its, n, h1, h2, _⟩
  · exact .base (.tup h)
  · exact .fTuple h
  · exact .kTuple h1 h2
theorem isTL {K : PySem.W.Frag} (q : Bool) : PySem.W.kitAny K (.type (if q then "list" else "tuple")) [.type "tuple", .type "list"] = some true := by
  cases q with
  | true => exact kitAny_cons (b := false) (kit_ty (by decide +kernel)) (fun _ => kitAny_cons (b := true) (kit_ty (by decide +kernel)) (fun z => nomatch z) (fun _ => rfl)) (fun z => nomatch z)
  | false => exact kitAny_cons (b := true) (kit_ty (by decide +kernel)) (fun z => nomatch z) (fun _ => rfl)
/-- a list (q) or a tuple -/
def SqQ (K : PySem.W.Frag) (H : Hp) (q : Bool) (a : Addr) (xs : List V) : Prop := if q = true then SqL K H a xs else SqT K H a xs
theorem SqQ.ty {K : PySem.W.Frag} {H : Hp} {q : Bool} {a : Addr} {xs : List V} (h : SqQ K H q a xs) : TyX K H (.ref a) (.type (if q then "list" else "tuple")) := by
  cases q with
  | true => exact tyL h
  | false => exact tyT h
theorem SqQ.or {K : PySem.W.Frag} {H : Hp} {q : Bool} {a : Addr} {xs : List V} (h : SqQ K H q a xs) : SqL K H a xs ∨ SqT K H a xs := by
  cases q with
  | true => exact .inl h
  | false => exact .inr h
theorem SqQ.mono {K : PySem.W.Frag} {H H' : Hp} {q : Bool} {a : Addr} {xs : List V} (s : Same H H') (h : SqQ K H q a xs) : SqQ K H' q a xs := by
  cases q with
  | true => exact s.seq h
  | false => exact Same.tup s h
theorem SqQ.ix {K : PySem.W.Frag} {H : Hp} {q : Bool} {a : Addr} {xs : List V} {i : Int} {v : V} {Q : VK} (h : SqQ K H q a xs) (e : atI xs i = some v) (k : Q v H) : rIx K (.ref a) (.int i) H Q := by
  cases q with
  | true => exact .inl ⟨a, xs, i, v, rfl, rfl, h, e, k⟩
  | false => exact .inr (.inl ⟨a, xs, i, v, rfl, rfl, h, e, k⟩)
theorem kitD (q : Bool) {K : PySem.W.Frag} : PySem.W.kitOne K (.type (if q then "list" else "tuple")) (.type "dict") = some false := by
  cases q with
  | true => exact kit_ty (by decide +kernel)
  | false => exact kit_ty (by decide +kernel)
theorem kitL (q : Bool) {K : PySem.W.Frag} : PySem.W.kitOne K (.type (if q then "list" else "tuple")) (.type "list") = some q := by
  cases q with
  | true => exact kit_ty (by decide +kernel)
  | false => exact kit_ty (by decide +kernel)
theorem shapedN : SeqAt.shaped (PyData.list []) = true := by decide +kernel
theorem alike_low {n : Nat} {d : PyData} (h : Lev n d) : Lev 0 d ∨ ∃ (q : Bool) (ds : List PyData) (m : Nat), n = m + 1 ∧ d = (if q then .list ds else .tuple ds) ∧ (∀ e ∈ ds, Lev m e) ∧ ds.length ≤ 10000 := by
  cases h with
  | non => exact .inl .non
  | bl b => exact .inl (.bl b)
  | int i => exact .inl (.int i)
  | str z => exact .inl (.str z)
  | lst h hl => exact .inr ⟨true, _, _, rfl, rfl, h, hl⟩
  | tup h hl => exact .inr ⟨false, _, _, rfl, rfl, h, hl⟩
theorem dp_seq {K : PySem.W.Frag} {H : Hp} {v : V} {q : Bool} {ds : List PyData} (h : Dp K H v (if q then .list ds else .tuple ds)) : ∃ a xs, v = .ref a ∧ SqQ K H q a xs ∧ DpAll K H xs ds := by
  cases q with
  | true =>
    cases h with
    | lst h a => exact ⟨_, _, rfl, h, a⟩
  | false =>
    cases h with
    | tup h a => exact ⟨_, _, rfl, h, a⟩
end EB

namespace EB
open PySem PySem.Spec PyProof.Rows L2
theorem OfAt.ins {K : PySem.W.Frag} {H : Hp} {a : Addr} {ts : List Tr} (o : OfAt K H a ts) : ∃ dx fs, H a = some (.ins (He.ga K "Offer") dx fs) ∧ ∀ m : Str, ((m == "_trades") || ((m == "_period") || ((m == "_tops") || ((m == "_firsts") || (m == "_gaps"))))) = false → fs.lookup m = none := by
  obtain ⟨dx, t, p, q, f, g, e1, _⟩ := o.ex
  exact ⟨dx, _, e1, fun m h => lk_no h⟩
theorem dps_snoc {K : PySem.W.Frag} {H : Hp} {v : V} {d : PyData} (h : Dp K H v d) : ∀ {vs : List V} {ds : List PyData}, DpAll K H vs ds → DpAll K H (vs ++ [v]) (ds ++ [d])
  | _, _, .nil => .cons h .nil
  | _, _, .cons a b => .cons a (dps_snoc h b)
theorem hid_mono {H H' : Hp} {x : Addr} (s : Same H H') : Same (hid H x) (hid H' x) := fun b o e => by
  by_cases h : b = x
  · rw [h, hid_x] at e
    cases e
  · rw [hid_ne h] at e ⊢
    exact s b o e
/-- one trade, read off the tuple of the trades -/
theorem TrAt.ix {K : PySem.W.Frag} {H : Hp} {a : Addr} {ts : List Tr} {i : Nat} {t : Tr} (h : TrAt K H a ts) (e : ts[i]? = some t) : ∃ xs p, SqT K H a xs ∧ xs.length = ts.length ∧ atI xs (0 + (i : Int)) = some (.ref p) ∧ SqT K H p t.vs := by
  obtain ⟨ps, h1, h2, h3⟩ := h.ex
  have hi : i < ps.length := by
    rw [h2]
    exact lt_of_at e
  refine ⟨_, ps[i], h1, by rw [List.length_map, h2], at_of (j := i) (Int.zero_add _) ?_, h3 i _ t (List.getElem?_eq_getElem hi) e⟩
  rw [List.getElem?_map, List.getElem?_eq_getElem hi]
  rfl
theorem TrAt.seq {K : PySem.W.Frag} {H : Hp} {a : Addr} {ts : List Tr} (h : TrAt K H a ts) : ∃ xs, SqT K H a xs ∧ xs.length = ts.length := by
  obtain ⟨ps, h1, h2, _⟩ := h.ex
  exact ⟨_, h1, by rw [List.length_map, h2]⟩
theorem ints_lay : ∀ ns : List Int, PyData.canLayAll0 (ns.map .int) = true ∧ PyData.depthAll (ns.map .int) ≤ 1
  | [] => ⟨rfl, by simp [PyData.depthAll]⟩
  | n :: ns => by
    have h := ints_lay ns
    rw [List.map_cons]
    refine ⟨by rw [PyData.canLayAll0, h.1, PyData.canLay0]; rfl, ?_⟩
    simp only [PyData.depthAll, PyData.depth]
    omega
theorem ints_shaped (ns : List Int) : SeqAt.shaped (PyData.list (ns.map .int)) = true := by
  have h := ints_lay ns
  unfold SeqAt.shaped
  rw [Bool.and_eq_true, decide_eq_true_eq]
  refine ⟨by rw [PyData.canLay0]; exact h.1, ?_⟩
  rw [PyData.depth]
  omega
theorem ints_eqv (ns : List Int) : PyData.eqv (PyData.list (ns.map .int)) (.list []) = decide (ns = []) := by
  cases ns with
  | nil => rfl
  | cons k ks =>
    rw [decide_eq_false (by simp)]
    simp [PyData.eqv, PyData.eqvAll]
theorem iteJ {c : Bool} {p : Prop} {R : Hp → Prop} {H : Hp} (Pv : Hp → Prop) (h : ∀ H3, Pv H3 → R H3) (h1 : c = true → (∀ H3, Pv H3 → R H3) → p) (h2 : ¬ c = true → Pv H) : if c = true then p else R H := by
  by_cases q : c = true
  · rw [if_pos q]
    exact h1 q h
  · rw [if_neg q]
    exact h H (h2 q)
/-- two ways on, both to a test that fails -/
theorem capF {a b : TT} {σ : L2.St} {H : Hp} {Q : Bool → Hp → Prop} (Pv : Hp → Prop) (h : ∀ H3, Pv H3 → Q false H3) (k : (∀ H3, Pv H3 → Q false H3) → tAnd a b σ H Q) : tAnd a b σ H Q := k h
/-- a statement whose ways meet again: what is asked of all of them -/
theorem capI {c : TT} {A B X : TS} {D : Ends} {σ : L2.St} {H : Hp} (Pv : L2.St → Hp → Prop) (h : ∀ σ' H', Pv σ' H' → X D σ' H') (k : (∀ σ' H', Pv σ' H' → X D σ' H') → tSeq (tIfS c A B) X D σ H) : tSeq (tIfS c A B) X D σ H := k h
theorem capA {e : TE} {g : TG} {X : TS} {D : Ends} {σ : L2.St} {H : Hp} (Pv : L2.St → Hp → Prop) (h : ∀ σ' H', Pv σ' H' → X D σ' H') (k : (∀ σ' H', Pv σ' H' → X D σ' H') → tSeq (tAsg e g) X D σ H) : tSeq (tAsg e g) X D σ H := k h
theorem hid2_mono {H H' : Hp} {h l : Addr} (s : Same H H') : Same (hid2 H h l) (hid2 H' h l) := fun b o e => by
  by_cases q : b = h ∨ b = l
  · unfold hid2 at e
    rw [if_pos q] at e
    cases e
  · have n1 : b ≠ h := fun z => q (.inl z)
    have n2 : b ≠ l := fun z => q (.inr z)
    rw [hid2_ne n1 n2] at e ⊢
    exact s b o e
theorem HS.trs {K : PySem.W.Frag} {H0 H H' : Hp} {h l a : Addr} {ts : List Tr} (x : HS H0 H h l) (t : TrAt K H a ts) (y : HS (hid2 H h l) H' h l) : TrAt K H' a ts := (x.tr t).mono y.same
theorem tr_snoc {K : PySem.W.Frag} {H : Hp} {a : Addr} {ts : List Tr} {ps : List Addr} {q : Addr} {t : Tr} (h1 : SqT K H a ((ps ++ [q]).map V.ref)) (h2 : ps.length = ts.length) (h3 : ∀ (i : Nat) (p : Addr) (t : Tr), ps[i]? = some p → ts[i]? = some t → SqT K H p t.vs) (hq : SqT K H q t.vs) : TrAt K H a (ts ++ [t]) := by
  refine ⟨ps ++ [q], h1, by rw [List.length_append, List.length_append, h2]; rfl, fun i p u e1 e2 => ?_⟩
  rcases Nat.lt_or_ge i ps.length with z | z
  · rw [List.getElem?_append_left z] at e1
    rw [List.getElem?_append_left (by omega)] at e2
    exact h3 i p u e1 e2
  · rw [List.getElem?_append_right z] at e1
    rw [List.getElem?_append_right (by omega)] at e2
    have hi : i - ps.length = 0 := by
      have := lt_of_at e1
      simp only [List.length_singleton] at this
      omega
    rw [hi] at e1
    rw [← h2, hi] at e2
    cases e1
    cases e2
    exact hq
theorem concat_of {α : Type} {l : List α} (h : l ≠ []) : ∃ i x, l = i ++ [x] := ⟨l.dropLast, l.getLast h, (List.dropLast_concat_getLast h).symm⟩
theorem last_at {xs : List V} {v : V} : atI (xs ++ [v]) (-1) = some v := atI_last xs v
theorem cut_last {xs : List V} {v : V} : cutV (xs ++ [v]) none (some (-1)) = xs ∧ ¬ (HT.sIx (xs ++ [v]).length 0 none = 0 ∧ HT.sIx (xs ++ [v]).length (xs ++ [v]).length (some (-1)) = (xs ++ [v]).length) := by
  have e : HT.sIx (xs ++ [v]).length (xs ++ [v]).length (some (-1)) = xs.length := by
    show (-1 + ((xs ++ [v]).length : Int)).toNat = _
    rw [List.length_append]
    simp only [List.length_singleton]
    omega
  constructor
  · unfold cutV
    rw [e, HT.sIx_none, Nat.sub_zero, List.drop_zero, List.take_left]
  · rw [e]
    intro z
    rw [List.length_append] at z
    simp only [List.length_singleton] at z
    omega
theorem tc_intro {ta : TE} {tr : TA} {σ : L2.St} {H : Hp} {Q : List V → Hp → Prop} (h : ta σ H fun x H1 => tr σ H1 fun xs H2 => Q (x :: xs) H2) : tCons ta tr σ H Q := h
theorem hid_sqt {K : PySem.W.Frag} {H : Hp} {O a : Addr} {zs xs : List V} (e : H O = some (.lst zs)) (t : SqT K H a xs) : SqT K (hid H O) a xs := by
  rcases t with (t | ⟨o, t⟩) | t
  · exact .inl (.inl (by rw [hid_ne (ne_of t e (by intro z; cases z))]; exact t))
  · exact .inl (.inr ⟨o, by rw [hid_ne (ne_of t e (by intro z; cases z))]; exact t⟩)
  · exact .inr t
theorem hid_sql {K : PySem.W.Frag} {H : Hp} {O a : Addr} {xs : List V} (n : a ≠ O) (t : SqL K H a xs) : SqL K (hid H O) a xs := by
  rcases t with (t | ⟨o, t⟩) | t
  · exact .inl (.inl (by rw [hid_ne n]; exact t))
  · exact .inl (.inr ⟨o, by rw [hid_ne n]; exact t⟩)
  · exact .inr t
theorem hid_tr {K : PySem.W.Frag} {H : Hp} {O a : Addr} {zs : List V} {ts : List Tr} (e : H O = some (.lst zs)) (t : TrAt K H a ts) : TrAt K (hid H O) a ts := by
  obtain ⟨ps, h1, h2, h3⟩ := t.ex
  exact ⟨ps, hid_sqt e h1, h2, fun i p t a b => hid_sqt e (h3 i p t a b)⟩
/-- a new offer, looked at without the draws and without a list that was there -/
theorem HS.of3 {K : PySem.W.Frag} {H0 H H1 : Hp} {h l a O : Addr} {ts : List Tr} {zs : List V} (x : HS H0 H h l) (s : Same H H1) (t : OfNew K H H1 a ts) (eO : H O = some (.lst zs)) (m1 : O ≠ h) (m2 : O ≠ l) : OfAt K (hid (hid2 H1 h l) O) a ts := by
  obtain ⟨dx, t, p, o, f, g, h1, h2, h3, h4, h5, h6, n1, n2, n3⟩ := t.ex
  have y := x.grow s
  obtain ⟨m, i, ns, e1, e2, _⟩ := x.ex
  have q : ∀ b, H b = none → b ≠ h ∧ b ≠ l := fun b n => ⟨(ne_of_none e1 n).symm, (ne_of_none e2 n).symm⟩
  have r : ∀ b, H b = none → b ≠ O := fun b n => (ne_of_none eO n).symm
  have eO2 : hid2 H1 h l O = some (.lst zs) := HS.keep (H0 := H0) (s _ _ eO) m1 m2
  have e : hid2 H1 h l a = some (.ins (He.ga K "Offer") dx (ofs t p o f g)) := by
    rw [hid2_ne (ne_of h1 (s _ _ e1) (by intro z; cases z)) (ne_of h1 (s _ _ e2) (by intro z; cases z))]
    exact h1
  refine ⟨dx, t, p, o, f, g, ?_, hid_tr eO2 (y.tr h2), hid_sqt eO2 (y.tup h3), hid_sql (r o n1) (y.lst h4 (q o n1).1 (q o n1).2), hid_sql (r f n2) (y.lst h5 (q f n2).1 (q f n2).2), hid_sql (r g n3) (y.lst h6 (q g n3).1 (q g n3).2)⟩
  rw [hid_ne (ne_of e eO2 (by intro z; cases z))]
  exact e
theorem hid3_upd {H : Hp} {h l O : Addr} {v : HO} (n1 : O ≠ h) (n2 : O ≠ l) : hid (hid2 (upd H O v) h l) O = hid (hid2 H h l) O := funext fun b => by
  by_cases q : b = O
  · rw [q, hid_x, hid_x]
  · rw [hid_ne q, hid_ne q]
    unfold hid2
    rw [upd_ne q]
theorem tr_rev {K : PySem.W.Frag} {H : Hp} {a : Addr} {ts : List Tr} (t : TrAt K H a ts) : ∃ xs, SqT K H a xs ∧ ∀ H' q, Same H H' → SqT K H' q xs.reverse → TrAt K H' q ts.reverse := by
  obtain ⟨ps, h1, h2, h3⟩ := t.ex
  refine ⟨_, h1, fun H' q s e => ⟨ps.reverse, by rw [List.map_reverse]; exact e, by rw [List.length_reverse, List.length_reverse, h2], fun i p2 t2 e1 e2 => ?_⟩⟩
  have hi := lt_of_at e1
  rw [List.length_reverse] at hi
  rw [List.getElem?_reverse hi] at e1
  rw [List.getElem?_reverse (by omega), ← h2] at e2
  exact Same.tup s (h3 _ p2 t2 e1 e2)
theorem catA_any {K : PySem.W.Frag} {H : Hp} {a b : Addr} {xs ys : List V} {Q : VK} (h1 : SqT K H a xs) (h2 : SqT K H b ys) (hl : xs.length + ys.length ≤ 1000) (k : ∀ q H', Same H H' → SqT K H' q (xs ++ ys) → Q (.ref q) H') : rCatA K (.ref a) (.ref b) H Q := by
  have h1000 : 1000 ≤ sizeLine := by decide
  refine ⟨a, b, xs, ys, rfl, rfl, h1, h2, by omega, fun z => k b H (Same.refl _) ?_, fun _ z => k a H (Same.refl _) ?_, fun _ _ p hp => k p _ (same_new hp) (SqT.of upd_same)⟩
  · rw [z, List.nil_append]
    exact h2
  · rw [z, List.append_nil]
    exact h1
theorem slA_any {K : PySem.W.Frag} {H : Hp} {a : Addr} {xs : List V} {lo hi : Option Int} {Q : VK} (h1 : SqT K H a xs) (k : ∀ q H', Same H H' → SqT K H' q (cutV xs lo hi) → Q (.ref q) H') : rSlA K (.ref a) lo hi H Q := by
  refine ⟨a, xs, rfl, h1, fun z => k a H (Same.refl _) ?_, fun _ p hp => k p _ (same_new hp) (SqT.of upd_same)⟩
  unfold cutV
  rw [z.1, z.2, Nat.sub_zero, List.drop_zero, List.take_length]
  exact h1
theorem cut_to {xs : List V} {k : Nat} (h : k ≤ xs.length) : cutV xs none (some (k : Int)) = xs.take k := by
  unfold cutV
  rw [HT.sIx_none, HT.sIx_nat, Nat.min_eq_left h, Nat.sub_zero, List.drop_zero]
theorem cut_from {xs : List V} {k : Nat} (h : k ≤ xs.length) : cutV xs (some (k : Int)) none = xs.drop k := by
  unfold cutV
  rw [HT.sIx_none, HT.sIx_nat, Nat.min_eq_left h, List.take_of_length_le]
  rw [List.length_drop]
  omega
theorem tr_mid {K : PySem.W.Frag} {H : Hp} {b q : Addr} {ps1 ps2 : List Addr} {ts1 ts2 : List Tr} {t : Tr} (h : SqT K H b ((ps1 ++ q :: ps2).map V.ref)) (l1 : ps1.length = ts1.length) (l2 : ps2.length = ts2.length)
    (h1 : ∀ (i : Nat) (p : Addr) (t : Tr), ps1[i]? = some p → ts1[i]? = some t → SqT K H p t.vs) (h2 : ∀ (i : Nat) (p : Addr) (t : Tr), ps2[i]? = some p → ts2[i]? = some t → SqT K H p t.vs) (hq : SqT K H q t.vs) : TrAt K H b (ts1 ++ t :: ts2) := by
  refine ⟨_, h, by rw [List.length_append, List.length_append, List.length_cons, List.length_cons, l1, l2], fun i p u e1 e2 => ?_⟩
  rcases Nat.lt_or_ge i ps1.length with z | z
  · rw [List.getElem?_append_left z] at e1
    rw [List.getElem?_append_left (by omega)] at e2
    exact h1 i p u e1 e2
  · rw [List.getElem?_append_right z] at e1
    rw [List.getElem?_append_right (by omega), ← l1] at e2
    generalize i - ps1.length = j at e1 e2
    cases j with
    | zero =>
      cases e1
      cases e2
      exact hq
    | succ j => exact h2 j p u e1 e2
theorem mid_of {α : Type} {l : List α} {r : Nat} (h : r < l.length) : ∃ a x b, l = a ++ x :: b ∧ a.length = r :=
  ⟨l.take r, l[r], l.drop (r + 1), by rw [← List.drop_eq_getElem_cons h, List.take_append_drop], by rw [List.length_take]; omega⟩
theorem get_of {α β : Type} {xs : List α} {ys : List β} (h : xs.length = ys.length) {i : Nat} {x : α} (e : xs[i]? = some x) : ∃ y, ys[i]? = some y := by
  have hi : i < ys.length := by
    rw [← h]
    exact lt_of_at e
  exact ⟨_, List.getElem?_eq_getElem hi⟩
end EB

/-! t[::-1] of a tuple -/
namespace EBR
open PySem PySem.Spec PyProof.Rows L2
section
variable {prog : Program} {w : World} {A : Around} {E : Value → Shared → Prop} {s : Shared}
theorem applied_rev {sl : Addr} {vl vu vs : Value} {n : Nat} {Q : Int × Int × Nat → Shared → Prop} (hs : s.heap.IsSliceOf sl vl vu vs) (pl : IsPart vl none) (pu : IsPart vu none) (ps : IsPart vs (some (-1)))
    (h : Q ((n : Int) - 1, -1, n) s) : wpAny (model prog w) A (Builtin.Slice.sliceApplied (.ref sl) (pure (n : Int))) Q E s := by
  obtain ⟨os, hos, hcs, hds⟩ := id hs
  unfold Builtin.Slice.sliceApplied Builtin.Slice.sliceFields
  refine wpAny_bind (wpAny_bind (wpAny_field hos hds (x := vl) rfl (wpAny_bind (wpAny_field hos hds (x := vu) rfl (wpAny_bind (wpAny_field hos hds (x := vs) rfl (wpAny_pure ?_)))))))
  refine wpAny_bind (HT.slicePart_ ps ?_)
  show wpAny _ _ (if ((-1 : Int) == 0) = true then _ else _) _ _ s
  rw [if_neg (by decide)]
  refine wpAny_bind (HT.slicePart_ pl (wpAny_bind (HT.slicePart_ pu (wpAny_bind (wpAny_pure ?_)))))
  show wpAny _ _ (match Builtin.Slice.sliceAdjust none none (-1) (n : Int) with | (lo, hi) => pure (lo, (-1 : Int), Builtin.Slice.slicePlaces lo hi (-1))) _ _ s
  have ea : Builtin.Slice.sliceAdjust none none (-1) (n : Int) = ((n : Int) - 1, -1) := rfl
  have ep : Builtin.Slice.slicePlaces ((n : Int) - 1) (-1) (-1) = n := by
    unfold Builtin.Slice.slicePlaces
    rw [if_neg (by decide), Int.neg_neg, Int.ediv_one]
    split <;> omega
  rw [ea]
  show wpAny _ _ (pure ((n : Int) - 1, (-1 : Int), Builtin.Slice.slicePlaces ((n : Int) - 1) (-1) (-1))) _ _ s
  rw [ep]
  exact wpAny_pure h
theorem pick_rev (xs : Array Value) : ((List.range xs.size).filterMap fun (m : Nat) => xs[((xs.size : Int) - 1 + (m : Int) * -1).toNat]?).toArray = xs.toList.reverse.toArray := by
  have h1 := PySem.W.krv_all xs
  have h2 := PySem.W.krv_range xs.size
  have cong : ∀ (l : List Nat), (∀ m ∈ l, m < xs.size) → (l.filterMap fun (m : Nat) => xs[((xs.size : Int) - 1 + (m : Int) * -1).toNat]?) = l.filterMap ((xs[·]?) ∘ fun k => xs.size - 1 - k) := by
    intro l
    induction l with
    | nil => intro _; rfl
    | cons m l ih =>
      intro hl
      have hm := hl m (List.mem_cons_self ..)
      have e0 : ((xs.size : Int) - 1 + (m : Int) * -1).toNat = xs.size - 1 - m := by omega
      rw [List.filterMap_cons, List.filterMap_cons, ih fun k hk => hl k (List.mem_cons_of_mem _ hk)]
      rw [e0]
      rfl
  have e : ((List.range xs.size).filterMap fun (m : Nat) => xs[((xs.size : Int) - 1 + (m : Int) * -1).toNat]?) = ((List.range xs.size).map fun k => xs.size - 1 - k).filterMap (xs[·]?) := by
    rw [List.filterMap_map]
    exact cong _ fun m hm => List.mem_range.mp hm
  rw [e, h2, List.filterMap_reverse, h1]
theorem getItem_rev {t sl : Addr} {items : Array Value} {vl vu vs : Value} {Q : Value → Shared → Prop} (ht : IsTup s.heap t items) (hs : s.heap.IsSliceOf sl vl vu vs) (pl : IsPart vl none) (pu : IsPart vu none) (ps : IsPart vs (some (-1)))
    (h : Q (.ref s.heap.objs.size) { s with heap := s.heap.push { cls := .type "tuple", data := .seq items.toList.reverse.toArray } }) (hsz : items.size ≤ sizeLine) : wpAny (model prog w) A (getItem (.ref t) (.ref sl)) Q E s := by
  have hok : sizeOk (.seq items.toList.reverse.toArray) := by
    show items.toList.reverse.toArray.size ≤ sizeLine
    rw [List.size_toArray, List.length_reverse, Array.length_toList]
    exact hsz
  obtain ⟨os, hos, hcs, hds⟩ := id hs
  have hTs : s.TypeIs (.ref sl) "slice" := ⟨os, hos, hcs⟩
  unfold getItem
  try with_reducible refine wpAny_holding ?_
  first | refine wpAny_bind (wpAny_pure ?_) | skip
  refine wpAny_bind (wpAny_sequenceKey ht.typeIs (by decide) ?_)
  refine wpAny_bind (wpAny_callSpecial?_slot (name := Str.ofString "__getitem__") ht.typeIs PyProof.Rows.slot_tuple_getitem
    (wpAny_call_entry PyProof.Rows.slot_tuple_getitem ht.typeIs entry_tuple_getitem ?_ (args_tuple_getitem _ _)))
  show wpAny _ _ (Builtin.Tuple.tupleItemsOf (.ref t) >>= _) _ _ s
  refine wpAny_bind (tupleItemsOf_ ht ?_)
  refine wpAny_bind (wpAny_typeOf hTs ?_)
  rw [if_pos (by decide)]
  refine wpAny_bind (applied_rev hs pl pu ps ?_)
  have hno : ¬ ((((items.size : Int) - 1) == 0 && (-1 : Int) == 1 && items.size == items.size) = true) := by
    intro q
    rw [Bool.and_eq_true, Bool.and_eq_true] at q
    exact absurd q.1.2 (by decide)
  show wpAny _ _ (if (((items.size : Int) - 1) == 0 && (-1 : Int) == 1 && items.size == items.size) = true then _ else _) _ _ s
  rw [if_neg hno, pick_rev]
  first
    | exact wpAny_bind (m := Builtin.Tuple.tupleExact _) (wpAny_newObj_type (wpAny_pure ⟨_, rfl, wpAny_pure h⟩) hok)
    | exact wpAny_bind (m := Builtin.Tuple.tupleExact _) (wpAny_newObj_type (wpAny_bind (wpAny_pure (wpAny_pure ⟨_, rfl, wpAny_pure h⟩))) hok)
    | exact wpAny_bind (wpAny_bind (m := Builtin.Tuple.tupleExact _) (wpAny_newObj_type (wpAny_pure (wpAny_pure ⟨_, rfl, wpAny_pure h⟩)) hok))
    | exact wpAny_bind (wpAny_bind (m := Builtin.Tuple.tupleExact _) (wpAny_newObj_type (wpAny_pure ⟨_, rfl, wpAny_pure h⟩) hok))
end
end EBR
namespace EB
open PySem PySem.Spec PyProof.Rows L2
def tRevT (K : PySem.W.Frag) (te : TE) : TE := fun σ H Q => te σ H fun x H1 => ∃ a xs, x = .ref a ∧ SqT K H1 a xs ∧ ∀ p, H1 p = none → Q (.ref p) (upd H1 p (.tup xs.reverse))
theorem pe_revT {X : Cx} {e : Expr} {te : TE} {k : Nat} {p1 p2 p3 pos : Pos} (he : PE X e te) : PE X (.Subscript e (.Slice none none (some (.UnaryOp .USub (.Constant (.int 1) k p1) p2)) p3) pos) (tRevT X.K te) := by
  refine ⟨fun pins s σ H Q I h => ?_⟩
  refine Subscript_ (thn (he.run pins s σ H _ I h) fun v s1 ⟨x, H1, I1, r1, q1⟩ => ?_)
  obtain ⟨a, xs, ex, hx, q⟩ := q1
  subst ex
  cases r1
  have hst : PO X (some (.UnaryOp .USub (.Constant (.int 1) k p1) p2)) (tPart (tUn (rU fun i => .int (-i)) (tC (.int 1)))) := po_some (pe_un un_neg pe_int)
  refine wpAny_Slice (thn (po_none.run pins s1 σ H1 (fun o H2 => o = none ∧ H2 = H1) I1 ⟨rfl, rfl⟩) fun vl s2 ⟨l, H2, I2, pl, el, e2⟩ => ?_)
  subst el e2
  refine thn (po_none.run pins s2 σ H2 (fun o H3 => o = none ∧ H3 = H2) I2 ⟨rfl, rfl⟩) fun vu s3 ⟨u, H3, I3, pu, eu, e3⟩ => ?_
  subst eu e3
  refine thn (hst.run pins s3 σ H3 (fun o H4 => o = some (-1) ∧ H4 = H3) I3 ⟨1, rfl, -1, rfl, rfl, rfl⟩) fun vs s4 ⟨o, H4, I4, ps, eo, e4⟩ => ?_
  subst eo e4
  have I5 : Inv X pins σ H4 { s4 with heap := s4.heap.push { cls := .type "slice", data := .fields #[vl, vu, vs] } } := I4.kept (t' := s4.toks) fun b ob q => Heap.get?_push_of_some _ q
  obtain ⟨its, r, ht, hz⟩ := I5.tuple hx
  have hlen := r.length
  show wpAny (model X.prog X.w) X.A (subscriptTail e (.Slice none none (some (.UnaryOp .USub (.Constant (.int 1) k p1) p2)) p3) (.ref a) (.ref s4.heap.objs.size)) (EP X pins σ Q) X.xe { s4 with heap := s4.heap.push { cls := .type "slice", data := .fields #[vl, vu, vs] } }
  refine tail_any (ops := [.ref a, .ref s4.heap.objs.size]) ht.typeIs (PyProof.Rows.slot_tuple_getitem.lookup) ?_ (by with_unfolding_all rfl)
  refine EBR.getItem_rev ht (Heap.IsSliceOf.new _ vl vu vs) pl pu ps ?_ (by rw [List.size_toArray]; omega)
  refine ⟨.ref _, _, I5.laid (t' := s4.toks) (o := .tup xs.reverse) (fun b ob q => Heap.get?_push_of_some _ q) (Nat.le_refl _) ?_, rfl, q _ (I5.hok.fresh (Nat.le_refl _))⟩
  exact ⟨by rw [List.length_reverse]; exact hz, _, r.reverse, IsTup.new _ _⟩
end EB

namespace EB
open PySem PySem.Spec PyProof.Rows L2
theorem strsD_lay : ∀ ks : List Str, (∀ k ∈ ks, PyData.strOk k = true) → PyData.canLayAll0 (ks.map .str) = true ∧ PyData.depthAll (ks.map .str) ≤ 1
  | [], _ => ⟨rfl, by simp [PyData.depthAll]⟩
  | k :: ks, q => by
    have h := strsD_lay ks fun z m => q z (List.mem_cons_of_mem _ m)
    rw [List.map_cons]
    refine ⟨by rw [PyData.canLayAll0, h.1, PyData.canLay0, q k (List.mem_cons_self ..)]; rfl, ?_⟩
    simp only [PyData.depthAll, PyData.depth]
    omega
theorem strsD_shaped {ks : List Str} (q : ∀ k ∈ ks, PyData.strOk k = true) : SeqAt.shaped (PyData.list (ks.map .str)) = true := by
  have h := strsD_lay ks q
  unfold SeqAt.shaped
  rw [Bool.and_eq_true, decide_eq_true_eq]
  refine ⟨by rw [PyData.canLay0]; exact h.1, ?_⟩
  rw [PyData.depth]
  omega
theorem strsD_eqv (ks : List Str) : PyData.eqv (PyData.list (ks.map .str)) (.list []) = decide (ks = []) := by
  cases ks with
  | nil => rfl
  | cons k ks =>
    rw [decide_eq_false (by simp)]
    simp [PyData.eqv, PyData.eqvAll]
theorem strsD_dp {K : PySem.W.Frag} {H : Hp} : ∀ ks : List Str, DpAll K H (ks.map V.str) (ks.map PyData.str)
  | [] => .nil
  | k :: ks => .cons (.str k) (strsD_dp ks)
/-- a sign of a text that is data is data -/
theorem strOk_sign {z : Str} {c : Nat} (h : PyData.strOk z = true) (m : c ∈ z.cps.toList) : PyData.strOk ⟨#[c]⟩ = true := by
  unfold PyData.strOk at h ⊢
  have h2 : z.cps.toList.all (fun c => decide (c < 1114112)) = true := by
    rw [Array.all_toList]
    simpa using h
  have h3 := List.all_eq_true.mp h2 c m
  simpa using h3
/-! ### trades as data -/
def trD (t : Tr) : PyData := .tuple [.str t.k, .int t.l, .int t.n]
theorem trs_lay : ∀ ts : List Tr, (∀ t ∈ ts, PyData.strOk t.k = true) → PyData.canLayAll0 (ts.map trD) = true ∧ PyData.depthAll (ts.map trD) ≤ 4
  | [], _ => ⟨rfl, by simp [PyData.depthAll]⟩
  | t :: ts, q => by
    have h := trs_lay ts fun z m => q z (List.mem_cons_of_mem _ m)
    have ht := q t (List.mem_cons_self ..)
    rw [List.map_cons]
    refine ⟨by simp only [PyData.canLayAll0, trD, PyData.canLay0, h.1, ht, Bool.and_true, Bool.true_and], ?_⟩
    simp only [PyData.depthAll, trD, PyData.depth]
    omega
theorem trs_shaped {ts : List Tr} (q : ∀ t ∈ ts, PyData.strOk t.k = true) : SeqAt.shaped (PyData.tuple (ts.map trD)) = true := by
  have h := trs_lay ts q
  unfold SeqAt.shaped
  rw [Bool.and_eq_true, decide_eq_true_eq]
  refine ⟨by rw [PyData.canLay0]; exact h.1, ?_⟩
  rw [PyData.depth]
  omega
theorem trs_eqv (ts : List Tr) : PyData.eqv (PyData.tuple (ts.map trD)) (.tuple []) = decide (ts = []) := by
  cases ts with
  | nil => rfl
  | cons k ks =>
    rw [decide_eq_false (by simp)]
    simp [PyData.eqv, PyData.eqvAll]
theorem trs_dpl {K : PySem.W.Frag} {H : Hp} : ∀ {ps : List Addr} {ts : List Tr}, ps.length = ts.length → (∀ (i : Nat) (p : Addr) (t : Tr), ps[i]? = some p → ts[i]? = some t → SqT K H p t.vs) → DpAll K H (ps.map V.ref) (ts.map trD)
  | [], [], _, _ => .nil
  | [], _ :: _, h, _ => nomatch h
  | _ :: _, [], h, _ => nomatch h
  | a :: ps, t :: ts, h, k => .cons (.tup (k 0 a t rfl rfl) (.cons (.str _) (.cons (.int _) (.cons (.int _) .nil)))) (trs_dpl (Nat.succ.inj h) fun j b u e1 e2 => k (j + 1) b u e1 e2)
theorem TrAt.dp {K : PySem.W.Frag} {H : Hp} {a : Addr} {ts : List Tr} (h : TrAt K H a ts) : Dp K H (.ref a) (.tuple (ts.map trD)) := by
  obtain ⟨ps, h1, h2, h3⟩ := h.ex
  exact .tup h1 (trs_dpl h2 h3)
theorem shapedT : SeqAt.shaped (PyData.tuple []) = true := by decide +kernel
/-! ### what the law expects -/
def dueV (ts : List Tr) : List V := match badOf ts with
  | some i => [.str "offer", .int (i : Nat)]
  | none => if 9 * 27720 < 10 * worth ts then [.str "generous"] else [.str "none"]
theorem labelOk_law {z : Str} : labelOk z = (if (if decide ((1 : Int) ≤ z.length) = true then decide ((z.length : Int) ≤ 8) else false) = true then decide (z.cps.toList.filter (fun c => !signOk c) = []) else false) := by
  unfold labelOk
  generalize (if decide ((1 : Int) ≤ z.length) = true then decide ((z.length : Int) ≤ 8) else false) = b
  cases b with
  | false => rfl
  | true =>
    show (z.cps.toList.map signOk).all id = decide (z.cps.toList.filter (fun c => !signOk c) = [])
    generalize z.cps.toList = l
    induction l with
    | nil => rfl
    | cons c l ih =>
      rw [List.map_cons, List.all_cons, ih, List.filter_cons]
      cases signOk c with
      | true => rfl
      | false => rfl
theorem badTr_cons {seen : List Str} {i : Nat} {t : Tr} {ts : List Tr} (h : ¬ (i = 3 ∨ t.k ∈ seen ∨ trOk t = false)) : badTr seen i (t :: ts) = badTr (seen ++ [t.k]) (i + 1) ts := by
  conv => lhs; unfold badTr
  rw [if_neg h]
theorem badTr_hit {seen : List Str} {i : Nat} {t : Tr} {ts : List Tr} (h : i = 3 ∨ t.k ∈ seen ∨ trOk t = false) : badTr seen i (t :: ts) = some i := by
  unfold badTr
  rw [if_pos h]
theorem trOk_ok {t : Tr} (h : trOk t = true) : t.ok := by
  unfold trOk at h
  split at h
  · split at h
    · rename_i h2
      have h2 := numOk_iff.mp h2
      have h3 := numOk_iff.mp h
      exact ⟨h2.1, h2.2, h3.1, h3.2⟩
    · cases h
  · cases h
theorem badTr_none : ∀ {ts : List Tr} {seen : List Str} {i : Nat}, badTr seen i ts = none → i ≤ 3 → i + ts.length ≤ 3 ∧ (∀ t ∈ ts, trOk t = true) ∧ (ts.map Tr.k).Nodup ∧ ∀ t ∈ ts, t.k ∉ seen
  | [], seen, i, _, hi => ⟨by simpa using hi, fun t h => (by cases h), List.nodup_nil, fun t h => (by cases h)⟩
  | t :: ts, seen, i, h, hi => by
    by_cases hc : i = 3 ∨ t.k ∈ seen ∨ trOk t = false
    · rw [badTr_hit hc] at h
      cases h
    rw [badTr_cons hc] at h
    have hc1 : i ≠ 3 := fun z => hc (.inl z)
    have hc2 : t.k ∉ seen := fun z => hc (.inr (.inl z))
    have hc3 : trOk t = true := by
      cases q : trOk t with
      | true => rfl
      | false => exact absurd (.inr (.inr q)) hc
    obtain ⟨a, b, c, d⟩ := badTr_none h (by omega)
    refine ⟨by rw [List.length_cons]; omega, fun u hu => ?_, ?_, fun u hu => ?_⟩
    · rcases List.mem_cons.mp hu with rfl | hu
      · exact hc3
      · exact b u hu
    · rw [List.map_cons, List.nodup_cons]
      refine ⟨fun z => ?_, c⟩
      obtain ⟨u, hu, e⟩ := List.mem_map.mp z
      exact d u hu (by rw [e]; exact List.mem_append.mpr (.inr (List.mem_singleton.mpr rfl)))
    · rcases List.mem_cons.mp hu with rfl | hu
      · exact hc2
      · exact fun z => d u hu (List.mem_append.mpr (.inl z))
theorem trOk_kind {t : Tr} (h : trOk t = true) : kindOk t.k = true := by
  unfold trOk at h
  split at h
  · assumption
  · cases h
section
variable {P : Program} {w : World} {K : PySem.W.Frag} {mg : Str → Option Value} {base : Heap} (T : Tx K mg)
include T
end
end EB

namespace EB
open PySem PySem.Spec PyProof.Rows L2
section
variable {P : Program} {w : World} {K : PySem.W.Frag} {mg : Str → Option Value} {base : Heap} (T : Tx K mg)
theorem bnd0 {d : DD} {fd : FuncData} {N ps : List Str} (F : FnP K d fd) (S : FnScope N ps (defScope d.st)) (e : d.df = [])
    (b : ∀ (kV doc pm : Value) (an : Option Addr) (cdv ct : Value) (us : List Value), us.length = ps.length → bindArgs (PySem.W.fnOf d.nm d.ql (defArgs d.st) (defBody d.st) (defScope d.st) .none kV doc pm an cdv ct) ⟨us, []⟩ = pure (ps.zip us)) : Binds K fd ps [] := by
  have F2 : FunD K d.nm d.ql (defArgs d.st) (defBody d.st) (defScope d.st) [] [] (d.adr K) fd := by
    have z : FnP K d fd := F
    unfold FnP at z
    rw [e] at z
    exact z
  exact F2.bindsN b
include T
theorem b_Offer_period : Binds K T.fd_Offer_period ["self"] [] := bnd0 T.F_Offer_period sc_Offer_period rfl (fun _ _ _ _ _ _ us hl => match us, hl with | [_], _ => rfl)
def spPeriod (K : PySem.W.Frag) : Sp := fun vs H Q _ => ∃ (a : Addr) (ts : List Tr), vs = [.ref a] ∧ OfAt K H a ts ∧ ∀ p, SqT K H p [.int (perB ts : Nat), .int (per ts : Nat)] → Q (.ref p) H
theorem ok_Offer_period : FnOk P w K mg base CX0 1 (a_Offer_period K) T.fd_Offer_period ["self"] (spPeriod K) := by
  refine fnK0 (d := d_Offer_period) T.F_Offer_period sc_Offer_period (fun vs H Q E h => ?_) (fun cdv A outer s H vs Q E hr h => ?_)
  · obtain ⟨a, ts, rfl, _⟩ := h
    rfl
  obtain ⟨a, ts, rfl, ho, k⟩ := h
  obtain ⟨dx, t, p, o, f, g, e1, e2, e3, e4, e5, e6⟩ := ho.ex
  refine ⟨_, (pss_one (ps_ret (pe_fld (pv 0) rfl))), ?_⟩
  exact ⟨_, rfl, a, _, dx, _, _, rfl, e1, T.k_Offer, T.na_period, lk_period, k _ e3⟩
end
end EB

namespace EB
open PySem PySem.Spec PyProof.Rows L2
section
variable {P : Program} {w : World} {K : PySem.W.Frag} {mg : Str → Option Value} {base : Heap} (T : Tx K mg)
include T
theorem b_Offer_trades : Binds K T.fd_Offer_trades ["self"] [] := bnd0 T.F_Offer_trades sc_Offer_trades rfl (fun _ _ _ _ _ _ us hl => match us, hl with | [_], _ => rfl)
/-- the property trades: the offer's own tuple -/
def spOwn (K : PySem.W.Frag) : Sp := fun vs H Q _ => ∃ (a : Addr) (ts : List Tr), vs = [.ref a] ∧ OfAt K H a ts ∧ ∀ p, TrAt K H p ts → Q (.ref p) H
theorem ok_Offer_trades : FnOk P w K mg base CX0 1 (a_Offer_trades K) T.fd_Offer_trades ["self"] (spOwn K) := by
  refine fnK0 (d := d_Offer_trades) T.F_Offer_trades sc_Offer_trades (fun vs H Q E h => ?_) (fun cdv A outer s H vs Q E hr h => ?_)
  · obtain ⟨a, ts, rfl, _⟩ := h
    rfl
  obtain ⟨a, ts, rfl, ho, k⟩ := h
  obtain ⟨dx, t, p, o, f, g, e1, e2, e3, e4, e5, e6⟩ := ho.ex
  refine ⟨_, (pss_one (ps_ret (pe_fld (pv 0) rfl))), ?_⟩
  exact ⟨_, rfl, a, _, dx, _, _, rfl, e1, T.k_Offer, T.na_trades, lk_trades, k _ e2⟩
theorem b_Offer_kinds : Binds K T.fd_Offer_kinds ["self"] [] := bnd0 T.F_Offer_kinds sc_Offer_kinds rfl (fun _ _ _ _ _ _ us hl => match us, hl with | [_], _ => rfl)
/-- the property kinds: a new tuple -/
def spKinds (K : PySem.W.Frag) : Sp := fun vs H Q _ => ∃ (a : Addr) (ts : List Tr), vs = [.ref a] ∧ OfAt K H a ts ∧ ts.length ≤ 3 ∧ ∀ H' p, Same H H' → SqT K H' p ((ts.map Tr.k).map V.str) → Q (.ref p) H'
theorem ok_Offer_kinds : FnOk P w K mg base CX0 1 (a_Offer_kinds K) T.fd_Offer_kinds ["self"] (spKinds K) := by
  refine fnK0 (d := d_Offer_kinds) T.F_Offer_kinds sc_Offer_kinds (fun vs H Q E h => ?_) (fun cdv A outer s H vs Q E hr h => ?_)
  · obtain ⟨a, ts, rfl, _⟩ := h
    rfl
  obtain ⟨a, ts, rfl, ho, hl, k⟩ := h
  obtain ⟨dx, t, p, o, f, g, e1, e2, e3, e4, e5, e6⟩ := ho.ex
  obtain ⟨ps, h1, h2, h3⟩ := e2.ex
  refine ⟨_, (pss_one (ps_ret (pe_callTy call_tuple_of (by rfl) T.n_tuple (by decide +kernel) (pa_cons (pe_lc (own := [("kind", 1), ("_", 2)]) rfl sc_Offer_kinds.nd (pi_tup (pe_fld (pv 0) rfl)) (blkOk_by (own := [("kind", 1), ("_", 2)]) (N := N_Offer_kinds) (sc := defScope s_Offer_kinds) (by decide +kernel)) (fun _ _ _ _ _ => (pg_tupB (n := 3) (pgs_cons (pg_name (i := 1) sc_Offer_kinds.nd rfl (Or.inl rfl) (.inr rfl)) (pgs_cons (pg_name (i := 2) sc_Offer_kinds.nd rfl (Or.inl rfl) (.inr rfl)) (pgs_cons (pg_name (i := 2) sc_Offer_kinds.nd rfl (Or.inl rfl) (.inr rfl)) pgs_nil))))) (fun _ _ _ _ _ => pts_nil) (fun _ _ _ _ _ => (pv 1))) pa_nil)))), ?_⟩
  refine ⟨_, rfl, a, _, dx, _, _, rfl, e1, T.k_Offer, T.na_trades, lk_trades, t, rfl, ⟨_, h1⟩, fun D hD => ?_⟩
  refine lc_tup (xs := ps.map V.ref) (fun i H2 => Same H H2 ∧ H2 D = some (.lst (((ts.take i).map Tr.k).map V.str))) ⟨same_new hD, upd_same⟩ (fun i H2 _ q => Same.tup q.1 h1) ?_ ?_
  · rintro i x H2 hx ⟨s1, e7⟩
    obtain ⟨pt, u, rfl, ep, et, hm, li, hpt⟩ := TrAt.at_ h2 h3 hx
    refine ⟨pt, _, rfl, Same.tup s1 hpt, rfl, _, _, rfl, _, _, rfl, _, _, rfl, rfl, rfl, ?_⟩
    refine ⟨_, rfl, _, e7, small3 ?_, same_mut s1 hD, ?_⟩
    · rw [List.length_map, List.length_map, List.length_take]
      omega
    · rw [upd_same, take_at et, List.map_append, List.map_append]
      rfl
  · rintro H2 ⟨s1, e7⟩
    rw [List.length_map, h2, List.take_length] at e7
    exact ⟨D, _, rfl, .inl ⟨SqL.of e7, fun q hq => k _ q (s1.trans (same_new hq)) (SqT.of upd_same)⟩⟩
end
end EB

namespace EB
open PySem PySem.Spec PyProof.Rows L2
theorem pe_bmK {X : Cx} {K : PySem.W.Frag} {o e : Expr} {es : List Expr} {to : TE} {t : TA} {name : Str} {apos cpos : Pos} {T id : String} {r : V → List V → Hp → VK → Prop} (h : X.K = K) (pa : PlainAttrs T) (slot : Slot T name id) (hty : typeOf (.builtin id) = pure (.type "method_descriptor")) (hm : MtR X id r) (ho : PE X o to) (ha : PA X (e :: es) t)
    (hbase : attributeBase o name X.env (eval o X.env) = eval o X.env := by rfl)
    (hfew : ((backTo cpos (starEach (e :: es) X.env)).all (fun x => !x.1) && (backToKw cpos (keywordEach [] X.env)).all (fun x => x.1.isSome)
      && decide ((e :: es).length + ([] : List Keyword).length + (if ([] : List Keyword).isEmpty then 0 else 1) < 30)) = true := by rfl)
    (hline : (apos.endLine == cpos.line) = true := by rfl) (hs : starEach (e :: es) X.env = (false, eval e X.env) :: starEach es X.env := by rfl) (hplain : (backTo cpos (starEach es X.env)).any (·.1) = false := by rfl) :
    PE X (.Call (.Attribute o name apos) (e :: es) [] cpos) (tBM K T r to t) := h ▸ pe_bm pa slot hty hm ho ha hbase hfew hline hs hplain
section
variable {P : Program} {w : World} {K : PySem.W.Frag} {mg : Str → Option Value} {base : Heap} (T : Tx K mg) {N0 : List Str} {ql0 : Str} {sc0 : Scope} {ad0 c Pt : Addr} {A0 : Around} {outer0 : List Env} {s0 : Shared} {H0 : Hp} {E1 : XK}
include T
theorem b_law_error : Binds K T.fd_law_error ["_law_call"] [] := bnd0 T.F_law_error sc_law_error rfl (fun _ _ _ _ _ _ us hl => match us, hl with | [_], _ => rfl)
abbrev lawCx (P : Program) (w : World) (K : PySem.W.Frag) (mg : Str → Option Value) (base : Heap) (N0 : List Str) (ql0 : Str) (sc0 : Scope) (ad0 c : Addr) (A0 : Around) (outer0 : List Env) (s0 : Shared) (H0 : Hp) (E1 : XK) : Cx := (cxOf CX0 P w K mg base N0 ql0 sc0 ad0 (.ref c) A0 outer0 s0 H0 E1).nox
theorem pe_err {k : Nat} {t : XK → TE} {params : Arguments} {body : Expr} {scope : Scope} {p lpos pos : Pos} (TB : LamX.TabB base mg c Pt) (hr : Room (k + 2) (lawCx P w K mg base N0 ql0 sc0 ad0 c A0 outer0 s0 H0 E1).A)
    (L : LamX.LamS sc0 scope) (hdef : defaultsOf params (lawCx P w K mg base N0 ql0 sc0 ad0 c A0 outer0 s0 H0 E1).env = ([], []))
    (hbind : ∀ (q : Str) (cl : List (Str × Addr)) (pm cv ctv : Value), bindArgs (PySem.W.kla_fn "<lambda>" q params body scope cl pm cv ctv) ⟨[], []⟩ = pure [])
    (hbody : ∀ (A : Around) (outer : List Env) (s : Shared) (H : Hp) (E : XK) (f c' : Addr), Room k (A.deeper (LamX.lamEnv (lawCx P w K mg base N0 ql0 sc0 ad0 c A0 outer0 s0 H0 E1) scope s.heap.objs.size f c')) → PE (LamX.lamCx (lawCx P w K mg base N0 ql0 sc0 ad0 c A0 outer0 s0 H0 E1) A outer s H E scope f c') body (t E))
    (hgl : Gl (lawCx P w K mg base N0 ql0 sc0 ad0 c A0 outer0 s0 H0 E1) "_law_error" := by rfl) :
    PE (lawCx P w K mg base N0 ql0 sc0 ad0 c A0 outer0 s0 H0 E1) (.Call (.Name "_law_error" p) [.Lambda params body scope lpos] [] pos) (LamX.tLam [(Pt, (lawCx P w K mg base N0 ql0 sc0 ad0 c A0 outer0 s0 H0 E1).env.qual ++ "<lambda>")] (TTErr K) t) := by
  obtain ⟨oc, od, dV, kV, doc, pm, an, cdv, ct, osl, e, lk, hcd, _, _⟩ := T.F_law_error.ex
  have b := b_law_error T
  rw [e] at b lk
  exact LamX.pe_lamcall (T := [(Pt, (lawCx P w K mg base N0 ql0 sc0 ad0 c A0 outer0 s0 H0 E1).env.qual ++ "<lambda>")]) hgl T.g_law_error T.F_law_error.kp lk hcd b sc_law_error rfl (.inl rfl) (err_gives T (N0 := N0) (H0 := H0) (E1 := E1)) TB rfl (List.mem_cons_self ..) (fun q hq _ => by cases List.mem_singleton.mp hq; rfl) hr L hdef hbind hbody
end
end EB

/-! A list comprehension whose element may lean on the def's own state where the comprehension began. -/
namespace EB
open PySem PySem.Spec PyProof.Rows L2
section
variable {X : Cx} {elt tg iter : Expr} {scope : Scope} {own : List (Str × Nat)} {pos : Pos} {g : TG} {te : TE}
/-- what a turn of tLc (no test) asks -/
abbrev TurnL (own : List (Str × Nat)) (J : It) (g : TG) (te : TE) (σw : L2.St) (D : Addr) (Fin : Hp → Prop) (W : Nat → Nat → Hp → Prop) : Prop := ∀ i m G, W i m G → (J.stop i G ∧ Fin G) ∨ (J.go i G ∧ ∃ Nx : Hp → Prop, (∀ G', Nx G' → ∃ m', m' < m ∧ W (i + 1) m' G') ∧
  ∀ x G', J.yld i G x G' → g x σw G' fun σ2 G2 => wipe σ2 (own.map (·.2)) = σw ∧ te σ2 G2 fun y G4 => ∃ acc, G4 D = some (.lst acc) ∧ acc.length < sizeLine ∧ Nx (upd G4 D (.lst (acc ++ [y]))))
theorem lcS_loop {pins : List (Addr × Obj)} {σ : L2.St} {G : Hp} {sa sb : Shared} {ce : Env} {it D : Addr} {fp : List Addr} {tn : Nat → Heap → Prop} {J : It} {Fin : Hp → Prop} {W : Nat → Nat → Hp → Prop} {m0 : Nat} {R : Value → Shared → Prop}
    (calm : X.calm = true) (IA : Inv X pins σ G sa) (eC : ce.locals = sa.heap.objs.size) (IB : Inv (X.blk sa G scope ce fp) [] (wipe σ (own.map (·.2))) G sb) (T : Turn X.prog X.w X.K tg J fp it tn) (fpok : ∀ b ∈ fp, FpOk X pins G b) (first : tn 0 sb.heap)
    (w0 : W 0 m0 G) (turn : TurnL own J g te (wipe σ (own.map (·.2))) D Fin W) (pg : PG (X.blk sa G scope ce fp) tg g) (pe : PE (X.blk sa G scope ce fp) elt te)
    (out : ∀ s' m G', Inv X pins σ G' s' → Fin G' → s'.heap.Ns sa.heap.objs.size m → FpOk X pins G' sa.heap.objs.size → compPost (model X.prog X.w) X.A X.xe none R (.ref D) sa.heap.objs.size (.ok .next) s') :
    codeAny (model X.prog X.w) X.A (.compLoop (.ListComp elt [⟨tg, iter, [], 0⟩] scope pos) 0 (.ref it) (.ref D) ce) (compPost (model X.prog X.w) X.A X.xe none R (.ref D) sa.heap.objs.size) sb := by
  have still : ∀ {τ : L2.St} {G' : Hp} {s' : Shared}, Inv (X.blk sa G scope ce fp) [] τ G' s' → (∀ b ∈ fp, G' b = none) → ∀ b ∈ fp, FpOk (X.blk sa G scope ce fp) [] G' b := fun {τ G' s'} J' free b hb =>
    ⟨free b hb, (J'.ok.exf b hb).1, J'.ok.exfs b hb, .inl hb, fun x c e => (J'.ok.exf b hb).2 x c e, fun p z => by cases z⟩
  refine compLoop_any (fun left s' => ∃ i G', W i left G' ∧ tn i s'.heap ∧ (∀ b ∈ fp, G' b = none) ∧ Inv (X.blk sa G scope ce fp) [] (wipe σ (own.map (·.2))) G' s') (fun left st hI => ?_) m0 ⟨0, G, w0, first, fun b hb => (fpok b hb).1, IB⟩
  obtain ⟨i, GI, wI, tI, freeI, II⟩ := hI
  rcases turn i left GI wI with ⟨halt, fin⟩ | ⟨more, Nx, back, item⟩
  · refine thnF (T.done (X.blk sa G scope ce fp) rfl rfl rfl calm i [] st _ GI (fun _ _ => False) II (still II freeI) tI halt) fun r s6 ⟨er, I6⟩ => ?_
    subst er
    have up : Inv X pins σ GI s6 := IA.call' (ch := fp) I6.os I6.base I6.hok I6.bare fun b hb => let z := (fpok b hb).2; ⟨z.2.2.1, z.1, z.2.2.2.1, z.2.2.2.2⟩
    have noC : GI sa.heap.objs.size = none := by
      rw [← eC]
      exact I6.free
    obtain ⟨m, ns, _⟩ := I6.loc
    refine out s6 m GI up fin ?_ (IA.fpOk (Nat.le_refl _) noC)
    rw [← eC]
    exact ns
  · refine thnF (T.item (X.blk sa G scope ce fp) rfl rfl rfl calm i [] st _ GI (fun _ _ => False) II (still II freeI) tI more) fun r s6 ⟨u, er, h6⟩ => ?_
    subst er
    refine thnF h6 fun _ s7 ⟨x, G7, I7, rx, yx, t7, free7⟩ => ?_
    refine thnF (pg.run _ s7 _ G7 x u _ (I7.pinned (still I7 free7) (T.obj _ _ t7)) rx (item x G7 yx)) fun _ s8 ⟨τ, G8, I8, same, q8⟩ => ?_
    refine wpAny_tests_nil ?_
    simp only [if_true]
    refine thnF (pe.run _ s8 τ G8 _ I8 q8) fun z s9 ⟨y, G9, I9, ry, acc, atD, small, next⟩ => ?_
    refine app_ok (X := X.blk sa G scope ce fp) I9 atD small ry fun s10 I10 => ?_
    obtain ⟨left', lt, w'⟩ := back _ next
    have held : ∀ b ∈ fp, ∀ o, s7.heap.get? b = some o → s10.heap.get? b = some o ∧ (upd G9 D (.lst (acc ++ [y]))) b = none := fun b hb o e =>
      let z := I10.pin (b, o) (List.mem_append_right _ (List.mem_append_right _ (mem_pinsAt hb e)))
      ⟨z.1, z.2.1⟩
    refine ⟨left', lt, i + 1, _, w', T.keep _ _ _ t7 fun b hb o e => (held b hb o e).1, fun b hb => ?_, (I10.unpinned (pins := [])).weak (by rw [← same, wipe_length]) fun j v e => ?_⟩
    · obtain ⟨o, e, _⟩ := T.obj _ _ t7 b hb
      exact (held b hb o e).2
    · rw [← same] at e
      exact (wipe_some e).1
/-- the rule: te may depend on the def's slots, and be shown from its state where the block starts -/
theorem pe_lcS {wi : TI} {ts : L2.St → TE} (hc : X.calm = true) (hN : X.N.Nodup) (hi : PI X tg iter wi) (ok : BlkOk X.N X.env.scope scope own)
    (hg : ∀ (s : Shared) (H : Hp) (C : Addr) (cl : List (Str × Addr)) (fp : List Addr), PG (X.blk s H scope (compEnvC scope cl C X.env) fp) tg g)
    (he : ∀ (pins : List (Addr × Obj)) (σ : L2.St) (s : Shared) (H : Hp) (C : Addr) (cl : List (Str × Addr)) (fp : List Addr), Inv X pins σ H s → (∀ b ∈ fp, FpOk X pins H b) → PE (X.blk s H scope (compEnvC scope cl C X.env) fp) elt (ts σ))
    (hs : ∀ x, foldedSetIterable iter X.env x = pure x := by intro _; rfl) :
    PE X (.ListComp elt [⟨tg, iter, [], 0⟩] scope pos) (fun σ H Q => tLc wi g tYes (ts σ) (own.map (·.2)) σ H Q) := by
  refine ⟨fun pins s σ H Q I h => ?_⟩
  have clo : ∀ y ∈ scope.names, y.2 = .free → ∃ c, X.env.cells.lookup y.1 = some c := fun y hy e => I.ok.has _ ((ok.free y hy e).elim .inl .inr)
  rw [eval_ListComp]
  refine wpAny_comprehension_free (use := none) rfl hs (closure_ok clo) ok.kind (fun y hy e => by rw [ok.uniq y hy, e]) (thn (hi.run pins s σ H _ I h) fun v s1 hv => thn hv fun v2 s2 got => ?_)
  obtain ⟨it, fp, tn, J, G, rfl, IG, T, first, fpok, rest⟩ := got
  refine wpAny_newObj_type (newEnv_comp ?_) (by show 0 ≤ sizeLine; decide)
  obtain ⟨D, eD⟩ : ∃ D : Addr, s2.heap.objs.size = D := ⟨_, rfl⟩
  have GD : G D = none := IG.hok.fresh (Nat.le_of_eq eD)
  obtain ⟨W, ⟨m0, w0⟩, turn⟩ := rest D GD
  obtain ⟨sa, ea⟩ : ∃ sa : Shared, ({ s2 with heap := s2.heap.push { cls := .type "list", data := .seq ([] : List Value).toArray } } : Shared) = sa := ⟨_, rfl⟩
  have ha : sa.heap = s2.heap.push { cls := .type "list", data := .seq ([] : List Value).toArray } := by rw [← ea]
  have IA : Inv X pins σ (upd G D (.lst [])) sa := by
    rw [← ea]
    refine IG.laid (t' := s2.toks) (fun b o e => Heap.get?_push_of_some _ e) (Nat.le_of_eq eD) ⟨Nat.zero_le _, [], 0, .nil, ?_⟩
    rw [← eD]
    exact Heap.get?_push_size _ rfl
  have old : ∀ b ∈ fp, b < s2.heap.objs.size := fun b hb => by
    obtain ⟨o, e, _⟩ := T.obj _ _ first b hb
    exact Heap.lt_size e
  have fpA : ∀ b ∈ fp, FpOk X pins (upd G D (.lst [])) b := fun b hb => by
    refine ⟨?_, (fpok b hb).2⟩
    rw [upd_ne (fun z => Nat.lt_irrefl _ (by have := old b hb; rw [z, ← eD] at this; exact this))]
    exact (fpok b hb).1
  have fpB : ∀ b ∈ fp, FpOk X pins (upd G D (.lst [])) b ∧ b < sa.heap.objs.size := fun b hb => ⟨fpA b hb, by rw [ha, Heap.size_push]; exact Nat.lt_succ_of_lt (old b hb)⟩
  have IB := block_start IA ok hN fpB
  rw [eD, ea]
  have tA : tn 0 sa.heap := T.keep _ _ _ first fun b _ o e => by rw [ha]; exact Heap.get?_push_of_some _ e
  have tB : tn 0 (pushCells (sa.heap.push { cls := .type "dict", data := .dict #[] }) scope.names) := T.keep _ _ _ tA fun b _ o e => pushCells_keeps _ _ _ _ (Heap.get?_push_of_some _ e)
  have pg := hg sa (upd G D (.lst [])) sa.heap.objs.size (cellsFrom (sa.heap.objs.size + 1) scope.names (cloFrom X.env.cells scope.names [])) fp
  have pe := he pins σ sa (upd G D (.lst [])) sa.heap.objs.size (cellsFrom (sa.heap.objs.size + 1) scope.names (cloFrom X.env.cells scope.names [])) fp IA fpA
  refine codeAny_compStart_list (lcS_loop (sa := sa) (m0 := m0) (W := W) (Fin := fun G' => Q (.ref D) G') hc IA rfl IB T fpA tB w0 turn pg pe fun s' m G' I' q ns f => ?_) (T.self X.A 0 _ _ _ tB (lcS_loop (sa := sa) (m0 := m0) (W := W) (Fin := fun G' => Q (.ref D) G') hc IA rfl IB T fpA tB w0 turn pg pe fun s' m G' I' q ns f => ?_))
  · exact ⟨m, ns, fun h'' sb => ⟨.ref D, G', I'.turned (t' := s'.toks) (fun b o hb e => (sb.2 b hb).trans e) f.1 f.2.1 f.2.2.2.1 f.2.2.2.2.1 f.2.2.2.2.2, rfl, q⟩⟩
  · exact ⟨m, ns, fun h'' sb => ⟨.ref D, G', I'.turned (t' := s'.toks) (fun b o hb e => (sb.2 b hb).trans e) f.1 f.2.1 f.2.2.2.1 f.2.2.2.2.1 f.2.2.2.2.2, rfl, q⟩⟩
end
end EB

/-! Lambdas that are kept (in a list, say) and called later: each is tracked by its function object. -/
namespace EB
open PySem PySem.Spec PyProof.Rows L2
/-- a lambda's function, its defaults dV -/
abbrev fnL (name qual : Str) (params : Arguments) (body : Expr) (scope : Scope) (cl : List (Str × Addr)) (pm cdv ct dV : Value) : FuncData := { PySem.W.kla_fn name qual params body scope cl pm cdv ct with defaults := dV }
abbrev objL (qual : Str) (params : Arguments) (body : Expr) (scope : Scope) (cl : List (Str × Addr)) (pm : Value) (c : Value) (ct dV : Value) : Obj := { cls := .type "function", data := .func (fnL "<lambda>" qual params body scope cl pm c ct dV) }
section
variable {M : Model} {A : Around} {E : Value → Shared → Prop} {s : Shared} {qual : Str} {params : Arguments} {body : Expr} {scope : Scope} {env : Env} {c P : Addr} {ps : Array Value} {pos : Pos} {line : Nat} {mg : Str → Option Value} {cl : List (Str × Addr)} {dV : Value} {Q : Value → Shared → Prop}
theorem tailL_new (ec : closureFor scope env = pure cl) (eG : env.globals = mainGlobals) (ns : s.heap.Ns mainGlobals mg) (ek : env.code = .ref c) (cd : PySem.W.CodeHd s.heap c P) (tab : s.heap.get? P = some (PySem.W.tabObj ps)) (tr : TriplesOk ps.toList) (miss : codeAmong pos ps.toList = none)
    (nP : mainGlobals ≠ P) (bi : s.heap.BuiltinsAt mg P)
    (fin : ∀ c1 ct h1 k1, Heap.ExtBut P s.heap h1 → s.heap.objs.size ≤ c1 → c1 < h1.objs.size → h1.CodeRec (.ref c1) qual → h1.get? P = some (PySem.W.tabObj (ps ++ #[rawInt pos.line, rawInt pos.col, .ref c1])) →
      Q (.ref h1.objs.size) { s with heap := h1.push (objL qual params body scope cl ((mg "__name__").getD .none) (.ref c1) ct dV), toks := k1 }) :
    wpAny M A (makeTail "<lambda>" qual params (.expr body) scope env dV .none none pos line) Q E s := by
  obtain ⟨bm, ob, n1, n2, _, n3, n4, n5, n6, n7⟩ := bi
  unfold makeTail
  rw [ec, eG]
  refine wpAny_bind (wpAny_pure ?_)
  cases cl with
  | nil =>
    simp only [List.isEmpty_nil, if_true]
    refine wpAny_bind (wpAny_pure (wpAny_bind (wpAny_functionCodeX ek (cd.code tab tr) (cd.tab tab) miss fun c1 h1 k1 x1 g1 l1 _ r1 t1 _ => ?_)))
    have ns1 := ns.extBut x1 nP
    exact wpAny_bind (wpAny_builtinsFor ns1 n1 n2 (x1 _ _ n3 n4) n5 n6 n7 (wpAny_bind (wpAny_nsGet ns1 (wpAny_bind (wpAny_pure (wpAny_newObj_type (fin c1 .none h1 k1 x1 g1 l1 r1 t1.2) (by size_fits)))))))
  | cons y ys =>
    simp only [List.isEmpty_cons, Bool.false_eq_true, if_false]
    refine wpAny_bind (wpAny_newTextTuple (wpAny_bind (wpAny_functionCodeX ek ((cd.keeps fun b o e => Heap.get?_push_of_some _ e).code (Heap.get?_push_of_some _ tab) tr) ((cd.keeps fun b o e => Heap.get?_push_of_some _ e).tab (Heap.get?_push_of_some _ tab)) miss fun c1 h1 k1 x1 g1 l1 _ r1 t1 _ => ?_)))
    have ns1 := (ns.push _).extBut x1 nP
    have x2 : Heap.ExtBut P s.heap h1 := fun b o ne e => x1 b o ne (Heap.get?_push_of_some _ e)
    have g2 : s.heap.objs.size ≤ c1 := by
      rw [Heap.size_push] at g1
      exact Nat.le_of_succ_le g1
    exact wpAny_bind (wpAny_builtinsFor ns1 n1 n2 (x2 _ _ n3 n4) n5 n6 n7 (wpAny_bind (wpAny_nsGet ns1 (wpAny_bind (wpAny_pure (wpAny_newObj_type (fin c1 _ h1 k1 x2 g2 l1 r1 t1.2) (by size_fits)))))))
theorem tailL_hit {cv : Value} (ec : closureFor scope env = pure cl) (eG : env.globals = mainGlobals) (ns : s.heap.Ns mainGlobals mg) (ek : env.code = .ref c) (cd : PySem.W.CodeHd s.heap c P) (tab : s.heap.get? P = some (PySem.W.tabObj ps)) (tr : TriplesOk ps.toList) (hit : codeAmong pos ps.toList = some cv)
    (bi : s.heap.BuiltinsAt mg P)
    (fin : ∀ (ct : Value) (h1 : Heap) (k1 : Tok), (∀ b o, s.heap.get? b = some o → h1.get? b = some o) → s.heap.objs.size ≤ h1.objs.size →
      Q (.ref h1.objs.size) { s with heap := h1.push (objL qual params body scope cl ((mg "__name__").getD .none) cv ct dV), toks := k1 }) :
    wpAny M A (makeTail "<lambda>" qual params (.expr body) scope env dV .none none pos line) Q E s := by
  obtain ⟨bm, ob, n1, n2, _, n3, n4, n5, n6, n7⟩ := bi
  unfold makeTail
  rw [ec, eG]
  refine wpAny_bind (wpAny_pure ?_)
  cases cl with
  | nil =>
    simp only [List.isEmpty_nil, if_true]
    exact wpAny_bind (wpAny_pure (wpAny_bind (wpAny_functionCode_hit ek (cd.code tab tr) hit (wpAny_bind (wpAny_builtinsFor ns n1 n2 n4 n5 n6 n7 (wpAny_bind (wpAny_nsGet ns (wpAny_bind (wpAny_pure (wpAny_newObj_type (fin .none s.heap s.toks (fun _ _ e => e) (Nat.le_refl _)) (by size_fits)))))))))))
  | cons y ys =>
    simp only [List.isEmpty_cons, Bool.false_eq_true, if_false]
    have more : ∀ o : Obj, s.heap.objs.size ≤ (s.heap.push o).objs.size := fun o => by
      rw [Heap.size_push]
      exact Nat.le_succ _
    exact wpAny_bind (wpAny_newTextTuple (wpAny_bind (wpAny_functionCode_hit ek ((cd.keeps fun b o e => Heap.get?_push_of_some _ e).code (Heap.get?_push_of_some _ tab) tr) hit (wpAny_bind (wpAny_builtinsFor (ns.push _) n1 n2 (Heap.get?_push_of_some _ n4) n5 n6 n7 (wpAny_bind (wpAny_nsGet (ns.push _) (wpAny_bind (wpAny_pure (wpAny_newObj_type (fin _ _ s.toks (fun b o e => Heap.get?_push_of_some _ e) (more _)) (by size_fits)))))))))))
end
/-- the object at f, as it is made -/
def FunO (o : Obj) (f : Addr) : HO := .ext fun h => h.get? f = some o
/-- the tuple of the defaults -/
def DfOk (H : Hp) (dV : Value) (df : List (Str × Int)) : Prop := (df = [] ∧ dV = .none) ∨ ∃ (t : Addr) (a : Str) (n : Int), df = [(a, n)] ∧ dV = .ref t ∧ H t = some (.tup [.int n])
/-- the lambda of params, body, scope stands at f, made by the def of the context X -/
def LamAt (X : Cx) (H : Hp) (f : Addr) (params : Arguments) (body : Expr) (scope : Scope) (df : List (Str × Int)) : Prop := ∃ (c : Addr) (pm ct dV : Value), H f = some (FunO (objL (X.env.qual ++ "<lambda>") params body scope (cloFrom X.env.cells scope.names []) pm (.ref c) ct dV) f) ∧
  H c = some (LamX.CodeO c (X.env.qual ++ "<lambda>")) ∧ DfOk H dV df
theorem updN {H : Hp} {a b : Addr} {o : HO} (h : upd H a o b = none) : H b = none := by
  by_cases z : b = a
  · rw [z, upd_same] at h
    cases h
  · rw [upd_ne z] at h
    exact h
theorem funO_ne {o : Obj} {f : Addr} (ps : Array Value) : FunO o f ≠ .tbl ps := fun z => by
  unfold FunO at z
  cases z
theorem DfOk.ext {H H' : Hp} {dV : Value} {df : List (Str × Int)} (d : DfOk H dV df) (e : LamX.ExtN H H') : DfOk H' dV df := by
  rcases d with d | ⟨t, a, n, d1, d2, d3⟩
  · exact .inl d
  · exact .inr ⟨t, a, n, d1, d2, e _ _ d3 fun ps z => by cases z⟩
theorem LamAt.ext {X : Cx} {H H' : Hp} {f : Addr} {params : Arguments} {body : Expr} {scope : Scope} {df : List (Str × Int)} (l : LamAt X H f params body scope df) (e : LamX.ExtN H H') : LamAt X H' f params body scope df := by
  obtain ⟨c, pm, ct, dV, l1, l2, l3⟩ := l
  exact ⟨c, pm, ct, dV, e _ _ l1 funO_ne, e _ _ l2 LamX.codeO_ne, l3.ext e⟩
/-- how the defaults are written -/
def DfEv (X : Cx) (params : Arguments) (df : List (Str × Int)) : Prop := (df = [] ∧ defaultsOf params X.env = ([], [])) ∨ ∃ (a : Str) (n : Int) (e : Expr), df = [(a, n)] ∧ defaultsOf params X.env = ([eval e X.env], []) ∧ PE X.nox e (tC (.int n))
section
variable {X : Cx} {pins : List (Addr × Obj)} {σ : L2.St} {H : Hp} {s : Shared}
theorem lam_tail {T : List (Addr × Str)} {c P : Addr} {params : Arguments} {body : Expr} {scope : Scope} {pos : Pos} {dV : Value} {df : List (Str × Int)} {E : Value → Shared → Prop} {Q : Value → Shared → Prop} (I : Inv X pins σ H s) (TB : LamX.TabB X.base X.mg c P) (ek : X.env.code = .ref c)
    (hm : (P, X.env.qual ++ "<lambda>") ∈ T) (hu : ∀ p ∈ T, p.1 = P → p.2 = X.env.qual ++ "<lambda>") (hT : LamX.Tabs T H) (free : ∀ y ∈ scope.names, y.2 = .free → ∃ c, X.env.cells.lookup y.1 = some c) (hd : DfOk H dV df)
    (k : ∀ (f : Addr) (H1 : Hp) (s' : Shared), Inv X pins σ H1 s' → LamX.ExtN H H1 → LamX.Tabs T H1 → LamAt X H1 f params body scope df → H f = none → Q (.ref f) s') :
    wpAny (model X.prog X.w) X.A (makeTail "<lambda>" (X.env.qual ++ "<lambda>") params (.expr body) scope X.env dV .none none pos pos.line) Q E s := by
  obtain ⟨ps, atP, tr, known⟩ := hT _ hm
  have bi : s.heap.BuiltinsAt X.mg P := TB.bm.keeps I.bk
  have tab : s.heap.get? P = some (PySem.W.tabObj ps) := I.hok P _ atP
  cases hc : codeAmong pos ps.toList with
  | some cv =>
    obtain ⟨c1, rfl, atC⟩ := known pos cv hc
    refine tailL_hit (mg := X.mg) (closure_ok free) I.ok.glob (I.mod.glob.keeps I.bk) ek (TB.code.keeps I.bk) tab tr hc bi fun ct h1 k1 old big => ?_
    have nF : H h1.objs.size = none := I.hok.fresh big
    have J := (I.kept (h' := h1) (t' := k1) old).laid (a := h1.objs.size) (o := FunO _ h1.objs.size) (t' := k1) (fun b u e => Heap.get?_push_of_some (objL (X.env.qual ++ "<lambda>") params body scope (cloFrom X.env.cells scope.names []) ((X.mg "__name__").getD .none) (.ref c1) ct dV) e) (Nat.le_refl _)
      ⟨Heap.get?_push_size _ rfl, ⟨_, Heap.get?_push_size _ rfl⟩, fun g1 g2 e st => st _ e⟩
    have ex : LamX.ExtN H (upd H h1.objs.size (FunO (objL (X.env.qual ++ "<lambda>") params body scope (cloFrom X.env.cells scope.names []) ((X.mg "__name__").getD .none) (.ref c1) ct dV) h1.objs.size)) := LamX.ExtN.of (same_new nF)
    exact k _ _ _ J ex (hT.ext (same_new nF)) ⟨c1, _, ct, dV, upd_same, ex _ _ atC LamX.codeO_ne, hd.ext ex⟩ nF
  | none =>
    refine tailL_new (mg := X.mg) (closure_ok free) I.ok.glob (I.mod.glob.keeps I.bk) ek (TB.code.keeps I.bk) tab tr hc TB.gP bi fun c1 ct h1 k1 x1 big lt rec_ tab1 => ?_
    obtain ⟨c2, oc, vs, t, e2, at1, dt, nm⟩ := rec_
    cases e2
    have sz : s.heap.objs.size ≤ h1.objs.size := Nat.le_trans big (Nat.le_of_lt lt)
    have nC : H c1 = none := I.hok.fresh big
    have J1 := LamX.inv_table (t' := k1) (more := #[rawInt pos.line, rawInt pos.col, .ref c1]) (h' := h1) I atP (fun b o ne e => x1 b o ne e) tab1 big ⟨oc, vs, t, at1, dt, nm⟩
    have J := J1.laid (a := h1.objs.size) (o := FunO _ h1.objs.size) (t' := k1) (fun b u e => Heap.get?_push_of_some (objL (X.env.qual ++ "<lambda>") params body scope (cloFrom X.env.cells scope.names []) ((X.mg "__name__").getD .none) (.ref c1) ct dV) e) (Nat.le_refl _)
      ⟨Heap.get?_push_size _ rfl, ⟨_, Heap.get?_push_size _ rfl⟩, fun g1 g2 e st => st _ e⟩
    have nF : H h1.objs.size = none := I.hok.fresh sz
    have nF2 : upd (upd H P (.tbl (ps ++ #[rawInt pos.line, rawInt pos.col, .ref c1]))) c1 (LamX.CodeO c1 (X.env.qual ++ "<lambda>")) h1.objs.size = none := by
      rw [upd_ne (Nat.ne_of_gt lt), upd_ne (ne_of_none atP nF).symm]
      exact nF
    have ex : LamX.ExtN H (upd (upd (upd H P (.tbl (ps ++ #[rawInt pos.line, rawInt pos.col, .ref c1]))) c1 (LamX.CodeO c1 (X.env.qual ++ "<lambda>"))) h1.objs.size (FunO (objL (X.env.qual ++ "<lambda>") params body scope (cloFrom X.env.cells scope.names []) ((X.mg "__name__").getD .none) (.ref c1) ct dV) h1.objs.size)) := fun b o e ne => by
      rw [upd_ne (ne_of_none e nF), upd_ne (ne_of_none e nC), upd_ne fun z => ne ps (by rw [z, atP] at e; exact (Option.some.inj e).symm)]
      exact e
    have e1 : (ps ++ #[rawInt pos.line, rawInt pos.col, .ref c1]).toList = ps.toList ++ [rawInt pos.line, rawInt pos.col, .ref c1] := by simp
    have newC : upd (upd (upd H P (.tbl (ps ++ #[rawInt pos.line, rawInt pos.col, .ref c1]))) c1 (LamX.CodeO c1 (X.env.qual ++ "<lambda>"))) h1.objs.size (FunO (objL (X.env.qual ++ "<lambda>") params body scope (cloFrom X.env.cells scope.names []) ((X.mg "__name__").getD .none) (.ref c1) ct dV) h1.objs.size) c1 = some (LamX.CodeO c1 (X.env.qual ++ "<lambda>")) := by
      rw [upd_ne (Nat.ne_of_lt lt)]
      exact upd_same
    refine k _ _ _ J ex (fun p hp => ?_) ⟨c1, _, ct, dV, upd_same, newC, hd.ext ex⟩ nF
    by_cases hb : p.1 = P
    · rw [hu p hp hb, hb]
      refine ⟨_, (by rw [upd_ne (ne_of_none atP nF), upd_ne (ne_of_none atP nC)]; exact upd_same), (by rw [e1]; exact PySem.TriplesOk_snoc _ _ _ _ tr), fun p2 cv among => ?_⟩
      rw [e1] at among
      rcases LamX.among_app _ tr among with z | z
      · obtain ⟨c0, z1, z2⟩ := known p2 cv z
        exact ⟨c0, z1, ex _ _ z2 LamX.codeO_ne⟩
      · exact ⟨c1, z, newC⟩
    · obtain ⟨qs, z1, z2, z3⟩ := hT p hp
      refine ⟨qs, (by rw [upd_ne (ne_of_none z1 nF), upd_ne (ne_of_none z1 nC), upd_ne hb]; exact z1), z2, fun p2 cv among => ?_⟩
      obtain ⟨c0, y1, y2⟩ := z3 p2 cv among
      exact ⟨c0, y1, ex _ _ y2 LamX.codeO_ne⟩
/-- the lambda is made, its default (an int, if there is one) first -/
theorem lam_makeT {T : List (Addr × Str)} {c P : Addr} {params : Arguments} {body : Expr} {scope : Scope} {pos : Pos} {df : List (Str × Int)} {E : Value → Shared → Prop} {Q : Value → Shared → Prop} (I : Inv X pins σ H s) (TB : LamX.TabB X.base X.mg c P) (ek : X.env.code = .ref c)
    (hm : (P, X.env.qual ++ "<lambda>") ∈ T) (hu : ∀ p ∈ T, p.1 = P → p.2 = X.env.qual ++ "<lambda>") (hT : LamX.Tabs T H) (free : ∀ y ∈ scope.names, y.2 = .free → ∃ c, X.env.cells.lookup y.1 = some c) (hd : DfEv X params df)
    (k : ∀ (f : Addr) (H1 : Hp) (s' : Shared), Inv X pins σ H1 s' → LamX.ExtN H H1 → LamX.Tabs T H1 → LamAt X H1 f params body scope df → H f = none → Q (.ref f) s') :
    wpAny (model X.prog X.w) X.A (eval (.Lambda params body scope pos) X.env) Q E s := by
  rcases hd with ⟨rfl, e⟩ | ⟨a, n, ex, rfl, e, pe⟩
  · rw [arm_eval_Lambda, e]
    refine wpAny_bind (m := evalAll []) (wpAny_pure (wpAny_bind (wpAny_holding (wpAny_pure ?_))))
    rw [makeFunction_eq]
    simp only [List.zip_nil_right, List.filterMap_nil, List.isEmpty_nil, if_true, pure_bind]
    exact lam_tail I TB ek hm hu hT free (.inl ⟨rfl, rfl⟩) k
  · rw [arm_eval_Lambda, e]
    refine wpAny_bind (m := evalAll [eval ex X.env]) (wpAny_bind (m := eval ex X.env) (thnF (pe.run pins s σ H (fun v H1 => v = .int n ∧ H1 = H) (I.wish _) ⟨rfl, rfl⟩) fun u s1 ⟨v, H1, I1, rv, ev, eH⟩ => ?_))
    subst ev eH
    have I1 := I1.unwish
    refine wpAny_bind (wpAny_holding (wpAny_pure (wpAny_pure (wpAny_bind (wpAny_holding (wpAny_pure ?_))))))
    rw [makeFunction_eq]
    simp only [List.zip_nil_right, List.filterMap_nil, List.isEmpty_nil, List.isEmpty_cons, Bool.false_eq_true, if_false, if_true, pure_bind]
    refine wpAny_bind (wpAny_newTextTuple ?_)
    have nT : H1 s1.heap.objs.size = none := I1.hok.fresh (Nat.le_refl _)
    have I2 : Inv X pins σ (upd H1 s1.heap.objs.size (.tup [.int n])) { s1 with heap := s1.heap.push { cls := .type "tuple", data := .seq [u].toArray } } := I1.laid (t' := s1.toks) (fun b o e => Heap.get?_push_of_some _ e) (Nat.le_refl _) ⟨by show 1 ≤ sizeLine; decide, [u], .cons rv .nil, IsTup.new s1.heap _⟩
    exact lam_tail I2 TB ek hm hu (hT.ext (same_new nT)) free (.inr ⟨_, a, n, rfl, rfl, upd_same⟩) fun f H2 s2 J ex t l nf => k f H2 s2 J (LamX.ExtN.trans (LamX.ExtN.of (same_new nT)) ex) t l (updN nf)
end
/-! ### what stands at f is called -/
/-- captured names and globals; a name of its own is none of the def's -/
structure LamO (N : List Str) (sc scope : Scope) : Prop where
  kind : scope.kind = .function
  co : scope.isCoroutine = false
  gen : scope.isGenerator = false
  own : ∀ y ∈ scope.names, y.2 ≠ .cell ∧ (y.2 = .local → y.1 ∉ N)
  free : ∀ y ∈ scope.names, y.2 = .free → sc.names.lookup y.1 = some .cell ∨ sc.names.lookup y.1 = some .free
def lamOB (N : List Str) (sc scope : Scope) : Bool :=
  decide (scope.kind = .function) && (!scope.isCoroutine && (!scope.isGenerator && scope.names.all fun y => !decide (y.2 = .cell) && ((!decide (y.2 = .local) || !decide (y.1 ∈ N)) && (!decide (y.2 = .free) || (decide (sc.names.lookup y.1 = some .cell) || decide (sc.names.lookup y.1 = some .free))))))
theorem lamO_by {N : List Str} {sc scope : Scope} (h : lamOB N sc scope = true) : LamO N sc scope := by
  obtain ⟨h1, h⟩ := Bool.and_eq_true_iff.mp h
  obtain ⟨h2, h⟩ := Bool.and_eq_true_iff.mp h
  obtain ⟨h3, h4⟩ := Bool.and_eq_true_iff.mp h
  have each : ∀ y ∈ scope.names, y.2 ≠ .cell ∧ (y.2 = .local → y.1 ∉ N) ∧ (y.2 = .free → sc.names.lookup y.1 = some .cell ∨ sc.names.lookup y.1 = some .free) := fun y hy => by
    have z := List.all_eq_true.mp h4 y hy
    simp only [Bool.and_eq_true, Bool.or_eq_true, Bool.not_eq_true', decide_eq_true_eq, decide_eq_false_iff_not] at z
    exact ⟨z.1, fun e => z.2.1.resolve_left fun k => k e, fun e => z.2.2.resolve_left fun k => k e⟩
  exact ⟨of_decide_eq_true h1, by simpa using h2, by simpa using h3, fun y hy => ⟨(each y hy).1, (each y hy).2.1⟩, fun y hy => (each y hy).2.2⟩
section
variable {X : Cx} {pins : List (Addr × Obj)} {σ : L2.St} {H HZ : Hp} {s s1 : Shared}
theorem lam_start3 {A : Around} {outer : List Env} {E : XK} {scope : Scope} {f c1 : Addr} {h1 : Heap} {tk : Nat} {m : Str → Option Value} (I : Inv X pins σ H s) (L : LamO X.N X.env.scope scope) (e0 : Env0 X.prog X.w X.K X.mg X.base A outer s1 HZ) (hd : A.handled = none)
    (un : Un (frs X.stack) [] H HZ s.heap s1.heap) (ns : h1.Ns s1.heap.objs.size m) (old : ∀ b o, s1.heap.get? b = some o → h1.get? b = some o) :
    Inv (LamX.lamCx X A outer s1 HZ E scope f c1) [] σ HZ { s1 with heap := h1, toks := tk } := by
  have has : ∀ y ∈ scope.names, y.2 = .free → ∃ c, X.env.cells.lookup y.1 = some c := fun y hy e => I.ok.has _ (L.free y hy e)
  have back : ∀ {y : Str} {c : Addr}, (cloFrom X.env.cells scope.names []).lookup y = some c → X.env.cells.lookup y = some c := fun {y c} e => by
    rcases cloFrom_mem (PySem.mem_of_lookup e) with z | ⟨z1, z2⟩
    · cases z
    · obtain ⟨c2, ec⟩ := has _ z1 rfl
      have ec : X.env.cells.lookup y = some c2 := ec
      rw [ec] at z2
      rw [ec, z2] <;> rfl
  have there : ∀ {y : Str}, scope.names.lookup y = some .free → ∃ c, (cloFrom X.env.cells scope.names []).lookup y = some c := fun {y} e => mem_lookup (cloFrom_has (cells := X.env.cells) (acc := []) (PySem.mem_of_lookup e))
  have cellK : ∀ {c : Addr} {v : Option Value}, H c = none → s.heap.IsCell c v → h1.IsCell c v := fun {c v} n z => by
    obtain ⟨o, z1, z2⟩ := z
    obtain ⟨sl, z3⟩ := un.any z1 n List.not_mem_nil
    exact ⟨_, old _ _ z3, z2⟩
  have noex : ∀ b : Addr, b ∉ (LamX.lamCx X A outer s1 HZ E scope f c1).ex := fun b z => absurd (show b ∈ ([] : List Addr) from z) List.not_mem_nil
  have nocell : ∀ {y : Str}, scope.names.lookup y ≠ some .cell := fun {y} z => (L.own _ (PySem.mem_of_lookup z)).1 rfl
  have okL : (LamX.lamCx X A outer s1 HZ E scope f c1).Ok := ⟨e0.mod, L.kind, rfl, rfl, Nat.le_refl _, fun y z c a b => I.ok.inj y z c (back a) (back b), fun y hy => hy.elim (fun z => absurd z nocell) there, fun y c z _ => (nomatch (show false = true from z)), fun _ => hd, Around.frames_deeper e0.frames,
    .inr ⟨rfl, rfl⟩, fun b z => absurd z (noex b), e0.bs, e0.bsz, fun b _ _ => noex b, fun b z => absurd z (noex b), e0.funs, e0.frf⟩
  refine ⟨okL, rfl, e0.bare, Un.kept old, ⟨m, ns, fun i y v a1 a2 a3 => ?_⟩, fun y c e => ?_, e0.hok.fresh (Nat.le_refl _), fun y c e => ?_, fun p hp => (by cases hp), e0.hok.kept old, I.len⟩
  · have a3 : Vis scope y := a3
    have isF : scope.names.lookup y = some .free := by
      rcases a3 with z | z | z
      · exact absurd (List.mem_of_getElem? a1) ((L.own _ (PySem.mem_of_lookup z)).2 rfl)
      · exact absurd z nocell
      · exact z
    have up := L.free _ (PySem.mem_of_lookup isF) rfl
    obtain ⟨m2, _, look⟩ := I.loc
    obtain ⟨u, ru, q⟩ := look i y v a1 a2 (.inr up)
    obtain ⟨c2, e2⟩ := there isF
    refine ⟨u, ru, .inr ⟨.inr isF, c2, e2, ?_⟩⟩
    have e3 := back e2
    rcases q with ⟨z, _⟩ | ⟨_, c3, z1, z2⟩
    · have z : X.env.scope.names.lookup y = some .local := z
      rcases up with k | k
      · rw [show X.env.scope.names.lookup y = _ from k] at z
        cases z
      · rw [show X.env.scope.names.lookup y = _ from k] at z
        cases z
    · rw [e3] at z1
      cases z1
      exact cellK (I.freeC y _ e3) z2
  · obtain ⟨v, z⟩ := I.cell y c (back e)
    exact ⟨v, cellK (I.freeC y c (back e)) z⟩
  · obtain ⟨v, o, z, _⟩ := I.cell y c (back e)
    exact un.free c o z (I.freeC y c (back e)) List.not_mem_nil
/-- how such a lambda is bound when it is called without arguments -/
def BindL (params : Arguments) (body : Expr) (scope : Scope) (df : List (Str × Int)) : Prop :=
  (df = [] ∧ ∀ (q : Str) (cl : List (Str × Addr)) (pm cv ct : Value), bindArgs (fnL "<lambda>" q params body scope cl pm cv ct .none) ⟨[], []⟩ = pure []) ∨
  ∃ (a : Str) (n : Int), df = [(a, n)] ∧ scope.names.lookup a = some .local ∧ ∀ (q : Str) (cl : List (Str × Addr)) (pm cv ct : Value) (t : Addr) (u : Value), ∃ k : Option (Array Value) → Sem (List (Str × Value)),
    bindArgs (fnL "<lambda>" q params body scope cl pm cv ct (.ref t)) ⟨[], []⟩ = (seqItems? (.ref t) >>= k) ∧ k (some #[u]) = pure [(a, u)]
/-- x(), x the parameter that got the lambda -/
theorem pe_actT {CXg : CXT} {Eg : XK} {Ng : List Str} {qg : Str} {sg : Scope} {g f : Addr} {cdg : Value} {params : Arguments} {body : Expr} {scope : Scope} {df : List (Str × Int)} {k i : Nat} {a : Str} {pn : List (Addr × Obj)} {xe : Value → Shared → Prop} {W : WX} {E : XK} {tb : TE} {p1 p2 : Pos}
    (I : Inv X pins σ H s) (L : LamO X.N X.env.scope scope) (B : BindL params body scope df)
    (tk : Takes ((cxOf CXg X.prog X.w X.K X.mg X.base Ng qg sg g cdg X.A X.stack s H Eg).tr pn xe) W) (hW : ∀ cls d σ' H', E cls d H' → W cls d σ' H') (hr : Room (k + 1) (X.A.deeper (envOfC qg sg s.heap.objs.size g cdg)))
    (hbody : ∀ (A : Around) (outer : List Env) (s : Shared) (H : Hp) (c1 : Addr), Room k (A.deeper (LamX.lamEnv X scope s.heap.objs.size f c1)) → PE (LamX.lamCx X A outer s H E scope f c1) body tb)
    (hN : Ng[i]? = some a) (hv : Vis sg a) (hd : (a == ("__debug__" : Str)) = false := by decide) (hcd : (a == ("__classdict__" : Str)) = false := by decide) :
    PE ((cxOf CXg X.prog X.w X.K X.mg X.base Ng qg sg g cdg X.A X.stack s H Eg).tr pn xe) (.Call (.Name a p1) [] [] p2)
      (fun σZ HZ Q => σZ[i]? = some (some (.ref f)) ∧ LamAt X HZ f params body scope df ∧ tb σ HZ Q) := by
  refine ⟨fun pinsZ sZ σZ HZ Q IZ h => ?_⟩
  obtain ⟨here, at_, ht⟩ := h
  refine wpAny_Call_Name_kw (thn ((pe_var (pos := p1) (i := i) hN hv hd hcd).run pinsZ sZ σZ HZ (fun v H1 => v = .ref f ∧ H1 = HZ) IZ ⟨.ref f, here, rfl, rfl⟩) fun u s1 ⟨v, H1, I1, rv, ev, eH⟩ => ?_)
  subst ev eH
  obtain rfl : u = Value.ref f := rv
  obtain ⟨c1, pm, ct, dV, a1, a2, a3⟩ := at_
  have atF : s1.heap.get? f = some (objL (X.env.qual ++ "<lambda>") params body scope (cloFrom X.env.cells scope.names []) pm (.ref c1) ct dV) := (I1.hok f _ a1).1
  obtain ⟨⟨oc, vs, t, z1, z2, z3⟩, _, _⟩ := I1.hok c1 _ a2
  refine PySem.W.callWith_F0 ⟨_, _, _, _, atF⟩ ?_
  have start : ∀ (binds : List (Str × Value)), (∀ y ∈ binds, scope.names.lookup y.1 = some .local) → wpAny (model X.prog X.w) (X.A.deeper (envOfC qg sg s.heap.objs.size g cdg)).in1 (newFunctionEnv scope mainGlobals (cloFrom X.env.cells scope.names []) binds ((X.env.qual ++ "<lambda>") ++ ".<locals>.") (some f) (.ref c1) none builtinsNs)
      (fun env s2 => s2.heap.NoLimit ∧ codeAny (model X.prog X.w) (X.A.deeper (envOfC qg sg s.heap.objs.size g cdg)) (.expr body env) (CR (L2.CX X.prog X.w) (envOfC qg sg s.heap.objs.size g cdg :: X.stack) X.prog X.w H1 s1 Q E) s2)
      (fun e s' => CR (L2.CX X.prog X.w) (envOfC qg sg s.heap.objs.size g cdg :: X.stack) X.prog X.w H1 s1 Q E (.error e) s') s1 := fun binds hb => by
    refine wpAny_newFunctionEnv (fun y hy => (L.own y hy).1) hb (fun h1 ns same => ⟨I1.nolimit.fresh _ same, ?_⟩) L.kind
    have old : ∀ b o, s1.heap.get? b = some o → h1.get? b = some o := fun b o e => same.extBut b o (Nat.ne_of_lt (Heap.lt_size e)) (Heap.get?_push_of_some _ e)
    have J : Inv (LamX.lamCx X (X.A.deeper (envOfC qg sg s.heap.objs.size g cdg)) (envOfC qg sg s.heap.objs.size g cdg :: X.stack) s1 H1 E scope f c1) [] σ H1 { s1 with heap := h1, toks := s1.toks + binds.length } := lam_start3 I L I1.env0 hr.hd I1.base ns old
    show codeAny _ _ (.expr body (LamX.lamEnv X scope s1.heap.objs.size f c1)) _ _
    exact PySem.W.kla_codeExpr (wpAny_mono ((hbody _ _ s1 H1 c1 (hr.deeper _)).run [] _ _ H1 Q J ht) (fun w s' ⟨w2, H2, J2, r2, q2⟩ => ⟨w2, H2, J2.os, J2.bare, J2.base, J2.hok, r2, q2⟩) fun e s' q => q)
  have run : codeAny (model X.prog X.w) (X.A.deeper (envOfC qg sg s.heap.objs.size g cdg)) (.call (.ref f) ⟨[], []⟩) (CR (L2.CX X.prog X.w) (envOfC qg sg s.heap.objs.size g cdg :: X.stack) X.prog X.w H1 s1 Q E) s1 := by
    refine PySem.W.kla_callFunE hr.depth atF rfl L.co L.gen rfl ⟨c1, oc, vs, t, rfl, z1, z2, z3⟩ ?_
    rcases B with ⟨rfl, bind⟩ | ⟨b, n, rfl, loc, bind⟩
    · rcases a3 with ⟨_, rfl⟩ | ⟨_, _, _, z, _⟩
      · rw [bind]
        exact wpAny_pure (start [] fun y hy => absurd hy List.not_mem_nil)
      · cases z
    · rcases a3 with ⟨z, _⟩ | ⟨td, b2, n2, z, rfl, tup⟩
      · cases z
      · cases z
        obtain ⟨_, its, rel, isT⟩ := I1.hok td _ tup
        obtain ⟨u, rfl⟩ : ∃ u, its = [u] := by
          cases rel with
          | cons _ r =>
            cases r
            exact ⟨_, rfl⟩
        obtain ⟨kk, e1, e2⟩ := bind (X.env.qual ++ "<lambda>") (cloFrom X.env.cells scope.names []) pm (.ref c1) ct td u
        rw [e1]
        obtain ⟨ot, o1, _, n3, o3⟩ := isT
        refine wpAny_bind (wpAny_seqItems o1 o3 ?_)
        rw [e2]
        exact wpAny_pure (start [(b, u)] fun y hy => by rw [List.mem_singleton.mp hy]; exact loc)
  refine wpAny_call (codeAny_mono run fun r s' q => ?_)
  cases r with
  | error e => exact passes_call tk hW pinsZ σZ H1 s1 e s' I1 q
  | ok fl =>
    cases fl with
    | ret u => exact I1.after q
    | next => exact False.elim q
    | brk => exact False.elim q
    | cont => exact False.elim q
end
end EB

/-! Kept lambdas as values, and a def that calls the one it gets. -/
namespace EB
open PySem PySem.Spec PyProof.Rows L2
/-- the lambda at f, made by the def of X: its body reads as t -/
def Lam (X : Cx) (k : Nat) (H : Hp) (f : Addr) (t : XK → TE) : Prop := ∃ (params : Arguments) (body : Expr) (scope : Scope) (df : List (Str × Int)), LamAt X H f params body scope df ∧ LamO X.N X.env.scope scope ∧ BindL params body scope df ∧
  ∀ (A : Around) (outer : List Env) (s : Shared) (G : Hp) (E : XK) (c : Addr), Room k (A.deeper (LamX.lamEnv X scope s.heap.objs.size f c)) → PE (LamX.lamCx X A outer s G E scope f c) body (t E)
theorem Lam.ext {X : Cx} {k : Nat} {H H' : Hp} {f : Addr} {t : XK → TE} (l : Lam X k H f t) (e : LamX.ExtN H H') : Lam X k H' f t := by
  obtain ⟨a, b, c, d, l1, l2⟩ := l
  exact ⟨a, b, c, d, l1.ext e, l2⟩
theorem Lam.mono {X : Cx} {k : Nat} {H H' : Hp} {f : Addr} {t : XK → TE} (l : Lam X k H f t) (s : Same H H') : Lam X k H' f t := l.ext (LamX.ExtN.of s)
/-- the reading of a lambda as a value -/
def tLamV (X : Cx) (k : Nat) (T : List (Addr × Str)) (t : XK → TE) : TE := fun _ H Q => LamX.Tabs T H ∧ ∀ H1 f, LamX.ExtN H H1 → LamX.Tabs T H1 → Lam X k H1 f t → H f = none → Q (.ref f) H1
theorem pe_lamV {X : Cx} {k : Nat} {T : List (Addr × Str)} {c P : Addr} {params : Arguments} {body : Expr} {scope : Scope} {pos : Pos} {t : XK → TE} (df : List (Str × Int)) (TB : LamX.TabB X.base X.mg c P) (ek : X.env.code = .ref c)
    (hm : (P, X.env.qual ++ "<lambda>") ∈ T) (hu : ∀ p ∈ T, p.1 = P → p.2 = X.env.qual ++ "<lambda>") (L : LamO X.N X.env.scope scope) (D : DfEv X params df) (B : BindL params body scope df)
    (run : ∀ (f : Addr) (A : Around) (outer : List Env) (s : Shared) (G : Hp) (E : XK) (c : Addr), Room k (A.deeper (LamX.lamEnv X scope s.heap.objs.size f c)) → PE (LamX.lamCx X A outer s G E scope f c) body (t E)) :
    PE X (.Lambda params body scope pos) (tLamV X k T t) :=
  ⟨fun pins s σ H Q I h => lam_makeT I TB ek hm hu h.1 (fun y hy e => I.ok.has _ (L.free y hy e)) D fun f H1 s' J ex tb at_ nf => ⟨.ref f, H1, J, rfl, h.2 H1 f ex tb ⟨_, _, _, df, at_, L, B, run f⟩ nf⟩⟩
/-- what is asked of x(e), e a kept lambda of the def whose slots are σ -/
def tKept (X : Cx) (k : Nat) (TT : (XK → Hp → VK → Prop) → Hp → VK → Prop) (σ : L2.St) (te : TE) : TE := fun σ1 H Q => tCons te tNil σ1 H fun vs H1 => ∃ f t, vs = [.ref f] ∧ Lam X k H1 f t ∧ TT (fun E H' Q' => H' = H1 ∧ t E σ H' Q') H1 Q
section
variable {X Y : Cx} {TT : (XK → Hp → VK → Prop) → Hp → VK → Prop} {x a : Str} {g : Addr} {k : Nat} {pg : Arguments} {bg : List Stmt} {sg : Scope} {dV kV doc pm cdv ct oc : Value} {an od : Option Addr} {osl : Array (Option Value)} {Ng : List Str} {te : TE} {e : Expr} {p pos : Pos} {σ : L2.St}
/-- x(e) where the def's own state is at hand: in the def itself, or in a block of it -/
theorem pe_kept (back : ∀ (pins : List (Addr × Obj)) (σ1 : L2.St) (H : Hp) (s : Shared), Inv Y pins σ1 H s → ∃ pins0, Inv X pins0 σ H s) (eP : Y.prog = X.prog) (eW : Y.w = X.w) (eK : Y.K = X.K) (eM : Y.mg = X.mg) (eB : Y.base = X.base) (eA : Y.A = X.A) (eS : Y.stack = X.stack)
    (hg : Gl Y x) (hm : X.mg x = some (.ref g)) (hk : PySem.W.keepIn X.K (.ref g) = true)
    (lk : X.K.lookup g = some ⟨oc, od, .func (PySem.W.fnOf x x pg bg sg dV kV doc pm an cdv ct), osl⟩) (hcg : PySem.W.codeIn X.K cdv x = true) (hb : L2.Binds X.K (PySem.W.fnOf x x pg bg sg dV kV doc pm an cdv ct) [a] []) (Sg : FnScope Ng [a] sg) (hNg : Ng[0]? = some a) (hva : Vis sg a)
    (hG : LamX.GivesTo X Ng x sg g cdv bg a (X.env.qual ++ "<lambda>") TT) (hr : Room (k + 2) X.A) (he : PE Y e te)
    (hdb : (x == ("__debug__" : Str)) = false := by decide) (hd : (a == ("__debug__" : Str)) = false := by decide) (hcd : (a == ("__classdict__" : Str)) = false := by decide)
    (hse : starEach [e] Y.env = [(false, eval e Y.env)] := by rfl) : PE Y (.Call (.Name x p) [e] [] pos) (tKept X k TT σ te) := by
  refine ⟨fun pins s σ1 H Q I h => ?_⟩
  refine wpAny_Call_Name_kw (ld_glob I hg (eM ▸ hm) ?_ hdb)
  refine PySem.W.callWith_K (h₀ := Y.base) I.ok.mod.kin (eK ▸ hk) (thn ((pa_cons he pa_nil hse).run pos pins s σ1 H _ I h) fun us s1 ⟨vs, H1, I1, rv, q⟩ => ⟨I1.kIn, wpAny_call ?_⟩) hse (by rfl)
  obtain ⟨f, t, ev, ⟨params, body, scope, df, at_, L, B, run⟩, q⟩ := q
  obtain ⟨pins0, J⟩ := back _ _ _ _ I1
  subst ev
  obtain ⟨c1, pm1, ct1, dV1, a1, a2, a3⟩ := id at_
  obtain ⟨u, hu⟩ : ∃ u, us = [u] := by
    cases rv with
    | cons _ r =>
      cases r
      exact ⟨_, rfl⟩
  subst hu
  have room : Room (k + 2) Y.A := eA ▸ hr
  have rc : codeAny (model X.prog X.w) X.A (.call (.ref g) ⟨[u], []⟩) (CR CX0 X.stack X.prog X.w H1 s1 Q E0) s1 := by
    refine LamX.run_ofS (N := Ng) (ps := [a]) (us := [u]) (vs := [.ref f]) lk hcg Sg hr J.env0 (hb s1 [u] J.kIn rfl) rv rfl fun hr' => ?_
    obtain ⟨ts, h1, h2⟩ := hG f c1 s1 H1 Q (fun E H' Q' => H' = H1 ∧ t E σ H' Q') (fun W pn xe E p1 p2 tk hW => by
      have z := pe_actT (CXg := CX0) (Eg := E0) (qg := x) (cdg := cdv) (g := g) (tb := t E) (p1 := p1) (p2 := p2) (E := E) (i := 0) J L B tk hW hr' (fun A outer s G c => run A outer s G E c) hNg hva hd hcd
      exact ⟨fun pins2 s2 σ2 H2 Q2 I2 h2 => z.run pins2 s2 σ2 H2 Q2 I2 ⟨h2.1, by rw [h2.2.2.1]; exact at_, h2.2.2.2⟩⟩) a2 q
    exact ⟨ts, h1.nox, h2⟩
  rw [eP, eW, eA]
  refine codeAny_mono rc fun r s2 q2 => ?_
  cases r with
  | error e => exact (show False from q2).elim
  | ok fl =>
    cases fl with
    | ret u =>
      refine I1.after ?_
      rw [eP, eW, eS]
      exact q2
    | next => exact False.elim q2
    | brk => exact False.elim q2
    | cont => exact False.elim q2
end
end EB

namespace EB
open PySem PySem.Spec PyProof.Rows L2
theorem op_eqDK {X : Cx} {K : PySem.W.Frag} (h : X.K = K) (hu : X.A.units + 64 < cLine) : OpR X (compareOp .Eq) (rEqD K) := h ▸ op_eqD hu
theorem op_neDK {X : Cx} {K : PySem.W.Frag} (h : X.K = K) (hu : X.A.units + 64 < cLine) : OpR X (compareOp .NotEq) (rNeD K) := h ▸ op_neD hu
section
variable {P : Program} {w : World} {K : PySem.W.Frag} {mg : Str → Option Value} {base : Heap} (T : Tx K mg) {N0 : List Str} {ql0 : Str} {sc0 : Scope} {ad0 c Pt : Addr} {A0 : Around} {outer0 : List Env} {s0 : Shared} {H0 : Hp} {E1 : XK}
include T
theorem pe_lamE {k : Nat} {params : Arguments} {body : Expr} {scope : Scope} {pos : Pos} {t : XK → TE} (df : List (Str × Int)) (TB : LamX.TabB base mg c Pt) (L : LamO N0 sc0 scope) (D : DfEv (lawCx P w K mg base N0 ql0 sc0 ad0 c A0 outer0 s0 H0 E1) params df) (B : BindL params body scope df)
    (run : ∀ (f : Addr) (A : Around) (outer : List Env) (s : Shared) (G : Hp) (E : XK) (c1 : Addr), Room k (A.deeper (LamX.lamEnv (lawCx P w K mg base N0 ql0 sc0 ad0 c A0 outer0 s0 H0 E1) scope s.heap.objs.size f c1)) → PE (LamX.lamCx (lawCx P w K mg base N0 ql0 sc0 ad0 c A0 outer0 s0 H0 E1) A outer s G E scope f c1) body (t E)) :
    PE (lawCx P w K mg base N0 ql0 sc0 ad0 c A0 outer0 s0 H0 E1) (.Lambda params body scope pos) (tLamV (lawCx P w K mg base N0 ql0 sc0 ad0 c A0 outer0 s0 H0 E1) k [(Pt, (lawCx P w K mg base N0 ql0 sc0 ad0 c A0 outer0 s0 H0 E1).env.qual ++ "<lambda>")] t) :=
  pe_lamV df TB rfl (List.mem_cons_self ..) (fun q hq _ => by cases List.mem_singleton.mp hq; rfl) L D B run
/-- _law_error(e) in a block of the law -/
theorem pe_errK {k : Nat} {pins : List (Addr × Obj)} {σ : L2.St} {s : Shared} {H : Hp} {scope : Scope} {ce : Env} {fp : List Addr} {e : Expr} {te : TE} {p pos : Pos} (hr : Room (k + 2) (lawCx P w K mg base N0 ql0 sc0 ad0 c A0 outer0 s0 H0 E1).A) (I : Inv (lawCx P w K mg base N0 ql0 sc0 ad0 c A0 outer0 s0 H0 E1) pins σ H s) (F : ∀ b ∈ fp, FpOk (lawCx P w K mg base N0 ql0 sc0 ad0 c A0 outer0 s0 H0 E1) pins H b)
    (he : PE ((lawCx P w K mg base N0 ql0 sc0 ad0 c A0 outer0 s0 H0 E1).blk s H scope ce fp) e te) (hgl : Gl ((lawCx P w K mg base N0 ql0 sc0 ad0 c A0 outer0 s0 H0 E1).blk s H scope ce fp) "_law_error" := by rfl) (hse : starEach [e] ce = [(false, eval e ce)] := by rfl) :
    PE ((lawCx P w K mg base N0 ql0 sc0 ad0 c A0 outer0 s0 H0 E1).blk s H scope ce fp) (.Call (.Name "_law_error" p) [e] [] pos) (tKept (lawCx P w K mg base N0 ql0 sc0 ad0 c A0 outer0 s0 H0 E1) k (TTErr K) σ te) := by
  obtain ⟨oc, od, dV, kV, doc, pm, an, cdv, ct, osl, e1, lk, hcd, _, _⟩ := T.F_law_error.ex
  have b := b_law_error T
  rw [e1] at b lk
  exact pe_kept (X := lawCx P w K mg base N0 ql0 sc0 ad0 c A0 outer0 s0 H0 E1) (fun pins1 σ1 H1 s1 I1 => ⟨pins, I.call' (ch := fp) I1.os I1.base I1.hok I1.bare fun b hb => let z := (F b hb).2; ⟨z.2.2.1, z.1, z.2.2.2.1, z.2.2.2.2⟩⟩) rfl rfl rfl rfl rfl rfl rfl
    hgl T.g_law_error T.F_law_error.kp lk hcd b sc_law_error rfl (.inl rfl) (err_gives T (N0 := N0) (H0 := H0) (E1 := E1)) hr he (hse := hse)
end
end EB

namespace EB
open PySem PySem.Spec PyProof.Rows L2
/-! ### the draws of a law that makes lambdas: the table of its code stands besides -/
theorem tabS_ne {H H' : Hp} {P : Addr} {q : Str} (t : LamX.TabS H P q) (k : ∀ b o, H b = some o → (∀ xs, o ≠ .lst xs) → H' b = some o) : LamX.TabS H' P q := by
  obtain ⟨ps, h1, h2, h3⟩ := t
  refine ⟨ps, k _ _ h1 (fun xs z => by cases z), h2, fun pos cv e => ?_⟩
  obtain ⟨c, e1, e2⟩ := h3 pos cv e
  exact ⟨c, e1, k _ _ e2 (fun xs z => by cases z)⟩
structure LT (H0 H : Hp) (h l P : Addr) (q : Str) : Prop where
  hs : HS H0 H h l
  tb : LamX.TabS H P q
  nt : NoT H0
theorem LT.hid {H0 H : Hp} {h l P : Addr} {q : Str} (x : LT H0 H h l P q) : LamX.TabS (hid2 H h l) P q := by
  obtain ⟨m, i, ns, e1, e2, _⟩ := x.hs.ex
  refine tabS_ne x.tb fun b o e n => ?_
  rw [hid2_ne (fun z => n _ (by rw [z, e1] at e; exact (Option.some.inj e).symm)) (fun z => n _ (by rw [z, e2] at e; exact (Option.some.inj e).symm))]
  exact e
theorem LT.step {H0 H H' : Hp} {h l P : Addr} {q : Str} (x : LT H0 H h l P q) (y : HS (hid2 H h l) H' h l) : LT H0 H' h l P q := ⟨x.hs.down y, x.hid.ext y.same, x.nt⟩
theorem LT.grow {H0 H H' : Hp} {h l P : Addr} {q : Str} (x : LT H0 H h l P q) (s : Same H H') : LT H0 H' h l P q := ⟨x.hs.grow s, x.tb.ext s, x.nt⟩
theorem LT.new {H0 H : Hp} {h l P b : Addr} {q : Str} {o : HO} (x : LT H0 H h l P q) (n : H b = none) : LT H0 (upd H b o) h l P q := x.grow (same_new n)
theorem LT.ext {H0 H H' : Hp} {h l P : Addr} {q : Str} (x : LT H0 H h l P q) (e : LamX.ExtN H H') (t : LamX.TabS H' P q) : LT H0 H' h l P q := by
  obtain ⟨m, i, ns, e1, e2, r⟩ := x.hs.ex
  refine ⟨⟨fun b o z => e b o (x.hs.same b o z) fun ps y => x.nt b ps (by rw [z, y]), x.hs.nh, x.hs.nl, x.hs.ne, m, i, ns, e _ _ e1 (fun ps z => by cases z), e _ _ e2 (fun ps z => by cases z), r⟩, t, x.nt⟩
theorem LT.mut {H0 H : Hp} {h l P R : Addr} {q : Str} {xs : List V} {o : HO} (x : LT H0 H h l P q) (e : H R = some (.lst xs)) (n : H0 R = none) (n1 : R ≠ h) (n2 : R ≠ l) : LT H0 (upd H R o) h l P q := by
  refine ⟨x.hs.mut n n1 n2, tabS_ne x.tb fun b u z k => ?_, x.nt⟩
  rw [upd_ne (fun y => k xs (by rw [y, e] at z; exact (Option.some.inj z).symm))]
  exact z
theorem sqT_nt {K : PySem.W.Frag} {H : Hp} {a : Addr} {xs : List V} (h : SqT K H a xs) : SqT K (nt H) a xs := by
  rcases h with (h | ⟨o, h⟩) | h
  · exact .inl (.inl (nt_at h fun ps z => by cases z))
  · exact .inl (.inr ⟨o, nt_at h fun ps z => by cases z⟩)
  · exact .inr h
theorem sqT_ext {K : PySem.W.Frag} {H H' : Hp} {a : Addr} {xs : List V} (e : LamX.ExtN H H') (h : SqT K H a xs) : SqT K H' a xs := Same.tup (nt_ext e) (sqT_nt h)
theorem TrAt.ext {K : PySem.W.Frag} {H H' : Hp} {a : Addr} {ts : List Tr} (e : LamX.ExtN H H') (h : TrAt K H a ts) : TrAt K H' a ts := by
  obtain ⟨ps, h1, h2, h3⟩ := h.ex
  exact ⟨ps, sqT_ext e h1, h2, fun i p t a b => sqT_ext e (h3 i p t a b)⟩
/-- the same, a list that is no tuple set anew -/
theorem sqT_mut {K : PySem.W.Frag} {H : Hp} {R a : Addr} {ys xs : List V} {o : HO} (e : H R = some (.lst ys)) (h : SqT K H a xs) : SqT K (upd H R o) a xs := by
  rcases h with (h | ⟨u, h⟩) | h
  · exact .inl (.inl (by rw [upd_ne (ne_of h e (by intro z; cases z))]; exact h))
  · exact .inl (.inr ⟨u, by rw [upd_ne (ne_of h e (by intro z; cases z))]; exact h⟩)
  · exact .inr h
theorem TrAt.mut {K : PySem.W.Frag} {H : Hp} {R a : Addr} {ys : List V} {ts : List Tr} {o : HO} (e : H R = some (.lst ys)) (h : TrAt K H a ts) : TrAt K (upd H R o) a ts := by
  obtain ⟨ps, h1, h2, h3⟩ := h.ex
  exact ⟨ps, sqT_mut e h1, h2, fun i p t a b => sqT_mut e (h3 i p t a b)⟩
theorem sqL_mut {K : PySem.W.Frag} {H : Hp} {R a : Addr} {xs : List V} {o : HO} (n : a ≠ R) (h : SqL K H a xs) : SqL K (upd H R o) a xs := by
  rcases h with (h | ⟨u, h⟩) | h
  · exact .inl (.inl (by rw [upd_ne n]; exact h))
  · exact .inl (.inr ⟨u, by rw [upd_ne n]; exact h⟩)
  · exact .inr h
theorem OfNew.mut {K : PySem.W.Frag} {H H1 : Hp} {R x : Addr} {ys : List V} {ts : List Tr} {v : HO} (o : OfNew K H H1 x ts) (s : Same H H1) (e : H R = some (.lst ys)) : OfAt K (upd H1 R v) x ts := by
  obtain ⟨dx, t, p, q, f, g, e1, e2, e3, e4, e5, e6, n1, n2, n3⟩ := o.ex
  have e' := s _ _ e
  exact ⟨dx, t, p, q, f, g, by rw [upd_ne (ne_of e1 e' (by intro z; cases z))]; exact e1, e2.mut e', sqT_mut e' e3, sqL_mut (ne_of_none e n1).symm e4, sqL_mut (ne_of_none e n2).symm e5, sqL_mut (ne_of_none e n3).symm e6⟩
theorem tabs1 {P : Addr} {q : Str} {H : Hp} (t : LamX.TabS H P q) : LamX.Tabs [(P, q)] H := fun p hp => by
  cases List.mem_singleton.mp hp
  exact t
theorem tabs1_of {P : Addr} {q : Str} {H : Hp} (t : LamX.Tabs [(P, q)] H) : LamX.TabS H P q := t (P, q) (List.mem_cons_self ..)
end EB

namespace EB
open PySem PySem.Spec PyProof.Rows L2
section
variable {X : Cx} {C : Addr} {bmB : List Value} {B newId initId : String}
/-- X(e), a class of errors without an __init__ of its own -/
theorem pmk_ownE {x : Str} {e : Expr} {te : TE} {p pos : Pos} (F : ExcBaseFacts B newId initId bmB) (q : PySem.W.excIn X.K C bmB newId = true) (gC : X.mg x = some (.ref C)) (kC : PySem.W.keepIn X.K (.ref C) = true) (r : Raises X (.ref C)) (hg : Gl X x) (he : PE X e te)
    (na : starEach [e] X.env = (false, eval e X.env) :: starEach [] X.env := by rfl) (hdb : (x == ("__debug__" : Str)) = false := by decide) : PMk X (.Call (.Name x p) [e] [] pos) (fun σ H Q => te σ H fun v H1 => [v].length = 1 ∧ Q (.ref C) none H1) := by
  intro pins s σ H Q I h
  refine wpAny_Call_Name_kw (ld_glob I hg gC ?_ hdb)
  have ha : PA X [e] (tCons te tNil) := pa_cons he pa_nil na
  refine PySem.W.callWith_K (h₀ := X.base) (he := na) I.ok.mod.kin kC (thn (ha.run pos pins s σ H (fun vs H1 => vs.length = 1 ∧ Q (.ref C) none H1) I h) fun us s1 hh => ?_)
  obtain ⟨vs, H1, I1, r1, ev, h1⟩ := hh
  refine ⟨I1.kIn, ?_⟩
  match vs, us, r1, ev with
  | [v], [u], .cons ru rn, _ =>
    show wpAny _ _ (call (.ref C) [u]) _ _ _
    obtain ⟨bm, N, nm, qn, bs, hdct, sn, sub, ab, col, dd, k0, k1, k2, k3, k5, mN, hC, hN, hni, T⟩ := exc_obj I1.kIn q
    refine wpAny_call_exc_subT F T hC hN hni (fun h' e hm => ?_) (by show 1 ≤ sizeLine; rw [sizeLine_eq]; omega)
    exact mk_of I1 hm r h1 (I1.hok.gone hm.new)
end
section
variable {w : World} {K : PySem.W.Frag} {mg : Str → Option Value} {base : Heap} {P : Program}
theorem gss_never {X : Cx} {sts : List Stmt} : GSs X sts (fun _ _ _ _ => False) := ⟨fun _ _ _ _ _ _ _ _ _ _ _ _ _ _ _ _ _ _ _ _ _ h => h.elim⟩
/-- a def that may raise, called with its first values, the others filled up by its defaults -/
theorem fnRDX {d : DD} {fd : FuncData} {N ps : List Str} {k : Nat} {sp : Sp} (F : FnP K d fd) (S : FnScope N ps (defScope d.st)) (n j : Nat) (hd : d.df.map (He.Dv.v K) ≠ []) (hn : n + ((d.df.map (He.Dv.v K)).length - j) = ps.length)
    (b : ∀ (Tt : Addr) (kV doc pm : Value) (an : Option Addr) (cdv ct : Value) (us its : List Value), us.length = n → its.length = (d.df.map (He.Dv.v K)).length →
      ∃ k, bindArgs (PySem.W.fnOf d.nm d.ql (defArgs d.st) (defBody d.st) (defScope d.st) (.ref Tt) kV doc pm an cdv ct) ⟨us, []⟩ = seqItems? (.ref Tt) >>= k ∧ k (some its.toArray) = pure (ps.zip (us ++ its.drop j)))
    (len : ∀ vs H Q E, sp vs H Q E → vs.length = ps.length)
    (hbody : ∀ (cdv : Value) (A : Around) (outer : List Env) (s : Shared) (H : Hp) (vs : List V) (Q : VK) (E : XK), Room k (A.deeper (envOfC d.ql (defScope d.st) s.heap.objs.size (d.adr K) cdv)) → sp vs H Q E →
      ∃ t, PSs (cxOf (L2.CX P w) P w K mg base N d.ql (defScope d.st) (d.adr K) cdv A outer s H E) (defBody d.st) t ∧ t { nx := fun _ H' => Q .non H', rt := Q } (start N vs) H) :
    FnR P w K mg base (L2.CX P w) (k + 1) (d.adr K) (fun vs H Q E => sp (vs ++ (d.df.map (He.Dv.v K)).drop j) H Q E) := by
  have F1 : FnOk P w K mg base (L2.CX P w) (k + 1) (d.adr K) fd ps sp := FunD.ok F S len fun cdv A outer s H vs Q E hr h => hbody cdv A outer s H vs Q E hr h
  obtain ⟨ds, h1, h2⟩ := FunD.binds1 F n j hd hn b
  exact F1.raw h2 h1
end
section
variable {w : World} {K : PySem.W.Frag} {mg : Str → Option Value} {base : Heap} (T : Tx K mg)
include T
/-- the bounds that the program asks for -/
def bnds : List (Int × Int) := [(0, 1000000000000000000), (1, 1000000000000000000), (1, 2), (0, 1), (1, 1000000000000000001)]
def spChkX (K : PySem.W.Frag) : Sp := fun vs H Q E => ∃ i lo hi : Int, vs = [.int i, .int lo, .int hi] ∧ (lo, hi) ∈ bnds ∧ (numOk i lo hi = true → Q .non H) ∧ (numOk i lo hi = false → E (.ref (He.ga K "InvalidNumber")) none H)
theorem chk_body (hK : K.In base) (cdv : Value) (A : Around) (outer : List Env) (s : Shared) (H : Hp) (vs : List V) (Q : VK) (E : XK) (hr : Room 2 (A.deeper (envOfC d_check_number.ql (defScope d_check_number.st) s.heap.objs.size (d_check_number.adr K) cdv))) (h : spChkX K vs H Q E) :
    ∃ t, PSs (cxOf (L2.CX PX w) PX w K mg base N_check_number d_check_number.ql (defScope d_check_number.st) (d_check_number.adr K) cdv A outer s H E) (defBody d_check_number.st) t ∧ t { nx := fun _ H' => Q .non H', rt := Q } (start N_check_number vs) H := by
  obtain ⟨i, lo, hi, rfl, hm, h1, h2⟩ := h
  refine ⟨_, (pss_one (ps_if (pt_not (pt_val (pe_cR (ok_is_number T) (hr.mono (by decide)) T.F_is_number.kp T.g_is_number pass0 (pa_cons (pv 0) (pa_cons (pv 1) (pa_cons (pv 2) pa_nil)))))) (pss_one (ps_raise rfl (takes_of rfl rfl rfl rfl) (pmk_ownE PySem.F.excBase_ValueError T.x_InvalidNumber.own T.g_InvalidNumber T.x_InvalidNumber.keep (raises_own T.x_InvalidNumber.base T.x_InvalidNumber.ty) (by rfl) (pe_joined (.cons pe_str (.cons (pe_fmt (pv 1)) (.cons pe_str (.cons (pe_fmt (pv 2)) .nil)))))))) pss_nil)), ?_⟩
  refine ⟨_, rfl, _, rfl, _, rfl, i, lo, hi, rfl, _, rfl, ?_⟩
  cases hz : numOk i lo hi with
  | true => exact iteF (h1 hz)
  | false =>
    refine iteT ?_
    have h3 := h2 hz
    simp only [bnds, List.mem_cons, Prod.mk.injEq, List.not_mem_nil, or_false] at hm
    rcases hm with ⟨rfl, rfl⟩ | ⟨rfl, rfl⟩ | ⟨rfl, rfl⟩ | ⟨rfl, rfl⟩ | ⟨rfl, rfl⟩
    all_goals exact ⟨_, rfl, by decide +kernel, _, rfl, .inr ⟨_, rfl, by decide +kernel, _, rfl, by decide +kernel, _, rfl, by decide +kernel, _, rfl, .inr ⟨_, rfl, by decide +kernel, _, rfl, by decide +kernel, rfl, h3⟩⟩⟩
/-- check_number, with one, two or three arguments -/
def spChkA (K : PySem.W.Frag) : Sp := fun vs H Q E => ∃ i lo hi : Int, ((vs = [.int i] ∧ lo = 0 ∧ hi = 1000000000000000000) ∨ (vs = [.int i, .int lo] ∧ hi = 1000000000000000000) ∨ vs = [.int i, .int lo, .int hi]) ∧ (lo, hi) ∈ bnds ∧
  (numOk i lo hi = true → Q .non H) ∧ (numOk i lo hi = false → E (.ref (He.ga K "InvalidNumber")) none H)
theorem okX_check_number (hK : K.In base) : FnR PX w K mg base (L2.CX PX w) 3 (a_check_number K) (spChkA K) := by
  have len : ∀ vs H Q E, spChkX K vs H Q E → vs.length = ["value", "least", "most"].length := fun vs H Q E h => by
    obtain ⟨i, lo, hi, rfl, _⟩ := h
    rfl
  have F1 := fnRDX (w := w) (base := base) (d := d_check_number) (sp := spChkX K) (k := 2) (ps := ["value", "least", "most"]) T.F_check_number sc_check_number 1 0 (fun z => nomatch z) rfl (fun _ _ _ _ _ _ _ us its hl hi => match us, its, hl, hi with | [_], [_, _], _, _ => ⟨_, rfl, rfl⟩) len (chk_body T hK)
  have F2 := fnRDX (w := w) (base := base) (d := d_check_number) (sp := spChkX K) (k := 2) (ps := ["value", "least", "most"]) T.F_check_number sc_check_number 2 1 (fun z => nomatch z) rfl (fun _ _ _ _ _ _ _ us its hl hi => match us, its, hl, hi with | [_, _], [_, _], _, _ => ⟨_, rfl, rfl⟩) len (chk_body T hK)
  have F3 := fnRDX (w := w) (base := base) (d := d_check_number) (sp := spChkX K) (k := 2) (ps := ["value", "least", "most"]) T.F_check_number sc_check_number 3 2 (fun z => nomatch z) rfl (fun _ _ _ _ _ _ _ us its hl hi => match us, its, hl, hi with | [_, _, _], [_, _], _, _ => ⟨_, rfl, rfl⟩) len (chk_body T hK)
  refine (fnR_or (fnR_or F1 F2) F3).imp fun vs H Q E h => ?_
  obtain ⟨i, lo, hi, hv, hm, h1, h2⟩ := h
  rcases hv with ⟨rfl, rfl, rfl⟩ | ⟨rfl, rfl⟩ | rfl
  · exact .inl (.inl ⟨i, 0, 1000000000000000000, rfl, hm, h1, h2⟩)
  · exact .inl (.inr ⟨i, lo, 1000000000000000000, rfl, hm, h1, h2⟩)
  · exact .inr ⟨i, lo, hi, rfl, hm, h1, h2⟩
omit T in
theorem chk1 {K : PySem.W.Frag} {i : Int} {H : Hp} {Q : VK} {E : XK} (h1 : 0 ≤ i → i ≤ 1000000000000000000 → Q .non H) (h2 : ¬ (0 ≤ i ∧ i ≤ 1000000000000000000) → E (.ref (He.ga K "InvalidNumber")) none H) : spChkA K [.int i] H Q E :=
  ⟨i, 0, 1000000000000000000, .inl ⟨rfl, rfl, rfl⟩, by simp [bnds], fun z => h1 (numOk_iff.mp z).1 (numOk_iff.mp z).2, fun z => h2 fun y => by rw [numOk_iff.mpr y] at z; cases z⟩
omit T in
theorem chk2 {K : PySem.W.Frag} {i : Int} {H : Hp} {Q : VK} {E : XK} (h1 : 1 ≤ i → i ≤ 1000000000000000000 → Q .non H) (h2 : ¬ (1 ≤ i ∧ i ≤ 1000000000000000000) → E (.ref (He.ga K "InvalidNumber")) none H) : spChkA K [.int i, .int 1] H Q E :=
  ⟨i, 1, 1000000000000000000, .inr (.inl ⟨rfl, rfl⟩), by simp [bnds], fun z => h1 (numOk_iff.mp z).1 (numOk_iff.mp z).2, fun z => h2 fun y => by rw [numOk_iff.mpr y] at z; cases z⟩
omit T in
theorem chk3 {K : PySem.W.Frag} {i lo hi : Int} {H : Hp} {Q : VK} {E : XK} (hm : (lo, hi) ∈ bnds) (h1 : lo ≤ i → i ≤ hi → Q .non H) (h2 : ¬ (lo ≤ i ∧ i ≤ hi) → E (.ref (He.ga K "InvalidNumber")) none H) : spChkA K [.int i, .int lo, .int hi] H Q E :=
  ⟨i, lo, hi, .inr (.inr rfl), hm, fun z => h1 (numOk_iff.mp z).1 (numOk_iff.mp z).2, fun z => h2 fun y => by rw [numOk_iff.mpr y] at z; cases z⟩
/-- a number out of range, told by the first statement -/
def spFarX (K : PySem.W.Frag) : Sp := fun vs H _ E => ∃ (v : V) (n : Int), vs = [v, .int n] ∧ ¬ (0 ≤ n ∧ n ≤ 1000000000000000000) ∧ E (.ref (He.ga K "InvalidNumber")) none H
theorem okX_Offer_call (hK : K.In base) : FnR PX w K mg base (L2.CX PX w) 4 (a_Offer_call K) (spFarX K) := by
  refine fnRX (d := d_Offer_call) T.F_Offer_call sc_Offer_call rfl (fun _ _ _ _ _ _ us hl => match us, hl with | [_, _], _ => rfl) (fun vs H Q E h => ?_) (fun cdv A outer s H vs Q E hr h => ?_)
  · obtain ⟨v, n, rfl, _⟩ := h
    rfl
  obtain ⟨v, n, rfl, hn, k⟩ := h
  refine ⟨_, (pss_cons (ps_expr (pe_cR (okX_check_number T hK) (hr.mono (by decide)) T.F_check_number.kp T.g_check_number (passes_call (takes_of rfl rfl rfl rfl) (fun _ _ _ _ h => h)) (pa_cons (pv 1) pa_nil))) pss_never), ?_⟩
  refine ⟨_, rfl, ?_⟩
  dsimp only [tNil, tCons, tC]
  exact chk1 (fun a b => absurd ⟨a, b⟩ hn) fun _ => k
theorem okX_Offer_trades_made (hK : K.In base) : FnR PX w K mg base (L2.CX PX w) 4 (a_Offer_trades_made K) (spFarX K) := by
  refine fnRX (d := d_Offer_trades_made) T.F_Offer_trades_made sc_Offer_trades_made rfl (fun _ _ _ _ _ _ us hl => match us, hl with | [_, _], _ => rfl) (fun vs H Q E h => ?_) (fun cdv A outer s H vs Q E hr h => ?_)
  · obtain ⟨v, n, rfl, _⟩ := h
    rfl
  obtain ⟨v, n, rfl, hn, k⟩ := h
  refine ⟨_, (pss_cons (ps_expr (pe_cR (okX_check_number T hK) (hr.mono (by decide)) T.F_check_number.kp T.g_check_number (passes_call (takes_of rfl rfl rfl rfl) (fun _ _ _ _ h => h)) (pa_cons (pv 1) pa_nil))) pss_never), ?_⟩
  refine ⟨_, rfl, ?_⟩
  dsimp only [tNil, tCons, tC]
  exact chk1 (fun a b => absurd ⟨a, b⟩ hn) fun _ => k
theorem okX_Offer_left_over (hK : K.In base) : FnR PX w K mg base (L2.CX PX w) 4 (a_Offer_left_over K) (spFarX K) := by
  refine fnRX (d := d_Offer_left_over) T.F_Offer_left_over sc_Offer_left_over rfl (fun _ _ _ _ _ _ us hl => match us, hl with | [_, _], _ => rfl) (fun vs H Q E h => ?_) (fun cdv A outer s H vs Q E hr h => ?_)
  · obtain ⟨v, n, rfl, _⟩ := h
    rfl
  obtain ⟨v, n, rfl, hn, k⟩ := h
  refine ⟨_, (pss_cons (ps_expr (pe_cR (okX_check_number T hK) (hr.mono (by decide)) T.F_check_number.kp T.g_check_number (passes_call (takes_of rfl rfl rfl rfl) (fun _ _ _ _ h => h)) (pa_cons (pv 1) pa_nil))) pss_never), ?_⟩
  refine ⟨_, rfl, ?_⟩
  dsimp only [tNil, tCons, tC]
  exact chk1 (fun a b => absurd ⟨a, b⟩ hn) fun _ => k
theorem okX_Offer_credit (hK : K.In base) : FnR PX w K mg base (L2.CX PX w) 4 (a_Offer_credit K) (spFarX K) := by
  refine fnRX (d := d_Offer_credit) T.F_Offer_credit sc_Offer_credit rfl (fun _ _ _ _ _ _ us hl => match us, hl with | [_, _], _ => rfl) (fun vs H Q E h => ?_) (fun cdv A outer s H vs Q E hr h => ?_)
  · obtain ⟨v, n, rfl, _⟩ := h
    rfl
  obtain ⟨v, n, rfl, hn, k⟩ := h
  refine ⟨_, (pss_cons (ps_expr (pe_cR (okX_check_number T hK) (hr.mono (by decide)) T.F_check_number.kp T.g_check_number (passes_call (takes_of rfl rfl rfl rfl) (fun _ _ _ _ h => h)) (pa_cons (pv 1) pa_nil))) pss_never), ?_⟩
  refine ⟨_, rfl, ?_⟩
  dsimp only [tNil, tCons, tC]
  exact chk1 (fun a b => absurd ⟨a, b⟩ hn) fun _ => k
theorem okX_Offer_fewest_bottles (hK : K.In base) : FnR PX w K mg base (L2.CX PX w) 4 (a_Offer_fewest_bottles K) (spFarX K) := by
  refine fnRX (d := d_Offer_fewest_bottles) T.F_Offer_fewest_bottles sc_Offer_fewest_bottles rfl (fun _ _ _ _ _ _ us hl => match us, hl with | [_, _], _ => rfl) (fun vs H Q E h => ?_) (fun cdv A outer s H vs Q E hr h => ?_)
  · obtain ⟨v, n, rfl, _⟩ := h
    rfl
  obtain ⟨v, n, rfl, hn, k⟩ := h
  refine ⟨_, (pss_cons (ps_expr (pe_cR (okX_check_number T hK) (hr.mono (by decide)) T.F_check_number.kp T.g_check_number (passes_call (takes_of rfl rfl rfl rfl) (fun _ _ _ _ h => h)) (pa_cons (pv 1) pa_nil))) pss_never), ?_⟩
  refine ⟨_, rfl, ?_⟩
  dsimp only [tNil, tCons, tC]
  exact chk1 (fun a b => absurd ⟨a, b⟩ hn) fun _ => k
theorem okX_Offer_count_missing (hK : K.In base) : FnR PX w K mg base (L2.CX PX w) 4 (a_Offer_count_missing K) (spFarX K) := by
  refine fnRX (d := d_Offer_count_missing) T.F_Offer_count_missing sc_Offer_count_missing rfl (fun _ _ _ _ _ _ us hl => match us, hl with | [_, _], _ => rfl) (fun vs H Q E h => ?_) (fun cdv A outer s H vs Q E hr h => ?_)
  · obtain ⟨v, n, rfl, _⟩ := h
    rfl
  obtain ⟨v, n, rfl, hn, k⟩ := h
  refine ⟨_, (pss_cons (ps_expr (pe_cR (okX_check_number T hK) (hr.mono (by decide)) T.F_check_number.kp T.g_check_number (passes_call (takes_of rfl rfl rfl rfl) (fun _ _ _ _ h => h)) (pa_cons (pv 1) pa_nil))) pss_never), ?_⟩
  refine ⟨_, rfl, ?_⟩
  dsimp only [tNil, tCons, tC]
  exact chk1 (fun a b => absurd ⟨a, b⟩ hn) fun _ => k
def spNthX (K : PySem.W.Frag) : Sp := fun vs H _ E => ∃ (v : V) (n : Int), vs = [v, .int n] ∧ ¬ (1 ≤ n ∧ n ≤ 1000000000000000000) ∧ E (.ref (He.ga K "InvalidNumber")) none H
theorem okX_Offer_nth_missing (hK : K.In base) : FnR PX w K mg base (L2.CX PX w) 4 (a_Offer_nth_missing K) (spNthX K) := by
  refine fnRX (d := d_Offer_nth_missing) T.F_Offer_nth_missing sc_Offer_nth_missing rfl (fun _ _ _ _ _ _ us hl => match us, hl with | [_, _], _ => rfl) (fun vs H Q E h => ?_) (fun cdv A outer s H vs Q E hr h => ?_)
  · obtain ⟨v, n, rfl, _⟩ := h
    rfl
  obtain ⟨v, n, rfl, hn, k⟩ := h
  refine ⟨_, (pss_cons (ps_expr (pe_cR (okX_check_number T hK) (hr.mono (by decide)) T.F_check_number.kp T.g_check_number (passes_call (takes_of rfl rfl rfl rfl) (fun _ _ _ _ h => h)) (pa_cons (pv 1) (pa_cons pe_int pa_nil)))) pss_never), ?_⟩
  refine ⟨_, rfl, ?_⟩
  dsimp only [tNil, tCons, tC]
  exact chk2 (fun a b => absurd ⟨a, b⟩ hn) fun _ => k
/-- pooled: one of one or two numbers out of range, or their sum -/
def spPoolX (K : PySem.W.Frag) : Sp := fun vs H _ E => ∃ (v : V) (p : Addr) (ns : List Int), vs = [v, .ref p] ∧ SqT K H p (ns.map V.int) ∧ ns.length ≤ 2 ∧ ¬ ((∀ n ∈ ns, 0 ≤ n ∧ n ≤ 1000000000000000000) ∧ ns.sum ≤ 1000000000000000000) ∧ E (.ref (He.ga K "InvalidNumber")) none H
theorem okX_Offer_pooled (hK : K.In base) : FnR PX w K mg base (L2.CX PX w) 4 (a_Offer_pooled K) (fun vs H Q E => ∃ ws rest, vs = ws ++ rest ∧ ws.length = 1 ∧ rest.length ≤ sizeLine ∧ ∀ p, H p = none → spPoolX K (ws ++ [V.ref p]) (upd H p (.tup rest)) Q E) := by
  refine fnRSX (d := d_Offer_pooled) (ps := ["self"]) T.F_Offer_pooled sc_Offer_pooled rfl (fun kV doc pm an cdv ct => StX.bind_star1 (B := fun us => bindArgs (PySem.W.fnOf d_Offer_pooled.nm d_Offer_pooled.ql (defArgs d_Offer_pooled.st) (defBody d_Offer_pooled.st) (defScope d_Offer_pooled.st) .none kV doc pm an cdv ct) ⟨us, []⟩) (fun _ => rfl) (fun _ _ _ => rfl)) (fun cdv A outer s H vs Q E hr h => ?_)
  obtain ⟨v, p, ns, rfl, hp, hl, hn, k⟩ := h
  refine ⟨_, (pss_cons (ps_for (passes_of rfl) rfl (pi_tup (pv 1)) (pg_name (i := 2) sc_Offer_pooled.nd rfl (Or.inl rfl)) (pss_one (ps_expr (pe_cR (okX_check_number T hK) (hr.mono (by decide)) T.F_check_number.kp T.g_check_number (passes_call (takes_of rfl rfl rfl rfl) (fun _ _ _ _ h => h)) (pa_cons (pv 2) pa_nil))))) (pss_cons (ps_expr (pe_cR (okX_check_number T hK) (hr.mono (by decide)) T.F_check_number.kp T.g_check_number (passes_call (takes_of rfl rfl rfl rfl) (fun _ _ _ _ h => h)) (pa_cons (pe_callB (cr_sumT rfl) (by rfl) T.n_sum (by decide +kernel) (pa_cons (pv 1) pa_nil)) pa_nil))) pss_never)), ?_⟩
  refine ⟨_, rfl, p, rfl, ⟨_, hp⟩, for_tup (xs := ns.map V.int) (fun i σ H1 => H1 = H ∧ (∀ n ∈ ns.take i, 0 ≤ n ∧ n ≤ 1000000000000000000) ∧ ∃ x2, σ = [some v, some (.ref p), x2]) ⟨rfl, (fun n m => by rw [List.take_zero] at m; cases m), _, rfl⟩ (fun i σ H1 _ q => by rw [q.1]; exact hp) ?_ ?_⟩
  · rintro i x σ H1 hx ⟨rfl, hi, x2, rfl⟩
    rw [List.getElem?_map] at hx
    cases hz : ns[i]? with
    | none =>
      rw [hz] at hx
      cases hx
    | some n =>
      rw [hz] at hx
      cases hx
      refine ⟨_, rfl, ?_⟩
      dsimp only [tNil, tCons, tC]
      refine chk1 (fun a b => ⟨rfl, fun m hm => ?_, _, rfl⟩) fun _ => k
      rw [take_at hz, List.mem_append, List.mem_singleton] at hm
      rcases hm with hm | rfl
      · exact hi m hm
      · exact ⟨a, b⟩
  · rintro σ H1 ⟨rfl, hi, x2, rfl⟩
    rw [List.length_map, List.take_length] at hi
    have hs : ¬ (0 ≤ ns.sum ∧ ns.sum ≤ 1000000000000000000) := fun z => hn ⟨hi, z.2⟩
    refine ⟨_, rfl, p, ns, rfl, hp, ?_⟩
    dsimp only [tNil, tCons, tC]
    exact chk1 (fun a b => absurd ⟨a, b⟩ hs) fun _ => k
end
end EB

namespace EB
open PySem PySem.Spec PyProof.Rows L2
section
variable {P : Program} {w : World} {K : PySem.W.Frag} {mg : Str → Option Value} {base : Heap} (T : Tx K mg)
include T
theorem b_Offer_steady_from : Binds K T.fd_Offer_steady_from ["self"] [] := bnd0 T.F_Offer_steady_from sc_Offer_steady_from rfl (fun _ _ _ _ _ _ us hl => match us, hl with | [_], _ => rfl)
def spSteady (K : PySem.W.Frag) : Sp := fun vs H Q _ => ∃ (a : Addr) (ts : List Tr), vs = [.ref a] ∧ OfAt K H a ts ∧ Fair ts ∧ Q (.int (EB.T (cN ts) (per ts - 1) + 1 - perB ts)) H
theorem ok_Offer_steady_from : FnOk P w K mg base CX0 1 (a_Offer_steady_from K) T.fd_Offer_steady_from ["self"] (spSteady K) := by
  refine fnK0 (d := d_Offer_steady_from) T.F_Offer_steady_from sc_Offer_steady_from (fun vs H Q E h => ?_) (fun cdv A outer s H vs Q E hr h => ?_)
  · obtain ⟨a, ts, rfl, _⟩ := h
    rfl
  obtain ⟨a, ts, rfl, ho, hf, k⟩ := h
  obtain ⟨dx, t, p, o, f, g, e1, e2, e3, e4, e5, e6⟩ := ho.ex
  refine ⟨_, (pss_cons (ps_asg (pe_fld (pv 0) rfl) (pg_tup rfl (pgs_cons (pg_name (i := 1) sc_Offer_steady_from.nd rfl (Or.inl rfl)) (pgs_cons (pg_name (i := 2) sc_Offer_steady_from.nd rfl (Or.inl rfl)) pgs_nil)))) (pss_one (ps_ret (pe_op op_sub (pe_op op_add (pe_ix ix_list (pe_fld (pv 0) rfl) (pe_op op_sub (pv 2) pe_int) (fun _ _ => rfl)) pe_int) (pv 1))))), ?_⟩
  have hp := per_pos hf.g
  refine ⟨_, rfl, a, _, dx, _, _, rfl, e1, T.k_Offer, T.na_period, lk_period, p, _, rfl, e3, rfl, _, _, rfl, _, _, rfl, rfl, ?_⟩
  refine ⟨_, rfl, a, _, dx, _, _, rfl, e1, T.k_Offer, T.na_tops, lk_tops, _, rfl, _, _, rfl, rfl, o, _, _, _, rfl, rfl, e4, ?_, _, _, rfl, rfl, _, rfl, _, _, rfl, rfl, k⟩
  refine at_of (j := per ts - 1) (by omega) ?_
  rw [List.getElem?_map, List.getElem?_map, List.getElem?_range (by omega)]
  rfl
end
end EB

namespace EB
open PySem PySem.Spec PyProof.Rows L2
/-! Numbers that are still possible. -/
def cfs (s : Int) (e : Addr) (p : Int) (o : Addr) : List (Str × V) := [("_start", .int s), ("_early", .ref e), ("_span", .int p), ("_offsets", .ref o)]
structure CandAt (K : PySem.W.Frag) (H : Hp) (c : Addr) (s : Int) (early : List Int) (p : Int) (offs : List Int) : Prop where
  ex : ∃ dx e o, H c = some (.ins (He.ga K "Candidates") dx (cfs s e p o)) ∧ SqL K H e (early.map V.int) ∧ SqL K H o (offs.map V.int)
theorem CandAt.mono {K : PySem.W.Frag} {H H' : Hp} {c : Addr} {s p : Int} {early offs : List Int} (q : Same H H') (h : CandAt K H c s early p offs) : CandAt K H' c s early p offs := by
  obtain ⟨dx, e, o, h1, h2, h3⟩ := h.ex
  exact ⟨dx, e, o, q _ _ h1, q.seq h2, q.seq h3⟩
theorem lk_start {s p : Int} {e o : Addr} : (cfs s e p o).lookup ("_start" : Str) = some (.int s) := lkY
theorem lk_early {s p : Int} {e o : Addr} : (cfs s e p o).lookup ("_early" : Str) = some (.ref e) := by
  unfold cfs
  rw [lkN (by decide +kernel), lkY]
theorem lk_span {s p : Int} {e o : Addr} : (cfs s e p o).lookup ("_span" : Str) = some (.int p) := by
  unfold cfs
  rw [lkN (by decide +kernel), lkN (by decide +kernel), lkY]
theorem lk_offsets {s p : Int} {e o : Addr} : (cfs s e p o).lookup ("_offsets" : Str) = some (.ref o) := by
  unfold cfs
  rw [lkN (by decide +kernel), lkN (by decide +kernel), lkN (by decide +kernel), lkY]
theorem lk_noc {s p : Int} {e o : Addr} {m : Str} (h : ((m == "_start") || ((m == "_early") || ((m == "_span") || (m == "_offsets")))) = false) : (cfs s e p o).lookup m = none := by
  obtain ⟨h1, h⟩ := Bool.or_eq_false_iff.mp h
  obtain ⟨h2, h⟩ := Bool.or_eq_false_iff.mp h
  obtain ⟨h3, h4⟩ := Bool.or_eq_false_iff.mp h
  unfold cfs
  rw [lkN h1, lkN h2, lkN h3, lkN h4]
  rfl
theorem putc1 {a : V} : putF "_start" a [] = ([("_start", a)] : List (Str × V)) := rfl
theorem putc2 {a b : V} : putF "_early" b ([("_start", a)] : List (Str × V)) = ([("_start", a), ("_early", b)] : List (Str × V)) := by
  rw [putF_ne (by decide +kernel)]
  rfl
theorem putc3 {a b c : V} : putF "_span" c ([("_start", a), ("_early", b)] : List (Str × V)) = ([("_start", a), ("_early", b), ("_span", c)] : List (Str × V)) := by
  rw [putF_ne (by decide +kernel), putF_ne (by decide +kernel)]
  rfl
theorem putc4 {a b c d : V} : putF "_offsets" d ([("_start", a), ("_early", b), ("_span", c)] : List (Str × V)) = ([("_start", a), ("_early", b), ("_span", c), ("_offsets", d)] : List (Str × V)) := by
  rw [putF_ne (by decide +kernel), putF_ne (by decide +kernel), putF_ne (by decide +kernel)]
  rfl
/-- so many of them are not greater than the last number -/
def candMany (s : Int) (early : List Int) (p : Int) (offs : List Int) (last : Int) : Int :=
  if last < s then ((early.filter fun n => decide (n ≤ last)).length : Int) else ((early.filter fun n => decide (n ≤ last)).length : Int) + (last - s) / p * offs.length + ((offs.filter fun o => decide (o ≤ (last - s) % p)).length : Int)
/-- what is at a place, none if there is nothing -/
def candV (s : Int) (early : List Int) (p : Int) (offs : List Int) (place : Int) : V :=
  if place < early.length then .int (early.getD place.toNat 0) else if offs = [] then .non else .int (s + (place - early.length) / offs.length * p + offs.getD ((place - early.length) % offs.length).toNat 0)
section
variable {P : Program} {w : World} {K : PySem.W.Frag} {mg : Str → Option Value} {base : Heap} (T : Tx K mg)
include T
def spCandI (K : PySem.W.Frag) : Sp := fun vs H Q _ => ∃ (x : Addr) (s p : Int) (e o dx : Addr), vs = [.ref x, .int s, .ref e, .int p, .ref o] ∧ H x = some (.ins (He.ga K "Candidates") dx []) ∧ Q .non (upd H x (.ins (He.ga K "Candidates") dx (cfs s e p o)))
theorem ok_Candidates_init : FnR P w K mg base CX0 1 (a_Candidates_init K) (spCandI K) := by
  refine fnR0 (d := d_Candidates_init) T.F_Candidates_init sc_Candidates_init rfl (fun _ _ _ _ _ _ us hl => match us, hl with | [_, _, _, _, _], _ => rfl) (fun vs H Q E h => ?_) (fun cdv A outer s H vs Q E hr h => ?_)
  · obtain ⟨x, s, p, e, o, dx, rfl, _⟩ := h
    rfl
  obtain ⟨x, s, p, e, o, dx, rfl, hx, k⟩ := h
  refine ⟨_, (pss_cons (ps_fld (pv 0) (pv 1) rfl) (pss_cons (ps_fld (pv 0) (pv 2) rfl) (pss_cons (ps_fld (pv 0) (pv 3) rfl) (pss_one (ps_fld (pv 0) (pv 4) rfl))))), ?_⟩
  refine ⟨_, rfl, _, rfl, x, _, dx, [], rfl, hx, T.k_Candidates, T.na_start, by show 0 < 1000; decide, ?_⟩
  rw [putc1]
  refine ⟨_, rfl, _, rfl, x, _, dx, _, rfl, upd_same, T.k_Candidates, T.na_early, by show 1 < 1000; decide, ?_⟩
  rw [putc2, upd_upd]
  refine ⟨_, rfl, _, rfl, x, _, dx, _, rfl, upd_same, T.k_Candidates, T.na_span, by show 2 < 1000; decide, ?_⟩
  rw [putc3, upd_upd]
  refine ⟨_, rfl, _, rfl, x, _, dx, _, rfl, upd_same, T.k_Candidates, T.na_offsets, by show 3 < 1000; decide, ?_⟩
  rw [putc4, upd_upd]
  exact k
def spMany (K : PySem.W.Frag) : Sp := fun vs H Q _ => ∃ (c : Addr) (s p last : Int) (early offs : List Int), vs = [.ref c, .int last] ∧ CandAt K H c s early p offs ∧ early.length ≤ 10000000 ∧ offs.length ≤ 10000000 ∧ 0 ≤ s ∧ 0 < p ∧ p < 1073741824 ∧ 0 ≤ last ∧ last ≤ 1000000000000000000 ∧
  ∀ H', Same H H' → Q (.int (candMany s early p offs last)) H'
theorem ok_Candidates_many_within : FnR P w K mg base CX0 1 (a_Candidates_many_within K) (spMany K) := by
  refine fnR0 (d := d_Candidates_many_within) T.F_Candidates_many_within sc_Candidates_many_within rfl (fun _ _ _ _ _ _ us hl => match us, hl with | [_, _], _ => rfl) (fun vs H Q E h => ?_) (fun cdv A outer s H vs Q E hr h => ?_)
  · obtain ⟨c, s, p, last, early, offs, rfl, _⟩ := h
    rfl
  obtain ⟨c, s, p, last, early, offs, rfl, hc, le, lo, hs0, hp0, hp1, hl0, hl1, k⟩ := h
  obtain ⟨dx, e, o, h1, h2, h3⟩ := hc.ex
  have hz : ∀ n : Nat, n ≤ 10000000 → n < sizeLine := fun n h => Nat.lt_of_le_of_lt h (by decide)
  refine ⟨_, (pss_cons (ps_set (i := 2) sc_Candidates_many_within.nd rfl (Or.inl rfl) (pe_callB call_len_seq (by rfl) T.n_len PySem.boot_len (pa_cons (pe_lc (own := [("number", 5)]) rfl sc_Candidates_many_within.nd (pi_list (pe_fld (pv 0) rfl)) (blkOk_by (own := [("number", 5)]) (N := N_Candidates_many_within) (sc := defScope s_Candidates_many_within) (by decide +kernel)) (fun _ _ _ _ _ => (pg_name (i := 5) sc_Candidates_many_within.nd rfl (Or.inl rfl) (.inr rfl))) (fun _ _ _ _ _ => (pts_one (pt_cmpR op_le (pv 5) (pv 1) (nomark _)))) (fun _ _ _ _ _ => (pv 5))) pa_nil))) (pss_cons (ps_if (pt_cmpR op_lt (pv 1) (pe_fld (pv 0) rfl) (nomark _)) (pss_one (ps_ret (pv 2))) pss_nil) (pss_cons (ps_asg (pe_callB call_divmod (by rfl) T.n_divmod (by decide +kernel) (pa_cons (pe_op op_sub (pv 1) (pe_fld (pv 0) rfl)) (pa_cons (pe_fld (pv 0) rfl) pa_nil))) (pg_tup rfl (pgs_cons (pg_name (i := 3) sc_Candidates_many_within.nd rfl (Or.inl rfl)) (pgs_cons (pg_name (i := 4) sc_Candidates_many_within.nd rfl (Or.inr rfl)) pgs_nil)))) (pss_one (ps_ret (pe_op op_add (pe_op op_add (pv 2) (pe_op op_mul (pv 3) (pe_callB call_len_seq (by rfl) T.n_len PySem.boot_len (pa_cons (pe_fld (pv 0) rfl) pa_nil)))) (pe_callB call_len_seq (by rfl) T.n_len PySem.boot_len (pa_cons (pe_lc (own := [("offset", 6)]) rfl sc_Candidates_many_within.nd (pi_list (pe_fld (pv 0) rfl)) (blkOk_by (own := [("offset", 6)]) (N := N_Candidates_many_within) (sc := defScope s_Candidates_many_within) (by decide +kernel)) (fun _ _ _ _ _ => (pg_name (i := 6) sc_Candidates_many_within.nd rfl (Or.inl rfl) (.inr rfl))) (fun _ _ _ _ _ => (pts_one (pt_cmpR op_le (pv 6) (pv 4) (nomark _)))) (fun _ _ _ _ _ => (pv 6))) pa_nil)))))))), ?_⟩
  refine ⟨_, rfl, c, _, dx, _, _, rfl, h1, T.k_Candidates, T.na_early, lk_early, e, rfl, ⟨_, h2⟩, fun D hD => ?_⟩
  refine lc_list (xs := early.map V.int) (fun i H1 => Same H H1 ∧ H1 D = some (.lst (((early.take i).filter fun n => decide (n ≤ last)).map V.int))) ⟨same_new hD, upd_same⟩ (fun i H1 _ q => q.1.seq h2) ?_ ?_
  · rintro i x H1 hx ⟨s1, e1⟩
    obtain ⟨n, en, rfl⟩ := int_at hx
    refine ⟨rfl, _, rfl, _, rfl, _, _, rfl, rfl, _, rfl, ite2 (fun hd => ?_) (fun hd => ?_)⟩
    · refine ⟨_, rfl, _, e1, hz _ ?_, same_mut s1 hD, ?_⟩
      · rw [List.length_map]
        exact Nat.le_trans (List.length_filter_le _ _) (Nat.le_trans (List.length_take_le _ _) (by have := lt_of_at en; omega))
      · rw [upd_same, take_at en, List.filter_append, List.filter_cons, if_pos hd, List.filter_nil, List.map_append]
        rfl
    · refine ⟨s1, ?_⟩
      rw [take_at en, List.filter_append, List.filter_cons, if_neg hd, List.filter_nil, List.append_nil]
      exact e1
  rintro H1 ⟨s1, e1⟩
  rw [List.length_map, List.take_length] at e1
  have hm : ((early.filter fun n => decide (n ≤ last)).length : Int) ≤ 10000000 := by
    have := List.length_filter_le (fun n => decide (n ≤ last)) early
    omega
  refine ⟨D, _, rfl, .inl (SqL.of e1), ?_⟩
  rw [List.length_map]
  have hm0 : candMany s early p offs last = if last < s then ((early.filter fun n => decide (n ≤ last)).length : Int) else ((early.filter fun n => decide (n ≤ last)).length : Int) + (last - s) / p * offs.length + ((offs.filter fun o => decide (o ≤ (last - s) % p)).length : Int) := rfl
  generalize ((early.filter fun n => decide (n ≤ last)).length : Int) = many at hm hm0
  refine ⟨_, rfl, _, rfl, c, _, dx, _, _, rfl, s1 _ _ h1, T.k_Candidates, T.na_start, lk_start, _, _, rfl, rfl, _, rfl, ite2 (fun hd => ?_) (fun hd => ?_)⟩
  · have hd : last < s := of_decide_eq_true hd
    rw [if_pos hd] at hm0
    refine ⟨_, rfl, ?_⟩
    rw [← hm0]
    exact k _ s1
  have hd : ¬ last < s := fun z => hd (decide_eq_true z)
  rw [if_neg hd] at hm0
  refine ⟨_, rfl, _, rfl, c, _, dx, _, _, rfl, s1 _ _ h1, T.k_Candidates, T.na_start, lk_start, _, _, rfl, rfl, ?_⟩
  refine ⟨_, rfl, c, _, dx, _, _, rfl, s1 _ _ h1, T.k_Candidates, T.na_span, lk_span, _, _, rfl, ⟨hp0, hp1⟩, fun q hq => ⟨q, _, rfl, SqT.of upd_same, rfl, _, _, rfl, _, _, rfl, rfl, ?_⟩⟩
  have s2 := s1.trans (same_new (u := .tup [.int ((last - s) / p), .int ((last - s) % p)]) hq)
  generalize upd H1 q (.tup [.int ((last - s) / p), .int ((last - s) % p)]) = H2 at s2
  have hlo : (offs.length : Int) ≤ 10000000 := by omega
  refine ⟨_, rfl, _, rfl, _, rfl, c, _, dx, _, _, rfl, s2 _ _ h1, T.k_Candidates, T.na_offsets, lk_offsets, o, _, rfl, .inl (s2.seq h3), _, _, rfl, rfl, .inr ⟨?_, ?_⟩, _, _, rfl, rfl, ?_⟩
  · rw [List.length_map]
    omega
  · rw [List.length_map]
    omega
  rw [List.length_map]
  refine ⟨_, rfl, c, _, dx, _, _, rfl, s2 _ _ h1, T.k_Candidates, T.na_offsets, lk_offsets, o, rfl, ⟨_, s2.seq h3⟩, fun D2 hD2 => ?_⟩
  refine lc_list (xs := offs.map V.int) (fun i H3 => Same H2 H3 ∧ H3 D2 = some (.lst (((offs.take i).filter fun n => decide (n ≤ (last - s) % p)).map V.int))) ⟨same_new hD2, upd_same⟩ (fun i H3 _ q => (s2.trans q.1).seq h3) ?_ ?_
  · rintro i x H3 hx ⟨s3, e3⟩
    obtain ⟨n, en, rfl⟩ := int_at hx
    refine ⟨rfl, _, rfl, _, rfl, _, _, rfl, rfl, _, rfl, ite2 (fun hd => ?_) (fun hd => ?_)⟩
    · refine ⟨_, rfl, _, e3, hz _ ?_, same_mut s3 hD2, ?_⟩
      · rw [List.length_map]
        exact Nat.le_trans (List.length_filter_le _ _) (Nat.le_trans (List.length_take_le _ _) (by have := lt_of_at en; omega))
      · rw [upd_same, take_at en, List.filter_append, List.filter_cons, if_pos hd, List.filter_nil, List.map_append]
        rfl
    · refine ⟨s3, ?_⟩
      rw [take_at en, List.filter_append, List.filter_cons, if_neg hd, List.filter_nil, List.append_nil]
      exact e3
  rintro H3 ⟨s3, e3⟩
  rw [List.length_map, List.take_length] at e3
  refine ⟨D2, _, rfl, .inl (SqL.of e3), _, _, rfl, rfl, ?_⟩
  rw [List.length_map]
  have k1 := k _ (s2.trans s3)
  rw [hm0] at k1
  exact k1
def spCandP (K : PySem.W.Frag) : Sp := fun vs H Q _ => ∃ (c : Addr) (s p place : Int) (early offs : List Int), vs = [.ref c, .int place] ∧ CandAt K H c s early p offs ∧ early.length ≤ 10000000 ∧ offs.length ≤ 10000000 ∧ 0 ≤ p ∧ p < 1073741824 ∧ 0 ≤ place ∧ place ≤ 1000000000000000000 ∧
  ∀ H', Same H H' → Q (candV s early p offs place) H'
theorem ok_Candidates_candidate : FnR P w K mg base CX0 1 (a_Candidates_candidate K) (spCandP K) := by
  refine fnR0 (d := d_Candidates_candidate) T.F_Candidates_candidate sc_Candidates_candidate rfl (fun _ _ _ _ _ _ us hl => match us, hl with | [_, _], _ => rfl) (fun vs H Q E h => ?_) (fun cdv A outer s H vs Q E hr h => ?_)
  · obtain ⟨c, s, p, place, early, offs, rfl, _⟩ := h
    rfl
  obtain ⟨c, s, p, place, early, offs, rfl, hc, le, lo, hp0, hp1, hl0, hl1, k⟩ := h
  obtain ⟨dx, e, o, h1, h2, h3⟩ := hc.ex
  have k0 := k
  unfold candV at k0
  refine ⟨_, (pss_cons (ps_if (pt_cmpR op_lt (pv 1) (pe_callB call_len_seq (by rfl) T.n_len PySem.boot_len (pa_cons (pe_fld (pv 0) rfl) pa_nil)) (nomark _)) (pss_one (ps_ret (pe_ix ix_list (pe_fld (pv 0) rfl) (pv 1) (fun _ _ => rfl)))) pss_nil) (pss_cons (ps_if (pt_not (pt_truth (pe_fld (pv 0) rfl) (by intro _; rfl))) (pss_one (ps_ret pe_non)) pss_nil) (pss_cons (ps_asg (pe_callB call_divmod (by rfl) T.n_divmod (by decide +kernel) (pa_cons (pe_op op_sub (pv 1) (pe_callB call_len_seq (by rfl) T.n_len PySem.boot_len (pa_cons (pe_fld (pv 0) rfl) pa_nil))) (pa_cons (pe_callB call_len_seq (by rfl) T.n_len PySem.boot_len (pa_cons (pe_fld (pv 0) rfl) pa_nil)) pa_nil))) (pg_tup rfl (pgs_cons (pg_name (i := 2) sc_Candidates_candidate.nd rfl (Or.inl rfl)) (pgs_cons (pg_name (i := 3) sc_Candidates_candidate.nd rfl (Or.inl rfl)) pgs_nil)))) (pss_one (ps_ret (pe_op op_add (pe_op op_add (pe_fld (pv 0) rfl) (pe_op op_mul (pv 2) (pe_fld (pv 0) rfl))) (pe_ix ix_list (pe_fld (pv 0) rfl) (pv 3) (fun _ _ => rfl)))))))), ?_⟩
  refine ⟨_, rfl, _, rfl, c, _, dx, _, _, rfl, h1, T.k_Candidates, T.na_early, lk_early, e, _, rfl, .inl h2, _, _, rfl, rfl, _, rfl, ?_⟩
  rw [List.length_map]
  refine ite2 (fun hd => ?_) (fun hd => ?_)
  · have hd : place < early.length := of_decide_eq_true hd
    rw [if_pos hd] at k0
    refine ⟨_, rfl, c, _, dx, _, _, rfl, h1, T.k_Candidates, T.na_early, lk_early, _, rfl, e, _, _, _, rfl, rfl, h2, ?_, k0 H (Same.refl _)⟩
    refine at_of (j := place.toNat) (by omega) ?_
    rw [List.getElem?_map, List.getElem?_eq_getElem (by omega), List.getD_eq_getElem?_getD, List.getElem?_eq_getElem (by omega)]
    rfl
  have hd : ¬ place < early.length := fun z => hd (decide_eq_true z)
  rw [if_neg hd] at k0
  refine ⟨_, rfl, c, _, dx, _, _, rfl, h1, T.k_Candidates, T.na_offsets, lk_offsets, _, .inl ⟨_, h3, rfl⟩, ?_⟩
  by_cases z : offs = []
  · rw [if_pos z] at k0
    rw [z]
    exact iteT (k0 H (Same.refl _))
  rw [if_neg z] at k0
  have hl : 0 < offs.length := List.length_pos_iff.mpr z
  have e1 : (offs.map V.int).isEmpty = false := by
    cases offs with
    | nil => exact absurd rfl z
    | cons _ _ => rfl
  rw [e1]
  refine iteF ?_
  refine ⟨_, rfl, _, rfl, c, _, dx, _, _, rfl, h1, T.k_Candidates, T.na_early, lk_early, e, _, rfl, .inl h2, _, _, rfl, rfl, ?_⟩
  rw [List.length_map]
  refine ⟨_, rfl, c, _, dx, _, _, rfl, h1, T.k_Candidates, T.na_offsets, lk_offsets, o, _, rfl, .inl h3, ?_⟩
  rw [List.length_map]
  refine ⟨_, _, rfl, ⟨by omega, by omega⟩, fun q hq => ⟨q, _, rfl, SqT.of upd_same, rfl, _, _, rfl, _, _, rfl, rfl, ?_⟩⟩
  have s2 := same_new (u := .tup [.int ((place - early.length) / offs.length), .int ((place - early.length) % offs.length)]) hq
  generalize upd H q (.tup [.int ((place - early.length) / offs.length), .int ((place - early.length) % offs.length)]) = H2 at s2
  refine ⟨_, rfl, c, _, dx, _, _, rfl, s2 _ _ h1, T.k_Candidates, T.na_start, lk_start, _, rfl, _, rfl, c, _, dx, _, _, rfl, s2 _ _ h1, T.k_Candidates, T.na_span, lk_span, _, _, rfl, rfl, .inr ⟨by omega, by omega⟩, _, _, rfl, rfl, ?_⟩
  have r0 := Int.emod_nonneg (place - early.length) (show (offs.length : Int) ≠ 0 by omega)
  have r1 := Int.emod_lt_of_pos (place - early.length) (show (0 : Int) < offs.length by omega)
  refine ⟨_, rfl, c, _, dx, _, _, rfl, s2 _ _ h1, T.k_Candidates, T.na_offsets, lk_offsets, _, rfl, o, _, _, _, rfl, rfl, s2.seq h3, ?_, _, _, rfl, rfl, k0 H2 s2⟩
  refine at_of (j := ((place - early.length) % offs.length).toNat) (by omega) ?_
  rw [List.getElem?_map, List.getElem?_eq_getElem (by omega), List.getD_eq_getElem?_getD, List.getElem?_eq_getElem (by omega)]
  rfl
end
end EB

namespace EB
/-! ### two offers -/
noncomputable def slk (c1 c2 : Nat → Int) (n : Nat) : Int := T c1 (D c2 n) - n
def spanN (P1 P2 B2 : Nat) : Nat := Nat.lcm P1 P2 / P2 * B2
def fallI (P1 B1 P2 B2 : Nat) : Int := (spanN P1 P2 B2 : Nat) - (Nat.lcm P1 P2 / P1 * B1 : Nat)
namespace CF
variable {c1 c2 : Nat → Int} {P1 B1 P2 B2 : Nat}
theorem slk_iff (h1 : CF c1 P1 B1) (n : Nat) : 0 ≤ slk c1 c2 n ↔ D c1 n ≤ D c2 n := by
  unfold slk
  rw [h1.D_le_iff]
  omega
theorem T_le {c : Nat → Int} {P B : Nat} (h : CF c P B) (d : Nat) : T c d ≤ d := by
  obtain ⟨j, hj, e⟩ := CF.T_at c d
  have := h.le_self j
  omega
theorem lcm_a (h1 : CF c1 P1 B1) : Nat.lcm P1 P2 / P1 * P1 = Nat.lcm P1 P2 := Nat.div_mul_cancel (Nat.dvd_lcm_left ..)
theorem lcm_b (h1 : CF c1 P1 B1) : Nat.lcm P1 P2 / P2 * P2 = Nat.lcm P1 P2 := Nat.div_mul_cancel (Nat.dvd_lcm_right ..)
theorem span_pos (h1 : CF c1 P1 B1) (h2 : CF c2 P2 B2) : 0 < spanN P1 P2 B2 := by
  have h3 := Nat.lcm_pos h1.ppos h2.ppos
  have h4 := h1.lcm_b (P2 := P2)
  unfold spanN
  apply Nat.mul_pos _ h2.bpos
  rcases Nat.eq_zero_or_pos (Nat.lcm P1 P2 / P2) with z | z
  · rw [z, Nat.zero_mul] at h4
    omega
  · exact z
theorem span_le (h1 : CF c1 P1 B1) (hb : B2 ≤ P2) : spanN P1 P2 B2 ≤ P1 * P2 := by
  have h4 := h1.lcm_b (P2 := P2)
  have h5 : Nat.lcm P1 P2 ≤ P1 * P2 := Nat.div_le_self _ _
  have h6 := Nat.mul_le_mul_left (Nat.lcm P1 P2 / P2) hb
  unfold spanN
  omega
/-- drinks of the second one repeat by the span -/
theorem D_span2 (h1 : CF c1 P1 B1) (h2 : CF c2 P2 B2) {n : Nat} (hn : P2 ≤ n) : D c2 (n + spanN P1 P2 B2) = D c2 n + Nat.lcm P1 P2 := by
  have h3 := h2.T_le (P2 - 1)
  have h4 := h2.D_perk (n := n) (by have := h2.ppos; omega) (Nat.lcm P1 P2 / P2)
  rw [h1.lcm_b] at h4
  exact h4
/-- drinks of the first one repeat by its span -/
theorem D_span1 (h1 : CF c1 P1 B1) (h2 : CF c2 P2 B2) {n : Nat} (hn : P1 ≤ n) : D c1 (n + Nat.lcm P1 P2 / P1 * B1) = D c1 n + Nat.lcm P1 P2 := by
  have h3 := h1.T_le (P1 - 1)
  have h4 := h1.D_perk (n := n) (by have := h1.ppos; omega) (Nat.lcm P1 P2 / P1)
  rw [h1.lcm_a] at h4
  exact h4
theorem slk_per (h1 : CF c1 P1 B1) (h2 : CF c2 P2 B2) {n : Nat} (hn : P1 + P2 ≤ n) : slk c1 c2 (n + spanN P1 P2 B2) = slk c1 c2 n - fallI P1 B1 P2 B2 := by
  have h3 := h1.D_span2 h2 (n := n) (by omega)
  have h4 := h2.D_ge n
  have h5 := h1.T_perk (d := D c2 n) (by omega) (Nat.lcm P1 P2 / P1)
  rw [h1.lcm_a] at h5
  unfold slk fallI
  rw [h3, h5]
  push_cast
  omega
theorem slk_perk (h1 : CF c1 P1 B1) (h2 : CF c2 P2 B2) {n : Nat} (hn : P1 + P2 ≤ n) : ∀ k : Nat, slk c1 c2 (n + k * spanN P1 P2 B2) = slk c1 c2 n - k * fallI P1 B1 P2 B2
  | 0 => by simp
  | k + 1 => by
    have h3 := slk_perk h1 h2 hn k
    have h4 := h1.slk_per h2 (n := n + k * spanN P1 P2 B2) (by omega)
    rw [Nat.succ_mul, ← Nat.add_assoc, h4, h3]
    push_cast
    rw [Int.add_mul]
    omega
/-- every number is one of the first, or one of those of one span after the start and some spans more -/
theorem reduce {S W : Nat} (hW : 0 < W) (n : Nat) : n < S + W ∨ ∃ m k : Nat, S ≤ m ∧ m < S + W ∧ n = m + k * W := by
  rcases Nat.lt_or_ge n (S + W) with h | h
  · exact .inl h
  · refine .inr ⟨S + (n - S) % W, (n - S) / W, by omega, by have := Nat.mod_lt (n - S) hW; omega, ?_⟩
    have := Nat.mod_add_div (n - S) W
    rw [Nat.mul_comm] at this
    omega
theorem never (h1 : CF c1 P1 B1) (h2 : CF c2 P2 B2) : (∀ n, D c1 n ≤ D c2 n) ↔ ¬ 0 < fallI P1 B1 P2 B2 ∧ ∀ n, n < P1 + P2 + spanN P1 P2 B2 → 0 ≤ slk c1 c2 n := by
  constructor
  · intro h
    refine ⟨fun z => ?_, fun n _ => (h1.slk_iff n).mpr (h n)⟩
    have h3 := h1.slk_perk h2 (n := P1 + P2) (Nat.le_refl _) ((slk c1 c2 (P1 + P2)).toNat + 1)
    have h4 := (h1.slk_iff (c2 := c2) (P1 + P2 + ((slk c1 c2 (P1 + P2)).toNat + 1) * spanN P1 P2 B2)).mpr (h _)
    have h5 := (h1.slk_iff (c2 := c2) (P1 + P2)).mpr (h _)
    rw [h3] at h4
    generalize slk c1 c2 (P1 + P2) = u at h4 h5
    have h6 : ((u.toNat + 1 : Nat) : Int) * 1 ≤ ((u.toNat + 1 : Nat) : Int) * fallI P1 B1 P2 B2 := Int.mul_le_mul_of_nonneg_left (by omega) (by omega)
    omega
  · rintro ⟨hf, h⟩ n
    apply (h1.slk_iff n).mp
    rcases reduce (S := P1 + P2) (h1.span_pos h2) n with z | ⟨m, k, hm, hm2, rfl⟩
    · exact h n z
    · rw [h1.slk_perk h2 hm]
      have h3 := h m hm2
      have h6 : (k : Int) * fallI P1 B1 P2 B2 ≤ (k : Int) * 0 := Int.mul_le_mul_of_nonneg_left (by omega) (by omega)
      omega
theorem D_inj {c : Nat → Int} {P B : Nat} (h : CF c P B) {n m : Nat} (e : D c n = D c m) : n = m := by
  rcases Nat.lt_trichotomy n m with z | z | z
  · have := h.D_lt z
    omega
  · exact z
  · have := h.D_lt z
    omega
theorem same (h1 : CF c1 P1 B1) (h2 : CF c2 P2 B2) (h : ∀ n, n < P1 + P2 + spanN P1 P2 B2 → D c1 n = D c2 n) (n : Nat) : D c1 n = D c2 n := by
  have p1 := h1.ppos
  have p2 := h2.ppos
  have key : Nat.lcm P1 P2 / P1 * B1 = spanN P1 P2 B2 := by
    have e1 := h1.D_span2 h2 (n := max P1 P2) (by omega)
    have e2 := h1.D_span1 h2 (n := max P1 P2) (by omega)
    have e3 := h (max P1 P2) (by omega)
    have e4 := h (max P1 P2 + spanN P1 P2 B2) (by omega)
    have := h1.D_inj (show D c1 (max P1 P2 + Nat.lcm P1 P2 / P1 * B1) = D c1 (max P1 P2 + spanN P1 P2 B2) by omega)
    omega
  have per : ∀ k m : Nat, P1 + P2 ≤ m → D c1 m = D c2 m → D c1 (m + k * spanN P1 P2 B2) = D c2 (m + k * spanN P1 P2 B2) := by
    intro k
    induction k with
    | zero =>
      intro m hm e
      rw [Nat.zero_mul, Nat.add_zero]
      exact e
    | succ k ih =>
      intro m hm e
      have e1 := h1.D_span2 h2 (n := m + k * spanN P1 P2 B2) (by omega)
      have e2 := h1.D_span1 h2 (n := m + k * spanN P1 P2 B2) (by omega)
      have e3 := ih m hm e
      rw [key] at e2
      rw [Nat.succ_mul, ← Nat.add_assoc]
      omega
  rcases reduce (S := P1 + P2) (h1.span_pos h2) n with z | ⟨m, k, hm, hm2, rfl⟩
  · exact h n z
  · exact per k m hm (h m hm2)
end CF
end EB

namespace EB
open PySem PySem.Spec PyProof.Rows L2
/-! Who sees bottles that nobody counted. -/
def obf (a c l : Addr) : List (Str × V) := [("_offer", .ref a), ("_possible", .ref c), ("_observations", .ref l)]
theorem lk_offer {a c l : Addr} : (obf a c l).lookup ("_offer" : Str) = some (.ref a) := lkY
theorem lk_possible {a c l : Addr} : (obf a c l).lookup ("_possible" : Str) = some (.ref c) := by
  unfold obf
  rw [lkN (by decide +kernel), lkY]
theorem lk_observations {a c l : Addr} : (obf a c l).lookup ("_observations" : Str) = some (.ref l) := by
  unfold obf
  rw [lkN (by decide +kernel), lkN (by decide +kernel), lkY]
theorem lk_noo {a c l : Addr} {m : Str} (h : ((m == "_offer") || ((m == "_possible") || (m == "_observations"))) = false) : (obf a c l).lookup m = none := by
  obtain ⟨h1, h⟩ := Bool.or_eq_false_iff.mp h
  obtain ⟨h2, h3⟩ := Bool.or_eq_false_iff.mp h
  unfold obf
  rw [lkN h1, lkN h2, lkN h3]
  rfl
theorem puto1 {a : V} : putF "_offer" a [] = ([("_offer", a)] : List (Str × V)) := rfl
theorem puto2 {a b : V} : putF "_possible" b ([("_offer", a)] : List (Str × V)) = ([("_offer", a), ("_possible", b)] : List (Str × V)) := by
  rw [putF_ne (by decide +kernel)]
  rfl
theorem puto3 {a b c : V} : putF "_observations" c ([("_offer", a), ("_possible", b)] : List (Str × V)) = ([("_offer", a), ("_possible", b), ("_observations", c)] : List (Str × V)) := by
  rw [putF_ne (by decide +kernel), putF_ne (by decide +kernel)]
  rfl
/-- from here on drinks repeat -/
noncomputable def startN (ts : List Tr) : Nat := (EB.T (cN ts) (per ts - 1) + 1 - perB ts).toNat
theorem start_eq {ts : List Tr} (f : Fair ts) : EB.T (cN ts) (per ts - 1) + 1 - perB ts = (startN ts : Int) ∧ startN ts ≤ 1728 := by
  have C := cf f
  have hp := per_pos f.g
  have hP := per_le' f.g
  have h1 := C.T_step (per ts - 1)
  have h2 := CF.T_ge (cN ts) (show per ts ≤ per ts from Nat.le_refl _)
  have h3 : cN ts (per ts) = perB ts := (perB_eq f).symm
  rw [show per ts - 1 + 1 = per ts by omega] at h1
  have h4 := CF.T_le C (per ts - 1)
  have h0 : (0 : Int) ≤ EB.T (cN ts) (per ts - 1) + 1 - perB ts := by omega
  unfold startN
  refine ⟨by omega, by omega⟩
noncomputable def early0 (ts : List Tr) : List Int := (List.range (startN ts)).map fun i : Nat => (i : Int)
/-- an observer at x: its offer, what is possible -/
structure ObsAt (K : PySem.W.Frag) (H : Hp) (x : Addr) (ts : List Tr) (early : List Int) (p : Int) (offs : List Int) : Prop where
  ex : ∃ dx a c l, H x = some (.ins (He.ga K "BottleObserver") dx (obf a c l)) ∧ OfAt K H a ts ∧ CandAt K H c (startN ts) early p offs
theorem ObsAt.mono {K : PySem.W.Frag} {H H' : Hp} {x : Addr} {ts : List Tr} {early : List Int} {p : Int} {offs : List Int} (s : Same H H') (h : ObsAt K H x ts early p offs) : ObsAt K H' x ts early p offs := by
  obtain ⟨dx, a, c, l, h1, h2, h3⟩ := h.ex
  exact ⟨dx, a, c, l, s _ _ h1, h2.mono s, h3.mono s⟩
section
variable {P : Program} {w : World} {K : PySem.W.Frag} {mg : Str → Option Value} {base : Heap} (T : Tx K mg)
include T
def spObsI (K : PySem.W.Frag) : Sp := fun vs H Q _ => ∃ (x a dx : Addr) (H0 : Hp) (ts : List Tr), vs = [.ref x, .ref a] ∧ Same H0 H ∧ H0 x = none ∧ H x = some (.ins (He.ga K "BottleObserver") dx []) ∧ OfAt K H0 a ts ∧ Fair ts ∧
  ∀ H' c l, Same H0 H' → H' x = some (.ins (He.ga K "BottleObserver") dx (obf a c l)) → CandAt K H' c (startN ts) (early0 ts) 1 [0] → H' l = some (.lst []) → H0 l = none → Q .non H'
theorem ok_BottleObserver_init : FnR P w K mg base CX0 3 (a_BottleObserver_init K) (spObsI K) := by
  refine fnR0 (d := d_BottleObserver_init) T.F_BottleObserver_init sc_BottleObserver_init rfl (fun _ _ _ _ _ _ us hl => match us, hl with | [_, _], _ => rfl) (fun vs H Q E h => ?_) (fun cdv A outer s H vs Q E hr h => ?_)
  · obtain ⟨x, a, dx, H0, ts, rfl, _⟩ := h
    rfl
  obtain ⟨x, a, dx, H0, ts, rfl, s0, n0, hx, ho, hf, k⟩ := h
  obtain ⟨hs, hs2⟩ := start_eq hf
  obtain ⟨dy, fy, oi, on⟩ := ho.ins
  refine ⟨_, (pss_cons (ps_set (i := 2) sc_BottleObserver_init.nd rfl (Or.inl rfl) (pe_prop (pv 1) T.k_Offer T.p_Offer_steady_from (ok_Offer_steady_from T) (hr.mono (by decide)) (b_Offer_steady_from T) .nil pass0 rfl)) (pss_cons (ps_fld (pv 0) (pv 1) rfl) (pss_cons (ps_fld (pv 0) (StX.pe_makeR T.mk_Candidates (ok_Candidates_init T) (hr.mono (by decide)) (by rfl) T.g_Candidates pass0 (pa_cons (pv 2) (pa_cons (pe_listRg rfl (by rfl) T.n_list (prg_1 (by rfl) T.n_range (pv 2))) (pa_cons pe_int (pa_cons (pe_lst (pa_cons pe_int pa_nil)) pa_nil))))) rfl) (pss_one (ps_fld (pv 0) (pe_lst pa_nil) rfl))))), ?_⟩
  refine ⟨_, rfl, a, dy, fy, rfl, s0 _ _ oi, a, ts, rfl, ho.mono s0, hf, ?_⟩
  rw [hs]
  refine ⟨_, rfl, _, rfl, x, _, dx, [], rfl, hx, T.k_BottleObserver, T.na_offer, by show 0 < 1000; decide, ?_⟩
  rw [puto1]
  have s1 : Same H0 (upd H x (.ins (He.ga K "BottleObserver") dx [("_offer", .ref a)])) := same_mut s0 n0
  have x1 : (upd H x (.ins (He.ga K "BottleObserver") dx [("_offer", .ref a)])) x = some (.ins (He.ga K "BottleObserver") dx [("_offer", .ref a)]) := upd_same
  generalize upd H x (.ins (He.ga K "BottleObserver") dx [("_offer", .ref a)]) = H1 at s1 x1
  refine ⟨_, rfl, _, rfl, _, rfl, ⟨⟨by omega, by omega, by omega, by omega, by omega⟩, fun q nq => ?_⟩⟩
  have er : rgV 0 (startN ts) = (early0 ts).map V.int := by
    unfold rgV early0
    rw [List.map_map, Int.sub_zero, Int.toNat_natCast]
    refine List.map_congr_left fun i _ => ?_
    show V.int (0 + (i : Int)) = V.int i
    rw [Int.zero_add]
  rw [er]
  have nqx : q ≠ x := (ne_of_none x1 nq).symm
  have x2 := upd_old (u := .lst ((early0 ts).map V.int)) x1 nq
  have s2 := s1.trans (same_new (u := .lst ((early0 ts).map V.int)) nq)
  have e2 : (upd H1 q (.lst ((early0 ts).map V.int))) q = some (.lst ((early0 ts).map V.int)) := upd_same
  generalize upd H1 q (.lst ((early0 ts).map V.int)) = H2 at s2 x2 e2
  refine ⟨by show 1 ≤ sizeLine; decide, fun o no => ?_⟩
  have nox : o ≠ x := (ne_of_none x2 no).symm
  have x3 := upd_old (u := .lst [.int 0]) x2 no
  have s3 := s2.trans (same_new (u := .lst [.int 0]) no)
  have e3 := upd_old (u := .lst [.int 0]) e2 no
  have o3 : (upd H2 o (.lst [.int 0])) o = some (.lst (([0] : List Int).map V.int)) := upd_same
  generalize upd H2 o (.lst [.int 0]) = H3 at s3 x3 e3 o3
  intro c dc nc ndc nec
  have nd1 := upd_old (u := .own c) x3 ndc
  refine ⟨c, startN ts, 1, q, o, dc, rfl, upd_same, rfl, ?_⟩
  rw [upd_upd]
  rw [show (cxOf CX0 P w K mg base N_BottleObserver_init d_BottleObserver_init.ql (defScope d_BottleObserver_init.st) (d_BottleObserver_init.adr K) cdv A outer s H E).nox.K = K from rfl]
  have s4 := s3.trans (same_new (u := .own c) ndc)
  have x4 := upd_old (u := .own c) x3 ndc
  have e4 := upd_old (u := .own c) e3 ndc
  have o4 := upd_old (u := .own c) o3 ndc
  have nc4 : (upd H3 dc (.own c)) c = none := by rw [upd_ne nec.symm]; exact nc
  generalize upd H3 dc (.own c) = H4 at s4 x4 e4 o4 nc4
  have s5 := s4.trans (same_new (u := .ins (He.ga K "Candidates") dc (cfs (startN ts) q 1 o)) nc4)
  have x5 := upd_old (u := .ins (He.ga K "Candidates") dc (cfs (startN ts) q 1 o)) x4 nc4
  have e5 := upd_old (u := .ins (He.ga K "Candidates") dc (cfs (startN ts) q 1 o)) e4 nc4
  have o5 := upd_old (u := .ins (He.ga K "Candidates") dc (cfs (startN ts) q 1 o)) o4 nc4
  have c5 : (upd H4 c (.ins (He.ga K "Candidates") dc (cfs (startN ts) q 1 o))) c = some (.ins (He.ga K "Candidates") dc (cfs (startN ts) q 1 o)) := upd_same
  have ncx : c ≠ x := (ne_of_none x4 nc4).symm
  generalize upd H4 c (.ins (He.ga K "Candidates") dc (cfs (startN ts) q 1 o)) = H5 at s5 x5 e5 o5 c5
  refine ⟨_, rfl, x, _, dx, _, rfl, x5, T.k_BottleObserver, T.na_possible, by show 1 < 1000; decide, ?_⟩
  rw [puto2]
  have s6 : Same H0 (upd H5 x (.ins (He.ga K "BottleObserver") dx [("_offer", .ref a), ("_possible", .ref c)])) := same_mut s5 n0
  have x6 : (upd H5 x (.ins (He.ga K "BottleObserver") dx [("_offer", .ref a), ("_possible", .ref c)])) x = some (.ins (He.ga K "BottleObserver") dx [("_offer", .ref a), ("_possible", .ref c)]) := upd_same
  have c6 : (upd H5 x (.ins (He.ga K "BottleObserver") dx [("_offer", .ref a), ("_possible", .ref c)])) c = _ := (upd_ne ncx).trans c5
  have e6 : (upd H5 x (.ins (He.ga K "BottleObserver") dx [("_offer", .ref a), ("_possible", .ref c)])) q = _ := (upd_ne nqx).trans e5
  have o6 : (upd H5 x (.ins (He.ga K "BottleObserver") dx [("_offer", .ref a), ("_possible", .ref c)])) o = _ := (upd_ne nox).trans o5
  generalize upd H5 x (.ins (He.ga K "BottleObserver") dx [("_offer", .ref a), ("_possible", .ref c)]) = H6 at s6 x6 c6 e6 o6
  refine ⟨by show 0 ≤ sizeLine; decide, fun l nl => ?_⟩
  have nlx : l ≠ x := (ne_of_none x6 nl).symm
  have l0 := s6.free nl
  have x7 := upd_old (u := .lst []) x6 nl
  refine ⟨_, rfl, x, _, dx, _, rfl, x7, T.k_BottleObserver, T.na_observations, by show 2 < 1000; decide, ?_⟩
  rw [puto3]
  have s7 := s6.trans (same_new (u := .lst []) nl)
  have c7 := upd_old (u := .lst []) c6 nl
  have e7 := upd_old (u := .lst []) e6 nl
  have o7 := upd_old (u := .lst []) o6 nl
  have l7 : (upd H6 l (.lst [])) l = some (.lst []) := upd_same
  generalize upd H6 l (.lst []) = H7 at s7 c7 e7 o7 l7
  exact k _ c l (same_mut s7 n0) upd_same ⟨dc, q, o, (upd_ne ncx).trans c7, SqL.of ((upd_ne nqx).trans e7), SqL.of ((upd_ne nox).trans o7)⟩ ((upd_ne nlx).trans l7) l0
end
/-- a new observer of an offer -/
theorem obs_ok {K : PySem.W.Frag} {H : Hp} {a x dx : Addr} {ts : List Tr} {Q : VK} {E : XK} (ho : OfAt K H a ts) (hf : Fair ts) (nx : H x = none) (nd : H dx = none) (ned : dx ≠ x)
    (k : ∀ H', Same H H' → ObsAt K H' x ts (early0 ts) 1 [0] → Q (.ref x) H') : spObsI K [.ref x, .ref a] (upd (upd H dx (.own x)) x (.ins (He.ga K "BottleObserver") dx [])) (fun v H2 => v = .non ∧ Q (.ref x) H2) E := by
  have s : Same H (upd (upd H dx (.own x)) x (.ins (He.ga K "BottleObserver") dx [])) := (same_new nd).trans (same_new (by rw [upd_ne ned.symm]; exact nx))
  exact ⟨x, a, dx, H, ts, rfl, s, nx, upd_same, ho, hf, fun H' c l s' h1 h2 h3 h4 => ⟨rfl, k H' s' ⟨dx, a, c, l, h1, ho.mono s', h2⟩⟩⟩
/-- the possible number at a place, if there is one within the limit -/
def obsV (s : Int) (early : List Int) (p : Int) (offs : List Int) (place : Int) : V :=
  match candV s early p offs place with
  | .int b => if 1000000000000000000 < b then .non else .int b
  | v => v
theorem obsV_last {ts : List Tr} (h : startN ts ≤ 1728) : obsV (startN ts) (early0 ts) 1 [0] 1000000000000000000 = .int 1000000000000000000 := by
  have hl : (early0 ts).length = startN ts := by
    unfold early0
    rw [List.length_map, List.length_range]
  have e : candV (startN ts) (early0 ts) 1 [0] 1000000000000000000 = .int 1000000000000000000 := by
    unfold candV
    rw [hl, if_neg (by omega), if_neg (by simp)]
    simp only [List.length_singleton]
    have e1 : ((1000000000000000000 : Int) - (startN ts : Int)) % ((1 : Nat) : Int) = 0 := by omega
    rw [e1]
    show V.int ((startN ts : Int) + ((1000000000000000000 : Int) - (startN ts : Int)) / ((1 : Nat) : Int) * 1 + 0) = _
    congr 1
    omega
  unfold obsV
  rw [e]
  simp
theorem many_all {ts : List Tr} (h : startN ts ≤ 1728) : candMany (startN ts) (early0 ts) 1 [0] 1000000000000000000 = 1000000000000000001 := by
  have hl : ((early0 ts).filter fun n => decide (n ≤ 1000000000000000000)).length = startN ts := by
    rw [List.filter_eq_self.mpr]
    · unfold early0
      rw [List.length_map, List.length_range]
    · intro n m
      unfold early0 at m
      obtain ⟨i, hi, rfl⟩ := List.mem_map.mp m
      have := List.mem_range.mp hi
      exact decide_eq_true (by omega)
  unfold candMany
  rw [if_neg (by omega), hl]
  have e1 : ((1000000000000000000 : Int) - (startN ts : Int)) % 1 = 0 := by omega
  have e2 : ([0] : List Int).filter (fun o => decide (o ≤ ((1000000000000000000 : Int) - (startN ts : Int)) % 1)) = [0] := by
    rw [e1]
    rfl
  rw [e2]
  simp only [List.length_singleton]
  omega
theorem candV_cases (s : Int) (early : List Int) (p : Int) (offs : List Int) (place : Int) : candV s early p offs place = .non ∨ ∃ b, candV s early p offs place = .int b := by
  unfold candV
  split
  · exact .inr ⟨_, rfl⟩
  · split
    · exact .inl rfl
    · exact .inr ⟨_, rfl⟩
section
variable {w : World} {K : PySem.W.Frag} {mg : Str → Option Value} {base : Heap} (T : Tx K mg)
include T
def spNthP (K : PySem.W.Frag) : Sp := fun vs H Q E => ∃ (x : Addr) (n : Int), vs = [.ref x, .int n] ∧ ((¬ (1 ≤ n ∧ n ≤ 1000000000000000001) ∧ E (.ref (He.ga K "InvalidNumber")) none H) ∨
  (1 ≤ n ∧ n ≤ 1000000000000000001 ∧ ∃ (ts : List Tr) (early offs : List Int) (p : Int), ObsAt K H x ts early p offs ∧ early.length ≤ 10000000 ∧ offs.length ≤ 10000000 ∧ 0 ≤ p ∧ p < 1073741824 ∧ ∀ H', Same H H' → Q (obsV (startN ts) early p offs (n - 1)) H'))
theorem okX_BottleObserver_nth_possible (hK : K.In base) : FnR PX w K mg base (L2.CX PX w) 4 (a_BottleObserver_nth_possible K) (spNthP K) := by
  refine fnRX (d := d_BottleObserver_nth_possible) T.F_BottleObserver_nth_possible sc_BottleObserver_nth_possible rfl (fun _ _ _ _ _ _ us hl => match us, hl with | [_, _], _ => rfl) (fun vs H Q E h => ?_) (fun cdv A outer s H vs Q E hr h => ?_)
  · obtain ⟨x, n, rfl, _⟩ := h
    rfl
  obtain ⟨x, n, rfl, h⟩ := h
  obtain ⟨tM, hM⟩ := T.c_MAX_NUMBER
  refine ⟨_, (pss_cons (ps_expr (pe_cR (okX_check_number T hK) (hr.mono (by decide)) T.F_check_number.kp T.g_check_number (passes_call (takes_of rfl rfl rfl rfl) (fun _ _ _ _ h => h)) (pa_cons (pv 1) (pa_cons pe_int (pa_cons (pe_op op_add (pe_cI T.c_MAX_NUMBER) pe_int) pa_nil))))) (pss_cons (ps_set (i := 2) sc_BottleObserver_nth_possible.nd rfl (Or.inl rfl) (pe_methR (pe_fld (pv 0) rfl) T.k_Candidates T.m_Candidates_candidate (ok_Candidates_candidate T) (hr.mono (by decide)) pass0 (pa_cons (pe_op op_sub (pv 1) pe_int) pa_nil))) (pss_cons (ps_if (PW.pt (pw_or (pt_cmpR op_isN (pv 2) pe_non (nomark _)) (pw_or1 (pt_cmpR op_gt (pv 2) (pe_cI T.c_MAX_NUMBER) (nomark _))))) (pss_one (ps_ret pe_non)) pss_nil) (pss_one (ps_ret (pv 2)))))), ?_⟩
  refine ⟨_, rfl, _, _, rfl, rfl, ?_⟩
  dsimp only [tNil, tCons, tC]
  refine chk3 (by simp [bnds]) (fun a b => ?_) fun hn => ?_
  · rcases h with ⟨hn, _⟩ | ⟨_, _, ts, early, offs, p, ho, le, lo, p0, p1, k⟩
    · exact absurd ⟨a, b⟩ hn
    obtain ⟨dx, y, c, l, h1, h2, h3⟩ := ho.ex
    obtain ⟨dc, e, o, c1, c2, c3⟩ := h3.ex
    refine ⟨_, rfl, x, _, dx, _, _, rfl, h1, T.k_BottleObserver, T.na_possible, lk_possible, c, dc, _, rfl, c1, lk_noc (by decide +kernel), _, rfl, _, _, rfl, rfl, ?_⟩
    refine ⟨c, startN ts, p, n - 1, early, offs, rfl, h3, le, lo, p0, p1, by omega, by omega, fun H' s' => ?_⟩
    have k1 := k H' s'
    unfold obsV at k1
    rcases candV_cases (startN ts) early p offs (n - 1) with e | ⟨b, e⟩
    · rw [e] at k1 ⊢
      exact ⟨_, rfl, rfl, true, congrArg V.bl (decide_eq_true rfl), iteT (iteT k1)⟩
    · rw [e] at k1 ⊢
      refine ⟨_, rfl, rfl, false, congrArg V.bl (decide_eq_false (by intro z; cases z)), iteF ⟨_, rfl, _, _, rfl, rfl, _, rfl, ite2 (fun hd => ?_) (fun hd => ?_)⟩⟩
      · have hd := of_decide_eq_true hd
        simp only [if_pos hd] at k1
        exact k1
      · have hd : ¬ (1000000000000000000 : Int) < b := fun z => hd (decide_eq_true z)
        simp only [if_neg hd] at k1
        exact ⟨_, rfl, k1⟩
  · rcases h with ⟨_, k⟩ | ⟨a, b, _⟩
    · exact k
    · exact absurd ⟨a, b⟩ hn
def spUpTo (K : PySem.W.Frag) : Sp := fun vs H Q E => ∃ (x : Addr) (n : Int), vs = [.ref x, .int n] ∧ ((¬ (0 ≤ n ∧ n ≤ 1000000000000000000) ∧ E (.ref (He.ga K "InvalidNumber")) none H) ∨
  (0 ≤ n ∧ n ≤ 1000000000000000000 ∧ ∃ (ts : List Tr) (early offs : List Int) (p : Int), ObsAt K H x ts early p offs ∧ early.length ≤ 10000000 ∧ offs.length ≤ 10000000 ∧ 0 < p ∧ p < 1073741824 ∧ ∀ H', Same H H' → Q (.int (candMany (startN ts) early p offs n)) H'))
theorem okX_BottleObserver_count_up_to (hK : K.In base) : FnR PX w K mg base (L2.CX PX w) 4 (a_BottleObserver_count_up_to K) (spUpTo K) := by
  refine fnRX (d := d_BottleObserver_count_up_to) T.F_BottleObserver_count_up_to sc_BottleObserver_count_up_to rfl (fun _ _ _ _ _ _ us hl => match us, hl with | [_, _], _ => rfl) (fun vs H Q E h => ?_) (fun cdv A outer s H vs Q E hr h => ?_)
  · obtain ⟨x, n, rfl, _⟩ := h
    rfl
  obtain ⟨x, n, rfl, h⟩ := h
  refine ⟨_, (pss_cons (ps_expr (pe_cR (okX_check_number T hK) (hr.mono (by decide)) T.F_check_number.kp T.g_check_number (passes_call (takes_of rfl rfl rfl rfl) (fun _ _ _ _ h => h)) (pa_cons (pv 1) pa_nil))) (pss_one (ps_ret (pe_methR (pe_fld (pv 0) rfl) T.k_Candidates T.m_Candidates_many_within (ok_Candidates_many_within T) (hr.mono (by decide)) pass0 (pa_cons (pv 1) pa_nil))))), ?_⟩
  refine ⟨_, rfl, ?_⟩
  dsimp only [tNil, tCons, tC]
  refine chk1 (fun a b => ?_) fun hn => ?_
  · rcases h with ⟨hn, _⟩ | ⟨_, _, ts, early, offs, p, ho, le, lo, p0, p1, k⟩
    · exact absurd ⟨a, b⟩ hn
    obtain ⟨dx, y, c, l, h1, h2, h3⟩ := ho.ex
    obtain ⟨dc, e, o, c1, c2, c3⟩ := h3.ex
    refine ⟨_, rfl, x, _, dx, _, _, rfl, h1, T.k_BottleObserver, T.na_possible, lk_possible, c, dc, _, rfl, c1, lk_noc (by decide +kernel), _, rfl, ?_⟩
    exact ⟨c, startN ts, p, n, early, offs, rfl, h3, le, lo, by omega, p0, p1, a, b, fun H' s' => k H' s'⟩
  · rcases h with ⟨_, k⟩ | ⟨a, b, _⟩
    · exact k
    · exact absurd ⟨a, b⟩ hn
/-- see_round, a number or a parity out of range -/
def spRoundX (K : PySem.W.Frag) : Sp := fun vs H _ E => ∃ (v : V) (n p : Int), vs = [v, .int n, .int p] ∧ ¬ ((1 ≤ n ∧ n ≤ 2) ∧ (0 ≤ p ∧ p ≤ 1)) ∧ E (.ref (He.ga K "InvalidNumber")) none H
theorem okX_BottleObserver_see_round (hK : K.In base) : FnR PX w K mg base (L2.CX PX w) 4 (a_BottleObserver_see_round K) (spRoundX K) := by
  refine fnRX (d := d_BottleObserver_see_round) T.F_BottleObserver_see_round sc_BottleObserver_see_round rfl (fun _ _ _ _ _ _ us hl => match us, hl with | [_, _, _], _ => rfl) (fun vs H Q E h => ?_) (fun cdv A outer s H vs Q E hr h => ?_)
  · obtain ⟨v, n, p, rfl, _⟩ := h
    rfl
  obtain ⟨v, n, p, rfl, hn, k⟩ := h
  refine ⟨_, (pss_cons (ps_expr (pe_cR (okX_check_number T hK) (hr.mono (by decide)) T.F_check_number.kp T.g_check_number (passes_call (takes_of rfl rfl rfl rfl) (fun _ _ _ _ h => h)) (pa_cons (pv 1) (pa_cons pe_int (pa_cons pe_int pa_nil))))) (pss_cons (ps_expr (pe_cR (okX_check_number T hK) (hr.mono (by decide)) T.F_check_number.kp T.g_check_number (passes_call (takes_of rfl rfl rfl rfl) (fun _ _ _ _ h => h)) (pa_cons (pv 2) (pa_cons pe_int (pa_cons pe_int pa_nil))))) pss_never)), ?_⟩
  refine ⟨_, rfl, ?_⟩
  dsimp only [tNil, tCons, tC]
  refine chk3 (by simp [bnds]) (fun a b => ?_) fun _ => k
  refine ⟨_, rfl, ?_⟩
  dsimp only [tNil, tCons, tC]
  exact chk3 (by simp [bnds]) (fun c d => absurd ⟨⟨a, b⟩, ⟨c, d⟩⟩ hn) fun _ => k
/-- see_left, of a kind that no trade takes -/
def spLeftX (K : PySem.W.Frag) : Sp := fun vs H _ E => ∃ (x : Addr) (z : Str) (v : V) (ts : List Tr) (early offs : List Int) (p : Int), vs = [.ref x, .str z, v] ∧ ObsAt K H x ts early p offs ∧ ts.length ≤ 3 ∧ z ∉ ts.map Tr.k ∧ ∀ H', Same H H' → E (.ref (He.ga K "UnknownKind")) none H'
theorem okX_BottleObserver_see_left (hK : K.In base) : FnR PX w K mg base (L2.CX PX w) 4 (a_BottleObserver_see_left K) (spLeftX K) := by
  refine fnRX (d := d_BottleObserver_see_left) T.F_BottleObserver_see_left sc_BottleObserver_see_left rfl (fun _ _ _ _ _ _ us hl => match us, hl with | [_, _, _], _ => rfl) (fun vs H Q E h => ?_) (fun cdv A outer s H vs Q E hr h => ?_)
  · obtain ⟨x, z, v, ts, early, offs, p, rfl, _⟩ := h
    rfl
  obtain ⟨x, z, v, ts, early, offs, p, rfl, ho, hl, hz, k⟩ := h
  obtain ⟨dx, a, c, l, h1, h2, h3⟩ := ho.ex
  obtain ⟨dy, fy, oi, on⟩ := h2.ins
  refine ⟨_, (pss_cons (ps_set (i := 3) sc_BottleObserver_see_left.nd rfl (Or.inr rfl) (pe_fld (pv 0) rfl)) (pss_cons (ps_if (pt_cmpR op_notIn_seq (pv 1) (pe_prop (pv 3) T.k_Offer T.p_Offer_kinds (ok_Offer_kinds T) (hr.mono (by decide)) (b_Offer_kinds T) .nil pass0 rfl) rfl) (pss_one (ps_raise rfl (takes_of rfl rfl rfl rfl) (pmk_own PySem.F.excBase_ValueError T.x_UnknownKind.own T.g_UnknownKind T.x_UnknownKind.keep (raises_own T.x_UnknownKind.base T.x_UnknownKind.ty) (by rfl)))) pss_nil) pss_never)), ?_⟩
  refine ⟨_, rfl, x, _, dx, _, _, rfl, h1, T.k_BottleObserver, T.na_offer, lk_offer, ?_⟩
  refine ⟨_, rfl, _, rfl, a, dy, fy, rfl, oi, a, ts, rfl, h2, hl, fun H1 kp s1 hkp => ⟨kp, _, rfl, .inr hkp, rfl, flat_str _, _, rfl, ?_⟩⟩
  rw [if_pos rfl, inV_str hz]
  exact iteT (k H1 s1)
end
end EB

namespace EB
theorem fl_sub1 {l n x y : Int} (hn : 0 < n) : l * (x + y) / n ≤ l * x / n + l * y / n + 1 := by
  rw [Int.mul_add]
  have h1 := Int.mul_ediv_add_emod (l * x) n
  have h2 := Int.mul_ediv_add_emod (l * y) n
  have h3 := Int.mul_ediv_add_emod (l * x + l * y) n
  have b1 := Int.emod_lt_of_pos (l * x) hn
  have b2 := Int.emod_lt_of_pos (l * y) hn
  have b3 := Int.emod_nonneg (l * x + l * y) (show n ≠ 0 by omega)
  generalize l * x / n = p at *
  generalize l * y / n = q at *
  generalize (l * x + l * y) / n = r at *
  generalize l * x % n = u at *
  generalize l * y % n = v at *
  generalize (l * x + l * y) % n = z at *
  have : n * r < n * (p + q + 2) := by
    rw [Int.mul_add, Int.mul_add]
    omega
  have := Int.lt_of_mul_lt_mul_left this (by omega)
  omega
theorem buys_sub : ∀ {ts : List Tr} (h : ∀ t ∈ ts, t.ok) (x y : Int), buys ts (x + y) ≤ buys ts x + buys ts y + ts.length
  | [], _, _, _ => by
    show (0 : Int) ≤ 0 + 0 + ((0 : Nat) : Int)
    omega
  | t :: ts, h, x, y => by
    have h1 := buys_sub (ts := ts) (fun t m => h t (List.mem_cons_of_mem _ m)) x y
    have h2 := fl_sub1 (l := t.l) (x := x) (y := y) (tr_pos (h t (List.mem_cons_self ..)))
    show t.l * (x + y) / t.n + buys ts (x + y) ≤ (t.l * x / t.n + buys ts x) + (t.l * y / t.n + buys ts y) + ((ts.length + 1 : Nat) : Int)
    push_cast
    omega
theorem T_three {ts : List Tr} (f : Fair ts) : T (cN ts) (per ts - 1) ≤ perB ts + 2 := by
  have C := cf f
  obtain ⟨j, hj, e⟩ := CF.T_at (cN ts) (per ts - 1)
  have hp := per_pos f.g
  rw [e]
  obtain ⟨k, hk⟩ : ∃ k, per ts = j + k := ⟨per ts - j, by omega⟩
  have h1 := buys_sub f.g.2 (j : Int) (k : Int)
  have h2 := C.ten k
  have h3 : cN ts (per ts) = perB ts := by
    have := C.per 0
    rw [Nat.zero_add, C.zero] at this
    omega
  have h4 := f.g.1
  rw [hk] at h3
  have h5 : ((j + k : Nat) : Int) - buys ts ((j + k : Nat) : Int) = perB ts := h3
  have h6 : (k : Int) ≤ 10 * ((k : Int) - buys ts k) := h2
  show (j : Int) - buys ts j ≤ _
  push_cast at h5
  omega
end EB

namespace EB
/-- the rounds from so many drunk bottles on, with fuel -/
def rnd (c : Nat → Int) (n : Nat) : Nat → Nat → List Int
  | 0, _ => []
  | m + 1, d => if 0 < (n : Int) - c d then ((n : Int) - c d) :: rnd c n m (d + ((n : Int) - c d).toNat) else []
def roundsL (c : Nat → Int) (n : Nat) : List Int := rnd c n (10 * n + 1) 0
namespace CF
variable {c : Nat → Int} {P B : Nat}
/-- so far every number of drinks costs less than there is -/
theorem below (h : CF c P B) {n d : Nat} (q : ∀ j, j < d → c j < n) : d ≤ D c n := by
  apply Nat.le_of_not_lt
  intro z
  have := q _ z
  rw [h.D_cost] at this
  omega
theorem below_next (h : CF c P B) {n d : Nat} (q : ∀ j, j < d → c j < n) (hp : 0 < (n : Int) - c d) : ∀ j, j < d + ((n : Int) - c d).toNat → c j < n := by
  intro j hj
  rcases Nat.lt_or_ge j d with z | z
  · exact q j z
  · have := h.steps d (j - d)
    rw [show d + (j - d) = j from by omega] at this
    omega
/-- bounds behind which so many rounds remain -/
def bnd : Nat → Nat
  | 0 => 60
  | k + 1 => bnd k * 20 / 19
theorem bnd_ge : ∀ k, 60 ≤ bnd k
  | 0 => Nat.le_refl _
  | k + 1 => by
    have := bnd_ge k
    show 60 ≤ bnd k * 20 / 19
    omega
theorem rnd_len (h : CF c P B) {n : Nat} (hlow : ∀ d r, D c n = d + r → (r : Int) ≤ 10 * ((n : Int) - c d) + 30) :
    ∀ (k m d : Nat), (∀ j, j < d → c j < n) → D c n - d ≤ bnd k → (rnd c n m d).length ≤ 61 + k := by
  have tail : ∀ (m d : Nat), (∀ j, j < d → c j < n) → (rnd c n m d).length ≤ D c n - d + 1 := by
    intro m
    induction m with
    | zero => intro d _; exact Nat.zero_le _
    | succ m ih =>
      intro d q
      show (if 0 < (n : Int) - c d then ((n : Int) - c d) :: rnd c n m (d + ((n : Int) - c d).toNat) else []).length ≤ _
      by_cases z : 0 < (n : Int) - c d
      · rw [if_pos z, List.length_cons]
        have q2 := h.below_next q z
        have := ih _ q2
        have := h.below q2
        omega
      · rw [if_neg z]
        exact Nat.zero_le _
  intro k
  induction k with
  | zero =>
    intro m d q hd
    have := tail m d q
    have : bnd 0 = 60 := rfl
    omega
  | succ k ih =>
    intro m d q hd
    cases m with
    | zero => exact Nat.zero_le _
    | succ m =>
      show (if 0 < (n : Int) - c d then ((n : Int) - c d) :: rnd c n m (d + ((n : Int) - c d).toNat) else []).length ≤ _
      by_cases z : 0 < (n : Int) - c d
      · rw [if_pos z, List.length_cons]
        have q2 := h.below_next q z
        have hb := h.below q
        have hb2 := h.below q2
        have h5 := hlow d (D c n - d) (by omega)
        have h6 := bnd_ge k
        have h7 : bnd (k + 1) = bnd k * 20 / 19 := rfl
        have := ih m _ q2 (by omega)
        omega
      · rw [if_neg z]
        exact Nat.zero_le _
theorem bnd_big : 10000000000000000000 ≤ bnd 900 := by decide +kernel
end CF
theorem slow {ts : List Tr} (f : Fair ts) {n d r : Nat} (e : D (cN ts) n = d + r) : (r : Int) ≤ 10 * ((n : Int) - cN ts d) + 30 := by
  have C := cf f
  have h1 := C.D_cost n
  rw [e] at h1
  have h3 : (r : Int) ≤ 10 * ((r : Int) - buys ts r) := C.ten r
  have h2 := buys_sub f.g.2 (d : Int) (r : Int)
  have h4 := f.g.1
  have h5 : ((d + r : Nat) : Int) - buys ts ((d + r : Nat) : Int) = n := h1
  show (r : Int) ≤ 10 * ((n : Int) - ((d : Int) - buys ts d)) + 30
  push_cast at h5
  omega
theorem rounds_len {ts : List Tr} (f : Fair ts) {n : Nat} (hn : n ≤ 1000000000000000000) {m d : Nat} (q : ∀ j, j < d → cN ts j < n) : (rnd (cN ts) n m d).length ≤ 1000 := by
  have C := cf f
  have h1 := C.D_le_ten n
  have := C.rnd_len (n := n) (fun d r e => slow f e) 900 m d q (Nat.le_trans (by omega) CF.bnd_big)
  omega
end EB

namespace PySem
open Sem (wp)
section
variable {prog : Program} {w : World} {A : Around} {R : GenEnd} {Y : Protocol} {n : Nat} {s₀ : Shared} {fs : List Frame} {s : Shared} {env : Env}
/-- what a loop's code does with an exception -/
def loopEx (env : Env) (x : Value) : Sem Fin := (do noteFrame x env; theTreesLotGoes x : Sem Unit).wrap (fun _ => .raise x) .raise id id
theorem seg_forLoop {target : Expr} {it : Value} {body : List Stmt}
    (h : wpAny (model prog w) (A.over (.forLoop target it body [] env) fs) (pyNext it) (fun r s₁ => match r with
        | none => Seg (model prog w) A R Y n s₀ (.forLoop target it body [] env) (.pure (.again (.block [] env))) fs s₁
        | some v => wpAny (model prog w) (A.over (.forLoop target it body [] env) fs) (letOwnedTupleGo target it v) (fun _ s₂ =>
            wpAny (model prog w) (A.over (.forLoop target it body [] env) fs) (assign target env v) (fun _ s₃ =>
              Seg (model prog w) A R Y n s₀ (.forLoop target it body [] env) ((execs body env).wrap (fun f => match f with
                | .next | .cont => .pure (.again (.forLoop target it body [] env))
                | .brk => .pure (.done .next)
                | .ret v => .pure (.done (.ret v))) (loopEx env) id id) fs s₃)
              (fun x s' => Seg (model prog w) A R Y n s₀ (.forLoop target it body [] env) (loopEx env x) fs s') s₂)
            (fun x s' => Seg (model prog w) A R Y n s₀ (.forLoop target it body [] env) (loopEx env x) fs s') s₁)
      (fun x s' => Seg (model prog w) A R Y n s₀ (.forLoop target it body [] env) (loopEx env x) fs s') s) :
    Seg (model prog w) A R Y n s₀ (.forLoop target it body [] env) ((model prog w).den (.forLoop target it body [] env)) fs s := by
  have ex : ∀ x, ((do noteFrame x env; theTreesLotGoes x : Sem Unit).bind fun _ => (Sem.raise x : Sem Fin)) = loopEx env x := fun x => by rw [Sem.bind_eq_wrap]; rfl
  show Seg _ A R Y n s₀ _ ((forTurn target it body [] env).onRaise (fun x => do noteFrame x env; theTreesLotGoes x)) fs s
  unfold forTurn
  rw [Sem.onRaise_eq_wrap]
  refine seg_at ?_
  show Seg _ A R Y n s₀ _ (Sem.wrap _ _ _ _ ((pyNext it).onRaise (fun _ => standAt { target.pos with line := 0 }) >>= _)) fs s
  rw [Sem.bind_eq_wrap', Sem.wrap_wrap]
  refine seg_wrap (wpAny_onRaise (wpAny_mono h (fun r s₁ h₁ => ?_) fun x s' hx => wpAny_standAt ?_))
  · cases r with
    | none => exact h₁
    | some v =>
      show Seg _ A R Y n s₀ _ (Sem.wrap _ _ _ _ (letOwnedTupleGo target it v >>= _)) fs s₁
      rw [Sem.bind_eq_wrap', Sem.wrap_wrap]
      refine seg_wrap (wpAny_mono h₁ (fun _ s₂ h₂ => ?_) fun x s' hx => ?_)
      · show Seg _ A R Y n s₀ _ (Sem.wrap _ _ _ _ (assign target env v >>= _)) fs s₂
        rw [Sem.bind_eq_wrap', Sem.wrap_wrap]
        refine seg_wrap (wpAny_mono h₂ (fun _ s₃ h₃ => ?_) fun x s' hx => ?_)
        · show Seg _ A R Y n s₀ _ (Sem.wrap _ _ _ _ (execs body env >>= _)) fs s₃
          rw [Sem.bind_eq_wrap', Sem.wrap_wrap]
          rw [Sem.wrap_congr (execs body env) _ _ (K' := fun f => match f with
            | .next | .cont => .pure (.again (.forLoop target it body [] env))
            | .brk => .pure (.done .next)
            | .ret v => .pure (.done (.ret v))) (H' := loopEx env) (fun f => by cases f <;> rfl) (fun e => by exact ex e)]
          exact h₃
        · show Seg _ A R Y n s₀ _ ((do noteFrame x env; theTreesLotGoes x : Sem Unit).bind fun _ => .raise x) fs s'
          rw [ex]
          exact hx
      · show Seg _ A R Y n s₀ _ ((do noteFrame x env; theTreesLotGoes x : Sem Unit).bind fun _ => .raise x) fs s'
        rw [ex]
        exact hx
  · show Seg _ A R Y n s₀ _ ((do noteFrame x env; theTreesLotGoes x : Sem Unit).bind fun _ => .raise x) fs s'
    rw [ex]
    exact hx
end
section
variable {M : Model} {A : Around} {R : GenEnd} {Y : Protocol} {n : Nat} {s₀ : Shared} {c : Code} {fs : List Frame} {s : Shared} {env : Env}
  {K : Flow → Sem Fin} {H : Value → Sem Fin} {gd : Bool → Bool} {lv : List Value → List Value}
theorem seg_For {target iter : Expr} {body : List Stmt} {pos : Pos}
    (h : wpAny M (A.over c fs) (eval iter env) (fun v s₁ => wpAny M (A.over c fs) (pyIter v) (fun it s₂ => ∀ p, Seg M A R Y n s₀ (.forLoop target it body [] env) (M.den (.forLoop target it body [] env))
      (.ret (fun r => ((match r with | .ok f => (.pure f : Sem Flow) | .error e => .raise e).onRaise fun (x : Value) => do
        if (← field x 1) == Value.none then unsupported "frame.own-activation:exception-without-traceback"
        setFlight x env.frame).wrap K H gd lv) none (gd false) (lv []) c p [] :: fs) s₂)
      (fun x s' => Seg M A R Y n s₀ c (H x) fs s') s₁) (fun x s' => Seg M A R Y n s₀ c (H x) fs s') s)
    (hs : ∀ x, foldedSetIterable iter env x = pure x) :
    Seg M A R Y n s₀ c ((exec (.For target iter body [] pos) env).wrap K H gd lv) fs s := by
  rw [exec_For]
  refine seg_at ?_
  show Seg M A R Y n s₀ c (Sem.wrap _ _ _ _ (eval iter env >>= _)) fs s
  rw [Sem.bind_eq_wrap', Sem.wrap_wrap]
  refine seg_wrap (wpAny_mono h (fun v s₁ h₁ => ?_) fun x s' hx => hx)
  show Seg M A R Y n s₀ c (Sem.wrap _ _ _ _ (foldedSetIterable iter env v >>= _)) fs s₁
  rw [hs v]
  refine seg_at ?_
  show Seg M A R Y n s₀ c (Sem.wrap _ _ _ _ (holding [v] (pyIter v) >>= _)) fs s₁
  rw [Sem.bind_eq_wrap', Sem.wrap_wrap]
  refine seg_wrap (wpAny_holding (wpAny_mono h₁ (fun it s₂ h₂ => ?_) fun x s' hx => hx))
  exact seg_call h₂
end
end PySem
namespace L2
open PySem PySem.Spec PyProof.Rows
section
variable {X : Cx} {c : Expr} {a b : List Stmt} {pos : Pos} {tc : TT} {t u : TGn}
def tGIf (tc : TT) (t u : TGn) : TGn := fun D ys σ H => tc σ H fun d H1 => if d = true then t D ys σ H1 else u D ys σ H1
theorem gs_if (hc : PT X c tc) (ha : GSs X a t) (hb : GSs X b u) : GS X (.If c a b pos) (tGIf tc t u) := by
  refine ⟨fun A S ip R n ys s₀ cc fs K J gd lv s σ H D g hn k hI ht => ?_⟩
  rw [exec_If]
  refine seg_at ?_
  show Seg _ _ _ _ _ _ _ (Sem.wrap _ _ _ _ (isTrue c X.env (eval c X.env) >>= fun z => if z = true then execs a X.env else execs b X.env)) _ _
  rw [Sem.bind_eq_wrap', Sem.wrap_wrap]
  obtain ⟨acc, cn, r, I⟩ := hI
  refine seg_wrap ?_
  rw [g.over]
  refine wpAny_mono (hc.run _ s σ H _ I ht) (fun z s' hz => ?_) fun x s' hx => k.exc n s₀ x s' hx
  obtain ⟨H1, I1, q1⟩ := hz
  cases z with
  | true => exact ha.run A S ip R n ys s₀ cc fs K J gd lv s' σ H1 D g hn k ⟨acc, cn, r, I1⟩ q1
  | false => exact hb.run A S ip R n ys s₀ cc fs K J gd lv s' σ H1 D g hn k ⟨acc, cn, r, I1⟩ q1
def tGFor (wi : TI) (g : TG) (tb : TGn) : TGn := fun D ys σ H => wi σ H fun J H2 => ∃ W : Nat → Nat → List V → L2.St → Hp → Prop, (∃ m, W 0 m ys σ H2) ∧ ∀ i m ys σ H, W i m ys σ H →
  (J.stop i H ∧ D.nx ys σ H) ∨ (J.go i H ∧ ∃ N : List V → L2.St → Hp → Prop, (∀ ys' σ' H', N ys' σ' H' → ∃ m', m' < m ∧ W (i + 1) m' ys' σ' H') ∧ ∀ x H', J.yld i H x H' → g x σ H' fun σ2 H2 => tb { D with nx := N, ct := N, bk := D.nx } ys σ2 H2)
theorem gs_for {tg iter : Expr} {body : List Stmt} {wi : TI} {g : TG} {tb : TGn} {pos : Pos} (hp : PassesOwn (model X.prog X.w) X.A X.env X.xe) (hc : X.calm = true) (hi : PI X tg iter wi) (hg : PG X tg g) (hb : GSs X body tb)
    (hs : ∀ x, foldedSetIterable iter X.env x = pure x := by intro _; rfl) : GS X (.For tg iter body [] pos) (tGFor wi g tb) := by
  refine ⟨fun A S ip R n ys s₀ c fs K J gd lv s σ H D gc hn k hI ht => ?_⟩
  obtain ⟨acc, cc, r, I⟩ := hI
  refine seg_For ?_ hs
  rw [gc.over]
  refine wpAny_mono (hi.run _ s σ H _ I ht) (fun v s1 h1 => ?_) fun x s' hx => k.exc n s₀ x s' hx
  refine wpAny_mono h1 (fun itv s2 h2 => ?_) fun x s' hx => k.exc n s₀ x s' hx
  obtain ⟨it, fp, tn, It, H2, rfl, I2, T, st2, f2, W, ⟨m0, w0⟩, turn⟩ := h2
  intro p
  have gl := fun (ip' : List (Addr × Obj)) (hip : ∀ q ∈ ip', q.1 ≠ S) (kk : Result → Sem PySem.Fin) (c' : Code) (hw : c'.weight = 0) (hu : c'.cUnits = 0) => ({ gc_loop (k := kk) (c' := c') (l := lv []) (kp := []) (p := p) gc hw hu with ip := hip } : GC X S ip' A c' (.ret kk none (gd false) (lv []) c p [] :: fs) id)
  have stat : ∀ {acc' : Array Value} {cc' : Nat} {H' : Hp}, (∀ b ∈ fp, H' b = none) → ∀ b ∈ fp, FpOk X ((S, lstObj acc' cc') :: ip) H' b := by
    intro acc' cc' H' hnn b hb
    obtain ⟨_, a1, a2, a3, a4, a5⟩ := f2 b hb
    refine ⟨hnn b hb, a1, a2, a3, a4, fun q hq => ?_⟩
    rcases List.mem_append.mp hq with z | z
    · exact a5 q (List.mem_append_left _ z)
    · rcases List.mem_cons.mp z with rfl | z
      · exact a5 (S, lstObj acc cc) (List.mem_append_right _ (List.mem_cons_self ..))
      · exact a5 q (List.mem_append_right _ (List.mem_cons_of_mem _ z))
  have fpS : ∀ b ∈ fp, b ≠ S := by
    intro b hb
    obtain ⟨_, _, _, _, _, a5⟩ := f2 b hb
    exact fun z => a5 (S, lstObj acc cc) (List.mem_append_right _ (List.mem_cons_self ..)) z.symm
  have loop : ∀ (m n i : Nat) (ys : List V) (s₀ s : Shared) (σ : L2.St) (H : Hp), n + ys.length = sizeLine → W i m ys σ H → GI X S ip ys σ H s → tn i s.heap → (∀ b ∈ fp, H b = none) →
      Seg (model X.prog X.w) A R (GY X S) n s₀ (.forLoop tg (.ref it) body [] X.env) ((model X.prog X.w).den (.forLoop tg (.ref it) body [] X.env))
        (.ret (fun r => ((match r with | .ok f => (.pure f : Sem Flow) | .error e => .raise e).onRaise (cameBack X.env)).wrap K J gd lv) none (gd false) (lv []) c p [] :: fs) s := by
    intro m
    induction m using Nat.strongRecOn with
    | ind m ih =>
      intro n i ys s₀ s σ H hn w hI st fr
      have ee : ∀ (n : Nat) (s₀ : Shared) (x : Value) (s' : Shared), X.xe x s' → Seg (model X.prog X.w) A R (GY X S) n s₀ (.forLoop tg (.ref it) body [] X.env) (loopEx X.env x)
          (.ret (fun r => ((match r with | .ok f => (.pure f : Sem Flow) | .error e => .raise e).onRaise (cameBack X.env)).wrap K J gd lv) none (gd false) (lv []) c p [] :: fs) s' := fun n s₀ x s' hx => by
        refine seg_wrap ?_
        rw [(gl ip gc.ip _ _ rfl rfl).over]
        refine wpAny_bind (wpAny_mono (hp x s' hx) (fun _ s'' hcb => wpAny_theTreesLotGoes ?_) fun y s'' hcb => ?_)
        · exact seg_leaf (.error x) (seg_cameBack gc k hcb)
        · exact seg_leaf (.error y) (seg_cameBack gc k hcb)
      refine seg_forLoop ?_
      rw [(gl ip gc.ip _ _ rfl rfl).over]
      obtain ⟨acc, cc, r, I⟩ := hI
      rcases turn i m ys σ H w with ⟨stop, qn⟩ | ⟨go, N, hN, step⟩
      · refine wpAny_mono (T.done X rfl rfl rfl hc i _ s σ H X.xe I (stat fr) st stop) (fun r' s4 ⟨hr, I4⟩ => ?_) fun x s' hx => ee n s₀ x s' hx
        subst hr
        refine seg_again rfl ?_
        exact seg_leaf (.ok .next) (k.ok n ys s₀ s4 .next hn ⟨σ, H, ⟨acc, cc, r, I4⟩, qn⟩)
      · refine wpAny_mono (T.item X rfl rfl rfl hc i _ s σ H X.xe I (stat fr) st go) (fun r' s4 ⟨u, hr, h4⟩ => ?_) fun x s' hx => ee n s₀ x s' hx
        subst hr
        refine wpAny_mono h4 (fun _ s5 ⟨x, H5, I5, r5, y5, st5, fr5⟩ => ?_) fun x s' hx => ee n s₀ x s' hx
        have I5' := I5.pinned (stat fr5) (T.obj _ _ st5)
        refine wpAny_mono (hg.run _ s5 σ H5 x u _ I5' r5 (step x H5 y5)) (fun _ s6 ⟨σ6, H6, I6, q6⟩ => ?_) fun x s' hx => ee n s₀ x s' hx
        have hip' : ∀ q ∈ ip ++ pinsAt fp s5.heap, q.1 ≠ S := fun q hq => (List.mem_append.mp hq).elim (gc.ip q) fun z => fpS _ (of_pinsAt z).1
        have again : ∀ (n' : Nat) (ys' : List V) (s₀' s7 : Shared), n' + ys'.length = sizeLine → (∃ σ7 H7, GI X S (ip ++ pinsAt fp s5.heap) ys' σ7 H7 s7 ∧ N ys' σ7 H7) → Seg (model X.prog X.w) A R (GY X S) n' s₀' (.forLoop tg (.ref it) body [] X.env) (.pure (.again (.forLoop tg (.ref it) body [] X.env)))
            (.ret (fun r => ((match r with | .ok f => (.pure f : Sem Flow) | .error e => .raise e).onRaise (cameBack X.env)).wrap K J gd lv) none (gd false) (lv []) c p [] :: fs) s7 := by
          rintro n' ys' s₀' s7 hn' ⟨σ7, H7, ⟨acc7, cc7, r7, I7⟩, n7⟩
          obtain ⟨m', hm, w7⟩ := hN ys' σ7 H7 n7
          have pin : ∀ b ∈ fp, ∀ o, s5.heap.get? b = some o → _ := fun b hb o e => I7.pin (b, o) (List.mem_append_right _ (List.mem_cons_of_mem _ (List.mem_append_right _ (mem_pinsAt hb e))))
          refine seg_again rfl (ih m' hm n' (i + 1) ys' s₀' s7 σ7 H7 hn' w7 ⟨acc7, cc7, r7, Inv.unpinned (pins := (S, lstObj acc7 cc7) :: ip) I7⟩ (T.keep _ _ _ st5 fun b hb o e => (pin b hb o e).1) fun b hb => ?_)
          obtain ⟨o, e, d⟩ := T.obj _ _ st5 b hb
          exact (pin b hb o e).2.1
        refine hb.run A S (ip ++ pinsAt fp s5.heap) R n ys s₀ _ _ _ _ id id s6 σ6 H6 { D with nx := N, ct := N, bk := D.nx } (gl _ hip' _ _ rfl rfl) hn ⟨fun n' ys' s₀' s7 f hn' hs => ?_, fun n' s₀' x s7 hx => ee n' s₀' x s7 hx⟩ ⟨acc, cc, r, I6⟩ q6
        cases f with
        | next => exact again n' ys' s₀' s7 hn' hs
        | cont => exact again n' ys' s₀' s7 hn' hs
        | brk =>
          obtain ⟨σ7, H7, ⟨acc7, cc7, r7, I7⟩, q7⟩ := hs
          exact seg_leaf (.ok .next) (k.ok n' ys' s₀' s7 .next hn' ⟨σ7, H7, ⟨acc7, cc7, r7, Inv.unpinned (pins := (S, lstObj acc7 cc7) :: ip) I7⟩, q7⟩)
        | ret v =>
          obtain ⟨x7, σ7, H7, ⟨acc7, cc7, r7, I7⟩, rv, q7⟩ := hs
          exact seg_leaf (.ok (.ret v)) (k.ok n' ys' s₀' s7 (.ret v) hn' ⟨x7, σ7, H7, ⟨acc7, cc7, r7, Inv.unpinned (pins := (S, lstObj acc7 cc7) :: ip) I7⟩, rv, q7⟩)
  exact loop m0 n 0 ys s₀ s2 σ H2 hn w0 ⟨acc, cc, r, I2⟩ st2 fun b hb => (f2 b hb).1
theorem gfor_range {lo : Int} {n : Nat} {g : TG} {tb : TGn} {D : GEnds} {ys : List V} {σ : L2.St} {H : Hp} (Pv : Nat → List V → L2.St → Hp → Prop) (h0 : Pv 0 ys σ H)
    (hs : ∀ i ys σ H, i < n → Pv i ys σ H → g (.int (lo + i)) σ H fun σ2 H2 => tb { D with nx := Pv (i + 1), ct := Pv (i + 1), bk := D.nx } ys σ2 H2) (hd : ∀ ys σ H, Pv n ys σ H → D.nx ys σ H) :
    ∃ W : Nat → Nat → List V → L2.St → Hp → Prop, (∃ m, W 0 m ys σ H) ∧ ∀ i m ys σ H, W i m ys σ H →
      ((Itr lo n).stop i H ∧ D.nx ys σ H) ∨ ((Itr lo n).go i H ∧ ∃ N : List V → L2.St → Hp → Prop, (∀ ys' σ' H', N ys' σ' H' → ∃ m', m' < m ∧ W (i + 1) m' ys' σ' H') ∧ ∀ x H', (Itr lo n).yld i H x H' → g x σ H' fun σ2 H2 => tb { D with nx := N, ct := N, bk := D.nx } ys σ2 H2) := by
  refine ⟨fun i m ys σ H => m = n - i ∧ i ≤ n ∧ Pv i ys σ H, ⟨n, by simp, Nat.zero_le _, h0⟩, ?_⟩
  rintro i m ys σ H ⟨rfl, hi, p⟩
  by_cases hlt : i < n
  · refine .inr ⟨hlt, Pv (i + 1), fun ys' σ' H' p' => ⟨n - (i + 1), by omega, rfl, hlt, p'⟩, fun x H' y => ?_⟩
    obtain ⟨e, y⟩ := y
    subst e y
    exact hs i ys σ _ hlt p
  · have e : i = n := by omega
    subst e
    exact .inl ⟨Nat.le_refl _, hd ys σ H p⟩
end
end L2

namespace EB
open PySem PySem.Spec PyProof.Rows L2
section
variable {P : Program} {w : World} {K : PySem.W.Frag} {mg : Str → Option Value} {base : Heap}
theorem gfnG {d : DD} {fd : FuncData} {N ps : List Str} {k : Nat} {sp : SpG} (F : FnP K d fd) (S : GScope N ps (defScope d.st)) (len : ∀ vs H Q E, sp vs H Q E → vs.length = ps.length)
    (hbody : ∀ (cdv : Value) (A : Around) (outer : List Env) (s : Shared) (H : Hp) (vs : List V) (Q : List V → Hp → Prop) (E : XK) (pn : List (Addr × Obj)), Room k (A.deeper (envOfC d.ql (defScope d.st) s.heap.objs.size (d.adr K) cdv)) → sp vs H Q E →
      ∃ t, GSs (gcxOf P w K mg base N d.ql (defScope d.st) (d.adr K) cdv A outer s H E pn) (defBody d.st) t ∧ t { nx := fun ys _ H' => Q ys H', rt := fun ys v H' => v = .non ∧ Q ys H' } [] (start N vs) H) :
    GFn P w K mg base (k + 1) (d.adr K) fd ps sp := by
  obtain ⟨oc, od, dV, kV, doc, pm, an, cdv, ct, osl, rfl, lk, hcd, _, _⟩ := F.ex
  exact gfn_of lk hcd S len fun A outer s H vs Q E pn hr hsp => hbody cdv A outer s H vs Q E pn hr hsp
theorem bndG {d : DD} {fd : FuncData} {ps : List Str} (F : FnP K d fd) (e : d.df = [])
    (b : ∀ (kV doc pm : Value) (an : Option Addr) (cdv ct : Value) (us : List Value), us.length = ps.length → bindArgs (PySem.W.fnOf d.nm d.ql (defArgs d.st) (defBody d.st) (defScope d.st) .none kV doc pm an cdv ct) ⟨us, []⟩ = pure (ps.zip us)) : Binds K fd ps [] := by
  have F2 : FunD K d.nm d.ql (defArgs d.st) (defBody d.st) (defScope d.st) [] [] (d.adr K) fd := by
    have z : FnP K d fd := F
    unfold FnP at z
    rw [e] at z
    exact z
  exact F2.bindsN b
theorem noStop0 : NoStop K E0 := fun _ _ _ h => False.elim h
theorem passG {X : Cx} : Passes (CX X.prog X.w) X E0 := by
  intro pins σ H s e s' I h
  obtain ⟨a, B, H', cls, d, z1, fl, z2, ub, z3, z4, z5, z6⟩ := h
  first | exact False.elim z1 | exact False.elim z2 | exact False.elim z3 | exact False.elim z4 | exact False.elim z5 | exact False.elim z6
end
end EB

namespace EB
open PySem PySem.Spec PyProof.Rows L2
theorem roundsL_len {ts : List Tr} (f : Fair ts) {n : Nat} (hn : n ≤ 1000000000000000000) : (roundsL (cN ts) n).length ≤ 1000 := rounds_len f hn (fun j q => absurd q (Nat.not_lt_zero _))
/-- how far the rounds have come -/
def RndW (a : Addr) (ts : List Tr) (n : Nat) (H : Hp) : Nat → List V → L2.St → Hp → Prop := fun m ys σ H1 => ∃ (d : Nat) (pre : List Int), Same H H1 ∧ (∀ j, j < d → cN ts j < n) ∧ D (cN ts) n < d + m ∧ ys = pre.map V.int ∧ pre ++ rnd (cN ts) n m d = roundsL (cN ts) n ∧
  σ = [some (.ref a), some (.int (n : Nat)), some (.int (d : Nat)), some (.int ((n : Int) - cN ts d))]
section
variable {P : Program} {w : World} {K : PySem.W.Frag} {mg : Str → Option Value} {base : Heap} (T : Tx K mg)
include T
def spRounds (K : PySem.W.Frag) : SpG := fun vs H Q _ => ∃ (a : Addr) (ts : List Tr) (n : Nat), vs = [.ref a, .int (n : Nat)] ∧ OfAt K H a ts ∧ Fair ts ∧ n ≤ 1000000000000000000 ∧ ∀ H', Same H H' → Q ((roundsL (cN ts) n).map V.int) H'
theorem ok_Offer_rounds : GFn P w K mg base 4 (a_Offer_rounds K) T.fd_Offer_rounds ["self", "bottles"] (spRounds K) := by
  refine gfnG (d := d_Offer_rounds) T.F_Offer_rounds sc_Offer_rounds (fun vs H Q E h => ?_) (fun cdv A outer s H vs Q E pn hr h => ?_)
  · obtain ⟨a, ts, n, rfl, _⟩ := h
    rfl
  obtain ⟨a, ts, n, rfl, ho, hf, hn, k⟩ := h
  obtain ⟨dx, t, p, o, f, g, e1, e2, e3, e4, e5, e6⟩ := ho.ex
  have C := cf hf
  refine ⟨_, (gss_cons (gs_ps (ps_expr (pe_cR (ok_check_number T) (hr.mono (by decide)) T.F_check_number.kp T.g_check_number pass0 (pa_cons (pv 1) pa_nil)))) (gss_cons (gs_ps (ps_set (i := 2) sc_Offer_rounds.nd rfl (Or.inl rfl) pe_int)) (gss_cons (gs_ps (ps_set (i := 3) sc_Offer_rounds.nd rfl (Or.inl rfl) (pv 1))) (gss_cons (gs_while owns_gcx (pt_cmpR op_gt (pv 3) pe_int (nomark _)) (gss_cons (gs_yield (pv 3)) (gss_pss (pss_cons (ps_set (i := 2) sc_Offer_rounds.nd rfl (Or.inl rfl) (pe_op op_add (pv 2) (pv 3))) (pss_one (ps_set (i := 3) sc_Offer_rounds.nd rfl (Or.inl rfl) (pe_op op_sub (pv 1) (pe_cR (ok_cost_of T) (hr.mono (by decide)) T.F_cost_of.kp T.g_cost_of pass0 (pa_cons (pe_fld (pv 0) rfl) (pa_cons (pv 2) pa_nil)))))))))) gss_nil)))), ?_⟩
  refine ⟨_, rfl, n, rfl, by omega, by omega, ?_⟩
  refine ⟨_, rfl, RndW a ts n H, ⟨10 * n + 1, 0, [], Same.refl _, fun j q => absurd q (Nat.not_lt_zero _), by have := C.D_le_ten n; omega, rfl, rfl, ?_⟩, ?_⟩
  · rw [C.zero, Int.sub_zero]
    rfl
  rintro m ys σ H1 ⟨d, pre, s1, hlow, hm, rfl, hpre, rfl⟩
  have hd := C.below hlow
  obtain ⟨m, rfl⟩ : ∃ m', m = m' + 1 := ⟨m - 1, by omega⟩
  have hr2 : rnd (cN ts) n (m + 1) d = if 0 < (n : Int) - cN ts d then ((n : Int) - cN ts d) :: rnd (cN ts) n m (d + ((n : Int) - cN ts d).toNat) else [] := rfl
  refine ⟨_, rfl, _, _, rfl, rfl, _, rfl, ite2 (fun hf0 => ?_) (fun hf0 => ?_)⟩
  · have hf0 : 0 < (n : Int) - cN ts d := of_decide_eq_true hf0
    rw [hr2, if_pos hf0] at hpre
    have hlow2 := C.below_next hlow hf0
    refine ⟨RndW a ts n H m, fun _ _ _ h => ⟨m, Nat.lt_succ_self _, h⟩, ?_, _, rfl, ?_⟩
    · have h1 := roundsL_len hf hn
      rw [← hpre, List.length_append] at h1
      rw [List.length_map]
      exact small3 (by omega)
    refine ⟨_, rfl, _, rfl, _, _, rfl, rfl, ?_⟩
    refine ⟨_, rfl, _, rfl, a, _, dx, _, _, rfl, s1 _ _ e1, T.k_Offer, T.na_trades, lk_trades, ?_⟩
    have ed : (d : Int) + ((n : Int) - cN ts d) = ((d + ((n : Int) - cN ts d).toNat : Nat) : Int) := by omega
    refine ⟨_, rfl, t, ts, _, rfl, e2.mono s1, hf.g, fun H2 s2 => ⟨_, _, rfl, rfl, ?_⟩⟩
    refine ⟨d + ((n : Int) - cN ts d).toNat, pre ++ [(n : Int) - cN ts d], s1.trans s2, hlow2, by omega, by rw [List.map_append]; rfl, by rw [List.append_assoc]; exact hpre, ?_⟩
    show [some (V.ref a), some (V.int (n : Nat)), some (V.int ((d : Int) + ((n : Int) - cN ts d))), some (V.int ((n : Int) - cost ts ((d : Int) + ((n : Int) - cN ts d))))] = _
    rw [ed]
  · have hf0 : ¬ 0 < (n : Int) - cN ts d := fun z => hf0 (decide_eq_true z)
    rw [hr2, if_neg hf0, List.append_nil] at hpre
    rw [hpre]
    exact k _ s1
theorem b_Offer_rounds : Binds K T.fd_Offer_rounds ["self", "bottles"] [] := bndG T.F_Offer_rounds rfl (fun _ _ _ _ _ _ us hl => match us, hl with | [_, _], _ => rfl)
end
end EB

namespace EB
open PySem PySem.Spec PyProof.Rows L2
/-- the fewest bottles that give so many drinks -/
def few (c : Nat → Int) (d : Nat) : Nat := if d = 0 then 0 else (T c (d - 1)).toNat + 1
namespace CF
variable {c : Nat → Int} {P B : Nat}
theorem few_iff (h : CF c P B) (d n : Nat) : D c n < d ↔ n < few c d := by
  unfold few
  by_cases z : d = 0
  · rw [if_pos z]
    omega
  · rw [if_neg z]
    have h1 := h.D_le_iff (n := n) (d := d - 1)
    have h2 := h.T_nonneg (d - 1)
    constructor
    · intro q
      have := h1.mp (by omega)
      omega
    · intro q
      have := h1.mpr (by omega)
      omega
theorem few_le (h : CF c P B) (d : Nat) : few c d ≤ d := by
  apply Nat.le_of_not_lt
  intro q
  have := (h.few_iff d d).mpr q
  have := h.D_ge d
  omega
theorem few_ge (h : CF c P B) (d : Nat) : d ≤ D c (few c d) := by
  apply Nat.le_of_not_lt
  intro q
  have := (h.few_iff d _).mp q
  omega
theorem T_D (h : CF c P B) (n : Nat) : T c (D c n) = n := by
  have h1 := h.D_le_iff (n := n) (d := D c n)
  have h2 := h1.mp (Nat.le_refl _)
  have h0 := h.T_nonneg (D c n)
  have h3 := h.D_le_iff (n := (T c (D c n)).toNat) (d := D c n)
  have h4 := h3.mpr (by omega)
  rcases Nat.lt_or_ge n (T c (D c n)).toNat with z | z
  · have := h.D_lt z
    omega
  · omega
/-- a number comes about just if the most bottles within it give it -/
theorem comes (h : CF c P B) (d : Nat) : D c (T c d).toNat = d ↔ ∃ n, D c n = d := by
  constructor
  · intro q
    exact ⟨_, q⟩
  · rintro ⟨n, rfl⟩
    rw [h.T_D]
    rfl
theorem comes_few (h : CF c P B) (d : Nat) : (∃ n, D c n = d) ↔ D c (few c d) = d := by
  constructor
  · rintro ⟨n, rfl⟩
    have h1 := h.few_ge (D c n)
    have h2 : ¬ n < few c (D c n) := fun z => by
      have := (h.few_iff (D c n) n).mpr z
      omega
    have h3 := h.D_mono (show few c (D c n) ≤ n by omega)
    omega
  · intro q
    exact ⟨_, q⟩
end CF
end EB

namespace EB
open PySem PySem.Spec PyProof.Rows L2
section
variable {P : Program} {w : World} {K : PySem.W.Frag} {mg : Str → Option Value} {base : Heap} (T : Tx K mg)
include T
def spMost (K : PySem.W.Frag) : Sp := fun vs H Q _ => ∃ (a : Addr) (ts : List Tr) (d : Nat), vs = [.ref a, .int (d : Nat)] ∧ OfAt K H a ts ∧ Fair ts ∧ Q (.int (EB.T (cN ts) d)) H
theorem ok_Offer_most_within : FnR P w K mg base CX0 2 (a_Offer_most_within K) (spMost K) := by
  refine fnR0 (d := d_Offer_most_within) T.F_Offer_most_within sc_Offer_most_within rfl (fun _ _ _ _ _ _ us hl => match us, hl with | [_, _], _ => rfl) (fun vs H Q E h => ?_) (fun cdv A outer s H vs Q E hr h => ?_)
  · obtain ⟨a, ts, n, rfl, _⟩ := h
    rfl
  obtain ⟨a, ts, n, rfl, ho, hf, k⟩ := h
  obtain ⟨dx, t, p, o, f, g, e1, e2, e3, e4, e5, e6⟩ := ho.ex
  refine ⟨_, (pss_cons (ps_asg (pe_fld (pv 0) rfl) (pg_tup rfl (pgs_cons (pg_name (i := 2) sc_Offer_most_within.nd rfl (Or.inl rfl)) (pgs_cons (pg_name (i := 3) sc_Offer_most_within.nd rfl (Or.inl rfl)) pgs_nil)))) (pss_one (ps_ret (pe_cR (ok_value_at T) (hr.mono (by decide)) T.F_value_at.kp T.g_value_at pass0 (pa_cons (pe_fld (pv 0) rfl) (pa_cons (pv 1) (pa_cons (pv 3) (pa_cons (pv 2) pa_nil)))))))), ?_⟩
  refine ⟨_, rfl, a, _, dx, _, _, rfl, e1, T.k_Offer, T.na_period, lk_period, p, _, rfl, e3, rfl, _, _, rfl, _, _, rfl, rfl, ?_⟩
  refine ⟨_, rfl, a, _, dx, _, _, rfl, e1, T.k_Offer, T.na_tops, lk_tops, _, rfl, _, rfl, _, rfl, o, topsL ts, n, per ts, perB ts, rfl, e4, by omega, ?_, ?_, ?_, ?_, ?_, ?_⟩
  all_goals have hp := per_le' hf.g
  all_goals have hb := (cf hf).bpos
  all_goals have hB := perB_le hf
  all_goals have hP := per_pos hf.g
  · omega
  · omega
  · omega
  · omega
  · rw [List.length_map, List.length_range]
    omega
  · rw [value_tops (cf hf)]
    exact k
end
end EB

namespace EB
open PySem PySem.Spec PyProof.Rows L2
section
variable {P : Program} {w : World} {K : PySem.W.Frag} {mg : Str → Option Value} {base : Heap} (T : Tx K mg)
include T
def spContains (K : PySem.W.Frag) : Sp := fun vs H Q _ => ∃ (a : Addr) (ts : List Tr) (d : Nat), vs = [.ref a, .int (d : Nat)] ∧ OfAt K H a ts ∧ Fair ts ∧ Q (.bl (decide (D (cN ts) (EB.T (cN ts) d).toNat = d))) H
theorem ok_Offer_contains : FnR P w K mg base CX0 3 (a_Offer_contains K) (spContains K) := by
  refine fnR0 (d := d_Offer_contains) T.F_Offer_contains sc_Offer_contains rfl (fun _ _ _ _ _ _ us hl => match us, hl with | [_, _], _ => rfl) (fun vs H Q E h => ?_) (fun cdv A outer s H vs Q E hr h => ?_)
  · obtain ⟨a, ts, n, rfl, _⟩ := h
    rfl
  obtain ⟨a, ts, n, rfl, ho, hf, k⟩ := h
  obtain ⟨dx, t, p, o, f, g, e1, e2, e3, e4, e5, e6⟩ := ho.ex
  have h0 := (cf hf).T_nonneg n
  refine ⟨_, (pss_cons (ps_if (PW.pt (pw_or (pt_not (pt_val (pe_cR (ok_is_integer T) (hr.mono (by decide)) T.F_is_integer.kp T.g_is_integer pass0 (pa_cons (pv 1) pa_nil)))) (pw_or1 (pt_cmpR op_lt (pv 1) pe_int (nomark _))))) (pss_one (ps_ret pe_bl)) pss_nil) (pss_one (ps_ret (pe_cmpR op_eq (pe_methR (pv 0) T.k_Offer T.m_Offer_drinks_for (ok_Offer_drinks_for T) (hr.mono (by decide)) pass0 (pa_cons (pe_methR (pv 0) T.k_Offer T.m_Offer_most_within (ok_Offer_most_within T) (hr.mono (by decide)) pass0 (pa_cons (pv 1) pa_nil)) pa_nil)) (pv 1) (nomark _))))), ?_⟩
  refine ⟨_, rfl, n, rfl, true, rfl, iteF ?_⟩
  refine ⟨_, rfl, _, _, rfl, rfl, _, rfl, ite2 (fun hd => ?_) (fun _ => ?_)⟩
  · have hd : (n : Int) < 0 := of_decide_eq_true hd
    omega
  refine ⟨_, rfl, a, dx, _, rfl, e1, lk_no (by decide +kernel), _, rfl, a, dx, _, rfl, e1, lk_no (by decide +kernel), _, rfl, a, ts, n, rfl, ho, hf, a, ts, (EB.T (cN ts) n).toNat, ?_, ho, hf, _, rfl, rfl, ?_⟩
  · rw [Int.toNat_of_nonneg h0]
  · have e : decide (V.int ((D (cN ts) (EB.T (cN ts) n).toNat : Nat) : Int) = V.int (n : Int)) = decide (D (cN ts) (EB.T (cN ts) n).toNat = n) := by
      by_cases z : D (cN ts) (EB.T (cN ts) n).toNat = n
      · rw [decide_eq_true z, decide_eq_true (by rw [z])]
      · rw [decide_eq_false z, decide_eq_false (fun y => z (by have := V.int.inj y; omega))]
    rw [e]
    exact k
end
end EB

namespace EB
open PySem PySem.Spec PyProof.Rows L2
/-- the numbers from first on, so many, that do not come about -/
noncomputable def missL (c : Nat → Int) (first n : Nat) : List Nat := ((List.range n).map fun i => first + i).filter fun d => !decide (D c (EB.T c d).toNat = d)
theorem missL_succ (c : Nat → Int) (first n : Nat) : missL c first (n + 1) = if (!decide (D c (EB.T c (first + n)).toNat = first + n)) = true then missL c first n ++ [first + n] else missL c first n := by
  unfold missL
  rw [List.range_succ, List.map_append, List.filter_append]
  by_cases z : (!decide (D c (EB.T c (first + n)).toNat = first + n)) = true
  · rw [if_pos z]
    simp only [List.map_cons, List.map_nil, List.filter_cons, List.filter_nil]
    rw [if_pos z]
  · rw [if_neg z]
    simp only [List.map_cons, List.map_nil, List.filter_cons, List.filter_nil]
    rw [if_neg z, List.append_nil]
theorem missL_len (c : Nat → Int) (first n : Nat) : (missL c first n).length ≤ n := by
  unfold missL
  refine Nat.le_trans (List.length_filter_le _ _) ?_
  rw [List.length_map, List.length_range]
  exact Nat.le_refl _
section
variable {P : Program} {w : World} {K : PySem.W.Frag} {mg : Str → Option Value} {base : Heap} (T : Tx K mg)
include T
def spMissing (K : PySem.W.Frag) : SpG := fun vs H Q _ => ∃ (a : Addr) (ts : List Tr) (f l : Nat), vs = [.ref a, .int (f : Nat), .int (l : Nat)] ∧ OfAt K H a ts ∧ Fair ts ∧ l ≤ 1000000000000000000 ∧ f ≤ l ∧ l - f < 10000 ∧ ∀ H', Same H H' → Q ((missL (cN ts) f (l + 1 - f)).map fun n => V.int (n : Nat)) H'
theorem ok_Offer_missing : GFn P w K mg base 6 (a_Offer_missing K) T.fd_Offer_missing ["self", "first", "last"] (spMissing K) := by
  refine gfnG (d := d_Offer_missing) T.F_Offer_missing sc_Offer_missing (fun vs H Q E h => ?_) (fun cdv A outer s H vs Q E pn hr h => ?_)
  · obtain ⟨a, ts, f, l, rfl, _⟩ := h
    rfl
  obtain ⟨a, ts, f, l, rfl, ho, hf, hl, hfl, hd, k⟩ := h
  obtain ⟨dx, t, p, o, f', g, e1, e2, e3, e4, e5, e6⟩ := ho.ex
  have C := cf hf
  obtain ⟨tM, hM⟩ := T.c_MAX_LOOKED_AT
  refine ⟨_, (gss_cons (gs_ps (ps_expr (pe_cR (ok_check_number T) (hr.mono (by decide)) T.F_check_number.kp T.g_check_number pass0 (pa_cons (pv 1) pa_nil)))) (gss_cons (gs_ps (ps_expr (pe_cR (ok_check_number T) (hr.mono (by decide)) T.F_check_number.kp T.g_check_number pass0 (pa_cons (pv 2) pa_nil)))) (gss_cons (gs_ps (ps_if (pt_not (pt_chain op_le op_le pe_int (pe_op op_add (pe_op op_sub (pv 2) (pv 1)) pe_int) (pe_cI T.c_MAX_LOOKED_AT))) (pss_one ps_never) pss_nil)) (gss_cons (gs_for owns_gcx rfl (pi_range2 rfl T.n_range (pa_cons (pv 1) (pa_cons (pe_op op_add (pv 2) pe_int) pa_nil))) (pg_name (i := 3) sc_Offer_missing.nd rfl (Or.inl rfl)) (gss_cons (gs_if (pt_cmpR (op_notInO T.m_Offer_contains.at_ T.m_Offer_contains.fn (ok_Offer_contains T) (hr.mono (by decide)) pass0) (pv 3) (pv 0) rfl) (gss_cons (gs_yield (pv 3)) gss_nil) gss_nil) gss_nil)) gss_nil)))), ?_⟩
  refine ⟨_, rfl, f, rfl, by omega, by omega, ?_⟩
  refine ⟨_, rfl, l, rfl, by omega, by omega, ?_⟩
  have h62 : (1000000000000000001 : Int) < 2 ^ 62 := by decide
  refine ⟨_, rfl, _, rfl, _, _, rfl, rfl, _, _, rfl, rfl, _, _, rfl, rfl, true, congrArg V.bl (decide_eq_true (show (1 : Int) ≤ (l : Int) - (f : Int) + 1 by omega)), iteT ⟨_, _, rfl, rfl, true, congrArg V.bl (decide_eq_true (show (l : Int) - (f : Int) + 1 ≤ 10000 by omega)), iteF ?_⟩⟩
  refine ⟨_, rfl, _, rfl, _, _, rfl, rfl, _, _, rfl, ⟨by omega, by omega, by omega, by omega⟩, ?_⟩
  have en : ((l : Int) + 1 - (f : Int)).toNat = l + 1 - f := by omega
  refine gfor_range (lo := (f : Int)) (n := ((l : Int) + 1 - (f : Int)).toNat) (fun i ys σ H1 => Same H H1 ∧ ys = (missL (cN ts) f i).map (fun n => V.int (n : Nat)) ∧ ∃ x3, σ = [some (.ref a), some (.int (f : Nat)), some (.int (l : Nat)), x3]) ⟨Same.refl _, rfl, _, rfl⟩ ?_ ?_
  · rintro i ys σ H1 hi ⟨s1, rfl, x3, rfl⟩
    have ec : (f : Int) + (i : Int) = ((f + i : Nat) : Int) := by omega
    refine ⟨_, rfl, _, rfl, a, dx, _, rfl, s1 _ _ e1, ⟨a, ts, f + i, by rw [ec], ho.mono s1, hf, ⟨_, rfl, ?_⟩⟩⟩
    rw [if_pos rfl]
    refine ⟨_, rfl, ite2 (fun hz => ?_) (fun hz => ?_)⟩
    · have hn := missL_succ (cN ts) f i
      rw [if_pos hz] at hn
      have hll := missL_len (cN ts) f i
      refine ⟨by rw [List.length_map]; exact small3 (by omega), _, rfl, s1, ?_, _, rfl⟩
      rw [hn, List.map_append, ec]
      rfl
    · have hn := missL_succ (cN ts) f i
      rw [if_neg hz] at hn
      refine ⟨s1, by rw [hn], _, rfl⟩
  · rintro ys σ H1 ⟨s1, rfl, x3, rfl⟩
    rw [en]
    exact k _ s1
theorem b_Offer_missing : Binds K T.fd_Offer_missing ["self", "first", "last"] [] := bndG T.F_Offer_missing rfl (fun _ _ _ _ _ _ us hl => match us, hl with | [_, _, _], _ => rfl)
def spCount (K : PySem.W.Frag) : Sp := fun vs H Q _ => ∃ (a : Addr) (ts : List Tr) (n : Nat), vs = [.ref a, .int (n : Nat)] ∧ OfAt K H a ts ∧ Fair ts ∧ n ≤ 1000000000000000000 ∧ Q (.int ((n : Int) - EB.T (cN ts) n)) H
theorem ok_Offer_count_missing : FnR P w K mg base CX0 4 (a_Offer_count_missing K) (spCount K) := by
  refine fnR0 (d := d_Offer_count_missing) T.F_Offer_count_missing sc_Offer_count_missing rfl (fun _ _ _ _ _ _ us hl => match us, hl with | [_, _], _ => rfl) (fun vs H Q E h => ?_) (fun cdv A outer s H vs Q E hr h => ?_)
  · obtain ⟨a, ts, n, rfl, _⟩ := h
    rfl
  obtain ⟨a, ts, n, rfl, ho, hf, hn, k⟩ := h
  obtain ⟨dx, t, p, o, f, g, e1, e2, e3, e4, e5, e6⟩ := ho.ex
  refine ⟨_, (pss_cons (ps_expr (pe_cR (ok_check_number T) (hr.mono (by decide)) T.F_check_number.kp T.g_check_number pass0 (pa_cons (pv 1) pa_nil))) (pss_one (ps_ret (pe_op op_sub (pv 1) (pe_methR (pv 0) T.k_Offer T.m_Offer_most_within (ok_Offer_most_within T) (hr.mono (by decide)) pass0 (pa_cons (pv 1) pa_nil)))))), ?_⟩
  refine ⟨_, rfl, n, rfl, by omega, by omega, ?_⟩
  exact ⟨_, rfl, _, rfl, a, dx, _, rfl, e1, lk_no (by decide +kernel), _, rfl, a, ts, n, rfl, ho, hf, _, _, rfl, rfl, k⟩
end
end EB

namespace EB
open PySem PySem.Spec PyProof.Rows L2
section
variable {P : Program} {w : World} {K : PySem.W.Frag} {mg : Str → Option Value} {base : Heap} {k : Nat} {f : Addr} {fd : FuncData} {ps : List Str} {sp sp' : SpG}
theorem gfn_or (F : GFn P w K mg base k f fd ps sp) (G : GFn P w K mg base k f fd ps sp') : GFn P w K mg base k f fd ps (fun vs H Q E => sp vs H Q E ∨ sp' vs H Q E) where
  len := fun vs H Q E h => h.elim (F.len vs H Q E) (G.len vs H Q E)
  run := fun A outer s H args us vs Q E hr e0 hb r h => h.elim (F.run A outer s H args us vs Q E hr e0 hb r) (G.run A outer s H args us vs Q E hr e0 hb r)
end
section
variable {w : World} {K : PySem.W.Frag} {mg : Str → Option Value} {base : Heap} (T : Tx K mg)
include T
def spRoundsX (K : PySem.W.Frag) : SpG := fun vs H _ E => ∃ (v : V) (n : Int), vs = [v, .int n] ∧ ¬ (0 ≤ n ∧ n ≤ 1000000000000000000) ∧ E (.ref (He.ga K "InvalidNumber")) none H
theorem okX_Offer_rounds (hK : K.In base) : GFn PX w K mg base 4 (a_Offer_rounds K) T.fd_Offer_rounds ["self", "bottles"] (spRoundsX K) := by
  refine gfnG (d := d_Offer_rounds) T.F_Offer_rounds sc_Offer_rounds (fun vs H Q E h => ?_) (fun cdv A outer s H vs Q E pn hr h => ?_)
  · obtain ⟨v, n, rfl, _⟩ := h
    rfl
  obtain ⟨v, n, rfl, hn, k⟩ := h
  refine ⟨_, (gss_cons (gs_ps (ps_expr (pe_cR (okX_check_number T hK) (hr.mono (by decide)) T.F_check_number.kp T.g_check_number (passes_call takes_gcx (fun _ _ _ _ h => h)) (pa_cons (pv 1) pa_nil)))) gss_never), ?_⟩
  refine ⟨_, rfl, ?_⟩
  dsimp only [tNil, tCons, tC]
  exact chk1 (fun a b => absurd ⟨a, b⟩ hn) fun _ => k
def spMissX (K : PySem.W.Frag) : SpG := fun vs H _ E => ∃ (v : V) (f l : Int), vs = [v, .int f, .int l] ∧ ¬ ((0 ≤ f ∧ f ≤ 1000000000000000000) ∧ (0 ≤ l ∧ l ≤ 1000000000000000000) ∧ (1 ≤ l - f + 1 ∧ l - f + 1 ≤ 10000)) ∧ E (.ref (He.ga K "InvalidNumber")) none H
theorem okX_Offer_missing (hK : K.In base) : GFn PX w K mg base 6 (a_Offer_missing K) T.fd_Offer_missing ["self", "first", "last"] (spMissX K) := by
  refine gfnG (d := d_Offer_missing) T.F_Offer_missing sc_Offer_missing (fun vs H Q E h => ?_) (fun cdv A outer s H vs Q E pn hr h => ?_)
  · obtain ⟨v, f, l, rfl, _⟩ := h
    rfl
  obtain ⟨v, f, l, rfl, hn, k⟩ := h
  obtain ⟨tM, hM⟩ := T.c_MAX_LOOKED_AT
  refine ⟨_, (gss_cons (gs_ps (ps_expr (pe_cR (okX_check_number T hK) (hr.mono (by decide)) T.F_check_number.kp T.g_check_number (passes_call takes_gcx (fun _ _ _ _ h => h)) (pa_cons (pv 1) pa_nil)))) (gss_cons (gs_ps (ps_expr (pe_cR (okX_check_number T hK) (hr.mono (by decide)) T.F_check_number.kp T.g_check_number (passes_call takes_gcx (fun _ _ _ _ h => h)) (pa_cons (pv 2) pa_nil)))) (gss_cons (gs_ps (ps_if (pt_not (pt_chain op_le op_le pe_int (pe_op op_add (pe_op op_sub (pv 2) (pv 1)) pe_int) (pe_cI T.c_MAX_LOOKED_AT))) (pss_one (ps_raise rfl takes_gcx (pmk_ownE PySem.F.excBase_ValueError T.x_InvalidNumber.own T.g_InvalidNumber T.x_InvalidNumber.keep (raises_own T.x_InvalidNumber.base T.x_InvalidNumber.ty) (by rfl) (pe_joined (.cons pe_str (.cons (pe_fmt (pe_cI T.c_MAX_LOOKED_AT)) (.cons pe_str .nil))))))) pss_nil)) gss_never))), ?_⟩
  refine ⟨_, rfl, ?_⟩
  dsimp only [tNil, tCons, tC]
  refine chk1 (fun f0 f1 => ?_) fun _ => k
  refine ⟨_, rfl, ?_⟩
  dsimp only [tNil, tCons, tC]
  refine chk1 (fun l0 l1 => ?_) fun _ => k
  refine ⟨_, rfl, _, rfl, _, _, rfl, rfl, _, _, rfl, rfl, _, _, rfl, rfl, ?_⟩
  by_cases h1 : (1 : Int) ≤ l - f + 1
  · have h2 : ¬ l - f + 1 ≤ 10000 := fun z => hn ⟨⟨f0, f1⟩, ⟨l0, l1⟩, h1, z⟩
    exact ⟨true, congrArg V.bl (decide_eq_true h1), iteT ⟨_, _, rfl, rfl, false, congrArg V.bl (decide_eq_false h2), iteT ⟨_, rfl, by decide +kernel, .inr ⟨_, rfl, by decide +kernel, _, rfl, by decide +kernel, _, rfl, by decide +kernel, rfl, k⟩⟩⟩⟩
  · refine ⟨false, congrArg V.bl (decide_eq_false h1), iteF ⟨false, rfl, iteT ⟨_, rfl, by decide +kernel, .inr ⟨_, rfl, by decide +kernel, _, rfl, by decide +kernel, _, rfl, by decide +kernel, rfl, k⟩⟩⟩⟩
end
end EB

namespace EB
open PySem PySem.Spec PyProof.Rows L2
/-! A law whose lambdas are made in more than one def. -/
section
variable {P : Program} {w : World} {K : PySem.W.Frag} {mg : Str → Option Value} {base : Heap} (T : Tx K mg) {N0 : List Str} {ql0 : Str} {sc0 : Scope} {ad0 c Pt : Addr} {A0 : Around} {outer0 : List Env} {s0 : Shared} {H0 : Hp} {E1 : XK} {Ts : List (Addr × Str)}
include T
theorem nsNum {E : XK} : NoStop K (fun cls d H => E cls d H ∧ cls = Value.ref (He.ga K "InvalidNumber")) := fun cls d H h => by
  rw [h.2]
  exact T.ns_InvalidNumber
omit T in
theorem law_qual : (lawCx P w K mg base N0 ql0 sc0 ad0 c A0 outer0 s0 H0 E1).env.qual = ql0 ++ (".<locals>." : Str) := rfl
theorem pe_errM {k : Nat} {t : XK → TE} {params : Arguments} {body : Expr} {scope : Scope} {p lpos pos : Pos} {q : Str} (eqq : q = ql0 ++ (".<locals>." : Str) ++ ("<lambda>" : Str)) (hm : (Pt, q) ∈ Ts) (hu : ∀ p ∈ Ts, p.1 = Pt → p.2 = q) (TB : LamX.TabB base mg c Pt) (hr : Room (k + 2) (lawCx P w K mg base N0 ql0 sc0 ad0 c A0 outer0 s0 H0 E1).A)
    (L : LamX.LamS sc0 scope) (hdef : defaultsOf params (lawCx P w K mg base N0 ql0 sc0 ad0 c A0 outer0 s0 H0 E1).env = ([], []))
    (hbind : ∀ (q : Str) (cl : List (Str × Addr)) (pm cv ctv : Value), bindArgs (PySem.W.kla_fn "<lambda>" q params body scope cl pm cv ctv) ⟨[], []⟩ = pure [])
    (hbody : ∀ (A : Around) (outer : List Env) (s : Shared) (H : Hp) (E : XK) (f c' : Addr), Room k (A.deeper (LamX.lamEnv (lawCx P w K mg base N0 ql0 sc0 ad0 c A0 outer0 s0 H0 E1) scope s.heap.objs.size f c')) → PE (LamX.lamCx (lawCx P w K mg base N0 ql0 sc0 ad0 c A0 outer0 s0 H0 E1) A outer s H E scope f c') body (t E))
    (hgl : Gl (lawCx P w K mg base N0 ql0 sc0 ad0 c A0 outer0 s0 H0 E1) "_law_error" := by rfl) :
    PE (lawCx P w K mg base N0 ql0 sc0 ad0 c A0 outer0 s0 H0 E1) (.Call (.Name "_law_error" p) [.Lambda params body scope lpos] [] pos) (LamX.tLam Ts (TTErr K) t) := by
  obtain ⟨oc, od, dV, kV, doc, pm, an, cdv, ct, osl, e, lk, hcd, _, _⟩ := T.F_law_error.ex
  have b := b_law_error T
  rw [e] at b lk
  rw [eqq, ← law_qual (P := P) (w := w) (K := K) (mg := mg) (base := base) (N0 := N0) (ql0 := ql0) (sc0 := sc0) (ad0 := ad0) (c := c) (A0 := A0) (outer0 := outer0) (s0 := s0) (H0 := H0) (E1 := E1)] at hm hu
  exact LamX.pe_lamcall (T := Ts) hgl T.g_law_error T.F_law_error.kp lk hcd b sc_law_error rfl (.inl rfl) (err_gives T (N0 := N0) (H0 := H0) (E1 := E1)) TB rfl hm hu hr L hdef hbind hbody
theorem pe_lamM {k : Nat} {params : Arguments} {body : Expr} {scope : Scope} {pos : Pos} {t : XK → TE} {q : Str} (eqq : q = ql0 ++ (".<locals>." : Str) ++ ("<lambda>" : Str)) (hm : (Pt, q) ∈ Ts) (hu : ∀ p ∈ Ts, p.1 = Pt → p.2 = q) (df : List (Str × Int)) (TB : LamX.TabB base mg c Pt) (L : LamO N0 sc0 scope) (D : DfEv (lawCx P w K mg base N0 ql0 sc0 ad0 c A0 outer0 s0 H0 E1) params df) (B : BindL params body scope df)
    (run : ∀ (f : Addr) (A : Around) (outer : List Env) (s : Shared) (G : Hp) (E : XK) (c1 : Addr), Room k (A.deeper (LamX.lamEnv (lawCx P w K mg base N0 ql0 sc0 ad0 c A0 outer0 s0 H0 E1) scope s.heap.objs.size f c1)) → PE (LamX.lamCx (lawCx P w K mg base N0 ql0 sc0 ad0 c A0 outer0 s0 H0 E1) A outer s G E scope f c1) body (t E)) :
    PE (lawCx P w K mg base N0 ql0 sc0 ad0 c A0 outer0 s0 H0 E1) (.Lambda params body scope pos) (tLamV (lawCx P w K mg base N0 ql0 sc0 ad0 c A0 outer0 s0 H0 E1) k Ts t) := by
  rw [eqq, ← law_qual (P := P) (w := w) (K := K) (mg := mg) (base := base) (N0 := N0) (ql0 := ql0) (sc0 := sc0) (ad0 := ad0) (c := c) (A0 := A0) (outer0 := outer0) (s0 := s0) (H0 := H0) (E1 := E1)] at hm hu
  exact pe_lamV df TB rfl hm hu L D B run
end
/-! ### the state: tables besides -/
structure LU (H0 H : Hp) (h l : Addr) (Ts : List (Addr × Str)) : Prop where
  hs : HS H0 H h l
  tb : LamX.Tabs Ts H
  nt : NoT H0
theorem tabsS {Ts : List (Addr × Str)} {H H' : Hp} (t : LamX.Tabs Ts H) (s : Same H H') : LamX.Tabs Ts H' := fun p m => (t p m).ext s
theorem tabsM {Ts : List (Addr × Str)} {H : Hp} {R : Addr} {xs : List V} {o : HO} (t : LamX.Tabs Ts H) (e : H R = some (.lst xs)) : LamX.Tabs Ts (upd H R o) := fun p m => tabS_ne (t p m) fun b u z k => by
  rw [upd_ne (fun y => k xs (by rw [y, e] at z; exact (Option.some.inj z).symm))]
  exact z
theorem LU.hid {H0 H : Hp} {h l : Addr} {Ts : List (Addr × Str)} (x : LU H0 H h l Ts) : LamX.Tabs Ts (hid2 H h l) := fun p m => LT.hid ⟨x.hs, x.tb p m, x.nt⟩
theorem LU.step {H0 H H' : Hp} {h l : Addr} {Ts : List (Addr × Str)} (x : LU H0 H h l Ts) (y : HS (hid2 H h l) H' h l) : LU H0 H' h l Ts := ⟨x.hs.down y, tabsS x.hid y.same, x.nt⟩
theorem LU.grow {H0 H H' : Hp} {h l : Addr} {Ts : List (Addr × Str)} (x : LU H0 H h l Ts) (s : Same H H') : LU H0 H' h l Ts := ⟨x.hs.grow s, tabsS x.tb s, x.nt⟩
theorem LU.new {H0 H : Hp} {h l b : Addr} {Ts : List (Addr × Str)} {o : HO} (x : LU H0 H h l Ts) (n : H b = none) : LU H0 (upd H b o) h l Ts := x.grow (same_new n)
theorem LU.ext {H0 H H' : Hp} {h l : Addr} {Ts : List (Addr × Str)} (x : LU H0 H h l Ts) (e : LamX.ExtN H H') (t : LamX.Tabs Ts H') : LU H0 H' h l Ts := by
  obtain ⟨m, i, ns, e1, e2, r⟩ := x.hs.ex
  exact ⟨⟨fun b o z => e b o (x.hs.same b o z) fun ps y => x.nt b ps (by rw [z, y]), x.hs.nh, x.hs.nl, x.hs.ne, m, i, ns, e _ _ e1 (fun ps z => by cases z), e _ _ e2 (fun ps z => by cases z), r⟩, t, x.nt⟩
theorem LU.mut {H0 H : Hp} {h l R : Addr} {Ts : List (Addr × Str)} {xs : List V} {o : HO} (x : LU H0 H h l Ts) (e : H R = some (.lst xs)) (n : H0 R = none) (n1 : R ≠ h) (n2 : R ≠ l) : LU H0 (upd H R o) h l Ts := ⟨x.hs.mut n n1 n2, tabsM x.tb e, x.nt⟩
theorem LU.rebase {H0 H : Hp} {h l : Addr} {Ts : List (Addr × Str)} (x : LU H0 H h l Ts) : LU (EB.nt (hid2 H h l)) H h l Ts := by
  have n1 : ∀ b, hid2 H h l b = none → EB.nt (hid2 H h l) b = none := fun b z => by
    unfold EB.nt
    rw [z]
  exact ⟨⟨nt_same.trans hid2_same, n1 _ hid2_h, n1 _ hid2_l, x.hs.ne, x.hs.ex⟩, x.tb, nt_noT⟩
theorem LU.back {H0 H H' : Hp} {h l : Addr} {Ts : List (Addr × Str)} (x : LU H0 H h l Ts) (y : LU (EB.nt (hid2 H h l)) H' h l Ts) : LU H0 H' h l Ts :=
  ⟨⟨(same_nt x.nt x.hs.sub).trans y.hs.same, x.hs.nh, x.hs.nl, x.hs.ne, y.hs.ex⟩, y.tb, x.nt⟩
/-- what a number is worth: none is raised, or a number out of range is told -/
def numS (ok : Bool) : Str := if ok then "none" else "number"
theorem num_do {K : PySem.W.Frag} {tl : XK → Hp → VK → Prop} {H : Hp} {Q : VK} (ok : Bool) (hX : ok = false → ∀ E Q', (∀ H', Same H H' → E (.ref (He.ga K "InvalidNumber")) none H') → tl E H Q') (hN : ok = true → ∀ E Q', (∀ v H', Same H H' → Q' v H') → tl E H Q')
    (hQ : ∀ H2 p, Same H H2 → SqT K H2 p [.str (numS ok)] → Q (.ref p) H2) : TTErr K tl H Q := by
  unfold TTErr
  cases ok with
  | false => exact hX rfl _ _ fun H' s => .inl ⟨rfl, rfl, fun H2 p s2 hp => hQ H2 p (s.trans s2) hp⟩
  | true => exact hN rfl _ _ fun v H' s => ⟨by show 1 ≤ sizeLine; decide, fun p hp => hQ _ p (s.trans (same_new hp)) (SqT.of upd_same)⟩
end EB

namespace EB
open PySem PySem.Spec PyProof.Rows L2
/-! Lambdas kept in a list that grows, and called one after another. -/
theorem OfAt.nt_ {K : PySem.W.Frag} {H : Hp} {a : Addr} {ts : List Tr} (o : OfAt K H a ts) : OfAt K (nt H) a ts := by
  have sqL_nt : ∀ {K : PySem.W.Frag} {H : Hp} {a : Addr} {xs : List V}, SqL K H a xs → SqL K (nt H) a xs := fun h => by
    rcases h with (h | ⟨o, h⟩) | h
    · exact .inl (.inl (nt_at h fun ps z => by cases z))
    · exact .inl (.inr ⟨o, nt_at h fun ps z => by cases z⟩)
    · exact .inr h
  obtain ⟨dx, t, p, q, f, g, e1, e2, e3, e4, e5, e6⟩ := o.ex
  obtain ⟨ps, h1, h2, h3⟩ := e2.ex
  exact ⟨dx, t, p, q, f, g, nt_at e1 (fun ps z => by cases z), ⟨ps, sqT_nt h1, h2, fun i p t a b => sqT_nt (h3 i p t a b)⟩, sqT_nt e3, sqL_nt e4, sqL_nt e5, sqL_nt e6⟩
theorem same_ext {B H H' : Hp} (n : NoT B) (s : Same B H) (e : LamX.ExtN H H') : Same B H' := fun b o z => e b o (s b o z) fun ps y => n b ps (by rw [z, y])
theorem Lam.mut {X : Cx} {k : Nat} {H : Hp} {f R : Addr} {t : XK → TE} {xs : List V} {o : HO} (l : Lam X k H f t) (e : H R = some (.lst xs)) : Lam X k (upd H R o) f t := by
  obtain ⟨pa, b, c, d, ⟨c1, pm, ct, dV, a1, a2, a3⟩, l2⟩ := l
  have k : ∀ b o', H b = some o' → (∀ ys, o' ≠ .lst ys) → upd H R o b = some o' := fun b o' z y => by
    rw [upd_ne (fun y' => y xs (by rw [y', e] at z; exact (Option.some.inj z).symm))]
    exact z
  refine ⟨pa, b, c, d, ⟨c1, pm, ct, dV, k _ _ a1 (fun ys z => by unfold FunO at z; cases z), k _ _ a2 (fun ys z => by unfold LamX.CodeO at z; cases z), ?_⟩, l2⟩
  rcases a3 with a3 | ⟨t, y, n, d1, d2, d3⟩
  · exact .inl a3
  · exact .inr ⟨t, y, n, d1, d2, k _ _ d3 fun ys z => by cases z⟩
/-- some lambdas, their readings -/
def Lams (X : Cx) (H : Hp) (fs : List Addr) (ts : List (XK → TE)) : Prop := fs.length = ts.length ∧ ∀ (i : Nat) (f : Addr) (t : XK → TE), fs[i]? = some f → ts[i]? = some t → Lam X 9 H f t
theorem Lams.nil {X : Cx} {H : Hp} : Lams X H [] [] := ⟨rfl, fun i f t e => by cases e⟩
theorem Lams.ext {X : Cx} {H H' : Hp} {fs : List Addr} {ts : List (XK → TE)} (l : Lams X H fs ts) (e : LamX.ExtN H H') : Lams X H' fs ts := ⟨l.1, fun i f t a b => (l.2 i f t a b).ext e⟩
theorem Lams.mut {X : Cx} {H : Hp} {R : Addr} {fs : List Addr} {ts : List (XK → TE)} {xs : List V} {o : HO} (l : Lams X H fs ts) (e : H R = some (.lst xs)) : Lams X (upd H R o) fs ts := ⟨l.1, fun i f t a b => (l.2 i f t a b).mut e⟩
theorem Lams.app {X : Cx} {H : Hp} {fs gs : List Addr} {ts us : List (XK → TE)} (l : Lams X H fs ts) (m : Lams X H gs us) : Lams X H (fs ++ gs) (ts ++ us) := by
  refine ⟨by rw [List.length_append, List.length_append, l.1, m.1], fun i f t a b => ?_⟩
  rcases Nat.lt_or_ge i fs.length with z | z
  · rw [List.getElem?_append_left z] at a
    rw [List.getElem?_append_left (by rw [← l.1]; exact z)] at b
    exact l.2 i f t a b
  · rw [List.getElem?_append_right z] at a
    rw [List.getElem?_append_right (by rw [← l.1]; exact z), ← l.1] at b
    exact m.2 _ f t a b
theorem Lams.one {X : Cx} {H : Hp} {f : Addr} {t : XK → TE} (l : Lam X 9 H f t) : Lams X H [f] [t] := ⟨rfl, fun i g u a b => by
  match i, a, b with
  | 0, a, b =>
    cases a
    cases b
    exact l⟩
/-- the state: what was there, the tables, the list at W with its lambdas, those made for the next list -/
structure Pend (X : Cx) (B H : Hp) (Ts : List (Addr × Str)) (gs : List Addr) (us : List (XK → TE)) : Prop where
  same : Same B H
  tb : LamX.Tabs Ts H
  nt : NoT B
  lm : Lams X H gs us
theorem Pend.add {X : Cx} {B H H1 : Hp} {Ts : List (Addr × Str)} {gs : List Addr} {us : List (XK → TE)} {f : Addr} {t : XK → TE} (p : Pend X B H Ts gs us) (e : LamX.ExtN H H1) (tb : LamX.Tabs Ts H1) (l : Lam X 9 H1 f t) : Pend X B H1 Ts (gs ++ [f]) (us ++ [t]) :=
  ⟨same_ext p.nt p.same e, tb, p.nt, (p.lm.ext e).app (Lams.one l)⟩
theorem Pend.new {X : Cx} {B H : Hp} {Ts : List (Addr × Str)} {gs : List Addr} {us : List (XK → TE)} {b : Addr} {o : HO} (p : Pend X B H Ts gs us) (n : H b = none) : Pend X B (upd H b o) Ts gs us :=
  ⟨p.same.trans (same_new n), tabsS p.tb (same_new n), p.nt, p.lm.ext (LamX.ExtN.of (same_new n))⟩
theorem Pend.mut {X : Cx} {B H : Hp} {Ts : List (Addr × Str)} {gs : List Addr} {us : List (XK → TE)} {R : Addr} {xs : List V} {o : HO} (p : Pend X B H Ts gs us) (e : H R = some (.lst xs)) (n : B R = none) : Pend X B (upd H R o) Ts gs us :=
  ⟨same_mut p.same n, tabsM p.tb e, p.nt, p.lm.mut e⟩
/-- the lambda tells z, whatever has been made meanwhile -/
def Tells (K : PySem.W.Frag) (B : Hp) (σ : L2.St) (z : Str) (t : XK → TE) : Prop := ∀ (G : Hp) (Q : VK), Same B G → (∀ H2 p, Same G H2 → SqT K H2 p [.str z] → Q (.ref p) H2) → TTErr K (fun E H' Q' => H' = G ∧ t E σ H' Q') G Q
/-- [_law_error(f) for f in W], all of them tell z -/
theorem all_tell {X : Cx} {K : PySem.W.Frag} {B H : Hp} {σ : L2.St} {z : Str} {W D : Addr} {fs : List Addr} {ts : List (XK → TE)} {i : Nat} {Qd : Hp → Prop} (hi : i < σ.length) (s0 : Same B H) (eW : H W = some (.lst (fs.map V.ref))) (l : Lams X H fs ts) (hz : ∀ t ∈ ts, Tells K B σ z t) (hD : H D = none) (hl : fs.length ≤ 1000)
    (hd : ∀ (G : Hp) (es : List Addr), Same H G → G D = some (.lst (es.map V.ref)) → es.length = fs.length → (∀ e ∈ es, SqT K G e [.str z]) → Qd G) :
    ∃ W1 : Nat → Nat → Hp → Prop, (∃ m, W1 0 m (upd H D (.lst []))) ∧ ∀ j m G, W1 j m G →
      ((Itl K W).stop j G ∧ Qd G) ∨ ((Itl K W).go j G ∧ ∃ Nx : Hp → Prop, (∀ G', Nx G' → ∃ m', m' < m ∧ W1 (j + 1) m' G') ∧ ∀ x G', (Itl K W).yld j G x G' → gName i x (wipe σ [i]) G' fun σ2 H2 => wipe σ2 [i] = wipe σ [i] ∧ tYes σ2 H2 fun b H3 =>
        if b = true then tKept X 9 (TTErr K) σ (tVar i) σ2 H3 fun y H4 => ∃ acc, H4 D = some (.lst acc) ∧ acc.length < sizeLine ∧ Nx (upd H4 D (.lst (acc ++ [y]))) else Nx H3) := by
  refine lc_list (K := K) (a := W) (xs := fs.map V.ref) (fun j G => Same H G ∧ ∃ es : List Addr, G D = some (.lst (es.map V.ref)) ∧ es.length = j ∧ ∀ e ∈ es, SqT K G e [.str z]) ⟨same_new hD, [], upd_same, rfl, fun e m => (by cases m)⟩ (fun j G _ q => SqL.of (q.1 _ _ eW)) ?_ ?_
  · rintro j x G hx ⟨sG, es, eD, le, he⟩
    have hj : j < fs.length := by
      have := lt_of_at hx
      rw [List.length_map] at this
      exact this
    rw [List.getElem?_map, List.getElem?_eq_getElem hj] at hx
    cases hx
    have ht : j < ts.length := by
      rw [← l.1]
      exact hj
    have lam := l.2 j _ _ (List.getElem?_eq_getElem hj) (List.getElem?_eq_getElem ht)
    have w1 : wipe ((wipe σ [i]).set i (some (V.ref fs[j]))) [i] = wipe σ [i] := by
      show ((σ.set i none).set i _).set i none = σ.set i none
      rw [List.set_set, List.set_set]
    have w2 : ((wipe σ [i]).set i (some (V.ref fs[j])))[i]? = some (some (V.ref fs[j])) := by
      show ((σ.set i none).set i _)[i]? = _
      rw [List.getElem?_set_self (by rw [List.length_set]; exact hi)]
    refine ⟨w1, _, w2, fs[j], _, rfl, lam.mono sG, hz _ (List.getElem_mem ht) G _ (s0.trans sG) fun H2 pr s2 hpr => ?_⟩
    have eD2 := s2 _ _ eD
    refine ⟨_, eD2, small3 (by rw [List.length_map]; omega), same_mut (sG.trans s2) hD, es ++ [pr], ?_, by rw [List.length_append, le]; rfl, fun e m => ?_⟩
    · rw [upd_same, List.map_append]
      rfl
    · rcases List.mem_append.mp m with m | m
      · exact sqT_mut eD2 (Same.tup s2 (he e m))
      · rw [List.mem_singleton.mp m]
        exact sqT_mut eD2 hpr
  · rintro G ⟨sG, es, eD, le, he⟩
    rw [List.length_map] at le
    exact hd G es sG eD le he
def telD (z : Str) : PyData := .tuple [.str z]
theorem tel_dp {K : PySem.W.Frag} {H : Hp} {z : Str} : ∀ {es : List Addr}, (∀ e ∈ es, SqT K H e [.str z]) → DpAll K H (es.map V.ref) (List.replicate es.length (telD z))
  | [], _ => .nil
  | e :: es, h => .cons (.tup (h e (List.mem_cons_self ..)) (.cons (.str _) .nil)) (tel_dp fun x m => h x (List.mem_cons_of_mem _ m))
theorem rep_flat (v : V) : ∀ n : Nat, (List.replicate n [v]).flatten = List.replicate n v
  | 0 => rfl
  | n + 1 => by
    rw [List.replicate_succ, List.flatten_cons, rep_flat v n]
    rfl
theorem rep_dp {K : PySem.W.Frag} {H : Hp} {z : Str} {u : Addr} (h : SqT K H u [.str z]) : ∀ n : Nat, DpAll K H (List.replicate n (.ref u)) (List.replicate n (telD z))
  | 0 => .nil
  | n + 1 => .cons (.tup h (.cons (.str _) .nil)) (rep_dp h n)
theorem shaped_layM {d : PyData} (h : SeqAt.shaped d = true) : d.canLay0 = true := by
  unfold SeqAt.shaped at h
  exact (Bool.and_eq_true_iff.mp h).1
theorem obs_okR {K : PySem.W.Frag} {H : Hp} {a x dx : Addr} {ts : List Tr} {R : Hp → Prop} {E : XK} (ho : OfAt K H a ts) (hf : Fair ts) (nx : H x = none) (nd : H dx = none) (ned : dx ≠ x)
    (k : ∀ H' dx' fs, Same H H' → ObsAt K H' x ts (early0 ts) 1 [0] → H' x = some (.ins (He.ga K "BottleObserver") dx' fs) → (∀ m : Str, ((m == "_offer") || ((m == "_possible") || (m == "_observations"))) = false → fs.lookup m = none) → R H') : spObsI K [.ref x, .ref a] (upd (upd H dx (.own x)) x (.ins (He.ga K "BottleObserver") dx [])) (fun v H2 => v = .non ∧ R H2) E :=
  obs_ok (Q := fun _ => R) ho hf nx nd ned fun H' s o => by
    obtain ⟨d7, a7, c7, l7, h7, o8⟩ := id o.ex
    exact k H' _ _ s o h7 fun m h => lk_noo h
theorem ext_of_nt {H H' : Hp} (s : Same (nt H) H') : LamX.ExtN H H' := fun b o e n => s b o (nt_at e n)
end EB

namespace EB
open PySem PySem.Spec PyProof.Rows L2
theorem tells_num {K : PySem.W.Frag} {B : Hp} {σ : L2.St} {t : XK → TE} (ok : Bool) (hX : ok = false → ∀ G E Q', Same B G → (∀ H', Same G H' → E (.ref (He.ga K "InvalidNumber")) none H') → t E σ G Q') (hN : ok = true → ∀ G E Q', Same B G → (∀ v H', Same G H' → Q' v H') → t E σ G Q') : Tells K B σ (numS ok) t :=
  fun G Q s k => num_do ok (fun z E Q' e => ⟨rfl, hX z G E Q' s e⟩) (fun z E Q' e => ⟨rfl, hN z G E Q' s e⟩) k
section
variable {w : World} {K : PySem.W.Frag} {mg : Str → Option Value} {base : Heap} (T : Tx K mg)
include T
def spLimits (K : PySem.W.Frag) (Ts : List (Addr × Str)) : Sp := fun vs H Q _ => ∃ (a : Addr) (ts : List Tr), vs = [.ref a] ∧ OfAt K H a ts ∧ Fair ts ∧ ("zzz" : Str) ∉ ts.map Tr.k ∧ LamX.Tabs Ts H ∧ ∀ H', LamX.ExtN H H' → LamX.Tabs Ts H' → Q (.bl true) H'
theorem ok_law_limits_right {c Pt : Addr} {q : Str} {Ts : List (Addr × Str)} (hK : K.In base) (TB : LamX.TabB base mg c Pt) (hc : T.fd_law_limits_right.code = .ref c) (eqq : q = d_law_limits_right.ql ++ (".<locals>." : Str) ++ ("<lambda>" : Str)) (tsp : (Pt, q) ∈ Ts ∧ ∀ p ∈ Ts, p.1 = Pt → p.2 = q) :
    FnR PX w K mg base CX0 12 (a_law_limits_right K) (spLimits K Ts) := by
  have F1 : FnOk PX w K mg base CX0 12 (a_law_limits_right K) T.fd_law_limits_right ["_law_offer_here"] (spLimits K Ts) := by
    refine fnCK0 (d := d_law_limits_right) T.F_law_limits_right hc sc_law_limits_right (fun vs H Q E h => ?_) (fun A outer s H vs Q E hr h => ?_)
    · obtain ⟨a, ts, rfl, _⟩ := h
      rfl
    obtain ⟨a, ts, rfl, ho, hf, hzz, hT, k⟩ := h
    have EQQ := eqq
    refine ⟨_, (pss_cons (ps_set (i := 1) sc_law_limits_right.nd rfl (Or.inl rfl) (pe_lst (pa_cons (pe_lamM (k := 9) T eqq tsp.1 tsp.2 [] TB (lamO_by (by kernel_rfl)) (.inl ⟨rfl, rfl⟩) (.inl ⟨rfl, fun _ _ _ _ _ => rfl⟩) (fun f A outer s H E c hr => (pe_listG (pgen_meth (E := fun cls d H => E cls d H ∧ cls = Value.ref (He.ga K "InvalidNumber")) (pv 0) T.k_Offer T.m_Offer_missing (gfn_or (okX_Offer_missing T hK) (ok_Offer_missing T)) (hr.mono (by decide)) (b_Offer_missing T) .nil (pa_cons (pe_un un_neg pe_int) (pa_cons pe_int pa_nil))) (passes_call (takes_of rfl rfl rfl rfl) (fun _ _ _ _ h => h.1)) (nsNum T) (hr.mono (by decide)) (by rfl) T.n_list (by decide +kernel)))) (pa_cons (pe_lamM (k := 9) T eqq tsp.1 tsp.2 [("_law_a", 0)] TB (lamO_by (by kernel_rfl)) (.inr ⟨_, _, _, rfl, rfl, pe_int⟩) (.inr ⟨_, _, rfl, by kernel_rfl, fun _ _ _ _ _ _ _ => ⟨_, rfl, rfl⟩⟩) (fun f A outer s H E c hr => (pe_listG (pgen_meth (E := fun cls d H => E cls d H ∧ cls = Value.ref (He.ga K "InvalidNumber")) (pv 0) T.k_Offer T.m_Offer_missing (gfn_or (okX_Offer_missing T hK) (ok_Offer_missing T)) (hr.mono (by decide)) (b_Offer_missing T) .nil (pa_cons pe_int (pa_cons pe_int pa_nil))) (passes_call (takes_of rfl rfl rfl rfl) (fun _ _ _ _ h => h.1)) (nsNum T) (hr.mono (by decide)) (by rfl) T.n_list (by decide +kernel)))) pa_nil)))) (pss_cons (ps_expr (pe_bm PySem.F.plainAttrs_list PySem.F.slot_list_extend PySem.F.type_list_extend mt_extend (pv 1) (pa_cons (pe_lst (pa_cons (pe_lamM (k := 9) T eqq tsp.1 tsp.2 [] TB (lamO_by (by kernel_rfl)) (.inl ⟨rfl, rfl⟩) (.inl ⟨rfl, fun _ _ _ _ _ => rfl⟩) (fun f A outer s H E c hr => (pe_listG (pgen_meth (E := fun cls d H => E cls d H ∧ cls = Value.ref (He.ga K "InvalidNumber")) (pv 0) T.k_Offer T.m_Offer_missing (gfn_or (okX_Offer_missing T hK) (ok_Offer_missing T)) (hr.mono (by decide)) (b_Offer_missing T) .nil (pa_cons pe_int (pa_cons pe_int pa_nil))) (passes_call (takes_of rfl rfl rfl rfl) (fun _ _ _ _ h => h.1)) (nsNum T) (hr.mono (by decide)) (by rfl) T.n_list (by decide +kernel)))) (pa_cons (pe_lamM (k := 9) T eqq tsp.1 tsp.2 [("_law_a", 0)] TB (lamO_by (by kernel_rfl)) (.inr ⟨_, _, _, rfl, rfl, pe_int⟩) (.inr ⟨_, _, rfl, by kernel_rfl, fun _ _ _ _ _ _ _ => ⟨_, rfl, rfl⟩⟩) (fun f A outer s H E c hr => (pe_listG (pgen_meth (E := fun cls d H => E cls d H ∧ cls = Value.ref (He.ga K "InvalidNumber")) (pv 0) T.k_Offer T.m_Offer_missing (gfn_or (okX_Offer_missing T hK) (ok_Offer_missing T)) (hr.mono (by decide)) (b_Offer_missing T) .nil (pa_cons (pe_op op_pow pe_int pe_int) (pa_cons (pe_op op_add (pe_op op_pow pe_int pe_int) pe_int) pa_nil))) (passes_call (takes_of rfl rfl rfl rfl) (fun _ _ _ _ h => h.1)) (nsNum T) (hr.mono (by decide)) (by rfl) T.n_list (by decide +kernel)))) pa_nil))) pa_nil))) (pss_cons (ps_expr (pe_bm PySem.F.plainAttrs_list PySem.F.slot_list_extend PySem.F.type_list_extend mt_extend (pv 1) (pa_cons (pe_lst (pa_cons (pe_lamM (k := 9) T eqq tsp.1 tsp.2 [] TB (lamO_by (by kernel_rfl)) (.inl ⟨rfl, rfl⟩) (.inl ⟨rfl, fun _ _ _ _ _ => rfl⟩) (fun f A outer s H E c hr => (pe_methR (StX.pe_makeR T.mk_BottleObserver (ok_BottleObserver_init T) (hr.mono (by decide)) (by rfl) T.g_BottleObserver pass0 (pa_cons (pv 0) pa_nil)) T.k_BottleObserver T.m_BottleObserver_see_round (okX_BottleObserver_see_round T hK) (hr.mono (by decide)) (passes_call (takes_of rfl rfl rfl rfl) (fun _ _ _ _ h => h)) (pa_cons pe_int (pa_cons pe_int pa_nil))))) (pa_cons (pe_lamM (k := 9) T eqq tsp.1 tsp.2 [("_law_a", 0)] TB (lamO_by (by kernel_rfl)) (.inr ⟨_, _, _, rfl, rfl, pe_int⟩) (.inr ⟨_, _, rfl, by kernel_rfl, fun _ _ _ _ _ _ _ => ⟨_, rfl, rfl⟩⟩) (fun f A outer s H E c hr => (pe_methR (StX.pe_makeR T.mk_BottleObserver (ok_BottleObserver_init T) (hr.mono (by decide)) (by rfl) T.g_BottleObserver pass0 (pa_cons (pv 0) pa_nil)) T.k_BottleObserver T.m_BottleObserver_see_round (okX_BottleObserver_see_round T hK) (hr.mono (by decide)) (passes_call (takes_of rfl rfl rfl rfl) (fun _ _ _ _ h => h)) (pa_cons pe_int (pa_cons pe_int pa_nil))))) pa_nil))) pa_nil))) (pss_cons (ps_expr (pe_bm PySem.F.plainAttrs_list PySem.F.slot_list_extend PySem.F.type_list_extend mt_extend (pv 1) (pa_cons (pe_lst (pa_cons (pe_lamM (k := 9) T eqq tsp.1 tsp.2 [] TB (lamO_by (by kernel_rfl)) (.inl ⟨rfl, rfl⟩) (.inl ⟨rfl, fun _ _ _ _ _ => rfl⟩) (fun f A outer s H E c hr => (pe_methR (StX.pe_makeR T.mk_BottleObserver (ok_BottleObserver_init T) (hr.mono (by decide)) (by rfl) T.g_BottleObserver pass0 (pa_cons (pv 0) pa_nil)) T.k_BottleObserver T.m_BottleObserver_see_round (okX_BottleObserver_see_round T hK) (hr.mono (by decide)) (passes_call (takes_of rfl rfl rfl rfl) (fun _ _ _ _ h => h)) (pa_cons pe_int (pa_cons pe_int pa_nil))))) (pa_cons (pe_lamM (k := 9) T eqq tsp.1 tsp.2 [("_law_a", 0)] TB (lamO_by (by kernel_rfl)) (.inr ⟨_, _, _, rfl, rfl, pe_int⟩) (.inr ⟨_, _, rfl, by kernel_rfl, fun _ _ _ _ _ _ _ => ⟨_, rfl, rfl⟩⟩) (fun f A outer s H E c hr => (pe_methR (StX.pe_makeR T.mk_BottleObserver (ok_BottleObserver_init T) (hr.mono (by decide)) (by rfl) T.g_BottleObserver pass0 (pa_cons (pv 0) pa_nil)) T.k_BottleObserver T.m_BottleObserver_nth_possible (okX_BottleObserver_nth_possible T hK) (hr.mono (by decide)) (passes_call (takes_of rfl rfl rfl rfl) (fun _ _ _ _ h => h)) (pa_cons pe_int pa_nil)))) pa_nil))) pa_nil))) (pss_cons (ps_expr (pe_bm PySem.F.plainAttrs_list PySem.F.slot_list_extend PySem.F.type_list_extend mt_extend (pv 1) (pa_cons (pe_lst (pa_cons (pe_lamM (k := 9) T eqq tsp.1 tsp.2 [] TB (lamO_by (by kernel_rfl)) (.inl ⟨rfl, rfl⟩) (.inl ⟨rfl, fun _ _ _ _ _ => rfl⟩) (fun f A outer s H E c hr => (pe_methR (StX.pe_makeR T.mk_BottleObserver (ok_BottleObserver_init T) (hr.mono (by decide)) (by rfl) T.g_BottleObserver pass0 (pa_cons (pv 0) pa_nil)) T.k_BottleObserver T.m_BottleObserver_nth_possible (okX_BottleObserver_nth_possible T hK) (hr.mono (by decide)) (passes_call (takes_of rfl rfl rfl rfl) (fun _ _ _ _ h => h)) (pa_cons (pe_op op_add (pe_op op_pow pe_int pe_int) pe_int) pa_nil)))) (pa_cons (pe_lamM (k := 9) T eqq tsp.1 tsp.2 [("_law_a", 0)] TB (lamO_by (by kernel_rfl)) (.inr ⟨_, _, _, rfl, rfl, pe_int⟩) (.inr ⟨_, _, rfl, by kernel_rfl, fun _ _ _ _ _ _ _ => ⟨_, rfl, rfl⟩⟩) (fun f A outer s H E c hr => (pe_methR (StX.pe_makeR T.mk_BottleObserver (ok_BottleObserver_init T) (hr.mono (by decide)) (by rfl) T.g_BottleObserver pass0 (pa_cons (pv 0) pa_nil)) T.k_BottleObserver T.m_BottleObserver_count_up_to (okX_BottleObserver_count_up_to T hK) (hr.mono (by decide)) (passes_call (takes_of rfl rfl rfl rfl) (fun _ _ _ _ h => h)) (pa_cons (pe_un un_neg pe_int) pa_nil)))) pa_nil))) pa_nil))) (pss_cons (ps_if (pt_cmpR (op_neD hr.units) (pe_lcS (own := [("_law_call", 3)]) rfl sc_law_limits_right.nd (pi_list (pv 1)) (blkOk_by (own := [("_law_call", 3)]) (N := N_law_limits_right) (sc := defScope s_law_limits_right) (by decide +kernel)) (fun _ _ _ _ _ => (pg_name (i := 3) sc_law_limits_right.nd rfl (Or.inl rfl) (.inr rfl))) (fun pins σ s H C cl fp I F => pe_errK (k := 9) T (hr.mono (by decide)) I F (pv 3))) (pe_op op_rep (pe_lst (pa_cons (pe_tup (pa_cons pe_str pa_nil)) pa_nil)) pe_int) (nomark _)) (pss_one (ps_ret pe_bl)) pss_nil) (pss_cons (ps_if (pt_cmpR (op_neD hr.units) (pe_errM (k := 9) T eqq tsp.1 tsp.2 TB (hr.mono (by decide)) (LamX.lamS_by (by kernel_rfl)) rfl (fun _ _ _ _ _ => rfl) (fun A outer s H E f c hr => (pe_methR (StX.pe_makeR T.mk_BottleObserver (ok_BottleObserver_init T) (hr.mono (by decide)) (by rfl) T.g_BottleObserver pass0 (pa_cons (pv 0) pa_nil)) T.k_BottleObserver T.m_BottleObserver_see_left (okX_BottleObserver_see_left T hK) (hr.mono (by decide)) (passes_call (takes_of rfl rfl rfl rfl) (fun _ _ _ _ h => h)) (pa_cons pe_str (pa_cons pe_int pa_nil))))) (pe_tup (pa_cons pe_str pa_nil)) (nomark _)) (pss_one (ps_ret pe_bl)) pss_nil) (pss_cons (ps_set (i := 2) sc_law_limits_right.nd rfl (Or.inl rfl) (StX.pe_makeR T.mk_BottleObserver (ok_BottleObserver_init T) (hr.mono (by decide)) (by rfl) T.g_BottleObserver pass0 (pa_cons (pv 0) pa_nil))) (pss_one (ps_ret (pe_and (pe_cmpR op_eq (pe_methR (pv 2) T.k_BottleObserver T.m_BottleObserver_nth_possible (okX_BottleObserver_nth_possible T hK) (hr.mono (by decide)) passG (pa_cons (pe_op op_add (pe_op op_pow pe_int pe_int) pe_int) pa_nil)) (pe_op op_pow pe_int pe_int) (nomark _)) (pe_one (pe_cmpR op_eq (pe_methR (pv 2) T.k_BottleObserver T.m_BottleObserver_count_up_to (okX_BottleObserver_count_up_to T hK) (hr.mono (by decide)) passG (pa_cons (pe_op op_pow pe_int pe_int) pa_nil)) (pe_op op_add (pe_op op_pow pe_int pe_int) pe_int) (nomark _)))))))))))))), ?_⟩
    obtain ⟨dx, fx, oi, on⟩ := ho.nt_.ins
    have P0 : Pend (lawCx PX w K mg base N_law_limits_right d_law_limits_right.ql (defScope d_law_limits_right.st) (d_law_limits_right.adr K) c A outer s H E) (nt H) H Ts [] [] := ⟨nt_same, hT, nt_noT, Lams.nil⟩
    refine ⟨hT, fun H1 f1 e1 T1 l1 n1 => ⟨T1, fun H2 f2 e2 T2 l2 n2 => ⟨by show 2 ≤ sizeLine; decide, fun W hW => ?_⟩⟩⟩
    have P2 := ((P0.add e1 T1 l1).add e2 T2 l2)
    have nW : (nt H) W = none := P2.same.free hW
    have Q0 := P2.new (o := .lst [.ref f1, .ref f2]) hW
    have w0 : upd H2 W (.lst [.ref f1, .ref f2]) W = some (.lst (([] ++ [f1] ++ [f2]).map V.ref)) := upd_same
    generalize upd H2 W (.lst [.ref f1, .ref f2]) = G0 at Q0 w0
    clear P2 P0 hW e1 T1 l1 n1 e2 T2 l2 n2
    refine ⟨_, rfl, .inl ⟨rfl, _, SqL.of w0⟩, Q0.tb, fun H1 f3 e1 T1 l1 n1 => ⟨T1, fun H2 f4 e2 T2 l2 n2 => ⟨by show 2 ≤ sizeLine; decide, fun W2 hW2 => ?_⟩⟩⟩
    have q := ((Q0.add e1 T1 l1).add e2 T2 l2).new (o := .lst [.ref f3, .ref f4]) hW2
    have v := upd_old (u := .lst [.ref f3, .ref f4]) (e2 _ _ (e1 _ _ w0 (fun ps z => by cases z)) (fun ps z => by cases z)) hW2
    refine ⟨W, W2, _, _, rfl, rfl, v, upd_same, by show 2 + 2 ≤ sizeLine; decide, ?_⟩
    have Q1 := q.mut (o := .lst ((([] ++ [f1] ++ [f2]).map V.ref) ++ [.ref f3, .ref f4])) v nW
    have w1 : upd (upd H2 W2 (.lst [.ref f3, .ref f4])) W (.lst ((([] ++ [f1] ++ [f2]).map V.ref) ++ [.ref f3, .ref f4])) W = some (.lst (([] ++ [f1] ++ [f2] ++ [f3] ++ [f4]).map V.ref)) := upd_same
    generalize upd (upd H2 W2 (.lst [.ref f3, .ref f4])) W (.lst ((([] ++ [f1] ++ [f2]).map V.ref) ++ [.ref f3, .ref f4])) = G1 at Q1 w1
    clear q v Q0 w0 e1 T1 l1 n1 e2 T2 l2 n2 hW2
    refine ⟨_, rfl, .inl ⟨rfl, _, SqL.of w1⟩, Q1.tb, fun H1 f5 e1 T1 l1 n1 => ⟨T1, fun H2 f6 e2 T2 l2 n2 => ⟨by show 2 ≤ sizeLine; decide, fun W2 hW2 => ?_⟩⟩⟩
    have q := ((Q1.add e1 T1 l1).add e2 T2 l2).new (o := .lst [.ref f5, .ref f6]) hW2
    have v := upd_old (u := .lst [.ref f5, .ref f6]) (e2 _ _ (e1 _ _ w1 (fun ps z => by cases z)) (fun ps z => by cases z)) hW2
    refine ⟨W, W2, _, _, rfl, rfl, v, upd_same, by show 4 + 2 ≤ sizeLine; decide, ?_⟩
    have Q2 := q.mut (o := .lst ((([] ++ [f1] ++ [f2] ++ [f3] ++ [f4]).map V.ref) ++ [.ref f5, .ref f6])) v nW
    have w2 : upd (upd H2 W2 (.lst [.ref f5, .ref f6])) W (.lst ((([] ++ [f1] ++ [f2] ++ [f3] ++ [f4]).map V.ref) ++ [.ref f5, .ref f6])) W = some (.lst (([] ++ [f1] ++ [f2] ++ [f3] ++ [f4] ++ [f5] ++ [f6]).map V.ref)) := upd_same
    generalize upd (upd H2 W2 (.lst [.ref f5, .ref f6])) W (.lst ((([] ++ [f1] ++ [f2] ++ [f3] ++ [f4]).map V.ref) ++ [.ref f5, .ref f6])) = G2 at Q2 w2
    clear q v Q1 w1 e1 T1 l1 n1 e2 T2 l2 n2 hW2
    refine ⟨_, rfl, .inl ⟨rfl, _, SqL.of w2⟩, Q2.tb, fun H1 f7 e1 T1 l1 n1 => ⟨T1, fun H2 f8 e2 T2 l2 n2 => ⟨by show 2 ≤ sizeLine; decide, fun W2 hW2 => ?_⟩⟩⟩
    have q := ((Q2.add e1 T1 l1).add e2 T2 l2).new (o := .lst [.ref f7, .ref f8]) hW2
    have v := upd_old (u := .lst [.ref f7, .ref f8]) (e2 _ _ (e1 _ _ w2 (fun ps z => by cases z)) (fun ps z => by cases z)) hW2
    refine ⟨W, W2, _, _, rfl, rfl, v, upd_same, by show 6 + 2 ≤ sizeLine; decide, ?_⟩
    have Q3 := q.mut (o := .lst ((([] ++ [f1] ++ [f2] ++ [f3] ++ [f4] ++ [f5] ++ [f6]).map V.ref) ++ [.ref f7, .ref f8])) v nW
    have w3 : upd (upd H2 W2 (.lst [.ref f7, .ref f8])) W (.lst ((([] ++ [f1] ++ [f2] ++ [f3] ++ [f4] ++ [f5] ++ [f6]).map V.ref) ++ [.ref f7, .ref f8])) W = some (.lst (([] ++ [f1] ++ [f2] ++ [f3] ++ [f4] ++ [f5] ++ [f6] ++ [f7] ++ [f8]).map V.ref)) := upd_same
    generalize upd (upd H2 W2 (.lst [.ref f7, .ref f8])) W (.lst ((([] ++ [f1] ++ [f2] ++ [f3] ++ [f4] ++ [f5] ++ [f6]).map V.ref) ++ [.ref f7, .ref f8])) = G3 at Q3 w3
    clear q v Q2 w2 e1 T1 l1 n1 e2 T2 l2 n2 hW2
    refine ⟨_, rfl, .inl ⟨rfl, _, SqL.of w3⟩, Q3.tb, fun H1 f9 e1 T1 l1 n1 => ⟨T1, fun H2 f10 e2 T2 l2 n2 => ⟨by show 2 ≤ sizeLine; decide, fun W2 hW2 => ?_⟩⟩⟩
    have q := ((Q3.add e1 T1 l1).add e2 T2 l2).new (o := .lst [.ref f9, .ref f10]) hW2
    have v := upd_old (u := .lst [.ref f9, .ref f10]) (e2 _ _ (e1 _ _ w3 (fun ps z => by cases z)) (fun ps z => by cases z)) hW2
    refine ⟨W, W2, _, _, rfl, rfl, v, upd_same, by show 8 + 2 ≤ sizeLine; decide, ?_⟩
    have Q4 := q.mut (o := .lst ((([] ++ [f1] ++ [f2] ++ [f3] ++ [f4] ++ [f5] ++ [f6] ++ [f7] ++ [f8]).map V.ref) ++ [.ref f9, .ref f10])) v nW
    have w4 : upd (upd H2 W2 (.lst [.ref f9, .ref f10])) W (.lst ((([] ++ [f1] ++ [f2] ++ [f3] ++ [f4] ++ [f5] ++ [f6] ++ [f7] ++ [f8]).map V.ref) ++ [.ref f9, .ref f10])) W = some (.lst (([] ++ [f1] ++ [f2] ++ [f3] ++ [f4] ++ [f5] ++ [f6] ++ [f7] ++ [f8] ++ [f9] ++ [f10]).map V.ref)) := upd_same
    generalize upd (upd H2 W2 (.lst [.ref f9, .ref f10])) W (.lst ((([] ++ [f1] ++ [f2] ++ [f3] ++ [f4] ++ [f5] ++ [f6] ++ [f7] ++ [f8]).map V.ref) ++ [.ref f9, .ref f10])) = G4 at Q4 w4
    clear q v Q3 w3 e1 T1 l1 n1 e2 T2 l2 n2 hW2
    refine ⟨_, rfl, W, rfl, ⟨_, SqL.of w4⟩, fun D hD => ?_⟩
    refine all_tell (i := 3) (z := "number") (by show 3 < 4; decide) Q4.same w4 Q4.lm (fun t m => ?_) hD (by show 10 ≤ 1000; decide) fun G es sG eD le he => ?_
    · simp only [List.nil_append, List.cons_append, List.mem_cons, List.not_mem_nil, or_false] at m
      rcases m with rfl | rfl | rfl | rfl | rfl | rfl | rfl | rfl | rfl | rfl
      · refine (tells_num false (fun _ G E Q' sG e => ?_) (fun z => nomatch z) : Tells _ _ _ (numS false) _)
        exact ⟨_, rfl, a, dx, fx, rfl, sG _ _ oi, on _ (by decide +kernel), _, rfl, .inl ⟨_, _, _, rfl, by omega, e G (Same.refl _), rfl⟩⟩
      · refine (tells_num false (fun _ G E Q' sG e => ?_) (fun z => nomatch z) : Tells _ _ _ (numS false) _)
        exact ⟨_, rfl, a, dx, fx, rfl, sG _ _ oi, on _ (by decide +kernel), .inl ⟨_, _, _, rfl, by omega, e G (Same.refl _), rfl⟩⟩
      · refine (tells_num false (fun _ G E Q' sG e => ?_) (fun z => nomatch z) : Tells _ _ _ (numS false) _)
        exact ⟨_, rfl, a, dx, fx, rfl, sG _ _ oi, on _ (by decide +kernel), .inl ⟨_, _, _, rfl, by omega, e G (Same.refl _), rfl⟩⟩
      · refine (tells_num false (fun _ G E Q' sG e => ?_) (fun z => nomatch z) : Tells _ _ _ (numS false) _)
        exact ⟨_, rfl, a, dx, fx, rfl, sG _ _ oi, on _ (by decide +kernel), _, _, rfl, rfl, ⟨by decide, by decide, by decide⟩, _, _, rfl, rfl, ⟨by decide, by decide, by decide⟩, _, _, rfl, rfl, .inl ⟨_, 1000000000000000000, 1000000000000000001, rfl, by omega, e G (Same.refl _), rfl⟩⟩
      · refine (tells_num false (fun _ G E Q' sG e => ?_) (fun z => nomatch z) : Tells _ _ _ (numS false) _)
        exact ⟨_, rfl, fun x dx nx nd ned => obs_okR (ho.nt_.mono sG) hf nx nd ned fun H7 d7 f7 s7 o7 h7 k7 => ⟨x, _, _, rfl, h7, k7 _ (by decide +kernel), ⟨_, _, _, rfl, by omega, e H7 s7⟩⟩⟩
      · refine (tells_num false (fun _ G E Q' sG e => ?_) (fun z => nomatch z) : Tells _ _ _ (numS false) _)
        exact ⟨_, rfl, fun x dx nx nd ned => obs_okR (ho.nt_.mono sG) hf nx nd ned fun H7 d7 f7 s7 o7 h7 k7 => ⟨x, _, _, rfl, h7, k7 _ (by decide +kernel), ⟨_, _, _, rfl, by omega, e H7 s7⟩⟩⟩
      · refine (tells_num false (fun _ G E Q' sG e => ?_) (fun z => nomatch z) : Tells _ _ _ (numS false) _)
        exact ⟨_, rfl, fun x dx nx nd ned => obs_okR (ho.nt_.mono sG) hf nx nd ned fun H7 d7 f7 s7 o7 h7 k7 => ⟨x, _, _, rfl, h7, k7 _ (by decide +kernel), ⟨_, _, _, rfl, by omega, e H7 s7⟩⟩⟩
      · refine (tells_num false (fun _ G E Q' sG e => ?_) (fun z => nomatch z) : Tells _ _ _ (numS false) _)
        exact ⟨_, rfl, fun x dx nx nd ned => obs_okR (ho.nt_.mono sG) hf nx nd ned fun H7 d7 f7 s7 o7 h7 k7 => ⟨x, _, _, rfl, h7, k7 _ (by decide +kernel), ⟨x, _, rfl, .inl ⟨by omega, e H7 s7⟩⟩⟩⟩
      · refine (tells_num false (fun _ G E Q' sG e => ?_) (fun z => nomatch z) : Tells _ _ _ (numS false) _)
        exact ⟨_, rfl, fun x dx nx nd ned => obs_okR (ho.nt_.mono sG) hf nx nd ned fun H7 d7 f7 s7 o7 h7 k7 => ⟨x, _, _, rfl, h7, k7 _ (by decide +kernel), _, _, rfl, rfl, ⟨by decide, by decide, by decide⟩, _, _, rfl, rfl, ⟨x, 1000000000000000002, rfl, .inl ⟨by omega, e H7 s7⟩⟩⟩⟩
      · refine (tells_num false (fun _ G E Q' sG e => ?_) (fun z => nomatch z) : Tells _ _ _ (numS false) _)
        exact ⟨_, rfl, fun x dx nx nd ned => obs_okR (ho.nt_.mono sG) hf nx nd ned fun H7 d7 f7 s7 o7 h7 k7 => ⟨x, _, _, rfl, h7, k7 _ (by decide +kernel), _, rfl, ⟨x, _, rfl, .inl ⟨by omega, e H7 s7⟩⟩⟩⟩
    refine ⟨by show 1 ≤ sizeLine; decide, fun u hu => ⟨by show 1 ≤ sizeLine; decide, fun L hL => ?_⟩⟩
    refine ⟨L, 10, _, rfl, rfl, upd_same, by decide, by decide, by show 1 * 10 ≤ sizeLine; decide, fun M hM => ?_⟩
    have s1 : Same G (upd G u (.tup [.str "number"])) := same_new hu
    have s2 : Same (upd G u (.tup [.str "number"])) (upd (upd (upd G u (.tup [.str "number"])) L (.lst [.ref u])) M (.lst (List.replicate (10 : Int).toNat [V.ref u]).flatten)) := (same_new hL).trans (same_new hM)
    have eu : (upd (upd (upd G u (.tup [.str "number"])) L (.lst [.ref u])) M (.lst (List.replicate (10 : Int).toNat [V.ref u]).flatten)) u = some (.tup [.str "number"]) := s2 _ _ upd_same
    have eM : (upd (upd (upd G u (.tup [.str "number"])) L (.lst [.ref u])) M (.lst (List.replicate (10 : Int).toNat [V.ref u]).flatten)) M = some (.lst (List.replicate 10 (V.ref u))) := by
      rw [upd_same, rep_flat]
      rfl
    have q5 := (Q4.new (o := .lst []) hD)
    have s3 := s1.trans s2
    generalize upd (upd (upd G u (.tup [.str "number"])) L (.lst [.ref u])) M (.lst (List.replicate (10 : Int).toNat [V.ref u]).flatten) = G5 at eu eM s3
    have sB : Same (nt H) G5 := Q4.same.trans (sG.trans s3)
    have tb5 : LamX.Tabs Ts G5 := tabsS Q4.tb (sG.trans s3)
    have sh : SeqAt.shaped (.list (List.replicate 10 (telD "number"))) = true := by decide +kernel
    have dl := tel_dp (K := K) (H := G5) (es := es) fun e m => Same.tup s3 (he e m)
    rw [show es.length = 10 from le] at dl
    refine ⟨_, _, .lst (SqL.of (s3 _ _ eD)) dl, .lst (SqL.of eM) (rep_dp (SqT.of eu) 10), sh, sh, _, rfl, ?_⟩
    rw [SeqAt.eqv_refl _ (shaped_layM sh)]
    refine iteF ?_
    clear q5 dl eu eM s3 s1 s2 hM hL hu he eD sG hD Q4 w4
    -- a kind that no trade takes
    refine ⟨tb5, fun H6 e6 T6 => ?_⟩
    have sB6 : Same (nt H) H6 := same_ext nt_noT sB e6
    unfold TTErr
    refine ⟨_, rfl, fun x dx nx nd ned => obs_okR (ho.nt_.mono sB6) hf nx nd ned fun H7 d7 f7 s7 o7 h7 k7 => ?_⟩
    refine ⟨x, _, _, rfl, h7, k7 _ (by decide +kernel), ?_⟩
    refine ⟨x, "zzz", .int 0, ts, _, _, _, rfl, o7, hf.g.1, hzz, fun H8 s8 => .inr ⟨rfl, rfl, fun H9 p s9 hp => ?_⟩⟩
    have s69 := s7.trans (s8.trans s9)
    have sB9 := sB6.trans s69
    have T9 := tabsS T6 s69
    clear o7 h7 s7 s8 s9 k7 nx nd ned s69 sB sB6 T6 tb5 e6
    refine ⟨by show 1 ≤ sizeLine; decide, fun u hu => ?_⟩
    have sh : SeqAt.shaped (.tuple [.str "kind"]) = true := by decide +kernel
    refine ⟨_, _, .tup (Same.tup (same_new hu) hp) (.cons (.str _) .nil), .tup (SqT.of upd_same) (.cons (.str _) .nil), sh, sh, _, rfl, ?_⟩
    rw [SeqAt.eqv_refl _ (shaped_layM sh)]
    refine iteF ?_
    have sBA := sB9.trans (same_new (u := .tup [.str "kind"]) hu)
    have TA := tabsS T9 (same_new (u := .tup [.str "kind"]) hu)
    clear sB9 T9
    generalize upd H9 u (.tup [.str "kind"]) = HA at sBA TA
    -- the limits themselves
    refine ⟨_, rfl, fun x2 dx2 nx nd ned => obs_okR (ho.nt_.mono sBA) hf nx nd ned fun H7 d7 f7 s7 o7 h7 k7 => ?_⟩
    have hst := (start_eq hf).2
    refine ⟨_, rfl, x2, _, _, rfl, h7, k7 _ (by decide +kernel), ?_⟩
    have hle : (early0 ts).length ≤ 10000000 := by
      unfold early0
      rw [List.length_map, List.length_range]
      omega
    refine ⟨_, _, rfl, rfl, ⟨by decide, by decide, by decide⟩, _, _, rfl, rfl, ?_⟩
    refine ⟨x2, 1000000000000000001, rfl, .inr ⟨by decide, by decide, ts, _, _, 1, o7, hle, by show 1 ≤ 10000000; decide, by decide, by decide, fun H8 s8 => ?_⟩⟩
    rw [show (1000000000000000001 : Int) - 1 = 1000000000000000000 from rfl, obsV_last hst]
    refine ⟨_, _, rfl, rfl, ⟨by decide, by decide, by decide⟩, ?_⟩
    refine ⟨rfl, true, congrArg V.bl (decide_eq_true rfl), iteT ?_⟩
    refine ⟨_, rfl, x2, _, _, rfl, s8 _ _ h7, k7 _ (by decide +kernel), _, _, rfl, rfl, ⟨by decide, by decide, by decide⟩, ?_⟩
    refine ⟨x2, 1000000000000000000, rfl, .inr ⟨by decide, by decide, ts, _, _, 1, o7.mono s8, hle, by show 1 ≤ 10000000; decide, by decide, by decide, fun H9 s9 => ?_⟩⟩
    rw [many_all hst]
    refine ⟨_, _, rfl, rfl, ⟨by decide, by decide, by decide⟩, _, _, rfl, rfl, rfl, ?_⟩
    have sZ := sBA.trans (s7.trans (s8.trans s9))
    exact cast (congrArg (fun b => Q (V.bl b) H9) (decide_eq_true (rfl : V.int 1000000000000000001 = _)).symm) (k H9 (ext_of_nt sZ) (tabsS TA (s7.trans (s8.trans s9))))
  exact (F1.raw (bnd0 T.F_law_limits_right sc_law_limits_right rfl (fun _ _ _ _ _ _ us hl => match us, hl with | [_], _ => rfl)) .nil).imp fun vs H Q E h => by
    rw [List.append_nil]
    exact h
end
end EB

namespace EB
open PySem PySem.Spec PyProof.Rows L2
/-- what is left of each kind -/
def leftK (ts : List Tr) (d : Nat) : List (Key × V) := ts.foldl (fun kvs t => putK kvs (.inr t.k) (.int (t.l * (d : Nat) % t.n))) []
def KNice (kvs : List (Key × V)) : Prop := (kvs.map (·.1)).Nodup ∧ (∀ p ∈ kvs, ∃ i : Int, p.2 = .int i) ∧ ∀ p ∈ kvs, ∃ z : Str, p.1 = .inr z
theorem KNice.put {kvs : List (Key × V)} (h : KNice kvs) (z : Str) (i : Int) : KNice (putK kvs (.inr z) (.int i)) ∧ (putK kvs (.inr z) (.int i)).length ≤ kvs.length + 1 := by
  obtain ⟨h1, h2, h3⟩ := h
  unfold putK
  by_cases e : (kvs.any fun kv => decide (kv.1 = .inr z)) = true
  · rw [if_pos e]
    refine ⟨⟨?_, ?_, ?_⟩, by rw [List.length_map]; omega⟩
    · rw [List.map_map, show ((fun x : Key × V => x.1) ∘ fun kv => if kv.1 = .inr z then (kv.1, V.int i) else kv) = (fun kv => kv.1) from funext fun kv => by
        show (if kv.1 = .inr z then (kv.1, V.int i) else kv).1 = kv.1
        by_cases q : kv.1 = .inr z
        · rw [if_pos q]
        · rw [if_neg q]]
      exact h1
    · intro p hp
      obtain ⟨kv, m, rfl⟩ := List.mem_map.mp hp
      by_cases q : kv.1 = .inr z
      · rw [if_pos q]
        exact ⟨_, rfl⟩
      · rw [if_neg q]
        exact h2 _ m
    · intro p hp
      obtain ⟨kv, m, rfl⟩ := List.mem_map.mp hp
      by_cases q : kv.1 = .inr z
      · rw [if_pos q]
        exact ⟨z, q⟩
      · rw [if_neg q]
        exact h3 _ m
  · rw [if_neg e]
    refine ⟨⟨?_, ?_, ?_⟩, by rw [List.length_append]; exact Nat.le_refl _⟩
    · rw [List.map_append, List.nodup_append]
      refine ⟨h1, List.nodup_cons.mpr ⟨List.not_mem_nil, List.nodup_nil⟩, fun a ha b hb => ?_⟩
      cases List.mem_singleton.mp hb
      intro y
      subst y
      obtain ⟨p, m, e2⟩ := List.mem_map.mp ha
      exact e (List.any_eq_true.mpr ⟨p, m, decide_eq_true e2⟩)
    · intro p hp
      rcases List.mem_append.mp hp with m | m
      · exact h2 _ m
      · cases List.mem_singleton.mp m
        exact ⟨_, rfl⟩
    · intro p hp
      rcases List.mem_append.mp hp with m | m
      · exact h3 _ m
      · cases List.mem_singleton.mp m
        exact ⟨_, rfl⟩
theorem left_nice : ∀ (ts : List Tr) (d : Nat) (kvs : List (Key × V)), KNice kvs → KNice (ts.foldl (fun kvs t => putK kvs (.inr t.k) (.int (t.l * (d : Nat) % t.n))) kvs) ∧ (ts.foldl (fun kvs t => putK kvs (.inr t.k) (.int (t.l * (d : Nat) % t.n))) kvs).length ≤ kvs.length + ts.length
  | [], d, kvs, h => ⟨h, Nat.le_refl _⟩
  | t :: ts, d, kvs, h => by
    have h1 := h.put t.k (t.l * (d : Nat) % t.n)
    have h2 := left_nice ts d _ h1.1
    refine ⟨h2.1, Nat.le_trans h2.2 ?_⟩
    rw [List.length_cons]
    omega
theorem leftK_nice (ts : List Tr) (d : Nat) : KNice (leftK ts d) ∧ (leftK ts d).length ≤ ts.length := by
  have h := left_nice ts d [] ⟨List.nodup_nil, fun p h => (by cases h), fun p h => (by cases h)⟩
  rw [show ([] : List (Key × V)).length + ts.length = ts.length from Nat.zero_add _] at h
  exact h
theorem KNice.val {kvs : List (Key × V)} (h : KNice kvs) : ∀ p ∈ kvs, valV kvs p.1 = some p.2 ∧ flatB p.2 = true := by
  obtain ⟨h1, h2, h3⟩ := h
  intro p hp
  refine ⟨?_, ?_⟩
  · clear h2 h3
    induction kvs with
    | nil => cases hp
    | cons q r ih =>
      rw [List.map_cons, List.nodup_cons] at h1
      rcases List.mem_cons.mp hp with rfl | m
      · exact valV_pos rfl
      · rw [valV_neg (fun e => h1.1 (e ▸ List.mem_map_of_mem m)), ih h1.2 m]
  · obtain ⟨i, e⟩ := h2 p hp
    rw [e]
    rfl
section
variable {P : Program} {w : World} {K : PySem.W.Frag} {mg : Str → Option Value} {base : Heap} (T : Tx K mg)
include T
def spLeft (K : PySem.W.Frag) : Sp := fun vs H Q _ => ∃ (a : Addr) (ts : List Tr) (n : Nat), vs = [.ref a, .int (n : Nat)] ∧ OfAt K H a ts ∧ Fair ts ∧ n ≤ 1000000000000000000 ∧ ∀ H' p, Same H H' → H' p = some (.dK (leftK ts (D (cN ts) n))) → Q (.ref p) H'
theorem ok_Offer_left_over : FnR P w K mg base CX0 4 (a_Offer_left_over K) (spLeft K) := by
  refine fnR0 (d := d_Offer_left_over) T.F_Offer_left_over sc_Offer_left_over rfl (fun _ _ _ _ _ _ us hl => match us, hl with | [_, _], _ => rfl) (fun vs H Q E h => ?_) (fun cdv A outer s H vs Q E hr h => ?_)
  · obtain ⟨a, ts, n, rfl, _⟩ := h
    rfl
  obtain ⟨a, ts, n, rfl, ho, hf, hn, k⟩ := h
  obtain ⟨dx, t, p, o, f, g, e1, e2, e3, e4, e5, e6⟩ := ho.ex
  refine ⟨_, (pss_cons (ps_expr (pe_cR (ok_check_number T) (hr.mono (by decide)) T.F_check_number.kp T.g_check_number pass0 (pa_cons (pv 1) pa_nil))) (pss_cons (ps_set (i := 2) sc_Offer_left_over.nd rfl (Or.inr rfl) (pe_methR (pv 0) T.k_Offer T.m_Offer_drinks_for (ok_Offer_drinks_for T) (hr.mono (by decide)) pass0 (pa_cons (pv 1) pa_nil))) (pss_one (ps_ret (pe_dc (own := [("kind", 3), ("left", 4), ("needed", 5)]) rfl sc_Offer_left_over.nd (pi_tup (pe_fld (pv 0) rfl)) (blkOk_by (own := [("kind", 3), ("left", 4), ("needed", 5)]) (N := N_Offer_left_over) (sc := defScope s_Offer_left_over) (by decide +kernel)) (fun _ _ _ _ _ => (pg_tupB (n := 3) (pgs_cons (pg_name (i := 3) sc_Offer_left_over.nd rfl (Or.inl rfl) (.inr rfl)) (pgs_cons (pg_name (i := 4) sc_Offer_left_over.nd rfl (Or.inl rfl) (.inr rfl)) (pgs_cons (pg_name (i := 5) sc_Offer_left_over.nd rfl (Or.inl rfl) (.inr rfl)) pgs_nil))))) (fun _ _ _ _ _ => pts_nil) (fun _ _ _ _ _ => (pv 3)) (fun _ _ _ _ _ => (pe_op op_mod (pe_op op_mul (pv 4) (pv 2)) (pv 5)))))))), ?_⟩
  refine ⟨_, rfl, n, rfl, by omega, by omega, ?_⟩
  refine ⟨_, rfl, a, dx, _, rfl, e1, lk_no (by decide +kernel), _, rfl, a, ts, n, rfl, ho, hf, ?_⟩
  obtain ⟨ps, h1, h2, h3⟩ := e2.ex
  have hlen := hf.g.1
  refine ⟨_, rfl, a, _, dx, _, _, rfl, e1, T.k_Offer, T.na_trades, lk_trades, t, rfl, ⟨_, h1⟩, fun W hW => ?_⟩
  refine dc_tup (xs := ps.map V.ref) (fun i H1 => Same H H1 ∧ H1 W = some (.dK (leftK (ts.take i) (D (cN ts) n)))) ⟨same_new hW, upd_same⟩ (fun i H1 _ q => Same.tup q.1 h1) ?_ ?_
  · rintro i x H1 hx ⟨s1, w1⟩
    obtain ⟨p, t, rfl, ep, et, hm, li, hp⟩ := TrAt.at_ h2 h3 hx
    have ht := hf.g.2 _ hm
    refine ⟨p, _, rfl, Same.tup s1 hp, rfl, _, _, rfl, _, _, rfl, _, _, rfl, rfl, rfl, ?_⟩
    have hl := (leftK_nice (ts.take i) (D (cN ts) n)).2
    rw [List.length_take] at hl
    refine ⟨_, rfl, _, rfl, _, rfl, _, _, rfl, rfl, .inl ⟨by have := ht.1; omega, by have := ht.2.1; omega⟩, _, rfl, _, _, rfl, rfl, (show 0 < t.n from by have := ht.2.2.1; omega), ?_⟩
    refine ⟨_, .inr t.k, rfl, w1, small3 (by omega), same_mut s1 hW, ?_⟩
    rw [upd_same, take_at et]
    unfold leftK
    rw [List.foldl_append]
    rfl
  · rintro H1 ⟨s1, w1⟩
    refine k _ _ s1 ?_
    rw [w1, List.length_map, h2, List.take_length]
end
end EB

/-! list(zip(a, b)) of two lists -/
namespace EBZ
open PySem PySem.Spec PyProof.Rows L2
abbrev IsZipO (h : Heap) (z TI TO a : Addr) (f : Bool) : Prop :=
  h.get? z = some { cls := .type "zip", dict := none, data := .fields #[rawInt a, .bool f, .bool false, .ref TI, .ref TO], slots := #[] }
section
variable {prog : Program} {w : World} {A : Around} {E : Value → Shared → Prop} {s : Shared}
theorem free_false {z TI TO a : Addr} {f : Bool} (hz : IsZipO s.heap z TI TO a f) (G : Bool → Shared → Prop) (hm : ∀ h₁ : Heap, IsZipO h₁ z TI TO a true → Heap.SameBut z s.heap h₁ → G false { s with heap := h₁ }) :
      wpAny (model prog w) A (if (Value.bool f != Value.bool true) = true then do
        setField (Value.ref z) 1 (Value.bool true)
        pure false
      else pure false) G E s := by
    cases f with
    | false =>
      rw [if_pos (show (Value.bool false != Value.bool true) = true from rfl)]
      refine wpAny_bind (wpAny_setField_rec hz (by simp) fun h₁ hz₁ hs₁ => wpAny_pure (hm h₁ hz₁ hs₁))
    | true =>
      rw [if_neg (show ¬ ((Value.bool true != Value.bool true) = true) from Bool.false_ne_true)]
      exact wpAny_pure (hm s.heap hz (Heap.SameBut.refl _ _))
theorem zipO_next_item {z TI TO i1 i2 l1 l2 a : Addr} {f : Bool} {oa : Obj} {k1 k2 : Nat} {xs ys : Array Value} {x y : Value} {Q : Value → Shared → Prop} (D : ZipApart z TI TO i1 i2 l1 l2)
    (hz : IsZipO s.heap z TI TO a f) (ha : s.heap.get? a = some oa) (hTI : IsPair s.heap TI (.ref i1) (.ref i2))
    (h1 : s.heap.IsListIter i1 l1 k1) (h2 : s.heap.IsListIter i2 l2 k2) (hl1 : s.heap.IsList l1 xs) (hl2 : s.heap.IsList l2 ys) (hx : xs[k1]? = some x) (hy : ys[k2]? = some y)
    (hQ : ∀ h', IsZipO h' z TI TO a true → h'.IsListIter i1 l1 (k1 + 1) → h'.IsListIter i2 l2 (k2 + 1) → IsPair h' s.heap.objs.size x y → h'.objs.size = s.heap.objs.size + 1 →
      (∀ c o, c ≠ z → c ≠ i1 → c ≠ i2 → s.heap.get? c = some o → h'.get? c = some o) → Q (.ref s.heap.objs.size) { s with heap := h' }) :
    wpAny (model prog w) A (Builtin.«zip.__next__» ⟨[.ref z], []⟩) (fun fin s' => ∃ v, fin = .done (.ret v) ∧ Q v s') E s := by
  show wpAny _ _ (field (.ref z) 2 >>= _) _ _ _
  refine wpAny_bind (wpAny_field hz rfl (x := .bool false) rfl ?_)
  show wpAny _ _ (field (.ref z) 3 >>= _) _ _ _
  refine wpAny_bind (wpAny_field hz rfl (x := .ref TI) rfl ?_)
  refine wpAny_bind (wpAny_seqItems hTI rfl ?_)
  show wpAny _ _ (Builtin.SmallTypes.ownedTupleIsFree (.ref z) >>= _) _ _ _
  refine wpAny_bind ?_
  unfold Builtin.SmallTypes.ownedTupleIsFree
  refine wpAny_bind (wpAny_field hz rfl (x := rawInt a) rfl ?_)
  show wpAny _ _ (loadIfAlive ((a : Int).toNat) >>= _) _ _ _
  rw [Int.toNat_natCast]
  refine wpAny_bind (PySem.W.kdx_alive ha ?_)
  simp only [Option.isNone_some, Bool.false_eq_true, if_false]
  refine wpAny_bind (wpAny_field hz rfl (x := .bool f) rfl ?_)
  refine free_false hz _ fun h₁ hz₁ hs₁ => ?_
  simp only [Bool.false_eq_true, if_false]
  rw [← Array.forIn_toList]
  simp only [List.forIn_cons, List.forIn_nil]
  refine wpAny_bind (wpAny_bind (wpAny_bind (wpAny_holding ?_)))
  show wpAny _ _ (Builtin.SmallTypes.nextOf (.ref i1) >>= _) _ _ _
  refine wpAny_bind (wpAny_nextOf_list_item (h1.extBut hs₁.extBut D.i1z) (hl1.extBut hs₁.extBut D.l1z) hx fun h₂ h1₂ hs₂ => wpAny_pure ?_)
  refine wpAny_pure ?_
  refine wpAny_bind (wpAny_bind (wpAny_holding ?_))
  show wpAny _ _ (Builtin.SmallTypes.nextOf (.ref i2) >>= _) _ _ _
  refine wpAny_bind (wpAny_nextOf_list_item ((h2.extBut hs₁.extBut D.i2z).extBut hs₂.extBut D.i12.symm)
    ((hl2.extBut hs₁.extBut D.l2z).extBut hs₂.extBut D.l2i1) hy fun h₄ h2₄ hs₄ => wpAny_pure ?_)
  refine wpAny_pure (wpAny_pure ?_)
  dsimp only at hs₁ hs₂ hs₄ ⊢
  refine wpAny_bind (wpAny_newTuple (hsz := show 2 ≤ sizeLine by decide) ?_)
  have hsz : h₄.objs.size = s.heap.objs.size := by rw [hs₄.1, hs₂.1, hs₁.1]
  have hk : ∀ c o, c ≠ z → c ≠ i1 → c ≠ i2 → s.heap.get? c = some o → h₄.get? c = some o := fun c o c1 c3 c4 e => hs₄.extBut _ _ c4 (hs₂.extBut _ _ c3 (hs₁.extBut _ _ c1 e))
  have hz₄ : IsZipO h₄ z TI TO a true := hs₄.extBut _ _ D.i2z.symm (hs₂.extBut _ _ D.i1z.symm hz₁)
  have h1₄ := h1₂.extBut hs₄.extBut D.i12
  refine wpAny_pure ⟨_, rfl, ?_⟩
  rw [hsz]
  refine hQ _ (Heap.get?_push_of_some _ hz₄) (h1₄.at fun o e => Heap.get?_push_of_some _ e) (h2₄.at fun o e => Heap.get?_push_of_some _ e) ?_ ?_ fun c o c1 c2 c3 e => Heap.get?_push_of_some _ (hk c o c1 c2 c3 e)
  · have e : IsPair (h₄.push { cls := .type "tuple", data := .seq #[x, y] }) h₄.objs.size x y := Heap.get?_push_size _ rfl
    rw [hsz] at e
    exact e
  · rw [Heap.size_push, hsz]
theorem zipO_next_end {z TI TO i1 i2 l1 l2 a : Addr} {f : Bool} {oa : Obj} {k1 : Nat} {xs : Array Value} {Q : PySem.Fin → Shared → Prop} (hh : A.handled = none) (D : ZipApart z TI TO i1 i2 l1 l2)
    (hz : IsZipO s.heap z TI TO a f) (ha : s.heap.get? a = some oa) (hTI : IsPair s.heap TI (.ref i1) (.ref i2))
    (h1 : s.heap.IsListIter i1 l1 k1) (hl1 : s.heap.IsList l1 xs) (hx : xs[k1]? = none)
    (hE : ∀ h' e, (∀ c o, c ≠ z → c ≠ i1 → s.heap.get? c = some o → h'.get? c = some o) → (∃ o, h'.get? e = some o ∧ o.cls = .type "StopIteration") → E (.ref e) { s with heap := h' }) :
    wpAny (model prog w) A (Builtin.«zip.__next__» ⟨[.ref z], []⟩) Q E s := by
  show wpAny _ _ (field (.ref z) 2 >>= _) _ _ _
  refine wpAny_bind (wpAny_field hz rfl (x := .bool false) rfl ?_)
  show wpAny _ _ (field (.ref z) 3 >>= _) _ _ _
  refine wpAny_bind (wpAny_field hz rfl (x := .ref TI) rfl ?_)
  refine wpAny_bind (wpAny_seqItems hTI rfl ?_)
  show wpAny _ _ (Builtin.SmallTypes.ownedTupleIsFree (.ref z) >>= _) _ _ _
  refine wpAny_bind ?_
  unfold Builtin.SmallTypes.ownedTupleIsFree
  refine wpAny_bind (wpAny_field hz rfl (x := rawInt a) rfl ?_)
  show wpAny _ _ (loadIfAlive ((a : Int).toNat) >>= _) _ _ _
  rw [Int.toNat_natCast]
  refine wpAny_bind (PySem.W.kdx_alive ha ?_)
  simp only [Option.isNone_some, Bool.false_eq_true, if_false]
  refine wpAny_bind (wpAny_field hz rfl (x := .bool f) rfl ?_)
  refine free_false hz _ fun h₁ hz₁ hs₁ => ?_
  simp only [Bool.false_eq_true, if_false]
  rw [← Array.forIn_toList]
  simp only [List.forIn_cons, List.forIn_nil]
  refine wpAny_bind (wpAny_bind (wpAny_bind (wpAny_holding ?_)))
  show wpAny _ _ (Builtin.SmallTypes.nextOf (.ref i1) >>= _) _ _ _
  refine wpAny_bind (wpAny_nextOf_list_end hh (h1.extBut hs₁.extBut D.i1z) (hl1.extBut hs₁.extBut D.l1z) hx fun h₂ e hs₂ he => ?_)
  exact hE h₂ e (fun c o c1 c3 x => hs₂ _ _ c3 (hs₁.extBut _ _ c1 x)) he
/-- the zip between two turns of the list that takes its pairs -/
structure ZSt (h : Heap) (z TI TO i1 i2 l1 l2 S : Addr) (i : Nat) : Prop where
  ti : IsPair h TI (.ref i1) (.ref i2)
  a1 : h.IsListIter i1 l1 i
  a2 : h.IsListIter i2 l2 i
  st : (IsZip h z TI TO .none ∧ ∃ x y, IsPair h TO x y) ∨ ∃ a f oa, IsZipO h z TI TO a f ∧ h.get? a = some oa ∧ a ≠ z ∧ a ≠ i1 ∧ a ≠ i2 ∧ a ≠ S
theorem z_item {z TI TO i1 i2 l1 l2 S : Addr} {i : Nat} {xs ys : Array Value} {x y : Value} {Q : Option Value → Shared → Prop} (D : ZipApart z TI TO i1 i2 l1 l2)
    (st : ZSt s.heap z TI TO i1 i2 l1 l2 S i) (hS : S < s.heap.objs.size) (hl1 : s.heap.IsList l1 xs) (hl2 : s.heap.IsList l2 ys) (hx : xs[i]? = some x) (hy : ys[i]? = some y)
    (hQ : ∀ h', ZSt h' z TI TO i1 i2 l1 l2 S (i + 1) → IsPair h' s.heap.objs.size x y → h'.objs.size = s.heap.objs.size + 1 →
      (∀ c o, c ≠ z → c ≠ TO → c ≠ i1 → c ≠ i2 → s.heap.get? c = some o → h'.get? c = some o) → Q (some (.ref s.heap.objs.size)) { s with heap := h' }) :
    wpAny (model prog w) A (pyNext (.ref z)) Q E s := by
  obtain ⟨ti, a1, a2, ⟨hz, x0, y0, hTO⟩ | ⟨a, f, oa, hz, ha, b1, b2, b3, b4⟩⟩ := st
  · refine wpAny_pyNext_zip_item D hz ti hTO a1 a2 hl1 hl2 hx hy fun h' c1 c2 c3 c4 c5 c6 c7 => hQ h' ⟨c7 _ _ D.TIz D.TITO D.TIi1 D.TIi2 ti, c3, c4, .inr ⟨_, false, _, c1, c5, Nat.ne_of_gt (Heap.lt_size hz), ?_, ?_, Nat.ne_of_gt hS⟩⟩ c5 c6 c7
    · obtain ⟨_, e, _⟩ := a1
      exact Nat.ne_of_gt (Heap.lt_size e)
    · obtain ⟨_, e, _⟩ := a2
      exact Nat.ne_of_gt (Heap.lt_size e)
  · have hT : s.TypeIs (.ref z) "zip" := ⟨_, hz, rfl⟩
    unfold pyNext
    refine wpAny_bind (wpAny_attempt (wpAny_callSpecial?_slot (name := Str.ofString "__next__") hT F.slot_zip_next (wpAny_call_entry F.slot_zip_next hT F.entry_zip_next
      (zipO_next_item D hz ha ti a1 a2 hl1 hl2 hx hy fun h' c1 c3 c4 c5 c6 c7 => wpAny_pure ?_) (F.args_zip_next_1 _))))
    exact hQ h' ⟨c7 _ _ D.TIz D.TIi1 D.TIi2 ti, c3, c4, .inr ⟨a, true, _, c1, c7 _ _ b1 b2 b3 ha, b1, b2, b3, b4⟩⟩ c5 c6 fun c o d1 _ d3 d4 e => c7 c o d1 d3 d4 e
theorem z_done {z TI TO i1 i2 l1 l2 S : Addr} {i : Nat} {xs ys : Array Value} {Q : Option Value → Shared → Prop} (hh : A.handled = none) (D : ZipApart z TI TO i1 i2 l1 l2)
    (st : ZSt s.heap z TI TO i1 i2 l1 l2 S i) (hl1 : s.heap.IsList l1 xs) (hl2 : s.heap.IsList l2 ys) (hx : xs[i]? = none)
    (hQ : ∀ h', (∀ c o, c ≠ z → c ≠ TO → c ≠ i1 → c ≠ i2 → s.heap.get? c = some o → h'.get? c = some o) → Q none { s with heap := h' }) :
    wpAny (model prog w) A (pyNext (.ref z)) Q E s := by
  obtain ⟨ti, a1, a2, ⟨hz, x0, y0, hTO⟩ | ⟨a, f, oa, hz, ha, b1, b2, b3, b4⟩⟩ := st
  · exact wpAny_pyNext_zip_end hh D hz ti hTO a1 a2 hl1 hl2 (.inl hx) hQ
  · have hT : s.TypeIs (.ref z) "zip" := ⟨_, hz, rfl⟩
    unfold pyNext
    refine wpAny_bind (wpAny_attempt (wpAny_callSpecial?_slot (name := Str.ofString "__next__") hT F.slot_zip_next (wpAny_call_entry F.slot_zip_next hT F.entry_zip_next
      (zipO_next_end hh D hz ha ti a1 hl1 hx fun h' e hk he => ?_) (F.args_zip_next_1 _))))
    obtain ⟨o, ho, hc⟩ := he
    refine wpAny_bind (wpAny_isInstance (T := "StopIteration") (b := true) ⟨o, ho, hc⟩ isSubtype_stop ?_)
    exact wpAny_pure (hQ _ fun c o d1 _ d3 _ e => hk c o d1 d3 e)
/-- the pairs that were taken, in their order -/
structure ZG (xs ys : Array Value) (lo : Addr) (h : Heap) (as : List Addr) : Prop where
  rise : as.Pairwise (· < ·)
  above : ∀ a ∈ as, lo < a
  prs : ∀ (j : Nat) (a : Addr), as[j]? = some a → ∃ u v, xs[j]? = some u ∧ ys[j]? = some v ∧ IsPair h a u v
theorem ZG.there {xs ys : Array Value} {lo : Addr} {h : Heap} {as : List Addr} (g : ZG xs ys lo h as) {a : Addr} (ha : a ∈ as) : a < h.objs.size := by
  obtain ⟨j, hj⟩ := List.mem_iff_getElem?.mp ha
  obtain ⟨_, _, _, _, e⟩ := g.prs j a hj
  exact Heap.lt_size e
end
theorem zip_no_len : typeLookup (.type "zip") "__len__" = pure none := by rw [typeLookup_type, builtinLookup_eq_fast]; kernel_rfl
theorem zip_no_hint : typeLookup (.type "zip") "__length_hint__" = pure none := by rw [typeLookup_type, builtinLookup_eq_fast]; kernel_rfl
section
variable {prog : Program} {w : World} {A : Around} {s : Shared} {R : Result → Shared → Prop} {xs ys : Array Value}
theorem z_loop {z TI TO i1 i2 l1 l2 S : Addr} (hh : A.handled = none) (D : ZipApart z TI TO i1 i2 l1 l2) (hn : xs.size ≤ sizeLine) (hxy : xs.size = ys.size) (res : Value) {h₁ : Heap}
    (nS : S ≠ z ∧ S ≠ TI ∧ S ≠ TO ∧ S ≠ i1 ∧ S ≠ i2 ∧ S ≠ l1 ∧ S ≠ l2) (lo : z < S ∧ TO < S ∧ i1 < S ∧ i2 < S)
    (hR : ∀ h' tk acc c as, (∀ b o, b ≠ S → b ≠ z → b ≠ TO → b ≠ i1 → b ≠ i2 → h₁.get? b = some o → h'.get? b = some o) → h'.get? S = some { cls := .type "list", dict := none, data := .seq acc c, slots := #[] } → as.length = xs.size → ZG xs ys S h' as →
      acc.toList = as.map Value.ref → R (.ok (.ret res)) { s with heap := h', toks := tk }) :
    ∀ (k i : Nat) (h : Heap) (tk c : Nat) (acc : Array Value) (as : List Addr), xs.size - i = k → i ≤ xs.size → ZSt h z TI TO i1 i2 l1 l2 S i → h.IsList l1 xs → h.IsList l2 ys →
      (∀ b o, b ≠ S → b ≠ z → b ≠ TO → b ≠ i1 → b ≠ i2 → h₁.get? b = some o → h.get? b = some o) →
      h.get? S = some { cls := .type "list", dict := none, data := .seq acc c, slots := #[] } → acc.toList = as.map Value.ref → as.length = i → ZG xs ys S h as →
      codeAny (model prog w) A (.builtin "list.extend.loop" ⟨[.ref S, .ref z, res], []⟩) R { s with heap := h, toks := tk } := by
  obtain ⟨n1, n2, n3, n4, n5, n6, n7⟩ := nS
  obtain ⟨g1, g2, g3, g4⟩ := lo
  intro k
  induction k with
  | zero =>
    intro i h tk c acc as hk hi st hl1 hl2 hkeep hS hacc hal hG
    refine codeAny_builtin PySem.F.entry_extend_loop ?_
    rw [Around.under_plainId PySem.F.plain_extend_loop _]
    show wpAny _ A.in1 (pyNext (.ref z) >>= _) _ _ _
    refine wpAny_bind (z_done (s := { s with heap := h, toks := tk }) (A := A.in1) hh D st hl1 hl2 (by rw [Array.getElem?_eq_none]; omega) fun h' he => ?_)
    refine wpAny_pure (hR h' tk acc c as (fun b o e0 e1 e2 e3 e4 e => he b o e1 e2 e3 e4 (hkeep b o e0 e1 e2 e3 e4 e)) (he S _ n1 n3 n4 n5 hS) (by omega) ⟨hG.rise, hG.above, fun j a hj => ?_⟩ hacc)
    obtain ⟨u, v, e1, e2, e3⟩ := hG.prs j a hj
    have hb := hG.above a (List.mem_of_getElem? hj)
    exact ⟨u, v, e1, e2, he a _ (Nat.ne_of_gt (Nat.lt_trans g1 hb)) (Nat.ne_of_gt (Nat.lt_trans g2 hb)) (Nat.ne_of_gt (Nat.lt_trans g3 hb)) (Nat.ne_of_gt (Nat.lt_trans g4 hb)) e3⟩
  | succ k ih =>
    intro i h tk c acc as hk hi st hl1 hl2 hkeep hS hacc hal hG
    have hlt : i < xs.size := by omega
    have hsz : acc.size = i := by rw [← Array.length_toList, hacc, List.length_map, hal]
    have hSl : S < h.objs.size := Heap.lt_size hS
    refine codeAny_builtin PySem.F.entry_extend_loop ?_
    rw [Around.under_plainId PySem.F.plain_extend_loop _]
    show wpAny _ A.in1 (pyNext (.ref z) >>= _) _ _ _
    refine wpAny_bind (z_item (s := { s with heap := h, toks := tk }) (S := S) D st hSl hl1 hl2 (Array.getElem?_eq_getElem hlt) (Array.getElem?_eq_getElem (by omega)) fun h' st' ht hz hkp => ?_)
    dsimp only at ht hz hkp ⊢
    have hS' := hkp S _ n1 n3 n4 n5 hS
    have up : ∀ b o, b ≠ S → h'.get? b = some o → (h'.update S (Obj.mapSeq (·.push (Value.ref h.objs.size)))).get? b = some o := fun b o hb e => (Heap.get?_update_other _ _ (Ne.symm hb)).trans e
    show wpAny _ A.in1 (updateSeq S (·.push (Value.ref h.objs.size)) >>= _) _ _ _
    refine wpAny_bind ?_
    refine wpAny_updateSeq hS' rfl (wpAny_pure ⟨plainId_quiet PySem.F.plain_extend_loop _, ih (i + 1) _ tk _ (acc.push (Value.ref h.objs.size)) (as ++ [h.objs.size]) (by omega) hlt ?_ (hl1.at fun o e => up l1 o n6.symm (hkp l1 o D.l1z D.l1TO D.l1i1 D.l1i2 e)) (hl2.at fun o e => up l2 o n7.symm (hkp l2 o D.l2z D.l2TO D.l2i1 D.l2i2 e))
      (fun b o e0 e1 e2 e3 e4 e => up b o e0 (hkp b o e1 e2 e3 e4 (hkeep b o e0 e1 e2 e3 e4 e))) (Heap.get?_update_self _ hS' rfl) (by rw [Array.toList_push, hacc, List.map_append]; rfl) (by rw [List.length_append, hal]; rfl) ⟨?_, ?_, ?_⟩⟩) (by rw [hsz]; omega) (by show (acc.push (Value.ref h.objs.size)).size ≤ sizeLine + 1; rw [Array.size_push, hsz]; omega)
    · obtain ⟨ti, b1, b2, ⟨hz, x0, y0, hTO⟩ | ⟨a, f, oa, hz, ha, b5, b6, b7, b8⟩⟩ := st'
      · exact ⟨up _ _ n2.symm ti, b1.at fun o e => up _ o n4.symm e, b2.at fun o e => up _ o n5.symm e, .inl ⟨up _ _ n1.symm hz, x0, y0, up _ _ n3.symm hTO⟩⟩
      · exact ⟨up _ _ n2.symm ti, b1.at fun o e => up _ o n4.symm e, b2.at fun o e => up _ o n5.symm e, .inr ⟨a, f, oa, up _ _ n1.symm hz, up _ _ b8 ha, b5, b6, b7, b8⟩⟩
    · refine List.pairwise_append.mpr ⟨hG.rise, List.pairwise_singleton _ _, fun a ha b hb => ?_⟩
      rw [List.mem_singleton.mp hb]
      exact hG.there ha
    · intro a ha
      rcases List.mem_append.mp ha with ha | ha
      · exact hG.above a ha
      · rw [List.mem_singleton.mp ha]; exact hSl
    · intro j b hj
      rcases Nat.lt_trichotomy j as.length with q | q | q
      · rw [List.getElem?_append_left q] at hj
        obtain ⟨u, v, e1, e2, e3⟩ := hG.prs j b hj
        have hb := hG.above b (List.mem_of_getElem? hj)
        exact ⟨u, v, e1, e2, up b _ (Nat.ne_of_gt hb) (hkp b _ (Nat.ne_of_gt (Nat.lt_trans g1 hb)) (Nat.ne_of_gt (Nat.lt_trans g2 hb)) (Nat.ne_of_gt (Nat.lt_trans g3 hb)) (Nat.ne_of_gt (Nat.lt_trans g4 hb)) e3)⟩
      · subst q
        have hb : h.objs.size = b := by simpa using hj
        subst hb
        exact ⟨_, _, by rw [hal]; exact Array.getElem?_eq_getElem hlt, by rw [hal]; exact Array.getElem?_eq_getElem (by omega), up _ _ (Nat.ne_of_gt hSl) ht⟩
      · have hnone : (as ++ [h.objs.size])[j]? = none := List.getElem?_eq_none (by rw [List.length_append, List.length_singleton]; omega)
        rw [hnone] at hj; cases hj
end
section
variable {prog : Program} {w : World} {A : Around} {E : Value → Shared → Prop} {s : Shared} {xs ys : Array Value}
/-- list(z) of a zip that has not begun -/
theorem z_call {z TI TO i1 i2 l1 l2 : Addr} {Q : Value → Shared → Prop} (hh : A.handled = none) (D : ZipApart z TI TO i1 i2 l1 l2) (hn : xs.size ≤ sizeLine) (hxy : xs.size = ys.size)
    (hz : IsZip s.heap z TI TO .none) (hTI : IsPair s.heap TI (.ref i1) (.ref i2)) (hTO : ∃ x y, IsPair s.heap TO x y) (h1 : s.heap.IsListIter i1 l1 0) (h2 : s.heap.IsListIter i2 l2 0) (hl1 : s.heap.IsList l1 xs) (hl2 : s.heap.IsList l2 ys)
    (hQ : ∀ h' tk acc c as, (∀ b o, b ≠ z → b ≠ TO → b ≠ i1 → b ≠ i2 → s.heap.get? b = some o → h'.get? b = some o) → h'.get? s.heap.objs.size = some { cls := .type "list", dict := none, data := .seq acc c, slots := #[] } → as.length = xs.size → ZG xs ys s.heap.objs.size h' as →
      acc.toList = as.map Value.ref → Q (.ref s.heap.objs.size) { s with heap := h', toks := tk }) :
    wpAny (model prog w) A (call (.type "list") [.ref z]) Q E s := by
  obtain ⟨x0, y0, hTO⟩ := hTO
  have lz : z < s.heap.objs.size := Heap.lt_size hz
  have lTI : TI < s.heap.objs.size := Heap.lt_size hTI
  have lTO : TO < s.heap.objs.size := Heap.lt_size hTO
  have li1 : i1 < s.heap.objs.size := by
    obtain ⟨_, e, _⟩ := h1
    exact Heap.lt_size e
  have li2 : i2 < s.heap.objs.size := by
    obtain ⟨_, e, _⟩ := h2
    exact Heap.lt_size e
  have ll1 : l1 < s.heap.objs.size := by
    obtain ⟨_, e, _⟩ := hl1
    exact Heap.lt_size e
  have ll2 : l2 < s.heap.objs.size := by
    obtain ⟨_, e, _⟩ := hl2
    exact Heap.lt_size e
  refine callType_codes (Q₁ := fun obj s₁ => obj = .ref s.heap.objs.size ∧ s₁ = { s with heap := s.heap.push { cls := .type "list", data := .seq #[] } }) PySem.F.called_list (PySem.F.typeCall_list_1 _) PySem.F.entry_list_init
    (code_list_new _ ⟨rfl, rfl⟩) fun obj s₁ h₁ => ?_
  obtain ⟨rfl, rfl⟩ := h₁
  have hS : (s.heap.push { cls := .type "list", data := .seq #[] }).get? s.heap.objs.size = some { cls := .type "list", data := .seq #[] } := Heap.get?_push_size _ rfl
  refine ⟨⟨_, hS, rfl⟩, PySem.F.args_list_init_2 _ _, ?_⟩
  show wpAny _ A.in1.in1 (do let old ← Builtin.List.listItems (.ref s.heap.objs.size); Builtin.List.listUpdate (.ref s.heap.objs.size) (fun _ => #[]); letGo old.toList.reverse; Builtin.List.listExtendWith (.ref s.heap.objs.size) (.ref z) .none) _ _ _
  refine wpAny_bind ?_
  unfold Builtin.List.listItems
  refine wpAny_bind (wpAny_seqItems hS rfl (wpAny_pure ?_))
  show wpAny _ A.in1.in1 (updateSeq s.heap.objs.size (fun _ => #[]) >>= fun _ => letGo (#[] : Array Value).toList.reverse >>= fun _ => Builtin.List.listExtendWith (.ref s.heap.objs.size) (.ref z) .none) _ _ _
  refine wpAny_bind (wpAny_updateSeq hS rfl ?_)
  have hS2 := Heap.get?_update_self (Obj.mapSeq (fun _ => (#[] : Array Value))) hS rfl
  refine wpAny_bind (wpAny_letGo ?_)
  unfold Builtin.List.listExtendWith
  have up : ∀ (h : Heap) (f : Obj → Obj), (∀ b o, s.heap.get? b = some o → h.get? b = some o) → ∀ b o, s.heap.get? b = some o → (h.update s.heap.objs.size f).get? b = some o := fun h f q b o e =>
    (Heap.get?_update_other _ _ (Ne.symm (Nat.ne_of_lt (Heap.lt_size e)))).trans (q b o e)
  have k1 : ∀ b o, s.heap.get? b = some o → (s.heap.push { cls := .type "list", data := .seq #[] }).get? b = some o := fun b o e => Heap.get?_push_of_some _ e
  have k2 := up _ (Obj.mapSeq (fun _ => (#[] : Array Value))) k1
  have zty : ∀ {h : Heap}, (∀ b o, s.heap.get? b = some o → h.get? b = some o) → Shared.TypeIs { s with heap := h } (.ref z) "zip" := fun {h} q => ⟨_, q _ _ hz, rfl⟩
  refine wpAny_bind (wpAny_typeOf (zty k2) ?_)
  have q1 : Builtin.List.listSameRef (.ref s.heap.objs.size) (.ref z) = false := by simp [Builtin.List.listSameRef, Nat.ne_of_gt lz]
  have q2 : (Value.type "zip" == Value.type "list") = false := by decide
  have q3 : (Value.type "zip" == Value.type "tuple") = false := by decide
  simp only [q1, q2, q3, Bool.or_false, Bool.false_eq_true, if_false]
  refine wpAny_bind (wpAny_pyIter_zip (s := { s with heap := _ }) (k2 _ _ hz) ?_)
  refine wpAny_bind (wpAny_holding ?_)
  unfold Builtin.List.listLengthHint
  refine wpAny_bind (wpAny_specialOf (zty k2) zip_no_len ?_)
  show wpAny _ A.in1.in1 (specialOf (Value.ref z) (Str.ofString "__length_hint__") >>= _) _ _ _
  refine wpAny_bind (wpAny_specialOf (zty k2) zip_no_hint ?_)
  refine wpAny_pure ?_
  refine wpAny_ite_split (fun _ => ?_) (fun q => absurd (Bool.true_or _) q)
  refine wpAny_bind (wpAny_rule ?_)
  refine wpAny_bind ?_
  show wpAny _ A.in1.in1 (updateSeq s.heap.objs.size (·.push .none) >>= fun _ => updateSeq s.heap.objs.size (·.pop)) _ _ _
  refine wpAny_bind (wpAny_updateSeq hS2 rfl ?_)
  have hS3 := Heap.get?_update_self (Obj.mapSeq (·.push Value.none)) hS2 rfl
  refine wpAny_updateSeq (hz := by seq_fits) hS3 rfl ?_
  have hS4 := Heap.get?_update_self (Obj.mapSeq (·.pop)) hS3 rfl
  have k4 := up _ (Obj.mapSeq (·.pop)) (up _ (Obj.mapSeq (·.push Value.none)) k2)
  refine wpAny_pure ⟨plainId_quiet F.plain_extend_loop _, ?_⟩
  refine z_loop (s := s) (A := A.in1) (xs := xs) (ys := ys) (h₁ := s.heap) hh D hn hxy .none ⟨Nat.ne_of_gt lz, Nat.ne_of_gt lTI, Nat.ne_of_gt lTO, Nat.ne_of_gt li1, Nat.ne_of_gt li2, Nat.ne_of_gt ll1, Nat.ne_of_gt ll2⟩ ⟨lz, lTO, li1, li2⟩
    (fun h' tk acc c as f1 f2 f3 f4 f5 => ⟨rfl, hQ h' tk acc c as (fun b o e1 e2 e3 e4 e => f1 b o (Nat.ne_of_lt (Heap.lt_size e)) e1 e2 e3 e4 e) f2 f3 f4 f5⟩)
    xs.size 0 _ s.toks _ #[] [] (Nat.sub_zero _) (Nat.zero_le _) ⟨k4 _ _ hTI, h1.at fun o e => k4 _ o e, h2.at fun o e => k4 _ o e, .inl ⟨k4 _ _ hz, x0, y0, k4 _ _ hTO⟩⟩ (hl1.at fun o e => k4 _ o e) (hl2.at fun o e => k4 _ o e) (fun b o _ _ _ _ _ e => k4 b o e) hS4 rfl rfl
    ⟨List.Pairwise.nil, fun a ha => (nomatch ha), fun j a hj => (nomatch hj)⟩
end
/-! ### in the tracked heap -/
def putP : Hp → List Addr → List (V × V) → Hp
  | H, a :: as, p :: ps => putP (upd H a (.tup [p.1, p.2])) as ps
  | H, _, _ => H
theorem putP_off {b : Addr} : ∀ (as : List Addr) (ps : List (V × V)) (H : Hp), b ∉ as → putP H as ps b = H b
  | [], _, _, _ => rfl
  | _ :: _, [], _, _ => rfl
  | a :: as, p :: ps, H, h => by
    have h1 := putP_off as ps (upd H a (.tup [p.1, p.2])) fun z => h (List.mem_cons_of_mem _ z)
    have h2 : b ≠ a := fun z => h (by rw [z]; exact List.mem_cons_self)
    rw [upd_ne h2] at h1
    exact h1
theorem putP_at : ∀ (as : List Addr) (ps : List (V × V)) (H : Hp), as.length = ps.length → as.Nodup → ∀ (j : Nat) (a : Addr), as[j]? = some a → ∃ p, ps[j]? = some p ∧ putP H as ps a = some (.tup [p.1, p.2])
  | [], _, _, _, _, j, a, e => by simp at e
  | _ :: _, [], _, h, _, _, _, _ => by cases h
  | b :: as, p :: ps, H, h, nd, 0, a, e => by
    cases e
    have nd2 := List.nodup_cons.mp nd
    refine ⟨p, rfl, ?_⟩
    have h1 := putP_off as ps (upd H b (.tup [p.1, p.2])) nd2.1
    rw [upd_same] at h1
    exact h1
  | b :: as, p :: ps, H, h, nd, j + 1, a, e => putP_at as ps (upd H b (.tup [p.1, p.2])) (Nat.succ.inj h) (List.nodup_cons.mp nd).2 j a e
/-- the list of pairs of what stands in two lists -/
def rZip2 (K : PySem.W.Frag) : List V → Hp → VK → Prop := fun vs H Q => ∃ (a b : Addr) (xs ys : List V), vs = [.ref a, .ref b] ∧ SqL K H a xs ∧ SqL K H b ys ∧ xs.length = ys.length ∧
  ∀ (H' : Hp) (p : Addr) (ts : List Addr), Same H H' → H p = none → (∀ t ∈ ts, H t = none) → p ∉ ts → ts.length = xs.length → H' p = some (.lst (ts.map V.ref)) →
    (∀ (j : Nat) (t : Addr), ts[j]? = some t → ∃ x y, xs[j]? = some x ∧ ys[j]? = some y ∧ H' t = some (.tup [x, y])) → Q (.ref p) H'
def tListZip (K : PySem.W.Frag) (ta : TA) : TE := fun σ H Q => ta σ H fun vs H1 => rZip2 K vs H1 Q
section
variable {X : Cx} {e e2 : Expr} {ta : TA} {p p2 pos pos2 : Pos}
theorem pe_listZip (hc : X.calm = true) (ha : PA X [e, e2] ta) (hg : Gl X "list") (hm : X.mg "list" = none) (hv : bootBuiltins "list" = some (.type "list")) (hg2 : Gl X "zip") (hm2 : X.mg "zip" = none)
    (hs : starEach [.Call (.Name "zip" p2) [e, e2] [] pos2] X.env = (false, eval (.Call (.Name "zip" p2) [e, e2] [] pos2) X.env) :: starEach [] X.env := by rfl)
    (hs2 : starEach [e, e2] X.env = (false, eval e X.env) :: starEach [e2] X.env := by rfl) (hpl : (backTo pos2 (starEach [e2] X.env)).any (·.1) = false := by rfl) :
    PE X (.Call (.Name "list" p) [.Call (.Name "zip" p2) [e, e2] [] pos2] [] pos) (tListZip X.K ta) := by
  refine ⟨fun pins s σ H Q I hq => ?_⟩
  refine wpAny_Call_Name_kw (ld_blt I hg hm hv ?_)
  refine PyProof.Rows.callWith_type1 ?_ hs rfl
  rw [hs]
  show wpAny _ _ (spliced ((false, eval (.Call (.Name "zip" p2) [e, e2] [] pos2) X.env) :: backTo pos (starEach [] X.env))) _ _ s
  refine Calls.spliced_cons ?_
  refine Call_ (ld_blt I hg2 hm2 PyProof.Rows.boot_zip (PyProof.Rows.callWith_type1 (thn (ha.run pos2 pins s σ H _ I hq) fun us s1 ⟨vs, H1, I1, r1, q1⟩ => ?_) hs2 hpl))
  obtain ⟨a, b, xs, ys, ex, hqx, hqy, hxy, q⟩ := q1
  subst ex
  cases r1 with
  | cons r rr =>
    cases rr with
    | cons r' rr =>
      cases rr
      cases r
      cases r'
      obtain ⟨its, rv, p1, _⟩ := I1.list hqx
      obtain ⟨its2, rv2, p2, _⟩ := I1.list hqy
      have la : a < s1.heap.objs.size := p1.lt
      have lb : b < s1.heap.objs.size := p2.lt
      have l1 := rv.length
      have l2 := rv2.length
      refine call_zip_2 p1.isList p2.isList fun h' hz hTI hTO h1 h2 hsz hk => ?_
      refine Calls.spliced_nil ?_
      have low : ∀ b' o, s1.heap.get? b' = some o → b' < s1.heap.objs.size := fun b' o e => Heap.lt_size e
      have far : ∀ (b' : Addr) (n : Nat), b' < s1.heap.objs.size → b' ≠ s1.heap.objs.size + n := fun b' n z => Nat.ne_of_lt (Nat.lt_of_lt_of_le z (Nat.le_add_right _ _))
      refine z_call (s := { s1 with heap := h' }) (xs := its.toArray) (ys := its2.toArray) (I1.ok.hd hc) (PySem.W.ktu_apart s1.heap.objs.size a b la lb) (by rw [List.size_toArray]; omega) (by rw [List.size_toArray, List.size_toArray]; omega) hz hTI ⟨_, _, hTO⟩ h1 h2
        (p1.isList.at fun o e => hk _ o e) (p2.isList.at fun o e => hk _ o e) fun h'' tk acc c as hk2 hS hl hG hacc => ?_
      dsimp only at hk2 hS hG ⊢
      rw [hsz] at hS hG ⊢
      have kp : ∀ b' o, s1.heap.get? b' = some o → h''.get? b' = some o := fun b' o e => by
        have := low b' o e
        exact hk2 b' o (far _ _ this) (far _ _ this) (Nat.ne_of_lt this) (far _ _ this) (hk b' o e)
      have hl2 : as.length = xs.length := by
        rw [hl, List.size_toArray]
        omega
      have hSn : s1.heap.objs.size + 5 ∉ as := fun z => Nat.lt_irrefl _ (hG.above _ z)
      have nd : as.Nodup := List.Pairwise.imp (fun {a b} (h : a < b) => Nat.ne_of_lt h) hG.rise
      have new : ∀ t ∈ as, H1 t = none := fun t ht => I1.hok.fresh (Nat.le_trans (Nat.le_add_right _ _) (Nat.le_of_lt (hG.above t ht)))
      have newS : H1 (s1.heap.objs.size + 5) = none := I1.hok.fresh (by omega)
      have lz : as.length = (xs.zip ys).length := by
        rw [List.length_zip]
        omega
      have off : ∀ b', b' ∉ as → b' ≠ s1.heap.objs.size + 5 → putP (upd H1 (s1.heap.objs.size + 5) (.lst (as.map V.ref))) as (xs.zip ys) b' = H1 b' := fun b' e1 e2 => by rw [putP_off as _ _ e1, upd_ne e2]
      have eS : putP (upd H1 (s1.heap.objs.size + 5) (.lst (as.map V.ref))) as (xs.zip ys) (s1.heap.objs.size + 5) = some (.lst (as.map V.ref)) := by rw [putP_off as _ _ hSn, upd_same]
      have atP := putP_at as (xs.zip ys) (upd H1 (s1.heap.objs.size + 5) (.lst (as.map V.ref))) lz nd
      generalize putP (upd H1 (s1.heap.objs.size + 5) (.lst (as.map V.ref))) as (xs.zip ys) = H' at off eS atP
      have kpH : ∀ b' u, H1 b' = some u → H' b' = some u := fun b' u e => by
        rw [off b' (fun z => by rw [new b' z] at e; cases e) (fun z => by rw [z, newS] at e; cases e)]
        exact e
      have at2 : ∀ (j : Nat) (t : Addr), as[j]? = some t → ∃ x y, xs[j]? = some x ∧ ys[j]? = some y ∧ H' t = some (.tup [x, y]) := fun j t e => by
        obtain ⟨pr, e1, e2⟩ := atP j t e
        obtain ⟨x, y⟩ := pr
        rw [List.getElem?_zip_eq_some] at e1
        exact ⟨x, y, e1.1, e1.2, e2⟩
      refine ⟨.ref (s1.heap.objs.size + 5), H', ?_, rfl, q H' _ as kpH newS new hSn hl2 eS at2⟩
      refine I1.call' (ch := []) rfl ⟨fun b' o e _ _ _ => kp b' o e, fun b' o e _ _ _ => ⟨o.slots, kp b' o e⟩, fun b' o e n _ => ?_, fun b' o e _ => ⟨o, kp b' o e⟩, fun b' xs' e => kpH b' _ e, fun b' o u e => kpH b' _ e, fun b' ps e => ⟨#[], by rw [kpH b' _ e]; simp⟩⟩ (fun b' u e => ?_) I1.bare fun b' z => by simp at z
      · have lb' := low b' o e
        rw [off b' (fun z => Nat.lt_asymm (Nat.lt_of_le_of_lt (Nat.le_add_right _ 5) (hG.above b' z)) lb') (far _ _ lb')]
        exact n
      · by_cases hb : b' ∈ as
        · obtain ⟨j, hj⟩ := List.mem_iff_getElem?.mp hb
          obtain ⟨x, y, f1, f2, f3⟩ := at2 j b' hj
          obtain ⟨u1, u2, g1, g2, g3⟩ := hG.prs j b' hj
          rw [f3] at e
          cases e
          obtain ⟨v1, w1, r1⟩ := rv.get f1
          obtain ⟨v2, w2, r2⟩ := rv2.get f2
          rw [List.getElem?_toArray, w1] at g1
          rw [List.getElem?_toArray, w2] at g2
          cases g1
          cases g2
          exact ⟨by show 2 ≤ sizeLine; decide, [u1, u2], .cons r1 (.cons r2 .nil), ⟨_, g3, rfl, _, rfl⟩⟩
        · by_cases hb2 : b' = s1.heap.objs.size + 5
          · rw [hb2] at e ⊢
            rw [eS] at e
            cases e
            refine ⟨by rw [List.length_map]; omega, acc.toList, c, by rw [hacc]; exact LiI.vals_refs as, ?_⟩
            rw [Array.toArray_toList]
            exact hS
          · rw [off b' hb hb2] at e
            exact (I1.hok b' u e).stay (fun d v _ z => kp d v z) (fun d z => kpH d _ z) fun d xs z => kpH d _ z
theorem pe_listZipK {K : PySem.W.Frag} (h : X.K = K) (hc : X.calm = true) (ha : PA X [e, e2] ta) (hg : Gl X "list") (hm : X.mg "list" = none) (hv : bootBuiltins "list" = some (.type "list")) (hg2 : Gl X "zip") (hm2 : X.mg "zip" = none)
    (hs : starEach [.Call (.Name "zip" p2) [e, e2] [] pos2] X.env = (false, eval (.Call (.Name "zip" p2) [e, e2] [] pos2) X.env) :: starEach [] X.env := by rfl)
    (hs2 : starEach [e, e2] X.env = (false, eval e X.env) :: starEach [e2] X.env := by rfl) (hpl : (backTo pos2 (starEach [e2] X.env)).any (·.1) = false := by rfl) :
    PE X (.Call (.Name "list" p) [.Call (.Name "zip" p2) [e, e2] [] pos2] [] pos) (tListZip K ta) := h ▸ pe_listZip hc ha hg hm hv hg2 hm2 hs hs2 hpl
end
end EBZ

namespace EB
open PySem PySem.Spec PyProof.Rows L2
def dictK (f : Tr → Int) (ts : List Tr) : List (Key × V) := ts.foldl (fun kvs t => putK kvs (.inr t.k) (.int (f t))) []
def madeK (ts : List Tr) (d : Nat) : List (Key × V) := ts.foldl (fun kvs t => putK kvs (.inr t.k) (.int (t.l * (d : Nat) / t.n))) []
theorem putK_new {kvs : List (Key × V)} {k : Key} {v : V} (h : k ∉ kvs.map (·.1)) : putK kvs k v = kvs ++ [(k, v)] := by
  unfold putK
  rw [if_neg]
  intro z
  obtain ⟨p, hp, e⟩ := List.any_eq_true.mp z
  exact h (List.mem_map.mpr ⟨p, hp, of_decide_eq_true e⟩)
theorem dict_fold (f : Tr → Int) : ∀ (ts : List Tr) (kvs : List (Key × V)), (ts.map Tr.k).Nodup → (∀ t ∈ ts, Sum.inr t.k ∉ kvs.map (·.1)) → ts.foldl (fun kvs t => putK kvs (.inr t.k) (.int (f t))) kvs = kvs ++ ts.map fun t => (Sum.inr t.k, V.int (f t))
  | [], kvs, _, _ => (List.append_nil _).symm
  | t :: ts, kvs, h, hk => by
    rw [List.map_cons, List.nodup_cons] at h
    rw [List.foldl_cons, putK_new (hk t (List.mem_cons_self ..)), dict_fold f ts _ h.2, List.append_assoc]
    · rfl
    · intro u hu z
      rw [List.map_append] at z
      rcases List.mem_append.mp z with z | z
      · exact hk u (List.mem_cons_of_mem _ hu) z
      · have e : (Sum.inr u.k : Key) = Sum.inr t.k := List.mem_singleton.mp z
        exact h.1 (List.mem_map.mpr ⟨u, hu, Sum.inr.inj e⟩)
theorem dict_eq {f : Tr → Int} {ts : List Tr} (h : (ts.map Tr.k).Nodup) : dictK f ts = ts.map fun t => (Sum.inr t.k, V.int (f t)) := by
  unfold dictK
  rw [dict_fold f ts [] h fun t _ z => (nomatch z), List.nil_append]
/-- pairs of kinds and numbers, as data -/
def prD (f : Tr → Int) (ts : List Tr) : PyData := .list (ts.map fun t => .tuple [.str t.k, .int (f t)])
theorem prD_lev {f : Tr → Int} {ts : List Tr} {n : Nat} (h : ts.length ≤ 10000) : Lev (n + 2) (prD f ts) := .lst (fun d hd => by
  obtain ⟨t, _, rfl⟩ := List.mem_map.mp hd
  refine .tup (fun e he => ?_) (by show 2 ≤ 10000; decide)
  rcases List.mem_cons.mp he with rfl | he
  · exact .str _
  · cases List.mem_singleton.mp he
    exact .int _) (by rw [List.length_map]; exact h)
theorem dp_items {K : PySem.W.Frag} {H : Hp} {f : Tr → Int} : ∀ {as : List Addr} {ts : List Tr}, Paired (fun (t : Addr) (q : Key × V) => H t = some (.tup [kV q.1, q.2])) as (ts.map fun t => ((Sum.inr t.k : Key), V.int (f t))) →
    DpAll K H (as.map V.ref) (ts.map fun t => .tuple [.str t.k, .int (f t)])
  | [], [], _ => .nil
  | [], _ :: _, h => nomatch h
  | _ :: _, [], h => nomatch h
  | a :: as, t :: ts, .cons h r => .cons (.tup (SqT.of h) (.cons (.str _) (.cons (.int _) .nil))) (dp_items r)
theorem dp_zip {K : PySem.W.Frag} {H : Hp} {f : Tr → Int} : ∀ {as : List Addr} {ts : List Tr}, as.length = ts.length → (∀ (j : Nat) (a : Addr) (t : Tr), as[j]? = some a → ts[j]? = some t → H a = some (.tup [.str t.k, .int (f t)])) →
    DpAll K H (as.map V.ref) (ts.map fun t => .tuple [.str t.k, .int (f t)])
  | [], [], _, _ => .nil
  | [], _ :: _, h, _ => nomatch h
  | _ :: _, [], h, _ => nomatch h
  | a :: as, t :: ts, h, k => .cons (.tup (SqT.of (k 0 a t rfl rfl)) (.cons (.str _) (.cons (.int _) .nil))) (dp_zip (Nat.succ.inj h) fun j b u e1 e2 => k (j + 1) b u e1 e2)
theorem made_nice : ∀ (ts : List Tr) (d : Nat) (kvs : List (Key × V)), KNice kvs → KNice (ts.foldl (fun kvs t => putK kvs (.inr t.k) (.int (t.l * (d : Nat) / t.n))) kvs) ∧ (ts.foldl (fun kvs t => putK kvs (.inr t.k) (.int (t.l * (d : Nat) / t.n))) kvs).length ≤ kvs.length + ts.length
  | [], d, kvs, h => ⟨h, Nat.le_refl _⟩
  | t :: ts, d, kvs, h => by
    have h1 := h.put t.k (t.l * (d : Nat) / t.n)
    have h2 := made_nice ts d _ h1.1
    refine ⟨h2.1, Nat.le_trans h2.2 ?_⟩
    rw [List.length_cons]
    omega
theorem madeK_nice (ts : List Tr) (d : Nat) : KNice (madeK ts d) ∧ (madeK ts d).length ≤ ts.length := by
  have h := made_nice ts d [] ⟨List.nodup_nil, fun p h => (by cases h), fun p h => (by cases h)⟩
  rw [show ([] : List (Key × V)).length + ts.length = ts.length from Nat.zero_add _] at h
  exact h
section
variable {P : Program} {w : World} {K : PySem.W.Frag} {mg : Str → Option Value} {base : Heap} (T : Tx K mg)
include T
def spMade (K : PySem.W.Frag) : Sp := fun vs H Q _ => ∃ (a : Addr) (ts : List Tr) (n : Nat), vs = [.ref a, .int (n : Nat)] ∧ OfAt K H a ts ∧ Fair ts ∧ n ≤ 1000000000000000000 ∧ ∀ H' p, Same H H' → H' p = some (.dK (madeK ts (D (cN ts) n))) → Q (.ref p) H'
theorem ok_Offer_trades_made : FnR P w K mg base CX0 4 (a_Offer_trades_made K) (spMade K) := by
  refine fnR0 (d := d_Offer_trades_made) T.F_Offer_trades_made sc_Offer_trades_made rfl (fun _ _ _ _ _ _ us hl => match us, hl with | [_, _], _ => rfl) (fun vs H Q E h => ?_) (fun cdv A outer s H vs Q E hr h => ?_)
  · obtain ⟨a, ts, n, rfl, _⟩ := h
    rfl
  obtain ⟨a, ts, n, rfl, ho, hf, hn, k⟩ := h
  obtain ⟨dx, t, p, o, f, g, e1, e2, e3, e4, e5, e6⟩ := ho.ex
  refine ⟨_, (pss_cons (ps_expr (pe_cR (ok_check_number T) (hr.mono (by decide)) T.F_check_number.kp T.g_check_number pass0 (pa_cons (pv 1) pa_nil))) (pss_cons (ps_set (i := 2) sc_Offer_trades_made.nd rfl (Or.inr rfl) (pe_methR (pv 0) T.k_Offer T.m_Offer_drinks_for (ok_Offer_drinks_for T) (hr.mono (by decide)) pass0 (pa_cons (pv 1) pa_nil))) (pss_one (ps_ret (pe_dc (own := [("kind", 3), ("left", 4), ("needed", 5)]) rfl sc_Offer_trades_made.nd (pi_tup (pe_fld (pv 0) rfl)) (blkOk_by (own := [("kind", 3), ("left", 4), ("needed", 5)]) (N := N_Offer_trades_made) (sc := defScope s_Offer_trades_made) (by decide +kernel)) (fun _ _ _ _ _ => (pg_tupB (n := 3) (pgs_cons (pg_name (i := 3) sc_Offer_trades_made.nd rfl (Or.inl rfl) (.inr rfl)) (pgs_cons (pg_name (i := 4) sc_Offer_trades_made.nd rfl (Or.inl rfl) (.inr rfl)) (pgs_cons (pg_name (i := 5) sc_Offer_trades_made.nd rfl (Or.inl rfl) (.inr rfl)) pgs_nil))))) (fun _ _ _ _ _ => pts_nil) (fun _ _ _ _ _ => (pv 3)) (fun _ _ _ _ _ => (pe_op op_fdiv (pe_op op_mul (pv 4) (pv 2)) (pv 5)))))))), ?_⟩
  refine ⟨_, rfl, n, rfl, by omega, by omega, ?_⟩
  refine ⟨_, rfl, a, dx, _, rfl, e1, lk_no (by decide +kernel), _, rfl, a, ts, n, rfl, ho, hf, ?_⟩
  obtain ⟨ps, h1, h2, h3⟩ := e2.ex
  have hlen := hf.g.1
  refine ⟨_, rfl, a, _, dx, _, _, rfl, e1, T.k_Offer, T.na_trades, lk_trades, t, rfl, ⟨_, h1⟩, fun W hW => ?_⟩
  refine dc_tup (xs := ps.map V.ref) (fun i H1 => Same H H1 ∧ H1 W = some (.dK (madeK (ts.take i) (D (cN ts) n)))) ⟨same_new hW, upd_same⟩ (fun i H1 _ q => Same.tup q.1 h1) ?_ ?_
  · rintro i x H1 hx ⟨s1, w1⟩
    obtain ⟨p, t, rfl, ep, et, hm, li, hp⟩ := TrAt.at_ h2 h3 hx
    have ht := hf.g.2 _ hm
    refine ⟨p, _, rfl, Same.tup s1 hp, rfl, _, _, rfl, _, _, rfl, _, _, rfl, rfl, rfl, ?_⟩
    have hl := (madeK_nice (ts.take i) (D (cN ts) n)).2
    rw [List.length_take] at hl
    refine ⟨_, rfl, _, rfl, _, rfl, _, _, rfl, rfl, .inl ⟨by have := ht.1; omega, by have := ht.2.1; omega⟩, _, rfl, _, _, rfl, rfl, ⟨by have := ht.2.2.1; omega, by have := ht.2.2.2; omega⟩, ?_⟩
    refine ⟨_, .inr t.k, rfl, w1, small3 (by omega), same_mut s1 hW, ?_⟩
    rw [upd_same, take_at et]
    unfold madeK
    rw [List.foldl_append]
    rfl
  · rintro H1 ⟨s1, w1⟩
    refine k _ _ s1 ?_
    rw [w1, List.length_map, h2, List.take_length]
end
end EB

namespace EB
open PySem PySem.Spec PyProof.Rows L2
/-- the greatest number of drinks whose cost is within n -/
def IsC (c : Nat → Int) (n d : Nat) : Prop := c d ≤ n ∧ ∀ e, d < e → (n : Int) < c e
theorem credit_at {c : Nat → Int} {P B : Nat} (h : CF c P B) {n q r d : Nat} (hn : n = q * B + r) (hr : r < B) (hd : d < P) (h1 : c d ≤ r) (h2 : ∀ e, d < e → e < P → (r : Int) < c e) : IsC c n (q * P + d) := by
  have hp := h.ppos
  refine ⟨?_, fun e he => ?_⟩
  · rw [Nat.add_comm (q * P), h.perm, hn]
    push_cast
    omega
  · have e1 := Nat.div_add_mod e P
    have e2 := Nat.mod_lt e hp
    have e3 : e = e % P + e / P * P := by rw [Nat.mul_comm]; omega
    have e4 := h.perm (e % P) (e / P)
    rw [← e3] at e4
    rw [e4, hn]
    have e5 : q ≤ e / P := by
      rw [Nat.le_div_iff_mul_le hp]
      omega
    rcases Nat.lt_or_eq_of_le e5 with z | z
    · have z1 : (q + 1) * B ≤ e / P * B := Nat.mul_le_mul_right _ z
      have z2 := h.nonneg (e % P)
      have z3 : (q + 1) * B = q * B + B := by rw [Nat.add_mul, Nat.one_mul]
      have z4 : ((q * B + r : Nat) : Int) < ((e / P * B : Nat) : Int) := by omega
      have z5 : ((e / P * B : Nat) : Int) = (e / P : Nat) * (B : Int) := by push_cast; rfl
      omega
    · have z1 : d < e % P := by
        rw [← z] at e3
        omega
      have z2 := h2 (e % P) z1 e2
      rw [← z]
      push_cast
      omega
theorem IsC.uniq {c : Nat → Int} {n d e : Nat} (h : IsC c n d) (g : IsC c n e) : d = e := by
  rcases Nat.lt_trichotomy d e with q | q | q
  · have := h.2 e q
    have := g.1
    omega
  · exact q
  · have := g.2 d q
    have := h.1
    omega
theorem IsC.cost {c : Nat → Int} {P B : Nat} (h : CF c P B) {n d : Nat} (g : IsC c n d) : c d = n := by
  have h1 := g.1
  have h2 := g.2 (d + 1) (Nat.lt_succ_self d)
  have h3 := h.step d
  omega
theorem IsC.ten {c : Nat → Int} {P B : Nat} (h : CF c P B) {n d : Nat} (g : IsC c n d) : d ≤ 10 * n := by
  have h1 := g.1
  have h2 := h.ten d
  omega
theorem IsC.ge {c : Nat → Int} {P B : Nat} (h : CF c P B) {n d : Nat} (g : IsC c n d) : D c n ≤ d := by
  apply Nat.le_of_not_lt
  intro q
  have h1 := g.2 _ q
  have h2 := h.D_cost n
  omega
section
variable {P : Program} {w : World} {K : PySem.W.Frag} {mg : Str → Option Value} {base : Heap} (T : Tx K mg)
include T
def spCredit (K : PySem.W.Frag) : Sp := fun vs H Q _ => ∃ (a : Addr) (ts : List Tr) (n : Nat), vs = [.ref a, .int (n : Nat)] ∧ OfAt K H a ts ∧ Fair ts ∧ n ≤ 1000000000000000000 ∧ ∀ H' d, Same H H' → IsC (cN ts) n d → Q (.int (d : Nat)) H'
theorem ok_Offer_credit : FnR P w K mg base CX0 4 (a_Offer_credit K) (spCredit K) := by
  refine fnR0 (d := d_Offer_credit) T.F_Offer_credit sc_Offer_credit rfl (fun _ _ _ _ _ _ us hl => match us, hl with | [_, _], _ => rfl) (fun vs H Q E h => ?_) (fun cdv A outer s H vs Q E hr h => ?_)
  · obtain ⟨a, ts, n, rfl, _⟩ := h
    rfl
  obtain ⟨a, ts, n, rfl, ho, hf, hn, k⟩ := h
  obtain ⟨dx, t, p, o, f, g, e1, e2, e3, e4, e5, e6⟩ := ho.ex
  have C := cf hf
  have hB := C.bpos
  have hP := C.ppos
  have hP2 := per_le' hf.g
  have hB2 := perB_le hf
  refine ⟨_, (pss_cons (ps_expr (pe_cR (ok_check_number T) (hr.mono (by decide)) T.F_check_number.kp T.g_check_number pass0 (pa_cons (pv 1) pa_nil))) (pss_cons (ps_asg (pe_fld (pv 0) rfl) (pg_tup rfl (pgs_cons (pg_name (i := 2) sc_Offer_credit.nd rfl (Or.inl rfl)) (pgs_cons (pg_name (i := 3) sc_Offer_credit.nd rfl (Or.inl rfl)) pgs_nil)))) (pss_cons (ps_asg (pe_callB call_divmod (by rfl) T.n_divmod (by decide +kernel) (pa_cons (pv 1) (pa_cons (pv 2) pa_nil))) (pg_tup rfl (pgs_cons (pg_name (i := 4) sc_Offer_credit.nd rfl (Or.inl rfl)) (pgs_cons (pg_name (i := 5) sc_Offer_credit.nd rfl (Or.inl rfl)) pgs_nil)))) (pss_cons (ps_set (i := 6) sc_Offer_credit.nd rfl (Or.inl rfl) (pe_op op_sub (pv 3) pe_int)) (pss_cons (ps_while PassesOwn.never (pt_cmpR op_gt (pe_cR (ok_cost_of T) (hr.mono (by decide)) T.F_cost_of.kp T.g_cost_of pass0 (pa_cons (pe_fld (pv 0) rfl) (pa_cons (pv 6) pa_nil))) (pv 5) (nomark _)) (pss_one (ps_set (i := 6) sc_Offer_credit.nd rfl (Or.inl rfl) (pe_op op_sub (pv 6) pe_int)))) (pss_one (ps_ret (pe_op op_add (pe_op op_mul (pv 4) (pv 3)) (pv 6))))))))), ?_⟩
  refine ⟨_, rfl, n, rfl, by omega, by omega, ?_⟩
  refine ⟨_, rfl, a, _, dx, _, _, rfl, e1, T.k_Offer, T.na_period, lk_period, p, _, rfl, e3, rfl, _, _, rfl, _, _, rfl, rfl, ?_⟩
  refine ⟨_, rfl, _, rfl, n, perB ts, rfl, ⟨by omega, by omega⟩, fun q hq => ⟨q, _, rfl, SqT.of upd_same, rfl, _, _, rfl, _, _, rfl, rfl, ?_⟩⟩
  have s1 : Same H (upd H q (.tup [.int ((n : Int) / (perB ts : Int)), .int ((n : Int) % (perB ts : Int))])) := same_new hq
  refine ⟨_, rfl, _, _, rfl, rfl, ?_⟩
  -- down from the last drinks of a period
  refine ⟨fun m σ H1 => Same H H1 ∧ m < per ts ∧ (∀ e, m < e → e < per ts → (((n % perB ts : Nat) : Nat) : Int) < cN ts e) ∧
    σ = [some (.ref a), some (.int n), some (.int (perB ts : Nat)), some (.int (per ts : Nat)), some (.int ((n : Int) / (perB ts : Int))), some (.int ((n : Int) % (perB ts : Int))), some (.int (m : Nat))], ⟨per ts - 1, s1, by omega, fun e h1 h2 => by omega, ?_⟩, ?_⟩
  · have : ((per ts - 1 : Nat) : Int) = (per ts : Int) - 1 := by omega
    rw [this]
    rfl
  rintro m σ H1 ⟨s1, hm, hall, rfl⟩
  refine ⟨_, rfl, a, _, dx, _, _, rfl, s1 _ _ e1, T.k_Offer, T.na_trades, lk_trades, _, rfl, t, ts, m, rfl, e2.mono s1, hf.g, fun H2 s2 => ⟨_, rfl, _, _, rfl, rfl, _, rfl, ite2 (fun hd => ?_) (fun hd => ?_)⟩⟩
  · have hd : ((n : Int) % (perB ts : Int)) < cost ts m := of_decide_eq_true hd
    have em : ((n % perB ts : Nat) : Int) = (n : Int) % (perB ts : Int) := by push_cast; rfl
    have hm0 : 0 < m := by
      rcases Nat.eq_zero_or_pos m with z | z
      · subst z
        have z0 : cost ts ((0 : Nat) : Int) = 0 := C.zero
        have := Int.emod_nonneg (n : Int) (show (perB ts : Int) ≠ 0 by omega)
        omega
      · exact z
    refine ⟨fun σ' H' => ∃ m', m' < m ∧ (Same H H' ∧ m' < per ts ∧ (∀ e, m' < e → e < per ts → (((n % perB ts : Nat) : Nat) : Int) < cN ts e) ∧
      σ' = [some (.ref a), some (.int n), some (.int (perB ts : Nat)), some (.int (per ts : Nat)), some (.int ((n : Int) / (perB ts : Int))), some (.int ((n : Int) % (perB ts : Int))), some (.int (m' : Nat))]), fun _ _ z => z, ?_⟩
    refine ⟨_, rfl, _, _, rfl, rfl, m - 1, by omega, s1.trans s2, by omega, fun e h1 h2 => ?_, ?_⟩
    · rcases Nat.lt_or_ge m e with z | z
      · exact hall e z h2
      · have : e = m := by omega
        rw [this, em]
        exact hd
    · have : ((m - 1 : Nat) : Int) = (m : Int) - 1 := by omega
      rw [this]
      rfl
  · have hd : ¬ ((n : Int) % (perB ts : Int)) < cost ts m := fun z => hd (decide_eq_true z)
    have em : ((n % perB ts : Nat) : Int) = (n : Int) % (perB ts : Int) := by push_cast; rfl
    refine ⟨_, rfl, _, rfl, _, _, rfl, rfl, .inr ⟨by omega, by omega⟩, _, rfl, _, _, rfl, rfl, ?_⟩
    have ed := Nat.div_add_mod n (perB ts)
    have hc := credit_at (n := n) (q := n / perB ts) (r := n % perB ts) (d := m) C (by rw [Nat.mul_comm]; omega) (Nat.mod_lt _ hB) hm (by show cost ts m ≤ _; omega) hall
    have k2 := k _ _ (s1.trans s2) hc
    have e9 : (((n / perB ts * per ts + m : Nat) : Nat) : Int) = (n : Int) / (perB ts : Int) * (per ts : Int) + (m : Int) := by push_cast; rfl
    rw [e9] at k2
    exact k2
end
end EB

namespace EB
open PySem PySem.Spec PyProof.Rows L2
section
variable {P : Program} {w : World} {K : PySem.W.Frag} {mg : Str → Option Value} {base : Heap} (T : Tx K mg)
include T
def spFewest (K : PySem.W.Frag) : Sp := fun vs H Q _ => ∃ (a : Addr) (ts : List Tr) (d : Nat), vs = [.ref a, .int (d : Nat)] ∧ OfAt K H a ts ∧ Fair ts ∧ d ≤ 1000000000000000000 ∧ Q (.int (few (cN ts) d : Nat)) H
theorem ok_Offer_fewest_bottles : FnR P w K mg base CX0 4 (a_Offer_fewest_bottles K) (spFewest K) := by
  refine fnR0 (d := d_Offer_fewest_bottles) T.F_Offer_fewest_bottles sc_Offer_fewest_bottles rfl (fun _ _ _ _ _ _ us hl => match us, hl with | [_, _], _ => rfl) (fun vs H Q E h => ?_) (fun cdv A outer s H vs Q E hr h => ?_)
  · obtain ⟨a, ts, n, rfl, _⟩ := h
    rfl
  obtain ⟨a, ts, n, rfl, ho, hf, hn, k⟩ := h
  obtain ⟨dx, t, p, o, f, g, e1, e2, e3, e4, e5, e6⟩ := ho.ex
  refine ⟨_, (pss_cons (ps_expr (pe_cR (ok_check_number T) (hr.mono (by decide)) T.F_check_number.kp T.g_check_number pass0 (pa_cons (pv 1) pa_nil))) (pss_cons (ps_if (pt_cmpR op_eq (pv 1) pe_int (nomark _)) (pss_one (ps_ret pe_int)) pss_nil) (pss_one (ps_ret (pe_op op_add (pe_methR (pv 0) T.k_Offer T.m_Offer_most_within (ok_Offer_most_within T) (hr.mono (by decide)) pass0 (pa_cons (pe_op op_sub (pv 1) pe_int) pa_nil)) pe_int))))), ?_⟩
  refine ⟨_, rfl, n, rfl, by omega, by omega, ?_⟩
  unfold few at k
  refine ⟨_, rfl, rfl, _, rfl, ite2 (fun hd => ?_) (fun hd => ?_)⟩
  · have hd : (n : Int) = 0 := V.int.inj (of_decide_eq_true hd)
    rw [if_pos (by omega)] at k
    exact k
  · have hd : ¬ (n : Int) = 0 := fun z => hd (decide_eq_true (by rw [z]))
    rw [if_neg (by omega)] at k
    have h0 := (cf hf).T_nonneg (n - 1)
    refine ⟨_, rfl, a, dx, _, rfl, e1, lk_no (by decide +kernel), _, rfl, _, _, rfl, rfl, a, ts, n - 1, ?_, ho, hf, _, _, rfl, rfl, ?_⟩
    · have : ((n - 1 : Nat) : Int) = (n : Int) - 1 := by omega
      rw [this]
    · have : ((((EB.T (cN ts) (n - 1)).toNat + 1 : Nat) : Nat) : Int) = EB.T (cN ts) (n - 1) + 1 := by omega
      rw [this] at k
      exact k
end
end EB

namespace EB
open PySem PySem.Spec PyProof.Rows L2
/-- the drinks that are gained by putting bottles together -/
noncomputable def pool (ts : List Tr) (ns : List Nat) : Int := ((D (cN ts) ns.sum : Nat) : Int) - ((ns.map fun n => ((D (cN ts) n : Nat) : Int))).sum
theorem nats_sum : ∀ ns : List Nat, ((ns.map fun n : Nat => (n : Int))).sum = ((ns.sum : Nat) : Int)
  | [] => rfl
  | n :: ns => by
    rw [List.map_cons, List.sum_cons, List.sum_cons, nats_sum ns]
    push_cast
    rfl
theorem mem_sum : ∀ {ns : List Nat} {n : Nat}, n ∈ ns → n ≤ ns.sum
  | m :: ns, n, h => by
    rw [List.sum_cons]
    rcases List.mem_cons.mp h with rfl | h
    · omega
    · have := mem_sum h
      omega
section
variable {P : Program} {w : World} {K : PySem.W.Frag} {mg : Str → Option Value} {base : Heap} (T : Tx K mg)
include T
def spPooled (K : PySem.W.Frag) : Sp := fun vs H Q _ => ∃ (x p : Addr) (ts : List Tr) (ns : List Nat), vs = [.ref x, .ref p] ∧ OfAt K H x ts ∧ Fair ts ∧ SqT K H p (ns.map fun n => V.int (n : Nat)) ∧ ns.sum ≤ 1000000000000000000 ∧ ns.length ≤ 10000 ∧ ∀ H', Same H H' → Q (.int (pool ts ns)) H'
theorem ok_Offer_pooled : FnR P w K mg base CX0 4 (a_Offer_pooled K) (fun vs H Q E => ∃ ws rest, vs = ws ++ rest ∧ ws.length = 1 ∧ rest.length ≤ sizeLine ∧ ∀ p, H p = none → spPooled K (ws ++ [V.ref p]) (upd H p (.tup rest)) Q E) := by
  refine fnRS (d := d_Offer_pooled) (ps := ["self"]) T.F_Offer_pooled sc_Offer_pooled rfl (fun kV doc pm an cdv ct => StX.bind_star1 (B := fun us => bindArgs (PySem.W.fnOf d_Offer_pooled.nm d_Offer_pooled.ql (defArgs d_Offer_pooled.st) (defBody d_Offer_pooled.st) (defScope d_Offer_pooled.st) .none kV doc pm an cdv ct) ⟨us, []⟩) (fun _ => rfl) (fun _ _ _ => rfl)) (fun cdv A outer s H vs Q E hr h => ?_)
  obtain ⟨x, p, ts, ns, rfl, ho, hf, hp, hsum, hl, k⟩ := h
  obtain ⟨dx, fs, oi, on⟩ : ∃ dx fs, H x = some (.ins (He.ga K "Offer") dx fs) ∧ fs.lookup ("_drinks_for" : Str) = none := by
    obtain ⟨dx, t, q, o, f, g, e1, _⟩ := ho.ex
    exact ⟨dx, _, e1, lk_no (by decide +kernel)⟩
  have hp2 : SqT K H p ((ns.map fun n : Nat => (n : Int)).map V.int) := by
    rw [List.map_map]
    exact hp
  refine ⟨_, (pss_cons (ps_for PassesOwn.never rfl (pi_tup (pv 1)) (pg_name (i := 2) sc_Offer_pooled.nd rfl (Or.inl rfl)) (pss_one (ps_expr (pe_cR (ok_check_number T) (hr.mono (by decide)) T.F_check_number.kp T.g_check_number pass0 (pa_cons (pv 2) pa_nil))))) (pss_cons (ps_expr (pe_cR (ok_check_number T) (hr.mono (by decide)) T.F_check_number.kp T.g_check_number pass0 (pa_cons (pe_callB (cr_sumT rfl) (by rfl) T.n_sum (by decide +kernel) (pa_cons (pv 1) pa_nil)) pa_nil))) (pss_one (ps_ret (pe_op op_sub (pe_methR (pv 0) T.k_Offer T.m_Offer_drinks_for (ok_Offer_drinks_for T) (hr.mono (by decide)) pass0 (pa_cons (pe_callB (cr_sumT rfl) (by rfl) T.n_sum (by decide +kernel) (pa_cons (pv 1) pa_nil)) pa_nil)) (pe_callB (cr_sum rfl) (by rfl) T.n_sum (by decide +kernel) (pa_cons (pe_lc (own := [("bottles", 2)]) rfl sc_Offer_pooled.nd (pi_tup (pv 1)) (blkOk_by (own := [("bottles", 2)]) (N := N_Offer_pooled) (sc := defScope s_Offer_pooled) (by decide +kernel)) (fun _ _ _ _ _ => (pg_name (i := 2) sc_Offer_pooled.nd rfl (Or.inl rfl) (.inr rfl))) (fun _ _ _ _ _ => pts_nil) (fun _ _ _ _ _ => (pe_methR (pv 0) T.k_Offer T.m_Offer_drinks_for (ok_Offer_drinks_for T) (hr.mono (by decide)) pass0 (pa_cons (pv 2) pa_nil)))) pa_nil))))))), ?_⟩
  refine ⟨_, rfl, p, rfl, ⟨_, hp⟩, for_tup (xs := ns.map fun n => V.int (n : Nat)) (fun i σ H1 => H1 = H ∧ ∃ y, σ = [some (.ref x), some (.ref p), y]) ⟨rfl, _, rfl⟩ (fun i σ H1 _ q => by rw [q.1]; exact hp) ?_ ?_⟩
  · rintro i y σ H1 hy ⟨rfl, z, rfl⟩
    rw [List.getElem?_map] at hy
    cases en : ns[i]? with
    | none =>
      rw [en] at hy
      cases hy
    | some n =>
      rw [en] at hy
      cases hy
      have := mem_sum (List.mem_of_getElem? en)
      exact ⟨_, rfl, n, rfl, by omega, by omega, rfl, _, rfl⟩
  rintro σ H1 ⟨rfl, z, rfl⟩
  refine ⟨_, rfl, p, _, rfl, hp2, _, rfl, ?_, ?_, ?_⟩
  · rw [nats_sum]
    omega
  · rw [nats_sum]
    omega
  refine ⟨_, rfl, x, dx, fs, rfl, oi, on, _, rfl, p, _, rfl, hp2, x, ts, ns.sum, by rw [nats_sum], ho, hf, ?_⟩
  refine ⟨_, rfl, p, rfl, ⟨_, hp⟩, fun D2 hD2 => ?_⟩
  refine lc_tup (xs := ns.map fun n => V.int (n : Nat)) (fun i H2 => Same H1 H2 ∧ H2 D2 = some (.lst ((ns.take i).map fun n => V.int (D (cN ts) n : Nat)))) ⟨same_new hD2, upd_same⟩ (fun i H2 _ q => Same.tup q.1 hp) ?_ ?_
  · rintro i y H2 hy ⟨s2, e2⟩
    rw [List.getElem?_map] at hy
    cases en : ns[i]? with
    | none =>
      rw [en] at hy
      cases hy
    | some n =>
      rw [en] at hy
      cases hy
      refine ⟨rfl, _, rfl, x, dx, fs, rfl, s2 _ _ oi, on, _, rfl, x, ts, n, rfl, ho.mono s2, hf, _, e2, small3 ?_, same_mut s2 hD2, ?_⟩
      · rw [List.length_map, List.length_take]
        omega
      · rw [upd_same, take_at en, List.map_append]
        rfl
  · rintro H2 ⟨s2, e2⟩
    refine ⟨D2, ns.map fun n => ((D (cN ts) n : Nat) : Int), rfl, SqL.of ?_, _, _, rfl, rfl, k _ s2⟩
    rw [e2, List.length_map, List.take_length, List.map_map]
    rfl
end
end EB

namespace EB
open PySem PySem.Spec PyProof.Rows L2
def isMiss (c : Nat → Int) (d : Nat) : Prop := ¬ D c (T c d).toNat = d
/-- how many numbers up to d are missing -/
def cntM (c : Nat → Int) (d : Nat) : Int := (d : Int) - T c d
namespace CF
variable {c : Nat → Int} {P B : Nat}
theorem T_zero (h : CF c P B) : T c 0 = 0 := by
  have h1 := h.T_nonneg 0
  have h2 := (h.D_le_iff (n := (T c 0).toNat) (d := 0)).mpr (by omega)
  have h3 := h.D_ge (T c 0).toNat
  omega
theorem miss_zero (h : CF c P B) : ¬ isMiss c 0 := by
  unfold isMiss
  rw [h.T_zero]
  intro z
  exact z h.D_zero
theorem miss_iff (h : CF c P B) (d : Nat) : isMiss c (d + 1) ↔ T c (d + 1) = T c d := by
  unfold isMiss
  rw [h.comes]
  have h1 : T c d ≤ T c (d + 1) := CF.T_mono c (Nat.le_succ d)
  have h2 := h.T_step d
  have h3 := h.T_nonneg (d + 1)
  constructor
  · intro q
    rcases (show T c (d + 1) = T c d ∨ T c (d + 1) = T c d + 1 by omega) with z | z
    · exact z
    · exfalso
      apply q
      refine ⟨(T c (d + 1)).toNat, ?_⟩
      have h4 := (h.D_le_iff (n := (T c (d + 1)).toNat) (d := d + 1)).mpr (by omega)
      have h5 : ¬ D c (T c (d + 1)).toNat ≤ d := fun y => by
        have := h.D_le_iff.mp y
        omega
      omega
  · rintro q ⟨n, hn⟩
    have h4 := (h.D_le_iff (n := n) (d := d + 1)).mp (by omega)
    have h5 : ¬ (n : Int) ≤ T c d := fun y => by
      have := h.D_le_iff.mpr y
      omega
    omega
theorem cnt_step (h : CF c P B) (d : Nat) : (isMiss c (d + 1) → cntM c (d + 1) = cntM c d + 1) ∧ (¬ isMiss c (d + 1) → cntM c (d + 1) = cntM c d) := by
  have h1 := h.miss_iff d
  have h2 := h.T_step d
  have h3 := CF.T_mono c (Nat.le_succ d)
  unfold cntM
  refine ⟨fun q => ?_, fun q => ?_⟩
  · have := h1.mp q
    push_cast
    omega
  · have : ¬ T c (d + 1) = T c d := fun z => q (h1.mpr z)
    have h3 : T c d ≤ T c (d + 1) := h3
    push_cast
    omega
theorem cnt_mono (h : CF c P B) (d : Nat) : ∀ k, cntM c d ≤ cntM c (d + k)
  | 0 => Int.le_refl _
  | k + 1 => by
    have h1 := cnt_mono h d k
    have h2 := h.cnt_step (d + k)
    by_cases z : isMiss c (d + k + 1)
    · have := h2.1 z
      show _ ≤ cntM c (d + k + 1)
      omega
    · have := h2.2 z
      show _ ≤ cntM c (d + k + 1)
      omega
theorem miss_lt (h : CF c P B) {x y : Nat} (hy : isMiss c y) (q : x < y) : cntM c x < cntM c y := by
  obtain ⟨k, rfl⟩ : ∃ k, y = x + k + 1 := ⟨y - x - 1, by omega⟩
  have h1 := h.cnt_mono x k
  have h2 := (h.cnt_step (x + k)).1 hy
  omega
/-- the missing number with a number is one -/
theorem miss_uniq (h : CF c P B) {x y : Nat} (hx : isMiss c x) (hy : isMiss c y) (e : cntM c x = cntM c y) : x = y := by
  rcases Nat.lt_trichotomy x y with z | z | z
  · have := h.miss_lt hy z
    omega
  · exact z
  · have := h.miss_lt hx z
    omega
theorem missL_at (h : CF c P B) : ∀ n : Nat, ((missL c 0 (n + 1)).length : Int) = cntM c n ∧ ∀ (k y : Nat), (missL c 0 (n + 1))[k]? = some y → y ≤ n ∧ isMiss c y ∧ cntM c y = (k : Int) + 1
  | 0 => by
    have e : missL c 0 1 = [] := by
      rw [missL_succ, if_neg (by
        have := h.miss_zero
        unfold isMiss at this
        rw [Bool.not_eq_true', decide_eq_false_iff_not, Nat.zero_add]
        exact this)]
      rfl
    rw [e]
    refine ⟨?_, fun k y q => (by cases q)⟩
    unfold cntM
    rw [h.T_zero]
    rfl
  | n + 1 => by
    obtain ⟨h1, h2⟩ := missL_at h n
    have hs := missL_succ c 0 (n + 1)
    have hc := h.cnt_step n
    rw [Nat.zero_add] at hs
    by_cases z : isMiss c (n + 1)
    · rw [if_pos (by rw [Bool.not_eq_true', decide_eq_false_iff_not]; exact z)] at hs
      rw [hs]
      have hz := hc.1 z
      refine ⟨by rw [List.length_append, List.length_singleton]; push_cast; omega, fun k y q => ?_⟩
      rcases Nat.lt_or_ge k (missL c 0 (n + 1)).length with b | b
      · rw [List.getElem?_append_left b] at q
        obtain ⟨q1, q2, q3⟩ := h2 k y q
        exact ⟨by omega, q2, q3⟩
      · rw [List.getElem?_append_right b] at q
        have : k - (missL c 0 (n + 1)).length = 0 := by
          have := (List.getElem?_eq_some_iff.mp q).1
          rw [List.length_singleton] at this
          omega
        rw [this] at q
        cases q
        exact ⟨Nat.le_refl _, z, by omega⟩
    · rw [if_neg (by rw [Bool.not_eq_true', decide_eq_false_iff_not]; exact z)] at hs
      rw [hs]
      have hz := hc.2 z
      refine ⟨by omega, fun k y q => ?_⟩
      obtain ⟨q1, q2, q3⟩ := h2 k y q
      exact ⟨by omega, q2, q3⟩
theorem cnt_perk (h : CF c P B) {d : Nat} (q : P ≤ d + 1) (k : Nat) : cntM c (d + k * P) = cntM c d + (k : Int) * ((P : Int) - B) := by
  have h1 := h.T_perk q k
  unfold cntM
  rw [h1, Int.mul_sub]
  push_cast
  omega
theorem miss_perk (h : CF c P B) {y : Nat} (q : P ≤ y) (m : isMiss c y) (k : Nat) : isMiss c (y + k * P) := by
  have hp := h.ppos
  obtain ⟨z, rfl⟩ : ∃ z, y = z + 1 := ⟨y - 1, by omega⟩
  have h1 := (h.miss_iff z).mp m
  have h2 := h.T_perk (d := z + 1) (by omega) k
  have h3 := h.T_perk (d := z) (by omega) k
  rw [show z + 1 + k * P = (z + k * P) + 1 from by omega] at h2 ⊢
  exact (h.miss_iff _).mpr (by omega)
theorem B_le (h : CF c P B) : B ≤ P := by
  have h1 := h.per 0
  have h2 := h.le_self (0 + P)
  rw [h.zero] at h1
  rw [Nat.zero_add] at h1 h2
  omega
theorem gaps_len (h : CF c P B) : ((missL c 0 (2 * P)).length : Int) = cntM c (P - 1) + ((P : Int) - B) := by
  have hp := h.ppos
  have h1 := (h.missL_at (2 * P - 1)).1
  rw [show 2 * P - 1 + 1 = 2 * P from by omega] at h1
  have h2 := h.cnt_perk (d := P - 1) (by omega) 1
  rw [show P - 1 + 1 * P = 2 * P - 1 from by omega] at h2
  omega
theorem gaps_pos (h : CF c P B) (q : missL c 0 (2 * P) ≠ []) : B < P := by
  have hp := h.ppos
  have h1 := h.gaps_len
  have h2 := h.B_le
  have h3 := List.length_pos_iff.mpr q
  apply Nat.lt_of_le_of_ne h2
  intro e
  have h4 := h.step (P - 1)
  have h5 := h.per 0
  rw [h.zero, Nat.zero_add] at h5
  rw [show P - 1 + 1 = P from by omega] at h4
  have h6 := CF.T_ge c (Nat.le_refl (P - 1))
  unfold cntM at h1
  omega
theorem getD_cast {xs : List Nat} {i : Nat} (q : i < xs.length) : (xs.map fun n => ((n : Nat) : Int)).getD i 0 = ((xs[i] : Nat) : Int) := by
  rw [List.getD_eq_getElem?_getD, List.getElem?_map, List.getElem?_eq_getElem q]
  rfl
/-- the missing number with a number, off the table of two periods -/
theorem nth (h : CF c P B) (q : missL c 0 (2 * P) ≠ []) (k : Nat) : ∃ x : Nat, valueAt ((missL c 0 (2 * P)).map fun n => ((n : Nat) : Int)) k ((P : Int) - B) P = (x : Nat) ∧ isMiss c x ∧ cntM c x = (k : Int) + 1 := by
  have hp := h.ppos
  have hW := h.gaps_pos q
  have hl := h.gaps_len
  have hat := (h.missL_at (2 * P - 1)).2
  rw [show 2 * P - 1 + 1 = 2 * P from by omega] at hat
  have hc0 : 0 ≤ cntM c (P - 1) := by
    have := h.T_le (P - 1)
    unfold cntM
    omega
  obtain ⟨W, eW⟩ : ∃ W : Nat, (P : Int) - B = (W : Nat) := ⟨P - B, by omega⟩
  have hW0 : 0 < W := by omega
  unfold valueAt
  simp only [List.length_map]
  generalize hL : missL c 0 (2 * P) = L at *
  by_cases z : (k : Int) < (L.length : Int)
  · have hk : k < L.length := by omega
    rw [if_pos z, Int.toNat_natCast, getD_cast hk]
    obtain ⟨_, a2, a3⟩ := hat k _ (List.getElem?_eq_getElem hk)
    exact ⟨_, rfl, a2, a3⟩
  · rw [if_neg z]
    obtain ⟨e, he⟩ : ∃ e, k = L.length + e := ⟨k - L.length, by omega⟩
    have e1 : (k : Int) - (L.length : Int) = (e : Int) := by omega
    rw [e1, eW, ← Int.natCast_ediv]
    have h1 := Nat.div_add_mod e W
    have h2 := Nat.mod_lt e hW0
    have h3 : (e / W + 1) * W = W * (e / W) + W := by rw [Nat.add_mul, Nat.one_mul, Nat.mul_comm]
    have hWl : W ≤ L.length := by omega
    have e2 : (k : Int) - (((e / W : Nat) : Int) + 1) * (W : Int) = ((L.length - W + e % W : Nat) : Int) := by
      have : (((e / W : Nat) : Int) + 1) * (W : Int) = (((e / W + 1) * W : Nat) : Int) := by push_cast; rfl
      rw [this]
      omega
    have hi : L.length - W + e % W < L.length := by omega
    rw [e2, Int.toNat_natCast, getD_cast hi]
    obtain ⟨_, a2, a3⟩ := hat _ _ (List.getElem?_eq_getElem hi)
    generalize L[L.length - W + e % W] = y at a2 a3
    have hy : P ≤ y := by
      apply Nat.le_of_not_lt
      intro w
      have := h.cnt_mono y (P - 1 - y)
      rw [show y + (P - 1 - y) = P - 1 from by omega] at this
      omega
    refine ⟨y + (e / W + 1) * P, by push_cast; rfl, h.miss_perk hy a2 _, ?_⟩
    rw [h.cnt_perk (by omega), a3, eW]
    have : (((e / W + 1 : Nat) : Int)) * (W : Int) = (((e / W + 1) * W : Nat) : Int) := by push_cast; rfl
    rw [this]
    omega
end CF
theorem gaps_eq {ts : List Tr} (f : Fair ts) : ∀ n : Nat, n ≤ 2 * per ts → gapsF (firstsL ts) 0 ((List.range n).map (T (cN ts))) = (missL (cN ts) 0 n).map fun n => ((n : Nat) : Int)
  | 0, _ => rfl
  | n + 1, q => by
    have C := cf f
    have h1 := gaps_eq f n (by omega)
    have h2 := missL_succ (cN ts) 0 n
    rw [Nat.zero_add] at h2
    rw [List.range_succ, List.map_append]
    show gapsF _ 0 (_ ++ [T (cN ts) n]) = _
    rw [gapsF_snoc, h1, List.length_map, List.length_range, Nat.zero_add]
    have h3 : T (cN ts) n ≤ T (cN ts) (2 * per ts - 1) := CF.T_mono _ (by omega)
    have h4 := C.T_nonneg n
    have h5 : (firstsL ts).getD (T (cN ts) n).toNat 0 = ((D (cN ts) (T (cN ts) n).toNat : Nat) : Int) := getD_map (f := fun k => ((D (cN ts) k : Nat) : Int)) (by omega)
    rw [h5, h2]
    by_cases z : D (cN ts) (T (cN ts) n).toNat = n
    · rw [if_pos (by rw [z]), if_neg (by rw [Bool.not_eq_true', decide_eq_false_iff_not]; exact fun y => y z), List.append_nil]
    · rw [if_neg (fun y => z (by omega)), if_pos (by rw [Bool.not_eq_true', decide_eq_false_iff_not]; exact z), List.map_append]
      rfl
theorem gapsL_eq {ts : List Tr} (f : Fair ts) : gapsL ts = (missL (cN ts) 0 (2 * per ts)).map fun n => ((n : Nat) : Int) := gaps_eq f _ (Nat.le_refl _)
section
variable {P : Program} {w : World} {K : PySem.W.Frag} {mg : Str → Option Value} {base : Heap} (T : Tx K mg)
include T
namespace N2
def spChkNum2 : Sp := fun vs H Q _ => ∃ i lo : Int, vs = [.int i, .int lo] ∧ lo ≤ i ∧ i ≤ 1000000000000000000 ∧ Q .non H
theorem ok_check_number : FnR P w K mg base CX0 3 (a_check_number K) spChkNum2 := by
  refine (fnRD (d := d_check_number) (sp := spChkNum) (k := 2) (ps := ["value", "least", "most"]) T.F_check_number sc_check_number 2 1 (fun z => nomatch z) rfl (fun _ _ _ _ _ _ _ us its hl hi => match us, its, hl, hi with | [_, _], [_, _], _, _ => ⟨_, rfl, rfl⟩) (fun vs H Q E h => ?_) (fun cdv A outer s H vs Q E hr h => ?_)).imp fun vs H Q E h => ?_
  · obtain ⟨i, lo, hi, rfl, _⟩ := h
    rfl
  · obtain ⟨i, lo, hi, rfl, h1, h2, k⟩ := h
    refine ⟨_, (pss_one (ps_if (pt_not (pt_val (pe_cR (ok_is_number T) (hr.mono (by decide)) T.F_is_number.kp T.g_is_number pass0 (pa_cons (pv 0) (pa_cons (pv 1) (pa_cons (pv 2) pa_nil)))))) (pss_one ps_never) pss_nil)), ?_⟩
    refine ⟨_, rfl, _, rfl, _, rfl, i, lo, hi, rfl, _, rfl, ?_⟩
    rw [numOk_iff.mpr ⟨h1, h2⟩]
    exact iteF k
  · obtain ⟨i, lo, rfl, h1, h2, k⟩ := h
    exact ⟨i, lo, 1000000000000000000, rfl, h1, h2, k⟩
def spNth (K : PySem.W.Frag) : Sp := fun vs H Q _ => ∃ (a : Addr) (ts : List Tr) (k : Nat), vs = [.ref a, .int ((k : Int) + 1)] ∧ OfAt K H a ts ∧ Fair ts ∧ k < 1000000000000000000 ∧ (missL (cN ts) 0 (2 * per ts) = [] → Q .non H) ∧ (missL (cN ts) 0 (2 * per ts) ≠ [] → ∀ x : Nat, isMiss (cN ts) x → cntM (cN ts) x = (k : Int) + 1 → Q (.int (x : Nat)) H)
theorem ok_Offer_nth_missing : FnR P w K mg base CX0 4 (a_Offer_nth_missing K) (spNth K) := by
  refine fnR0 (d := d_Offer_nth_missing) T.F_Offer_nth_missing sc_Offer_nth_missing rfl (fun _ _ _ _ _ _ us hl => match us, hl with | [_, _], _ => rfl) (fun vs H Q E h => ?_) (fun cdv A outer s H vs Q E hr h => ?_)
  · obtain ⟨a, ts, k, rfl, _⟩ := h
    rfl
  obtain ⟨a, ts, k, rfl, ho, hf, hk, k1, k2⟩ := h
  obtain ⟨dx, t, p, o, f, g, e1, e2, e3, e4, e5, e6⟩ := ho.ex
  rw [gapsL_eq hf] at e6
  have C := cf hf
  have hp := per_pos hf.g
  have hP := per_le' hf.g
  refine ⟨_, (pss_cons (ps_expr (pe_cR (ok_check_number T) (hr.mono (by decide)) T.F_check_number.kp T.g_check_number pass0 (pa_cons (pv 1) (pa_cons pe_int pa_nil)))) (pss_cons (ps_if (pt_not (pt_truth (pe_fld (pv 0) rfl) (by intro _; rfl))) (pss_one (ps_ret pe_non)) pss_nil) (pss_cons (ps_asg (pe_fld (pv 0) rfl) (pg_tup rfl (pgs_cons (pg_name (i := 2) sc_Offer_nth_missing.nd rfl (Or.inl rfl)) (pgs_cons (pg_name (i := 3) sc_Offer_nth_missing.nd rfl (Or.inl rfl)) pgs_nil)))) (pss_one (ps_ret (pe_cR (ok_value_at T) (hr.mono (by decide)) T.F_value_at.kp T.g_value_at pass0 (pa_cons (pe_fld (pv 0) rfl) (pa_cons (pe_op op_sub (pv 1) pe_int) (pa_cons (pe_op op_sub (pv 3) (pv 2)) (pa_cons (pv 3) pa_nil)))))))))), ?_⟩
  refine ⟨_, rfl, _, 1, rfl, by omega, by omega, ?_⟩
  refine ⟨_, rfl, a, _, dx, _, _, rfl, e1, T.k_Offer, T.na_gaps, lk_gaps, ?_⟩
  refine ⟨_, .inl ⟨_, e6, rfl⟩, ?_⟩
  by_cases z : missL (cN ts) 0 (2 * per ts) = []
  · have hk1 := k1 z
    rw [z]
    exact iteT hk1
  have hke := k2 z
  have hemp : (((missL (cN ts) 0 (2 * per ts)).map fun n => ((n : Nat) : Int)).map V.int).isEmpty = false := by
    rw [List.isEmpty_eq_false_iff]
    intro y
    exact z (List.map_eq_nil_iff.mp (List.map_eq_nil_iff.mp y))
  rw [hemp]
  refine iteF ?_
  obtain ⟨x, hx1, hx2, hx3⟩ := C.nth z k
  have hW := C.gaps_pos z
  have hl := C.gaps_len
  have hc0 : 0 ≤ cntM (cN ts) (per ts - 1) := by
    have := C.T_le (per ts - 1)
    unfold cntM
    omega
  refine ⟨_, rfl, a, _, dx, _, _, rfl, e1, T.k_Offer, T.na_period, lk_period, p, _, rfl, e3, rfl, _, _, rfl, _, _, rfl, rfl, ?_⟩
  refine ⟨_, rfl, a, _, dx, _, _, rfl, e1, T.k_Offer, T.na_gaps, lk_gaps, _, rfl, _, _, rfl, rfl, _, rfl, _, rfl, _, _, rfl, rfl, _, rfl, g, _, _, _, _, rfl, e6, ?_, ?_, ?_, ?_, ?_, ?_, ?_⟩
  · omega
  · omega
  · omega
  · omega
  · omega
  · rw [List.length_map]
    omega
  · rw [show (k : Int) + 1 - 1 = (k : Int) from by omega, hx1]
    exact hke x hx2 hx3
end N2
end
end EB

namespace EB
open PySem PySem.Spec PyProof.Rows L2
section
variable {w : World} {K : PySem.W.Frag} {mg : Str → Option Value} {base : Heap} (T : Tx K mg)
include T
omit T in
theorem capS {X : TS} {D : Ends} {σ : L2.St} {H : Hp} (σ1 : L2.St) (e : σ = σ1) (h : X D σ1 H) : X D σ H := e ▸ h
omit T in
theorem capG {Y X : TS} {D : Ends} {σ : L2.St} {H : Hp} (Pv : L2.St → Hp → Prop) (h : ∀ σ' H', Pv σ' H' → X D σ' H') (k : (∀ σ' H', Pv σ' H' → X D σ' H') → tSeq Y X D σ H) : tSeq Y X D σ H := k h
def spLaw (K : PySem.W.Frag) (Pt P2 : Addr) : Sp := fun vs H Q _ => ∃ (a : Addr) (ns : List Int), vs = [.ref a] ∧ SqL K H a (ns.map V.int) ∧ ns.length ≤ 63 ∧ H Pt = some (.tbl #[]) ∧ H P2 = some (.tbl #[]) ∧ ∀ H', Q (.bl true) H'
theorem ok_law {c c2 Pt P2 : Addr} (hK : K.In base) (TB : LamX.TabB base mg c Pt) (hc : T.fd_law.code = .ref c) (TB2 : LamX.TabB base mg c2 P2) (hc2 : T.fd_law_limits_right.code = .ref c2) (hne : Pt ≠ P2) : FnOk PX w K mg base CX0 14 (a_law K) T.fd_law ["_law_script"] (spLaw K Pt P2) := by
  obtain ⟨q, eqq⟩ : ∃ q : Str, q = d_law.ql ++ (".<locals>." : Str) ++ ("<lambda>" : Str) := ⟨_, rfl⟩
  obtain ⟨q2, eqq2⟩ : ∃ q : Str, q = d_law_limits_right.ql ++ (".<locals>." : Str) ++ ("<lambda>" : Str) := ⟨_, rfl⟩
  obtain ⟨Ts, eTs⟩ : ∃ Ts : List (Addr × Str), Ts = [(Pt, q), (P2, q2)] := ⟨_, rfl⟩
  have tsp : (Pt, q) ∈ Ts ∧ ∀ p ∈ Ts, p.1 = Pt → p.2 = q := by
    rw [eTs]
    refine ⟨List.mem_cons_self .., fun p m e => ?_⟩
    simp only [List.mem_cons, List.not_mem_nil, or_false] at m
    rcases m with rfl | rfl
    · rfl
    · exact absurd e.symm hne
  have tsp2 : (P2, q2) ∈ Ts ∧ ∀ p ∈ Ts, p.1 = P2 → p.2 = q2 := by
    rw [eTs]
    refine ⟨List.mem_cons_of_mem _ (List.mem_cons_self ..), fun p m e => ?_⟩
    simp only [List.mem_cons, List.not_mem_nil, or_false] at m
    rcases m with rfl | rfl
    · exact absurd e hne
    · rfl
  refine fnCK0 (d := d_law) T.F_law hc sc_law (fun vs H Q E h => ?_) (fun A outer s H vs Q E hr h => ?_)
  · obtain ⟨a, ns, rfl, _⟩ := h
    rfl
  obtain ⟨a, ns, rfl, hS, hl, hP, hP2, k⟩ := h
  have hTs : LamX.Tabs Ts H := by
    rw [eTs]
    intro p m
    simp only [List.mem_cons, List.not_mem_nil, or_false] at m
    rcases m with rfl | rfl
    · exact LamX.TabS.nil hP
    · exact LamX.TabS.nil hP2
  refine ⟨_, (pss_cons (ps_set (i := 1) sc_law.nd rfl (Or.inl rfl) (pe_cR (ok_law_mix T) (hr.mono (by decide)) T.F_law_mix.kp T.g_law_mix pass0 (pa_cons (pv 0) (pa_cons pe_int pa_nil)))) (pss_cons (ps_for PassesOwn.never rfl (pi_range1 rfl T.n_range (pa_cons pe_int pa_nil)) (pg_name (i := 2) sc_law.nd rfl (Or.inl rfl)) (pss_cons (ps_set (i := 7) sc_law.nd rfl (Or.inr rfl) (pe_cR (ok_law_offer T) (hr.mono (by decide)) T.F_law_offer.kp T.g_law_offer pass0 (pa_cons (pe_cR (ok_law_trades T) (hr.mono (by decide)) T.F_law_trades.kp T.g_law_trades pass0 (pa_cons (pv 1) (pa_cons pe_int (pa_cons pe_int pa_nil)))) pa_nil))) (pss_cons (ps_set (i := 3) sc_law.nd rfl (Or.inl rfl) (pe_lst (pa_cons (pe_un un_neg pe_int) (pa_cons pe_int (pa_cons pe_int (pa_cons (pe_op op_pow pe_int pe_int) (pa_cons (pe_op op_add (pe_op op_pow pe_int pe_int) pe_int) (pa_cons (pe_un un_neg (pe_op op_pow pe_int pe_int)) (pa_cons (pe_cR (ok_law_next T) (hr.mono (by decide)) T.F_law_next.kp T.g_law_next pass0 (pa_cons (pv 1) (pa_cons (pe_op op_pow pe_int pe_int) pa_nil))) pa_nil))))))))) (pss_cons (ps_set (i := 6) sc_law.nd rfl (Or.inr rfl) (pe_ix ix_list (pv 3) (pe_cR (ok_law_next T) (hr.mono (by decide)) T.F_law_next.kp T.g_law_next pass0 (pa_cons (pv 1) (pa_cons pe_int pa_nil))) (fun _ _ => rfl))) (pss_cons (ps_set (i := 4) sc_law.nd rfl (Or.inl rfl) (pe_ifExp (pt_chain op_le op_le pe_int (pv 6) (pe_op op_pow pe_int pe_int)) (pe_tup (pa_cons pe_str pa_nil)) (pe_tup (pa_cons pe_str pa_nil)))) (pss_cons (ps_set (i := 5) sc_law.nd rfl (Or.inl rfl) (pe_lst (pa_cons (pe_lamM (k := 9) T eqq tsp.1 tsp.2 [] TB (lamO_by (by kernel_rfl)) (.inl ⟨rfl, rfl⟩) (.inl ⟨rfl, fun _ _ _ _ _ => rfl⟩) (fun f A outer s H E c hr => (pe_callI (pv 7) T.co_Offer (fnR_or (okX_Offer_call T hK) (fnR_up (ok_Offer_call T))) (hr.mono (by decide)) (passes_call (takes_of rfl rfl rfl rfl) (fun _ _ _ _ h => h)) (pa_cons (pv 6) pa_nil)))) (pa_cons (pe_lamM (k := 9) T eqq tsp.1 tsp.2 [("_law_a", 0)] TB (lamO_by (by kernel_rfl)) (.inr ⟨_, _, _, rfl, rfl, pe_int⟩) (.inr ⟨_, _, rfl, by kernel_rfl, fun _ _ _ _ _ _ _ => ⟨_, rfl, rfl⟩⟩) (fun f A outer s H E c hr => (pe_methR (pv 7) T.k_Offer T.m_Offer_trades_made (fnR_or (okX_Offer_trades_made T hK) (fnR_up (ok_Offer_trades_made T))) (hr.mono (by decide)) (passes_call (takes_of rfl rfl rfl rfl) (fun _ _ _ _ h => h)) (pa_cons (pv 6) pa_nil)))) (pa_cons (pe_lamM (k := 9) T eqq tsp.1 tsp.2 [("_law_b", 0)] TB (lamO_by (by kernel_rfl)) (.inr ⟨_, _, _, rfl, rfl, pe_int⟩) (.inr ⟨_, _, rfl, by kernel_rfl, fun _ _ _ _ _ _ _ => ⟨_, rfl, rfl⟩⟩) (fun f A outer s H E c hr => (pe_methR (pv 7) T.k_Offer T.m_Offer_left_over (fnR_or (okX_Offer_left_over T hK) (fnR_up (ok_Offer_left_over T))) (hr.mono (by decide)) (passes_call (takes_of rfl rfl rfl rfl) (fun _ _ _ _ h => h)) (pa_cons (pv 6) pa_nil)))) pa_nil))))) (pss_cons (ps_expr (pe_bm PySem.F.plainAttrs_list PySem.F.slot_list_extend PySem.F.type_list_extend mt_extend (pv 5) (pa_cons (pe_lst (pa_cons (pe_lamM (k := 9) T eqq tsp.1 tsp.2 [] TB (lamO_by (by kernel_rfl)) (.inl ⟨rfl, rfl⟩) (.inl ⟨rfl, fun _ _ _ _ _ => rfl⟩) (fun f A outer s H E c hr => (pe_listG (pgen_meth (E := fun cls d H => E cls d H ∧ cls = Value.ref (He.ga K "InvalidNumber")) (pv 7) T.k_Offer T.m_Offer_rounds (gfn_or (okX_Offer_rounds T hK) (ok_Offer_rounds T)) (hr.mono (by decide)) (b_Offer_rounds T) .nil (pa_cons (pv 6) pa_nil)) (passes_call (takes_of rfl rfl rfl rfl) (fun _ _ _ _ h => h.1)) (nsNum T) (hr.mono (by decide)) (by rfl) T.n_list (by decide +kernel)))) (pa_cons (pe_lamM (k := 9) T eqq tsp.1 tsp.2 [("_law_a", 0)] TB (lamO_by (by kernel_rfl)) (.inr ⟨_, _, _, rfl, rfl, pe_int⟩) (.inr ⟨_, _, rfl, by kernel_rfl, fun _ _ _ _ _ _ _ => ⟨_, rfl, rfl⟩⟩) (fun f A outer s H E c hr => (pe_methR (pv 7) T.k_Offer T.m_Offer_credit (fnR_or (okX_Offer_credit T hK) (fnR_up (ok_Offer_credit T))) (hr.mono (by decide)) (passes_call (takes_of rfl rfl rfl rfl) (fun _ _ _ _ h => h)) (pa_cons (pv 6) pa_nil)))) (pa_cons (pe_lamM (k := 9) T eqq tsp.1 tsp.2 [("_law_b", 0)] TB (lamO_by (by kernel_rfl)) (.inr ⟨_, _, _, rfl, rfl, pe_int⟩) (.inr ⟨_, _, rfl, by kernel_rfl, fun _ _ _ _ _ _ _ => ⟨_, rfl, rfl⟩⟩) (fun f A outer s H E c hr => (pe_methR (pv 7) T.k_Offer T.m_Offer_fewest_bottles (fnR_or (okX_Offer_fewest_bottles T hK) (fnR_up (ok_Offer_fewest_bottles T))) (hr.mono (by decide)) (passes_call (takes_of rfl rfl rfl rfl) (fun _ _ _ _ h => h)) (pa_cons (pv 6) pa_nil)))) pa_nil)))) pa_nil))) (pss_cons (ps_expr (pe_bm PySem.F.plainAttrs_list PySem.F.slot_list_extend PySem.F.type_list_extend mt_extend (pv 5) (pa_cons (pe_lst (pa_cons (pe_lamM (k := 9) T eqq tsp.1 tsp.2 [] TB (lamO_by (by kernel_rfl)) (.inl ⟨rfl, rfl⟩) (.inl ⟨rfl, fun _ _ _ _ _ => rfl⟩) (fun f A outer s H E c hr => (pe_methR (pv 7) T.k_Offer T.m_Offer_count_missing (fnR_or (okX_Offer_count_missing T hK) (fnR_up (ok_Offer_count_missing T))) (hr.mono (by decide)) (passes_call (takes_of rfl rfl rfl rfl) (fun _ _ _ _ h => h)) (pa_cons (pv 6) pa_nil)))) (pa_cons (pe_lamM (k := 9) T eqq tsp.1 tsp.2 [("_law_a", 0)] TB (lamO_by (by kernel_rfl)) (.inr ⟨_, _, _, rfl, rfl, pe_int⟩) (.inr ⟨_, _, rfl, by kernel_rfl, fun _ _ _ _ _ _ _ => ⟨_, rfl, rfl⟩⟩) (fun f A outer s H E c hr => (pe_methR (pv 7) T.k_Offer T.m_Offer_pooled (fnR_or (okX_Offer_pooled T hK) (fnR_up (ok_Offer_pooled T))) (hr.mono (by decide)) (passes_call (takes_of rfl rfl rfl rfl) (fun _ _ _ _ h => h)) (pa_cons pe_int (pa_cons (pv 6) pa_nil))))) (pa_cons (pe_lamM (k := 9) T eqq tsp.1 tsp.2 [("_law_b", 0)] TB (lamO_by (by kernel_rfl)) (.inr ⟨_, _, _, rfl, rfl, pe_int⟩) (.inr ⟨_, _, rfl, by kernel_rfl, fun _ _ _ _ _ _ _ => ⟨_, rfl, rfl⟩⟩) (fun f A outer s H E c hr => (pe_methR (pv 7) T.k_Offer T.m_Offer_pooled (fnR_or (okX_Offer_pooled T hK) (fnR_up (ok_Offer_pooled T))) (hr.mono (by decide)) (passes_call (takes_of rfl rfl rfl rfl) (fun _ _ _ _ h => h)) (pa_cons (pv 6) pa_nil)))) pa_nil)))) pa_nil))) (pss_cons (ps_if (pt_cmpR (op_neD hr.units) (pe_lcS (own := [("_law_call", 8)]) rfl sc_law.nd (pi_list (pv 5)) (blkOk_by (own := [("_law_call", 8)]) (N := N_law) (sc := defScope s_law) (by decide +kernel)) (fun _ _ _ _ _ => (pg_name (i := 8) sc_law.nd rfl (Or.inl rfl) (.inr rfl))) (fun pins σ s H C cl fp I F => pe_errK (k := 9) T (hr.mono (by decide)) I F (pv 8))) (pe_op op_rep (pe_lst (pa_cons (pv 4) pa_nil)) pe_int) (nomark _)) (pss_one (ps_ret pe_bl)) pss_nil) (pss_cons (ps_if (pt_cmpR (op_neD hr.units) (pe_errM (k := 9) T eqq tsp.1 tsp.2 TB (hr.mono (by decide)) (LamX.lamS_by (by kernel_rfl)) rfl (fun _ _ _ _ _ => rfl) (fun A outer s H E f c hr => (pe_methR (pv 7) T.k_Offer T.m_Offer_nth_missing (fnR_or (okX_Offer_nth_missing T hK) (fnR_up (N2.ok_Offer_nth_missing T))) (hr.mono (by decide)) (passes_call (takes_of rfl rfl rfl rfl) (fun _ _ _ _ h => h)) (pa_cons (pv 6) pa_nil)))) (pe_ifExp (pt_cmpR op_ne (pv 6) pe_int (nomark _)) (pv 4) (pe_tup (pa_cons pe_str pa_nil))) (nomark _)) (pss_one (ps_ret pe_bl)) pss_nil) (pss_cons (ps_if (pt_cmpR (op_neD hr.units) (pe_errM (k := 9) T eqq tsp.1 tsp.2 TB (hr.mono (by decide)) (LamX.lamS_by (by kernel_rfl)) rfl (fun _ _ _ _ _ => rfl) (fun A outer s H E f c hr => (pe_methR (pv 7) T.k_Offer T.m_Offer_pooled (fnR_or (okX_Offer_pooled T hK) (fnR_up (ok_Offer_pooled T))) (hr.mono (by decide)) (passes_call (takes_of rfl rfl rfl rfl) (fun _ _ _ _ h => h)) (pa_cons (pe_op op_pow pe_int pe_int) (pa_cons pe_int pa_nil))))) (pe_tup (pa_cons pe_str pa_nil)) (nomark _)) (pss_one (ps_ret pe_bl)) pss_nil) (pss_one (ps_if (pt_not (pt_val (pe_cR (ok_law_limits_right T hK TB2 hc2 eqq2 tsp2) (hr.mono (by decide)) T.F_law_limits_right.kp T.g_law_limits_right pass0 (pa_cons (pv 7) pa_nil)))) (pss_one (ps_ret pe_bl)) pss_nil))))))))))))) (pss_one (ps_ret pe_bl)))), ?_⟩
  refine ⟨_, rfl, a, ns, 13, rfl, hS, hl, by decide, by decide, fun H1 h l hs1 => ?_⟩
  have ntn : ∀ b, H b = none → nt H b = none := fun b z => by
    unfold EB.nt
    rw [z]
  have lu1 : LU (nt H) H1 h l Ts := ⟨⟨nt_same.trans hs1.same, ntn _ hs1.nh, ntn _ hs1.nl, hs1.ne, hs1.ex⟩, tabsS hTs hs1.same, nt_noT⟩
  clear hs1 ntn hP hP2 hTs eTs
  generalize nt H = H0 at lu1
  refine ⟨3, rfl, by decide, by decide, for_range (n := 3) (fun i σ H2 => LU H0 H2 h l Ts ∧ ∃ x2 x3 x4 x5 x6 x7 x8, σ = [some (.ref a), some (.ref h), x2, x3, x4, x5, x6, x7, x8]) ⟨lu1, _, _, _, _, _, _, _, rfl⟩ ?_ ?_⟩
  · rintro i σ H2 hi ⟨lu2, x2, x3, x4, x5, x6, x7, x8, rfl⟩
    refine ⟨_, rfl, h, l, 3, 6, _, rfl, by decide, by decide, by decide, by decide, lu2.hs.re, fun H3 p1 ts hs3 tr3 hne1 dr => ⟨p1, ts, rfl, tr3, dr.fair, hne1, dr.nm, fun H4 o s4 of4 => ?_⟩⟩
    have lu3 := lu2.step hs3
    have lu4 := lu3.grow s4
    have up4 : ∀ H', LU (EB.nt (hid2 H4 h l)) H' h l Ts → LU H0 H' h l Ts := fun H' y => lu4.back y
    have luB := lu4.rebase
    have oB := (HS.of_ lu3.hs s4 of4).nt_
    have fts := dr.fair
    have hzz : ("zzz" : Str) ∉ ts.map Tr.k := fun m => by
      rw [dr.ks] at m
      exact absurd (List.mem_of_mem_take m) (by decide +kernel)
    clear lu3 lu4 hs3 tr3 s4 of4 lu2
    generalize EB.nt (hid2 H4 h l) = B at luB oB up4
    have P18 : CPow 10 18 := ⟨by decide, by decide, by decide⟩
    refine ⟨_, rfl, _, _, rfl, rfl, P18, _, _, rfl, rfl, P18, _, _, rfl, rfl, _, _, rfl, rfl, P18, _, rfl, _, rfl, _, _, rfl, rfl, ⟨by decide, by decide, by decide⟩, h, l, 1000000, _, rfl, by decide, by decide, luB.hs.re, fun H5 r5 hs5 _ _ => ⟨by show 7 ≤ sizeLine; decide, fun L hL => ?_⟩⟩
    have lu5 := luB.step hs5
    have nL := lu5.hs.new hL
    have lu6 := lu5.new (o := .lst [.int (-1), .int 0, .int 1, .int 1000000000000000000, .int 1000000000000000001, .int (-1000000000000000000), .int r5]) hL
    have eL : upd H5 L (.lst [.int (-1), .int 0, .int 1, .int 1000000000000000000, .int 1000000000000000001, .int (-1000000000000000000), .int r5]) L = some (.lst [.int (-1), .int 0, .int 1, .int 1000000000000000000, .int 1000000000000000001, .int (-1000000000000000000), .int r5]) := upd_same
    refine ⟨_, rfl, _, rfl, h, l, 7, _, rfl, by decide, by decide, lu6.hs.re, fun H7 r hs7 r0 r1 => ?_⟩
    have eL7 := hs7.same _ _ (HS.keep (H0 := B) eL nL.1 nL.2)
    obtain ⟨n, en⟩ : ∃ n : Int, atI [V.int (-1), .int 0, .int 1, .int 1000000000000000000, .int 1000000000000000001, .int (-1000000000000000000), .int r5] r = some (.int n) := by
      rcases (show r = 0 ∨ r = 1 ∨ r = 2 ∨ r = 3 ∨ r = 4 ∨ r = 5 ∨ r = 6 by omega) with rfl | rfl | rfl | rfl | rfl | rfl | rfl
      all_goals exact ⟨_, rfl⟩
    refine ⟨L, _, _, _, rfl, rfl, SqL.of eL7, en, ?_⟩
    have lu7 := lu6.step hs7
    clear lu5 lu6 nL eL eL7 hs5 hs7 en hL luB r0 r1
    obtain ⟨ok, hok⟩ : ∃ ok : Bool, ok = decide (0 ≤ n ∧ n ≤ 1000000000000000000) := ⟨_, rfl⟩
    dsimp only [gName]
    refine capG (fun σ' H' => LU B H' h l Ts ∧ ∃ pd, SqT K H' pd [.str (numS ok)] ∧ σ' = [some (.ref a), some (.ref h), some (.int (0 + (i : Int))), some (.ref L), some (.ref pd), x5, some (.int n), some (.ref o), x8]) ?_ fun k2 => ?_
    rotate_left
    · have put : ∀ (b : Bool) (p : Addr), ok = b → H7 p = none → LU B (upd H7 p (.tup [.str (numS b)])) h l Ts ∧ SqT K (upd H7 p (.tup [.str (numS b)])) p [.str (numS ok)] := fun b p z np => by
        rw [z]
        exact ⟨lu7.new np, SqT.of upd_same⟩
      refine ⟨_, rfl, _, _, rfl, rfl, ?_⟩
      by_cases c1 : 0 ≤ n
      · refine ⟨true, congrArg V.bl (decide_eq_true c1), iteT ⟨_, _, rfl, rfl, P18, _, _, rfl, rfl, ?_⟩⟩
        by_cases c2 : n ≤ 1000000000000000000
        · refine ⟨true, congrArg V.bl (decide_eq_true c2), iteT ⟨by show 1 ≤ sizeLine; decide, fun p np => ?_⟩⟩
          have z := put true p (by rw [hok]; exact decide_eq_true ⟨c1, c2⟩) np
          exact k2 _ _ ⟨z.1, p, z.2, rfl⟩
        · refine ⟨false, congrArg V.bl (decide_eq_false c2), iteF ⟨by show 1 ≤ sizeLine; decide, fun p np => ?_⟩⟩
          have z := put false p (by rw [hok]; exact decide_eq_false fun y => c2 y.2) np
          exact k2 _ _ ⟨z.1, p, z.2, rfl⟩
      · refine ⟨false, congrArg V.bl (decide_eq_false c1), iteF ⟨false, rfl, iteF ⟨by show 1 ≤ sizeLine; decide, fun p np => ?_⟩⟩⟩
        have z := put false p (by rw [hok]; exact decide_eq_false fun y => c1 y.1) np
        exact k2 _ _ ⟨z.1, p, z.2, rfl⟩
    rintro σ H8 ⟨lu8, pd, hpd, rfl⟩
    have luC := lu8.rebase
    have up8 : ∀ H', LU (EB.nt (hid2 H8 h l)) H' h l Ts → LU B H' h l Ts := fun H' y => lu8.back y
    have oC := (oB.mono lu8.hs.sub).nt_
    have pdC := sqT_nt (lu8.hs.tup hpd)
    clear lu8 oB hpd lu7
    generalize EB.nt (hid2 H8 h l) = C at luC up8 oC pdC
    have ntC := luC.nt
    obtain ⟨dx, fx, oi, on⟩ := oC.ins
    have P0 : Pend (lawCx PX w K mg base N_law d_law.ql (defScope d_law.st) (d_law.adr K) c A outer s H E) C H8 Ts [] [] := ⟨luC.hs.same, luC.tb, luC.nt, Lams.nil⟩
    refine ⟨luC.tb, fun H1 f1 e1 T1 l1 n1 => ⟨T1, fun H2 f2 e2 T2 l2 n2 => ⟨T2, fun H3 f3 e3 T3 l3 n3 => ⟨by show 3 ≤ sizeLine; decide, fun W hW => ?_⟩⟩⟩⟩
    have P3 := ((P0.add e1 T1 l1).add e2 T2 l2).add e3 T3 l3
    have L3 := ((luC.ext e1 T1).ext e2 T2).ext e3 T3
    have nW : C W = none := P3.same.free hW
    have nWh := L3.hs.new hW
    have Q0 := P3.new (o := .lst [.ref f1, .ref f2, .ref f3]) hW
    have L0 := L3.new (o := .lst [.ref f1, .ref f2, .ref f3]) hW
    have w0 : upd H3 W (.lst [.ref f1, .ref f2, .ref f3]) W = some (.lst (([] ++ [f1] ++ [f2] ++ [f3]).map V.ref)) := upd_same
    generalize upd H3 W (.lst [.ref f1, .ref f2, .ref f3]) = G0 at Q0 w0 L0
    clear P3 P0 L3 hW e1 T1 l1 n1 e2 T2 l2 n2 e3 T3 l3 n3 luC
    refine ⟨_, rfl, .inl ⟨rfl, _, SqL.of w0⟩, Q0.tb, fun H1 f4 e1 T1 l1 n1 => ⟨T1, fun H2 f5 e2 T2 l2 n2 => ⟨T2, fun H3 f6 e3 T3 l3 n3 => ⟨by show 3 ≤ sizeLine; decide, fun W2 hW2 => ?_⟩⟩⟩⟩
    have qq := (((Q0.add e1 T1 l1).add e2 T2 l2).add e3 T3 l3).new (o := .lst [.ref f4, .ref f5, .ref f6]) hW2
    have ll := (((L0.ext e1 T1).ext e2 T2).ext e3 T3).new (o := .lst [.ref f4, .ref f5, .ref f6]) hW2
    have v := upd_old (u := .lst [.ref f4, .ref f5, .ref f6]) (e3 _ _ (e2 _ _ (e1 _ _ w0 (fun ps z => by cases z)) (fun ps z => by cases z)) (fun ps z => by cases z)) hW2
    refine ⟨W, W2, _, _, rfl, rfl, v, upd_same, by show 3 + 3 ≤ sizeLine; decide, ?_⟩
    have Q1 := qq.mut (o := .lst ((([] ++ [f1] ++ [f2] ++ [f3]).map V.ref) ++ [.ref f4, .ref f5, .ref f6])) v nW
    have L1 := ll.mut (o := .lst ((([] ++ [f1] ++ [f2] ++ [f3]).map V.ref) ++ [.ref f4, .ref f5, .ref f6])) v nW nWh.1 nWh.2
    have w1 : upd (upd H3 W2 (.lst [.ref f4, .ref f5, .ref f6])) W (.lst ((([] ++ [f1] ++ [f2] ++ [f3]).map V.ref) ++ [.ref f4, .ref f5, .ref f6])) W = some (.lst (([] ++ [f1] ++ [f2] ++ [f3] ++ [f4] ++ [f5] ++ [f6]).map V.ref)) := upd_same
    generalize upd (upd H3 W2 (.lst [.ref f4, .ref f5, .ref f6])) W (.lst ((([] ++ [f1] ++ [f2] ++ [f3]).map V.ref) ++ [.ref f4, .ref f5, .ref f6])) = G1 at Q1 w1 L1
    clear qq ll v Q0 w0 L0 e1 T1 l1 n1 e2 T2 l2 n2 e3 T3 l3 n3 hW2
    refine ⟨_, rfl, .inl ⟨rfl, _, SqL.of w1⟩, Q1.tb, fun H1 f7 e1 T1 l1 n1 => ⟨T1, fun H2 f8 e2 T2 l2 n2 => ⟨T2, fun H3 f9 e3 T3 l3 n3 => ⟨by show 3 ≤ sizeLine; decide, fun W2 hW2 => ?_⟩⟩⟩⟩
    have qq := (((Q1.add e1 T1 l1).add e2 T2 l2).add e3 T3 l3).new (o := .lst [.ref f7, .ref f8, .ref f9]) hW2
    have ll := (((L1.ext e1 T1).ext e2 T2).ext e3 T3).new (o := .lst [.ref f7, .ref f8, .ref f9]) hW2
    have v := upd_old (u := .lst [.ref f7, .ref f8, .ref f9]) (e3 _ _ (e2 _ _ (e1 _ _ w1 (fun ps z => by cases z)) (fun ps z => by cases z)) (fun ps z => by cases z)) hW2
    refine ⟨W, W2, _, _, rfl, rfl, v, upd_same, by show 6 + 3 ≤ sizeLine; decide, ?_⟩
    have Q2 := qq.mut (o := .lst ((([] ++ [f1] ++ [f2] ++ [f3] ++ [f4] ++ [f5] ++ [f6]).map V.ref) ++ [.ref f7, .ref f8, .ref f9])) v nW
    have L2 := ll.mut (o := .lst ((([] ++ [f1] ++ [f2] ++ [f3] ++ [f4] ++ [f5] ++ [f6]).map V.ref) ++ [.ref f7, .ref f8, .ref f9])) v nW nWh.1 nWh.2
    have w2 : upd (upd H3 W2 (.lst [.ref f7, .ref f8, .ref f9])) W (.lst ((([] ++ [f1] ++ [f2] ++ [f3] ++ [f4] ++ [f5] ++ [f6]).map V.ref) ++ [.ref f7, .ref f8, .ref f9])) W = some (.lst (([] ++ [f1] ++ [f2] ++ [f3] ++ [f4] ++ [f5] ++ [f6] ++ [f7] ++ [f8] ++ [f9]).map V.ref)) := upd_same
    generalize upd (upd H3 W2 (.lst [.ref f7, .ref f8, .ref f9])) W (.lst ((([] ++ [f1] ++ [f2] ++ [f3] ++ [f4] ++ [f5] ++ [f6]).map V.ref) ++ [.ref f7, .ref f8, .ref f9])) = G2 at Q2 w2 L2
    clear qq ll v Q1 w1 L1 e1 T1 l1 n1 e2 T2 l2 n2 e3 T3 l3 n3 hW2
    have hnot : ok = false → ¬ (0 ≤ n ∧ n ≤ 1000000000000000000) := fun z y => by
      rw [hok, decide_eq_true y] at z
      cases z
    have hyes : ok = true → ∃ m : Nat, n = (m : Nat) ∧ m ≤ 1000000000000000000 := fun z => by
      rw [hok] at z
      have y := of_decide_eq_true z
      exact ⟨n.toNat, by omega, by omega⟩
    dsimp only [gName]
    refine capS [some (.ref a), some (.ref h), some (.int (0 + (i : Int))), some (.ref L), some (.ref pd), some (.ref W), some (.int n), some (.ref o), x8] rfl ?_
    refine ⟨_, rfl, W, rfl, ⟨_, SqL.of w2⟩, fun D hD => ?_⟩
    refine all_tell (i := 8) (z := numS ok) (by show 8 < 9; decide) Q2.same w2 Q2.lm (fun t m => ?_) hD (by show 9 ≤ 1000; decide) fun G es sG eD le he => ?_
    · simp only [List.nil_append, List.cons_append, List.mem_cons, List.not_mem_nil, or_false] at m
      rcases m with rfl | rfl | rfl | rfl | rfl | rfl | rfl | rfl | rfl
      · refine tells_num ok (fun z G E Q' sG e => ?_) (fun z G E Q' sG e => ?_)
        · exact ⟨_, rfl, o, rfl, _, rfl, ⟨_, _, sG _ _ oi⟩, .inl ⟨_, n, rfl, hnot z, e G (Same.refl _)⟩⟩
        · obtain ⟨m, rfl, hm⟩ := hyes z
          exact ⟨_, rfl, o, rfl, _, rfl, ⟨_, _, sG _ _ oi⟩, .inr ⟨o, ts, m, rfl, oC.mono sG, fts, hm, e _ G (Same.refl _)⟩⟩
      · refine tells_num ok (fun z G E Q' sG e => ?_) (fun z G E Q' sG e => ?_)
        · exact ⟨_, rfl, o, dx, fx, rfl, sG _ _ oi, on _ (by decide +kernel), _, rfl, .inl ⟨_, n, rfl, hnot z, e G (Same.refl _)⟩⟩
        · obtain ⟨m, rfl, hm⟩ := hyes z
          exact ⟨_, rfl, o, dx, fx, rfl, sG _ _ oi, on _ (by decide +kernel), _, rfl, .inr ⟨o, ts, m, rfl, oC.mono sG, fts, hm, fun H' p s' _ => e _ H' s'⟩⟩
      · refine tells_num ok (fun z G E Q' sG e => ?_) (fun z G E Q' sG e => ?_)
        · exact ⟨_, rfl, o, dx, fx, rfl, sG _ _ oi, on _ (by decide +kernel), _, rfl, .inl ⟨_, n, rfl, hnot z, e G (Same.refl _)⟩⟩
        · obtain ⟨m, rfl, hm⟩ := hyes z
          exact ⟨_, rfl, o, dx, fx, rfl, sG _ _ oi, on _ (by decide +kernel), _, rfl, .inr ⟨o, ts, m, rfl, oC.mono sG, fts, hm, fun H' p s' _ => e _ H' s'⟩⟩
      · refine tells_num ok (fun z G E Q' sG e => ?_) (fun z G E Q' sG e => ?_)
        · exact ⟨_, rfl, o, dx, fx, rfl, sG _ _ oi, on _ (by decide +kernel), _, rfl, .inl ⟨_, n, rfl, hnot z, e G (Same.refl _), rfl⟩⟩
        · obtain ⟨m, rfl, hm⟩ := hyes z
          exact ⟨_, rfl, o, dx, fx, rfl, sG _ _ oi, on _ (by decide +kernel), _, rfl, .inr ⟨o, ts, m, rfl, oC.mono sG, fts, hm, fun H' s' p hp => e _ _ (s'.trans (same_new hp))⟩⟩
      · refine tells_num ok (fun z G E Q' sG e => ?_) (fun z G E Q' sG e => ?_)
        · exact ⟨_, rfl, o, dx, fx, rfl, sG _ _ oi, on _ (by decide +kernel), _, rfl, .inl ⟨_, n, rfl, hnot z, e G (Same.refl _)⟩⟩
        · obtain ⟨m, rfl, hm⟩ := hyes z
          exact ⟨_, rfl, o, dx, fx, rfl, sG _ _ oi, on _ (by decide +kernel), _, rfl, .inr ⟨o, ts, m, rfl, oC.mono sG, fts, hm, fun H' d s' _ => e _ H' s'⟩⟩
      · refine tells_num ok (fun z G E Q' sG e => ?_) (fun z G E Q' sG e => ?_)
        · exact ⟨_, rfl, o, dx, fx, rfl, sG _ _ oi, on _ (by decide +kernel), _, rfl, .inl ⟨_, n, rfl, hnot z, e G (Same.refl _)⟩⟩
        · obtain ⟨m, rfl, hm⟩ := hyes z
          exact ⟨_, rfl, o, dx, fx, rfl, sG _ _ oi, on _ (by decide +kernel), _, rfl, .inr ⟨o, ts, m, rfl, oC.mono sG, fts, hm, e _ G (Same.refl _)⟩⟩
      · refine tells_num ok (fun z G E Q' sG e => ?_) (fun z G E Q' sG e => ?_)
        · exact ⟨_, rfl, o, dx, fx, rfl, sG _ _ oi, on _ (by decide +kernel), _, rfl, .inl ⟨_, n, rfl, hnot z, e G (Same.refl _)⟩⟩
        · obtain ⟨m, rfl, hm⟩ := hyes z
          exact ⟨_, rfl, o, dx, fx, rfl, sG _ _ oi, on _ (by decide +kernel), _, rfl, .inr ⟨o, ts, m, rfl, oC.mono sG, fts, hm, e _ G (Same.refl _)⟩⟩
      · refine tells_num ok (fun z G E Q' sG e => ?_) (fun z G E Q' sG e => ?_)
        · exact ⟨_, rfl, o, dx, fx, rfl, sG _ _ oi, on _ (by decide +kernel), _, rfl, .inl ⟨[.ref o], [.int 0, .int n], rfl, rfl, by show 2 ≤ sizeLine; decide, fun p hp => ⟨.ref o, p, [0, n], rfl, SqT.of upd_same, by show 2 ≤ 2; decide, fun y => hnot z (y.1 n (by simp)), e _ (same_new hp)⟩⟩⟩
        · obtain ⟨m, rfl, hm⟩ := hyes z
          exact ⟨_, rfl, o, dx, fx, rfl, sG _ _ oi, on _ (by decide +kernel), _, rfl, .inr ⟨[.ref o], [.int 0, .int (m : Nat)], rfl, rfl, by show 2 ≤ sizeLine; decide, fun p hp => ⟨o, p, ts, [0, m], rfl, (oC.mono sG).mono (same_new hp), fts, SqT.of upd_same, by simp; omega, by show 2 ≤ 10000; decide, fun H' s' => e _ H' ((same_new hp).trans s')⟩⟩⟩
      · refine tells_num ok (fun z G E Q' sG e => ?_) (fun z G E Q' sG e => ?_)
        · exact ⟨_, rfl, o, dx, fx, rfl, sG _ _ oi, on _ (by decide +kernel), _, rfl, .inl ⟨[.ref o], [.int n], rfl, rfl, by show 1 ≤ sizeLine; decide, fun p hp => ⟨.ref o, p, [n], rfl, SqT.of upd_same, by show 1 ≤ 2; decide, fun y => hnot z (y.1 n (by simp)), e _ (same_new hp)⟩⟩⟩
        · obtain ⟨m, rfl, hm⟩ := hyes z
          exact ⟨_, rfl, o, dx, fx, rfl, sG _ _ oi, on _ (by decide +kernel), _, rfl, .inr ⟨[.ref o], [.int (m : Nat)], rfl, rfl, by show 1 ≤ sizeLine; decide, fun p hp => ⟨o, p, ts, [m], rfl, (oC.mono sG).mono (same_new hp), fts, SqT.of upd_same, by simp; omega, by show 1 ≤ 10000; decide, fun H' s' => e _ H' ((same_new hp).trans s')⟩⟩⟩
    refine ⟨_, rfl, by show 1 ≤ sizeLine; decide, fun M1 hM1 => ?_⟩
    refine ⟨M1, 9, _, rfl, rfl, upd_same, by decide, by decide, by show 1 * 9 ≤ sizeLine; decide, fun M hM => ?_⟩
    have s1 : Same G (upd (upd G M1 (.lst [.ref pd])) M (.lst (List.replicate (9 : Int).toNat [V.ref pd]).flatten)) := (same_new hM1).trans (same_new hM)
    have eM : upd (upd G M1 (.lst [.ref pd])) M (.lst (List.replicate (9 : Int).toNat [V.ref pd]).flatten) M = some (.lst (List.replicate 9 (V.ref pd))) := by
      rw [upd_same, rep_flat]
      rfl
    generalize upd (upd G M1 (.lst [.ref pd])) M (.lst (List.replicate (9 : Int).toNat [V.ref pd]).flatten) = G5 at s1 eM
    have sAll := sG.trans s1
    have L5 := L2.grow sAll
    have pdG : SqT K G5 pd [.str (numS ok)] := Same.tup L5.hs.same pdC
    have shA : ∀ b : Bool, SeqAt.shaped (.list (List.replicate 9 (telD (numS b)))) = true := by decide +kernel
    have shN : SeqAt.shaped (.tuple [.str "number"]) = true := by decide +kernel
    have sh1 : ∀ b : Bool, SeqAt.shaped (.tuple [.str (numS b)]) = true := by decide +kernel
    have dl := tel_dp (K := K) (H := G5) (es := es) fun e m => Same.tup s1 (he e m)
    rw [show es.length = 9 from le] at dl
    refine ⟨_, _, .lst (SqL.of (s1 _ _ eD)) dl, .lst (SqL.of eM) (rep_dp pdG 9), shA ok, shA ok, _, rfl, ?_⟩
    rw [SeqAt.eqv_refl _ (shaped_layM (shA ok))]
    refine iteF ?_
    clear dl shA eM s1 sAll hM1 hM hD sG eD le he Q2 w2 L2 pdG nW nWh
    -- the number of a drink
    dsimp only [tNext]
    refine capG (fun σ' H' => LU C H' h l Ts ∧ σ' = [some (.ref a), some (.ref h), some (.int (0 + (i : Int))), some (.ref L), some (.ref pd), some (.ref W), some (.int n), some (.ref o), x8]) ?_ fun k3 => ?_
    rotate_left
    · refine ⟨L5.tb, fun H6 e6 T6 => ?_⟩
      have L6 := L5.ext e6 T6
      have sC6 := L6.hs.same
      clear L5 e6 T6
      obtain ⟨ok2, hok2⟩ : ∃ ok2 : Bool, ok2 = decide (1 ≤ n ∧ n ≤ 1000000000000000000) := ⟨_, rfl⟩
      refine num_do ok2 (fun z E Q' e => ?_) (fun z E Q' e => ?_) (fun H7 p7 s7 hp7 => ?_)
      · refine ⟨_, rfl, o, dx, fx, rfl, sC6 _ _ oi, on _ (by decide +kernel), _, rfl, .inl ⟨_, n, rfl, fun y => ?_, e H6 (Same.refl _)⟩⟩
        rw [hok2, decide_eq_true y] at z
        cases z
      · rw [hok2] at z
        have y := of_decide_eq_true z
        obtain ⟨kk, hkk⟩ : ∃ kk : Nat, n = (kk : Int) + 1 := ⟨(n - 1).toNat, by omega⟩
        subst hkk
        exact ⟨_, rfl, o, dx, fx, rfl, sC6 _ _ oi, on _ (by decide +kernel), _, rfl, .inr ⟨o, ts, kk, rfl, oC.mono sC6, fts, by omega, fun _ => e _ H6 (Same.refl _), fun _ x _ _ => e _ H6 (Same.refl _)⟩⟩
      have L7 := L6.grow s7
      clear L6 s7 sC6
      have pd7 := Same.tup L7.hs.same pdC
      refine ⟨_, rfl, rfl, _, rfl, ite2 (fun hd => ?_) (fun hd => ?_)⟩
      · have hn0 : n ≠ 0 := fun z => by
          rw [z] at hd
          exact absurd hd (by decide +kernel)
        have e2 : ok2 = ok := by
          rw [hok, hok2]
          exact decide_eq_decide.mpr ⟨fun y => ⟨by omega, y.2⟩, fun y => ⟨by omega, y.2⟩⟩
        rw [e2] at hp7
        refine ⟨_, rfl, _, _, .tup hp7 (.cons (.str _) .nil), .tup pd7 (.cons (.str _) .nil), sh1 ok, sh1 ok, _, rfl, ?_⟩
        rw [SeqAt.eqv_refl _ (shaped_layM (sh1 ok))]
        exact iteF (k3 _ _ ⟨L7, rfl⟩)
      · have hn0 : n = 0 := Classical.byContradiction fun z => hd (by simpa using fun y => z (V.int.inj y))
        have e2 : ok2 = false := by
          rw [hok2]
          exact decide_eq_false fun y => by omega
        rw [e2] at hp7
        replace hp7 : SqT K H7 p7 [.str "number"] := hp7
        refine ⟨by show 1 ≤ sizeLine; decide, fun u hu => ⟨_, _, .tup (Same.tup (same_new hu) hp7) (.cons (.str _) .nil), .tup (SqT.of upd_same) (.cons (.str _) .nil), shN, shN, _, rfl, ?_⟩⟩
        rw [SeqAt.eqv_refl _ (shaped_layM shN)]
        exact iteF (k3 _ _ ⟨L7.new hu, rfl⟩)
    rintro σ H10 ⟨L10, rfl⟩
    clear L5
    refine ⟨L10.tb, fun H11 e11 T11 => ?_⟩
    have L11 := L10.ext e11 T11
    have sC11 := L11.hs.same
    clear L10 e11 T11
    refine num_do false (fun _ E Q' e => ?_) (fun z => nomatch z) (fun H12 p12 s12 hp12 => ?_)
    · exact ⟨_, rfl, o, dx, fx, rfl, sC11 _ _ oi, on _ (by decide +kernel), _, _, rfl, rfl, P18, .inl ⟨[.ref o], [.int 1000000000000000000, .int 1], rfl, rfl, by show 2 ≤ sizeLine; decide, fun p hp => ⟨.ref o, p, [1000000000000000000, 1], rfl, SqT.of upd_same, by decide, fun y => absurd y.2 (by decide), e _ (same_new hp)⟩⟩⟩
    replace hp12 : SqT K H12 p12 [.str "number"] := hp12
    have L12 := L11.grow s12
    clear L11 s12 sC11
    refine ⟨by show 1 ≤ sizeLine; decide, fun u hu => ⟨_, _, .tup (Same.tup (same_new hu) hp12) (.cons (.str _) .nil), .tup (SqT.of upd_same) (.cons (.str _) .nil), shN, shN, _, rfl, ?_⟩⟩
    rw [SeqAt.eqv_refl _ (shaped_layM shN)]
    refine iteF ?_
    have L13 := L12.new (o := .tup [.str "number"]) hu
    clear L12 hp12
    refine ⟨_, rfl, o, ts, rfl, oC.mono L13.hs.same, fts, hzz, L13.tb, fun H14 e14 T14 => ⟨true, rfl, iteF ⟨up4 _ (up8 _ (L13.ext e14 T14)), _, _, _, _, _, _, _, rfl⟩⟩⟩
  · rintro σ H2 ⟨lu2, _⟩
    exact k _
end
end EB

namespace EB
open PySem PySem.Spec PyProof.Rows L2
theorem facts {w : World} {K : PySem.W.Frag} {h : Heap} {mg : Str → Option Value} {f : Addr} (X : K.In h) (G : h.Ns mainGlobals mg) (hfa : mg ("law" : Str) = some (.ref f)) (c : SaysL fas more2 dds tfs h K) :
    LamX.LawAtS PySem.Challenge.rw_emptiesback_k13_numbers_out_of_range w K CX0 14 63 "_law_script" mg f h := by
  obtain ⟨ct, hne⟩ := says_of2 c.t
  obtain ⟨T⟩ := tx_of X G ct
  have e := hfa.symm.trans T.g_law
  cases e
  have b := FunD.bindsA (ps := ["_law_script"]) (show FunD K d_law.nm d_law.ql (defArgs d_law.st) (defBody d_law.st) (defScope d_law.st) [] [] (d_law.adr K) T.fd_law from T.F_law) fun _ _ _ _ _ _ us hl => match us, hl with | [_], _ => rfl
  obtain ⟨oc, od, osl, cd, lk, hcd⟩ := code_of T.F_law
  obtain ⟨oc2, od2, osl2, cd2, lk2, hcd2⟩ := code_of T.F_law_limits_right
  have ec : He.codeOf K df1 = cd := He.codeOf_eq lk hcd
  have ec2 : He.codeOf K df2 = cd2 := He.codeOf_eq lk2 hcd2
  have m1 : df1 ∈ tfs := List.mem_cons_self ..
  have m2 : df2 ∈ tfs := List.mem_cons_of_mem _ (List.mem_cons_self ..)
  have sub : ∀ p ∈ [He.cT K df1, He.cT K df2], ∃ d ∈ tfs, He.cT K d = p := fun p hp => by
    rcases List.mem_cons.mp hp with rfl | hp
    · exact ⟨_, m1, rfl⟩
    · rw [List.mem_singleton.mp hp]
      exact ⟨_, m2, rfl⟩
  refine ⟨T.fd_law, [He.cT K df1, He.cT K df2], spLaw K (He.cT K df1).2 (He.cT K df2).2, fun p hp => ?_, fun p hp => ?_, fun p hp => ?_, fun s v => b s [v] rfl, fun H a ns hl _ hP hS => ⟨a, ns, rfl, hS, hl, hP _ (List.mem_cons_self ..), hP _ (List.mem_cons_of_mem _ (List.mem_cons_self ..)), fun _ => rfl⟩, fun base hK _ TB => ?_⟩
  · obtain ⟨d, hd, rfl⟩ := sub p hp
    exact c.empty d hd
  · obtain ⟨d, hd, rfl⟩ := sub p hp
    exact c.out d hd
  · obtain ⟨d, hd, rfl⟩ := sub p hp
    exact PySem.W.codeHd_of_K X (c.hd d hd)
  · have tb := TB _ (List.mem_cons_self ..)
    have tb2 := TB _ (List.mem_cons_of_mem _ (List.mem_cons_self ..))
    refine ok_law (c := cd) (c2 := cd2) T hK ?_ hcd ?_ hcd2 hne
    · rw [← ec]
      exact tb
    · rw [← ec2]
      exact tb2
end EB
open PySem PySem.W PySem.Calls PyProof.Rows in
theorem PySem.Challenge.cw_emptiesback_k13_numbers_out_of_range_holds : PySem.Challenge.rw_emptiesback_k13_numbers_out_of_range.Holds := by
  w_on; o_law
  refine HandSHeadRun.head_imp (r := OpenLaw.row PySem.Challenge.rw_emptiesback_k13_numbers_out_of_range) (q := view (OpenLaw.row PySem.Challenge.rw_emptiesback_k13_numbers_out_of_range).prog [0, 50]) (H := EB.hk) (ob := EB.ob) (M := 12000) (loose := EB.loose) (d := HandSHeadRun.topDef (OpenLaw.row PySem.Challenge.rw_emptiesback_k13_numbers_out_of_range).prog 50) (kwd := [])
    EB.ob_eq EB.run (by kernel_rfl) (by kernel_rfl) (by kernel_rfl) (by rfl) (by first | assumption | decide +kernel) (by decide +kernel) ⟨rfl, rfl, rfl, rfl, rfl, by decide +kernel⟩ ?hw ?hc
  case hw => w_witness2
  case hc =>
    refine LamX.walk_ofTsE (l := PySem.Challenge.rw_emptiesback_k13_numbers_out_of_range) (n := 63) (k := 14) (x := "_law_script") (CX := fun _ => L2.CX0) rfl (by decide) (by kernel_rfl) ⟨rfl, by decide, by decide⟩ ?F (fun _ _ _ _ _ z => z)
    intro w mg fa h Y G hmg0
    obtain ⟨K, KX, c⟩ := Y
    have hmg : mg ("law" : PySem.Str) = some (.ref fa) := by
      have e : (HandSHeadRun.topDef (OpenLaw.row PySem.Challenge.rw_emptiesback_k13_numbers_out_of_range).prog 50).name = ("law" : PySem.Str) := by kernel_rfl
      rw [← e]
      exact hmg0
    exact ⟨K, KX, EB.facts (w := w) KX G hmg c⟩

