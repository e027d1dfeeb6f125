import PyProof.Rows.All
import Wide.All
import OpenK.AllK
import Wide.FinOn
import KE.KStateDown
import KE.KMathGC
import HandS.ForMost
import HandS.More
import HandS.WordsExc
import HandS.Defaults
import HandS.Property
import HandS.ClsMeth
import HandS.Star
import HandS.Gcd
import HandS.Wide
import HandS.IsInst
import HandS.Walk
import HandS.Style
import HandS.TupAny
import HandS.DictComp
import HandS.Head0
import HandS.Head1
import HandS.Head2
import HandS.HeadEnd
import HandS.HeadHook1
import HandS.HeadHook2
import HandS.Exc
import HandS.ExcInit
import HandS.FStr
import KE.KExcSuper
import HandS.ExcOwn
import HandS.ExcField
import HandS.ExcIs
import KE.KExcIs
import HandS.SetFor
import KE.GoesEnum
import KE.KTupSum
import HandS.NoneIn
import HandS.SlotsOwn
import KE.KOpsOwn
import HandS.ListItems
import HandS.Zip
import HandS.GenList
import HandS.Small
import HandS.Sort
import HandS.Iter
import HandS.Head3
import HandS.Conv
import HandS.Finally
import PySem.Challenge.RW_emptiesback_k14_repeated_calls
set_option Elab.async false
set_option linter.all false
set_option maxRecDepth 100000
set_option maxHeartbeats 0
/-! What every law here leans on: calls by positional promises, facts of the head, a heap that only grows. -/
namespace EB
open PySem PySem.Spec PyProof.Rows L2
section
variable {X : Cx} {CX : CXT} {k : Nat} {f C : Addr} {sp : Sp} {E : XK} {x m : Str} {e o : Expr} {es : List Expr} {ta : TE} {t : TA} {p pos apos : Pos}
/-- the promise sp asked of the values of the arguments -/
def tCR (sp : Sp) (E : XK) (t : TA) : TE := fun σ H Q => t σ H fun vs H1 => sp vs H1 Q E
theorem pe_cR (F : FnR X.prog X.w X.K X.mg X.base CX k f sp) (hr : Room k X.A) (hk : PySem.W.keepIn X.K (.ref f) = true) (hm : X.mg x = some (.ref f)) (hx : Passes CX X E) (ha : PA X (e :: es) t) (hg : Gl X x := by rfl)
    (hd : (x == ("__debug__" : Str)) = false := by decide) (he : starEach (e :: es) X.env = (false, eval e X.env) :: starEach es X.env := by rfl) (hp : (backTo pos (starEach es X.env)).any (·.1) = false := by rfl) :
    PE X (.Call (.Name x p) (e :: es) [] pos) (tCR sp E t) := by
  constructor
  intro pins s σ H Q I h
  refine wpAny_Call_Name_kw (ld_glob I hg hm ?_ hd)
  refine PySem.W.callWith_K (h₀ := X.base) I.ok.mod.kin hk (thn (ha.run pos pins s σ H _ I h) fun us s1 ⟨vs, H1, I1, r, q⟩ => ⟨I1.kIn, wpAny_call (run_fnR F hr hx I1 r q)⟩) he hp
/-- a method without arguments -/
def tM0 (C : Addr) (m : Str) (sp : Sp) (E : XK) (ta : TE) : TE := fun σ H Q => ta σ H fun x H1 => ∃ a dx fs, x = .ref a ∧ H1 a = some (.ins C dx fs) ∧ fs.lookup m = none ∧ sp [x] H1 Q E
end
/-- a tuple as the target of a comprehension -/
theorem pg_tupB {X : Cx} {s : Shared} {H : Hp} {scope : Scope} {cenv : Env} {fp : List Addr} {es : List Expr} {k : Nat} {t : TGs} {n : Nat} {pos : Pos} (h : PGs (X.blk s H scope cenv fp) es t) (hc : X.calm = true := by rfl)
    (hn : (assignEach es cenv).length = n := by rfl) (hst : (assignEach es cenv).findIdx? (·.1) = none := by rfl) : PG (X.blk s H scope cenv fp) (.Tuple es k pos) (gTup X.K n t) := pg_tup (X := X.blk s H scope cenv fp) hc h hn hst
/-! ### a heap that only grows -/
theorem same_new {H : Hp} {q : Addr} {u : HO} (h : H q = none) : Same H (upd H q u) := fun b o e => by
  rw [upd_ne (ne_of_none e h)]
  exact e
theorem same_mut {H0 H : Hp} {q : Addr} {u : HO} (s : Same H0 H) (h : H0 q = none) : Same H0 (upd H q u) := fun b o e => by
  rw [upd_ne (ne_of_none e h)]
  exact s b o e
theorem Same.tup {K : PySem.W.Frag} {H H' : Hp} {a : Addr} {xs : List V} (e : Same H H') (h : SqT K H a xs) : SqT K H' a xs := by
  rcases h with (h | ⟨o, h⟩) | h
  · exact .inl (.inl (e _ _ h))
  · exact .inl (.inr ⟨o, e _ _ h⟩)
  · exact .inr h
theorem upd_old {H : Hp} {a q : Addr} {o u : HO} (h : H a = some o) (n : H q = none) : upd H q u a = some o := by
  rw [upd_ne (ne_of_none h n)]
  exact h
/-! ### the head's facts -/
/-- the object of a def -/
def fdAt (K : PySem.W.Frag) (a : Addr) : Option FuncData := match K.lookup a with
  | some o => (match o.data with
    | .func fd => some fd
    | _ => none)
  | none => none
abbrev FS : Type := Str × Str × Arguments × FuncBody × Scope × Addr × List (Str × Addr) × Addr
def fsOf (fd : FuncData) : FS := (fd.name, fd.qualname, fd.params, fd.body, fd.scope, fd.globals, fd.closure, fd.builtins)
/-- one def of the text: where it is found, what it is -/
structure DD where
  adr : PySem.W.Frag → Addr
  nm : Str
  ql : Str
  st : Stmt
  df : List He.Dv := []
  cl : Bool := false
def DD.fs (d : DD) : FS := (d.nm, d.ql, defArgs d.st, .stmts (defBody d.st), defScope d.st, mainGlobals, [], builtinsNs)
/-- cl: the def sees __class__ from outside; its closure is looked at apart -/
def DD.obs (K : PySem.W.Frag) (d : DD) : Option FS := (fdAt K (d.adr K)).map fun fd => if d.cl then fsOf { fd with closure := [] } else fsOf fd
def DD.ok (K : PySem.W.Frag) (d : DD) : Bool := PySem.W.keepIn K (.ref (d.adr K)) && (match fdAt K (d.adr K) with
  | some fd => PySem.W.codeIn K fd.code d.ql && He.dflB K fd.defaults (d.df.map (He.Dv.v K))
  | none => false)
/-- the def d, its function's data fd -/
abbrev FnP (K : PySem.W.Frag) (d : DD) (fd : FuncData) : Prop := FunD K d.nm d.ql (defArgs d.st) (defBody d.st) (defScope d.st) (d.df.map (He.Dv.v K)) [] (d.adr K) fd
theorem DD.fun {K : PySem.W.Frag} {d : DD} (hcl : d.cl = false) (e : d.obs K = some d.fs) (c : d.ok K = true) : ∃ fd, FnP K d fd := by
  obtain ⟨kp, c2⟩ := Bool.and_eq_true_iff.mp c
  unfold DD.obs at e
  cases q : fdAt K (d.adr K) with
  | none =>
    rw [q] at e
    cases e
  | some fd =>
    rw [q] at e c2
    rw [hcl] at e
    obtain ⟨c3, c4⟩ := Bool.and_eq_true_iff.mp c2
    unfold fdAt at q
    cases l : K.lookup (d.adr K) with
    | none =>
      rw [l] at q
      cases q
    | some o =>
      rw [l] at q
      obtain ⟨oc, od, dt, osl⟩ := o
      cases dt with
      | func fd' =>
        have ef : fd' = fd := Option.some.inj q
        subst ef
        have e2 : fsOf fd' = d.fs := Option.some.inj e
        obtain ⟨n1, n2, n3, n4, n5, n6, n7, n8, n9, n10, n11, n12, n13, n14, n15⟩ := fd'
        simp only [fsOf, DD.fs, Prod.mk.injEq] at e2
        obtain ⟨h1, h2, h3, h4, h5, h6, h7, h8⟩ := e2
        subst h1 h2 h3 h4 h5 h6 h7 h8
        exact ⟨_, ⟨oc, od, n8, n9, n10, n11, n12, n13, n14, osl, rfl, l, c3, He.dflB_ok c4, .inl rfl⟩, kp⟩
      | _ => cases q
/-- a property's getter -/
def propG (K : PySem.W.Frag) (C p : Addr) : Addr := match PySem.W.recIn K p "property" with
  | some (.ref g :: _) => g
  | _ => 0
def okProp (K : PySem.W.Frag) (x f : Str) : Bool :=
  He.eqO (PySem.W.findIn K (.ref (He.ga K x)) f) (some (some (.ref (He.ma K (He.ga K x) f)))) && (He.eqO (PySem.W.specialIn K (.ref (He.ma K (He.ga K x) f)) "__get__") (some (some (.builtin "property.__get__"))) &&
  (decide (PySem.W.takesIn K (.ref (He.ma K (He.ga K x) f)) = some true) && (match PySem.W.recIn K (He.ma K (He.ga K x) f) "property" with
    | some (.ref g :: _) => decide (g = propG K (He.ga K x) (He.ma K (He.ga K x) f))
    | _ => false)))
theorem okProp_of {K : PySem.W.Frag} {x f : Str} (h : okProp K x f = true) : PropOf K (He.ga K x) f (He.ma K (He.ga K x) f) (propG K (He.ga K x) (He.ma K (He.ga K x) f)) := by
  obtain ⟨h1, h⟩ := Bool.and_eq_true_iff.mp h
  obtain ⟨h2, h⟩ := Bool.and_eq_true_iff.mp h
  obtain ⟨h3, h4⟩ := Bool.and_eq_true_iff.mp h
  refine ⟨He.eqO_ok h1, He.eqO_ok h2, of_decide_eq_true h3, ?_⟩
  split at h4
  · rename_i g rest e
    exact ⟨rest, by rw [e, ← of_decide_eq_true h4]⟩
  · cases h4
def okCallO (K : PySem.W.Frag) (x : Str) : Bool :=
  He.eqO (PySem.W.findIn K (.ref (He.ga K x)) "__call__") (some (some (.ref (He.ma K (He.ga K x) "__call__")))) && (PySem.W.isFn K (.ref (He.ma K (He.ga K x) "__call__")) && PySem.W.fnIn K (He.ma K (He.ga K x) "__call__"))
theorem okCallO_of {K : PySem.W.Frag} {x : Str} (h : okCallO K x = true) : StX.CallO K (He.ga K x) (He.ma K (He.ga K x) "__call__") := by
  obtain ⟨h1, h⟩ := Bool.and_eq_true_iff.mp h
  obtain ⟨h2, h3⟩ := Bool.and_eq_true_iff.mp h
  exact ⟨He.eqO_ok h1, h2, h3⟩
def okBlt (K : PySem.W.Frag) (x : Str) (id : String) : Bool := He.eqO (PySem.W.nsIn K mainGlobals x) (some (some (.builtin id)))
theorem okBlt_of {K : PySem.W.Frag} {h : Heap} {mg : Str → Option Value} {x : Str} {id : String} (X : K.In h) (G : h.Ns mainGlobals mg) (c : okBlt K x id = true) : mg x = some (.builtin id) := PySem.W.mg_of X G (He.eqO_ok c)
/-- all that is looked at behind the top -/
abbrev Seen : Type := Bool × List (Option FS)
def seen (fa : List He.Fa) (more : PySem.W.Frag → Bool) (ds : List DD) (K : PySem.W.Frag) : Seen := ((fa.all fun f => f.ok K) && (more K && ds.all fun d => d.ok K), ds.map fun d => d.obs K)
def want (ds : List DD) : Seen := (true, ds.map fun d => some d.fs)
def Says (fa : List He.Fa) (more : PySem.W.Frag → Bool) (ds : List DD) (K : PySem.W.Frag) : Prop := seen fa more ds K = want ds
def hook (n : Nat) (fa : List He.Fa) (more : PySem.W.Frag → Bool) (ds : List DD) : PySem.W.Hook where
  α := Seen
  obs := fun s => seen fa more ds (He.frG s.heap.get? (cStatics :: He.asD s.heap.get? n))
  val := fun _ => want ds
  says := fun _ h => ∃ K : PySem.W.Frag, K.In h ∧ Says fa more ds K
  of := fun _ _ e => ⟨_, He.frG_in, e⟩
  keeps := fun _ _ _ ⟨K, hK, c⟩ k => ⟨K, PySem.W.Frag.In.keeps hK k, c⟩
section
variable {fa : List He.Fa} {more : PySem.W.Frag → Bool} {ds : List DD} {K : PySem.W.Frag}
theorem Says.bools (c : Says fa more ds K) : (∀ f ∈ fa, f.ok K = true) ∧ more K = true ∧ ∀ d ∈ ds, d.ok K = true := by
  have c1 : ((fa.all fun f => f.ok K) && (more K && ds.all fun d => d.ok K)) = true := congrArg (fun z : Seen => z.1) c
  obtain ⟨c2, c3⟩ := Bool.and_eq_true_iff.mp c1
  obtain ⟨c4, c5⟩ := Bool.and_eq_true_iff.mp c3
  exact ⟨fun f h => List.all_eq_true.mp c2 f h, c4, fun d h => List.all_eq_true.mp c5 d h⟩
theorem Says.fact (c : Says fa more ds K) (i : Nat) {f : He.Fa} (h : fa[i]? = some f := by rfl) : f.ok K = true := c.bools.1 f (List.mem_of_getElem? h)
theorem Says.fn0 (c : Says fa more ds K) (i : Nat) {d : DD} (h : ds[i]? = some d := by rfl) : d.obs K = some d.fs ∧ d.ok K = true := by
  have e : ds.map (fun d => d.obs K) = ds.map fun d => some d.fs := congrArg (fun z : Seen => z.2) c
  have e2 : (ds.map fun d => d.obs K)[i]? = (ds.map fun d => some d.fs)[i]? := by rw [e]
  rw [List.getElem?_map, List.getElem?_map, h] at e2
  exact ⟨Option.some.inj e2, c.bools.2.2 d (List.mem_of_getElem? h)⟩
theorem Says.fn (c : Says fa more ds K) (i : Nat) {d : DD} (h : ds[i]? = some d := by rfl) (hcl : d.cl = false := by rfl) : ∃ fd, FnP K d fd := DD.fun hcl (c.fn0 i h).1 (c.fn0 i h).2
end
end EB
namespace EB
open PySem PySem.Spec PyProof.Rows L2
theorem pe_cI {X : Cx} {x : Str} {i : Int} {pos : Pos} (hm : ∃ t, X.mg x = some (.int i t)) (hg : Gl X x := by rfl) (hd : (x == ("__debug__" : Str)) = false := by decide) : PE X (.Name x pos) (tC (.int i)) := by
  obtain ⟨t, h⟩ := hm
  exact pe_glob hg h ⟨t, rfl⟩ hd
theorem pe_cS {X : Cx} {x z : Str} {pos : Pos} (hm : ∃ t, X.mg x = some (.str z t)) (hg : Gl X x := by rfl) (hd : (x == ("__debug__" : Str)) = false := by decide) : PE X (.Name x pos) (tC (.str z)) := by
  obtain ⟨t, h⟩ := hm
  exact pe_glob hg h ⟨t, rfl⟩ hd
theorem pe_cC {X : Cx} {x : Str} {C : Addr} {pos : Pos} (hm : X.mg x = some (.ref C)) (hg : Gl X x := by rfl) (hd : (x == ("__debug__" : Str)) = false := by decide) : PE X (.Name x pos) (tC (.ref C)) := pe_glob hg hm rfl hd
/-- a constant of a class, read off the class -/
def okRead (K : PySem.W.Frag) (x : Str) : Bool := PySem.W.readsIn K (He.ga K x) (.type "type") && He.eqO (PySem.W.specialIn K (.ref (He.ga K x)) "__getattribute__") (some (some (.builtin "type.__getattribute__")))
theorem okRead_of {K : PySem.W.Frag} {x : Str} (h : okRead K x = true) : ClX.CRead K (He.ga K x) (.type "type") := by
  obtain ⟨h1, h2⟩ := Bool.and_eq_true_iff.mp h
  exact ⟨h1, He.eqO_ok h2⟩
def okCVal (K : PySem.W.Frag) (x f : Str) (v : V) : Bool := match PySem.W.findCls K (.ref (He.ga K x)) (.type "type") f with
  | some (.val u) => He.relB v u
  | _ => false
theorem okCVal_of {K : PySem.W.Frag} {x f : Str} {v : V} (h : okCVal K x f v = true) : ∃ u, ClX.CVal K (He.ga K x) (.type "type") f v u := by
  unfold okCVal at h
  split at h
  · rename_i u e
    exact ⟨u, e, He.relB_ok h⟩
  · cases h
/-! ### the same rules with the written part named: within a comprehension it may not hang on the block -/
section
variable {X : Cx} {K : PySem.W.Frag}
theorem ix_listK (h : X.K = K) : IxR X (rIxL K) := h ▸ ix_list
theorem ix_seqK (h : X.K = K) : IxR X (rIx K) := h ▸ ix_seq
theorem ix_tupK (h : X.K = K) : IxR X (rIxT K) := h ▸ ix_tup
theorem sl_listK (h : X.K = K) : SlR X (rSlL K) := h ▸ sl_list
theorem sl_tupAK (h : X.K = K) : SlR X (rSlA K) := h ▸ sl_tupA
theorem op_catAK (h : X.K = K) : OpR X (binaryOp .Add) (rCatA K) := h ▸ op_catA
theorem op_in_seqK (h : X.K = K) : OpR X (compareOp .In) (rIn K false) := h ▸ op_in_seq
theorem op_notIn_seqK (h : X.K = K) : OpR X (compareOp .NotIn) (rIn K true) := h ▸ op_notIn_seq
def rLenK (K : PySem.W.Frag) : List V → Hp → VK → Prop := fun xs H Q => ∃ p ys, xs = [.ref p] ∧ (SqL K H p ys ∨ SqT K H p ys) ∧ Q (.int ys.length) H
theorem call_len_seqK (h : X.K = K) : CallR X (.builtin "len") (rLenK K) := h ▸ call_len_seq
theorem cr_sumK (hc : X.calm = true) (h : X.K = K) : CallR X (.builtin "sum") (rSum K) := h ▸ cr_sum hc
theorem pi_listK {tg l : Expr} {tl : TE} (h : X.K = K) (hl : PE X l tl) : PI X tg l (iList K tl) := h ▸ pi_list hl
theorem pi_tupK {tg l : Expr} {tl : TE} (h : X.K = K) (hl : PE X l tl) : PI X tg l (iTup K tl) := h ▸ pi_tup hl
theorem pe_fldK {e : Expr} {f : Str} {ta : TE} {pos : Pos} (h : X.K = K) (he : PE X e ta) (hb : attributeBase e f X.env (eval e X.env) = eval e X.env) : PE X (.Attribute e f pos) (tFld K ta f) := h ▸ pe_fld he hb
end
end EB

/-! an own exception's __init__ that says super().__init__(text) and then keeps one field -/
namespace EB
open PySem PySem.Spec PyProof.Rows L2
/-- its names: two parameters, __class__ from outside, super the built-in -/
structure SupS (p : Str) (sc : Scope) : Prop where
  kind : sc.kind = .function
  co : sc.isCoroutine = false
  gen : sc.isGenerator = false
  cls : sc.names.lookup ("__class__" : Str) = some .free
  sup : sc.names.lookup ("super" : Str) = some .globalImplicit
  self : sc.names.lookup ("self" : Str) = some .local
  par : sc.names.lookup p = some .local
  own : ∀ y ∈ sc.names, y.2 ≠ .cell ∧ (y.2 = .free → y.1 = ("__class__" : Str))
  ne : ("self" : Str) ≠ p
abbrev supEnv (qual : Str) (scope : Scope) (L f : Addr) (cd : Value) (cc : Addr) : Env := PySem.W.ksEnv qual scope L f cd cc
/-- the context of its body -/
def supCx (CX : CXT) (P : Program) (w : World) (K : PySem.W.Frag) (mg : Str → Option Value) (base : Heap) (p qual : Str) (scope : Scope) (f : Addr) (cd : Value) (cc : Addr) (A : Around) (outer : List Env) (s : Shared) (H : Hp) (E : XK) : Cx where
  prog := P
  w := w
  K := K
  mg := mg
  base := base
  A := A.deeper (supEnv qual scope s.heap.objs.size f cd cc)
  N := ["self", p]
  s_0 := s
  H_0 := H
  env := supEnv qual scope s.heap.objs.size f cd cc
  outer := outer
  stack := supEnv qual scope s.heap.objs.size f cd cc :: outer
  ex := []
  fn := fun _ => false
  calm := true
  pn := []
  xe := fun e s' => wpAny (model P w) (A.deeper (supEnv qual scope s.heap.objs.size f cd cc)) (leaving (supEnv qual scope s.heap.objs.size f cd cc) e) (fun _ s'' => CX outer H s E e s'') (fun e' s'' => CX outer H s E e' s'') s'
section
variable {CX : CXT} {P : Program} {w : World} {K : PySem.W.Frag} {mg : Str → Option Value} {base : Heap} {p qual : Str} {scope : Scope} {f cc : Addr} {cd : Value} {A : Around} {outer : List Env} {s : Shared} {H : Hp} {E : XK}
theorem sup_start {h₁ : Heap} {tk : Nat} {v0 v1 : V} {u0 u1 : Value} (S : SupS p scope) (hd : A.handled = none) (e0 : Env0 P w K mg base A outer s H) (hc : ∃ v, base.IsCell cc v) (r0 : RelV v0 u0) (r1 : RelV v1 u1)
    (hns : h₁.Ns s.heap.objs.size fun y => ([("self", u0), (p, u1)] : List (Str × Value)).reverse.lookup y) (kp : ∀ b o, s.heap.get? b = some o → h₁.get? b = some o) :
    Inv (supCx CX P w K mg base p qual scope f cd cc A outer s H E) [] [some v0, some v1] H { s with heap := h₁, toks := tk } := by
  have cl : ∀ {x : Str} {c : Addr}, ([("__class__", cc)] : List (Str × Addr)).lookup x = some c → x = ("__class__" : Str) ∧ c = cc := fun {x c} e => by
    simp only [List.lookup] at e
    split at e
    · rename_i z
      exact ⟨beq_iff_eq.mp z, (Option.some.inj e).symm⟩
    · cases e
  obtain ⟨v, oc, hoc, hdc⟩ := hc
  have bc := e0.bs cc oc hoc
  have noA : ∀ b : Addr, b ∉ (supCx CX P w K mg base p qual scope f cd cc A outer s H E).ex := fun b z => absurd (show b ∈ ([] : List Addr) from z) (by simp)
  refine ⟨⟨e0.mod, S.kind, rfl, rfl, Nat.le_refl _, fun y z c e1 e2 => (cl e1).1.trans (cl e2).1.symm, fun y hy => ?_, fun y c z _ => Bool.noConfusion (show false = true from z), fun _ => hd, Around.frames_deeper e0.frames, .inr ⟨rfl, rfl⟩, fun b z => absurd z (noA b), e0.bs, e0.bsz, fun b _ _ => noA b,
      fun b z => absurd z (noA b), e0.funs, e0.frf⟩,
    rfl, e0.bare, Un.kept kp, ⟨_, hns, fun i y v e1 e2 e3 => ?_⟩, fun y c e => ?_, e0.hok.fresh (Nat.le_refl _), fun y c e => ?_, fun q hq => absurd (show q ∈ ([] : List (Addr × Obj)) ++ [] from hq) (by simp), e0.hok.kept kp, rfl⟩
  · have hy : scope.names.lookup y = some .cell ∨ scope.names.lookup y = some .free := hy
    rcases hy with hy | hy
    · exact absurd rfl (S.own _ (PySem.mem_of_lookup hy)).1
    · have z := (S.own _ (PySem.mem_of_lookup hy)).2 rfl
      dsimp only at z
      subst z
      exact ⟨cc, rfl⟩
  · have e1 : (["self", p] : List Str)[i]? = some y := e1
    match i, e1, e2 with
    | 0, e1, e2 =>
      cases e1
      cases e2
      refine ⟨u0, r0, .inl ⟨S.self, ?_⟩⟩
      have ne : (("self" : Str) == p) = false := by simpa using S.ne
      show List.lookup ("self" : Str) [(p, u1), ("self", u0)] = some u0
      simp only [List.lookup, ne, beq_self_eq_true]
    | 1, e1, e2 =>
      cases e1
      cases e2
      refine ⟨u1, r1, .inl ⟨S.par, ?_⟩⟩
      show List.lookup p [(p, u1), ("self", u0)] = some u1
      simp only [List.lookup, beq_self_eq_true]
    | i + 2, e1, _ => exact nomatch e1
  · obtain ⟨_, rfl⟩ := cl e
    exact ⟨v, oc, kp _ _ bc.1, hdc⟩
  · obtain ⟨_, rfl⟩ := cl e
    exact bc.2
/-- what the written part says of such a def f, its code, its cell, its class -/
structure SupF (P : Program) (K : PySem.W.Frag) (mg : Str → Option Value) (qual : Str) (params : Arguments) (body : List Stmt) (scope : Scope) (f : Addr) (fd : FuncData) (C cda cc : Addr) : Prop where
  fn : ∃ oc od kV doc pm an ct osl, fd = PySem.W.ksFn "__init__" qual params body scope .none kV doc pm an (.ref cda) ct cc ∧ K.lookup f = some ⟨oc, od, .func fd, osl⟩
  cd : PySem.W.codeIn K (.ref cda) qual = true
  code : ∃ ccl cdd vs ccs file tf, K.lookup cda = some ⟨ccl, cdd, .fields vs, ccs⟩ ∧ vs[2]? = some (.str file tf) ∧ ((P.main.file : Str) == file) = true
  cell : ∃ cl cld csl, K.lookup cc = some ⟨cl, cld, .cell (some (.ref C)), csl⟩
  par : ∃ ar, (params.posonlyargs ++ params.args).head? = some ar ∧ ar.arg = ("self" : Str)
  top : (P.main.scope.names.lookup ("super" : Str)).isSome = false
  mgs : mg "super" = none
  cls : ∃ cd, PySem.W.clsIn K C = some cd
  self : PySem.W.mroIn K C (.ref C) = some true
  init : PySem.W.ks_superIn K C C "__init__" = some (some (.builtin "ValueError.__init__"))
  val : PySem.W.subIn K (.ref C) (.type "ValueError") = some true
  opq : PySem.W.nsIn K cStatics "thirdparty.any" = some none
  oex : OexC K C
theorem boot_super : bootBuiltins "super" = some (.type "super") := by decide +kernel
section
variable {cda C a : Addr} {params : Arguments} {body : List Stmt} {fd : FuncData} {pins : List (Addr × Obj)} {σ : L2.St} {H1 : Hp} {s1 : Shared} {x1 : Option V} {e : Expr} {es : List Expr} {t : TA} {p0 p1 p2 p3 pos : Pos} {pl : Sem Bool} {R : Hp → Prop}
theorem sup_stmt (S : SupS p scope) (F : SupF P K mg qual params body scope f fd C cda cc) (I : Inv (supCx CX P w K mg base p qual scope f (.ref cda) cc A outer s H E) pins [some (.ref a), x1] H1 s1) (ea : H1 a = some (exo a C none))
    (ha : PA (supCx CX P w K mg base p qual scope f (.ref cda) cc A outer s H E) (e :: es) t) (ht : t [some (.ref a), x1] H1 fun vs H2 => vs.length ≤ 1000 ∧ H2 a = some (exo a C none) ∧ R H2)
    (he : starEach (e :: es) (supEnv qual scope s.heap.objs.size f (.ref cda) cc) = (false, eval e (supEnv qual scope s.heap.objs.size f (.ref cda) cc)) :: starEach es (supEnv qual scope s.heap.objs.size f (.ref cda) cc) := by rfl) (hpl : (backTo pos (starEach es (supEnv qual scope s.heap.objs.size f (.ref cda) cc))).any (·.1) = false := by rfl)
    (hc : eval (.Call (.Attribute (.Call (.Name "super" p0) [] [] p1) "__init__" p2) (e :: es) [] pos) (supEnv qual scope s.heap.objs.size f (.ref cda) cc) = (do
      let ov ← attributeBase (.Call (.Name "super" p0) [] [] p1) "__init__" (supEnv qual scope s.heap.objs.size f (.ref cda) cc) (eval (.Call (.Name "super" p0) [] [] p1) (supEnv qual scope s.heap.objs.size f (.ref cda) cc))
      standAt p2.atName
      let (g, first) ← holding [ov] (getMethod ov "__init__" pl)
      callWith pos g first (backTo pos (starEach (e :: es) (supEnv qual scope s.heap.objs.size f (.ref cda) cc))) []) := by rfl)
    (hi : interactive (supEnv qual scope s.heap.objs.size f (.ref cda) cc) = false := by rfl)
    (hsw : swapsWith (.Call (.Attribute (.Call (.Name "super" p0) [] [] p1) "__init__" p2) (e :: es) [] pos) none p3.line (supEnv qual scope s.heap.objs.size f (.ref cda) cc) = pure false := by rfl) :
    PySem.wpAt (model P w) (A.deeper (supEnv qual scope s.heap.objs.size f (.ref cda) cc)) (.func body (supEnv qual scope s.heap.objs.size f (.ref cda) cc))
      (exec (.Expr (.Call (.Attribute (.Call (.Name "super" p0) [] [] p1) "__init__" p2) (e :: es) [] pos) p3) (supEnv qual scope s.heap.objs.size f (.ref cda) cc))
      (fun fl s' => fl = .next ∧ ∃ H2, Inv (supCx CX P w K mg base p qual scope f (.ref cda) cc A outer s H E) pins [some (.ref a), x1] H2 s' ∧ R H2)
      (supCx CX P w K mg base p qual scope f (.ref cda) cc A outer s H E).xe s1 := by
  obtain ⟨oc, od, kV, doc, pm, an, ct, osl, rfl, lk⟩ := F.fn
  obtain ⟨ccl, cdd, vs, ccs, file, tf, hcode, hvs, hfile⟩ := F.code
  obtain ⟨cl, cld, csl, hcell⟩ := F.cell
  obtain ⟨ar, hp, har⟩ := F.par
  obtain ⟨cdD, hD⟩ := F.cls
  have X : K.In s1.heap := I.kIn
  obtain ⟨oD, hD1, hD2⟩ : ∃ oD, s1.heap.get? C = some oD ∧ oD.data = .cls cdD := by
    unfold PySem.W.clsIn at hD
    split at hD
    · rename_i c d cd' sl ho
      cases hD
      exact ⟨_, X _ _ ho, rfl⟩
    · cases hD
  obtain ⟨t1, hox⟩ := exo_at I.hok ea
  refine ks_wpAt_Expr_any (ks_wpAt_MethodCall (pl := pl) ?_ hc) hi hsw
  refine ks_wpAt_super_base (env := supEnv qual scope s.heap.objs.size f (.ref cda) cc) S.sup S.cls rfl rfl (X _ _ lk) rfl hp rfl (X _ _ hcode) rfl hvs hfile F.top ?_
  obtain ⟨mb, hb1, hb2⟩ := I.mod.blt
  refine PySem.W.ks_loadName_global S.kind S.sup (PySem.Calls.loadGlobal_builtin (I.mod.glob.keeps I.bk) F.mgs (hb1.keeps I.bk) ((hb2 _ (by decide)).trans boot_super) ⟨rfl, ?_⟩)
  refine wpAny_loadName_free S.kind S.cls rfl ⟨_, X _ _ hcell, rfl⟩ ?_
  obtain ⟨m, hns, hl⟩ := I.loc
  obtain ⟨u, ru, hu⟩ := hl 0 "self" (.ref a) rfl rfl (.inl S.self)
  obtain rfl : u = Value.ref a := ru
  have hm : m "self" = some (.ref a) := by
    rcases hu with ⟨_, z⟩ | ⟨z, _⟩
    · exact z
    · have z : scope.names.lookup ("self" : Str) = some NameKind.cell ∨ scope.names.lookup ("self" : Str) = some NameKind.free := z
      rw [S.self] at z
      rcases z with z | z <;> cases z
  refine wpAny_loadName_local S.kind (show scope.names.lookup ar.arg = some .local by rw [har]; exact S.self) hns (by rw [har]; exact hm) ?_
  obtain ⟨hh, g, d, tk, os⟩ := s1
  refine ks_wpAny_isType_cls hD1 hD2 ⟨rfl, ?_⟩
  refine ks_wpAny_call_super hD1 hD2 hox rfl (fun c z => nomatch z) (PySem.W.looks_mroIn X F.self) (fun h' e1 k1 => ?_)
  have I1 := ClX.pin_new (t' := tk) I k1 (Nat.le_refl _) e1 (fun v z => nomatch z)
  have X1 : K.In h' := X.keeps k1
  have J1 : PySem.W.InstAt h' a _ C none := ⟨k1 _ _ hox, rfl, rfl, trivial⟩
  have hin := F.init
  unfold PySem.W.ks_superIn at hin
  rw [hD] at hin
  refine PySem.W.kxs_getMethod PySem.W.kxs_ValueError e1 (PySem.W.looks_opaque X1 F.opq) (l₀ := cdD.mro) (fun A Q E s k q => wpAny_bind ((PySem.W.looks_clsIn X1 hD) A _ E s k (wpAny_pure q))) rfl X1 hin (J1.type.andThen (PySem.W.looks_subIn X1 F.val)) (PySem.W.ks_ne X1 J1 hD) rfl ?_
  have I2 := ClX.pin_new (o := PySem.W.kxs_mw "ValueError.__init__" a) (h' := h'.push (PySem.W.kxs_mw "ValueError.__init__" a)) (t' := tk + 1) I1 (fun _ _ z => Heap.get?_push_of_some _ z) (Nat.le_refl _) (Heap.get?_push_size h' rfl) (fun v z => nomatch z)
  have hA : wpAny _ _ (spliced (backTo pos (starEach (e :: es) (supEnv qual scope s.heap.objs.size f (.ref cda) cc)))) _ _ _ := ha.run pos _ _ _ _ _ I2 ht
  rw [he] at hA ⊢
  refine PySem.W.kxs_callWith (i := "ValueError.__init__") (x := a) (by show (false || (backTo pos (starEach es (supEnv qual scope s.heap.objs.size f (.ref cda) cc))).any (·.1)) = false; rw [hpl]; rfl) (PySem.Calls.evalArgs_plain (thn hA fun us s3 ⟨vs2, H3, I3, r3, hz, ea3, hR⟩ => ?_))
  have hu := ClX.pin_at I3
  refine ⟨hu, ?_⟩
  have hlen : us.length ≤ sizeLine := by
    rw [← Paired.length r3, sizeLine_eq]
    omega
  obtain ⟨t3, hox3⟩ := exo_at I3.hok ea3
  obtain ⟨nm, q, N', bs, bm, sn, sub, ab, col, dd, k0, k1', k2, k3, k5, hC, hbm⟩ := F.oex.cls
  obtain ⟨hh3, g3, d3, tk3, os3⟩ := s3
  refine wpAny_call (codeAny_of_tree ?_)
  show wpAny _ _ (callAny (.ref h'.objs.size) ⟨us, []⟩) _ _ _
  simp only [callAny]
  refine wpAny_bind (wpAny_load hu ?_)
  simp only [PySem.W.kxs_mw, show (Value.type "method-wrapper" == Value.type "method" || Value.type "method-wrapper" == Value.type "builtin_function_or_method" || Value.type "method-wrapper" == Value.type "method-wrapper") = true by decide, if_true]
  refine PySem.W.KFB.if_so (by decide) ?_
  refine wpAny_bind (PySem.W.check_bound_init PySem.F.excBase_ValueError.toExcCallFacts (I3.kIn _ _ hC) hox3 rfl ?_)
  refine wpAny_bind (wpAny_pure (wpAny_pure ?_))
  refine ⟨plainId_quiet PySem.F.excBase_ValueError.init.plain _, codeAny_builtin PySem.F.excBase_ValueError.initEntry ?_⟩
  refine PySem.W.exc_init_tree (cls := .ref C) (t0 := t3) (dv := none) (c2 := .none) (c3 := .none) (b4 := .bool false) hox3 hlen fun h4 k4 e4 _ => ?_
  have J := I3.write (t' := tk3) (x := a) (e := a) (o := exo a C none) (by rw [ea3]; exact True.intro) (.inl rfl) k4 ⟨_, e4⟩ (exo_ok e4)
  have eu : upd H3 a (exo a C none) = H3 := by
    funext b
    by_cases hb : b = a
    · rw [hb, upd_same, ea3]
    · rw [upd_ne hb]
  rw [eu] at J
  exact ⟨trivial, H3, ClX.unpin (ClX.unpin J), hR⟩
/-- such a def, by its two statements -/
theorem sup_of {k : Nat} {st : Stmt} {tA : TA} {tB : TS} (S : SupS p scope) (F : SupF P K mg qual params [.Expr (.Call (.Attribute (.Call (.Name "super" p0) [] [] p1) "__init__" p2) (e :: es) [] pos) p3, st] scope f fd C cda cc)
    (hcell : ∃ v, base.IsCell cc v)
    (ha : ∀ (A : Around) (outer : List Env) (s : Shared) (H : Hp) (E : XK), PA (supCx CX P w K mg base p qual scope f (.ref cda) cc A outer s H E) (e :: es) tA)
    (hst : ∀ (A : Around) (outer : List Env) (s : Shared) (H : Hp) (E : XK), PSs (supCx CX P w K mg base p qual scope f (.ref cda) cc A outer s H E) [st] tB)
    (he : ∀ L, starEach (e :: es) (supEnv qual scope L f (.ref cda) cc) = (false, eval e (supEnv qual scope L f (.ref cda) cc)) :: starEach es (supEnv qual scope L f (.ref cda) cc) := by intro _; rfl) (hpl : ∀ L, (backTo pos (starEach es (supEnv qual scope L f (.ref cda) cc))).any (·.1) = false := by intro _; rfl)
    (hc : ∀ L, eval (.Call (.Attribute (.Call (.Name "super" p0) [] [] p1) "__init__" p2) (e :: es) [] pos) (supEnv qual scope L f (.ref cda) cc) = (do
      let ov ← attributeBase (.Call (.Name "super" p0) [] [] p1) "__init__" (supEnv qual scope L f (.ref cda) cc) (eval (.Call (.Name "super" p0) [] [] p1) (supEnv qual scope L f (.ref cda) cc))
      standAt p2.atName
      let (g, first) ← holding [ov] (getMethod ov "__init__" pl)
      callWith pos g first (backTo pos (starEach (e :: es) (supEnv qual scope L f (.ref cda) cc))) []) := by intro _; rfl)
    (hi : ∀ L, interactive (supEnv qual scope L f (.ref cda) cc) = false := by intro _; rfl)
    (hsw : ∀ L, swapsWith (.Call (.Attribute (.Call (.Name "super" p0) [] [] p1) "__init__" p2) (e :: es) [] pos) none p3.line (supEnv qual scope L f (.ref cda) cc) = pure false := by intro _; rfl) :
    FnOk P w K mg base CX (k + 1) f fd ["self", p] (fun vs H Q _ => ∃ (a : Addr) (v : V), vs = [.ref a, v] ∧ H a = some (exo a C none) ∧
      tA [some (.ref a), some v] H fun ws H2 => ws.length ≤ 1000 ∧ H2 a = some (exo a C none) ∧ tB { nx := fun _ H' => Q .non H', rt := Q } [some (.ref a), some v] H2) := by
  have F0 := F
  obtain ⟨oc, od, kV, doc, pm, an, ct, osl, rfl, lk⟩ := F.fn
  refine ⟨fun vs H Q E h => ?_, fun A outer s H args us vs Q E hr e0 hb r hsp => ?_⟩
  · obtain ⟨a, v, rfl, _⟩ := h
    rfl
  obtain ⟨a, v, rfl, ea, ht⟩ := hsp
  have KX : K.In s.heap := e0.mod.kin.keeps fun b o e => (e0.bs b o e).1
  have lim : s.heap.NoLimit := e0.mod.nolimit.keeps fun b o e => (e0.bs b o e).1
  cases r with
  | @cons _ u0 _ ur ra rw' =>
  cases rw' with
  | @cons _ u1 _ ur' rb rn =>
  cases rn
  have hloc : ∀ x ∈ (["self", p] : List Str).zip [u0, u1], scope.names.lookup x.1 = some .local := fun x hx => by
    have hx : x ∈ [(("self" : Str), u0), (p, u1)] := hx
    simp only [List.mem_cons, List.not_mem_nil, or_false] at hx
    rcases hx with rfl | rfl
    · exact S.self
    · exact S.par
  refine ks_codeAny_call_defAt (body := [.Expr (.Call (.Attribute (.Call (.Name "super" p0) [] [] p1) "__init__" p2) (e :: es) [] pos) p3, st]) (binds := (["self", p] : List Str).zip [u0, u1]) hr.depth (KX _ _ lk) rfl lim (PySem.W.codeRec_of KX F.cd) rfl hb (fun x hx => (S.own x hx).1) hloc (fun h₁ hns kp => ?_) S.co S.gen S.kind
  have I : Inv (supCx CX P w K mg base p qual scope f (.ref cda) cc A outer s H E) [] [some (.ref a), some v] H { s with heap := h₁, toks := s.toks + 2 } := sup_start S hr.hd e0 hcell ra rb hns kp
  refine ks_wpAt_execs_cons (ks_wpAt_mono (sup_stmt S F0 I ea (ha A outer s H E) ht (he _) (hpl _) (hc _) (hi _) (hsw _)) (fun fl s' h => ?_) fun _ _ z => z)
  obtain ⟨rfl, H2, I2, h2⟩ := h
  refine wpAt_of_wpAny (wpAny_mono ((hst A outer s H E).run [] s' _ H2 _ I2 h2) (fun fl s2 hs => ?_) fun _ _ z => z)
  have fin : ∀ {σ' : L2.St} {H' : Hp} {v' : V} {u : Value}, Inv (supCx CX P w K mg base p qual scope f (.ref cda) cc A outer s H E) [] σ' H' s2 → RelV v' u → Q v' H' → CE outer P w H s Q u s2 :=
    fun {σ' H' v' u} J rv q => ⟨v', H', J.os, J.bare, J.base, J.hok, rv, q⟩
  cases fl with
  | ret u =>
    obtain ⟨v', σ', H', J, rv, q⟩ := hs
    exact fin J rv q
  | next =>
    obtain ⟨σ', H', J, q⟩ := hs
    exact fin (v' := V.non) (u := Value.none) J rfl q
  | brk =>
    obtain ⟨_, _, _, q⟩ := hs
    exact False.elim q
  | cont =>
    obtain ⟨_, _, _, q⟩ := hs
    exact False.elim q
end
end
end EB

/-! what the head says of own exceptions, as Bools -/
namespace EB
open PySem PySem.Spec PyProof.Rows L2
def okOexCls (K : PySem.W.Frag) (C : Addr) : Bool := match K.lookup C with
  | some ⟨.type t, _, .cls cd, sl⟩ => decide (t = "type") && (match cd.mro, sl.toList with
    | .ref C' :: bm, [_, _, _, _, some (.builtin n), _] => decide (C' = C) && (decide (n = "ValueError.__new__") && (!cd.hasDel && (cd.hasDict && PySem.HandSPX.refsVE bm)))
    | _, _ => false)
  | _ => false
def okOex (K : PySem.W.Frag) (C : Addr) : Bool := okOexCls K C && (He.eqO (PySem.W.findIn K (.ref C) "__setattr__") (some (some (.builtin "object.__setattr__"))) && (decide (PySem.W.subIn K (.ref C) (.type "BaseException") = some true) &&
  (decide (PySem.W.typeIn K (.ref C) = some (.type "type")) && PySem.W.keepIn K (.ref C))))
theorem okOexCls_of {K : PySem.W.Frag} {C : Addr} (h : okOexCls K C = true) : ∃ nm q N bs bm sn sub ab col dd k0 k1 k2 k3 k5, K.lookup C = some (excClassObj nm q C N bs bm true sn sub ab col dd k0 k1 k2 k3 k5 "ValueError.__new__") ∧ PySem.HandSPX.refsVE bm = true := by
  unfold okOexCls at h
  split at h
  · rename_i t dd cd sl ho
    obtain ⟨h1, h⟩ := Bool.and_eq_true_iff.mp h
    have h1 : t = "type" := of_decide_eq_true h1
    split at h
    · rename_i C' bm k0 k1 k2 k3 n k5 hm hs
      obtain ⟨h2, h⟩ := Bool.and_eq_true_iff.mp h
      obtain ⟨h3, h⟩ := Bool.and_eq_true_iff.mp h
      obtain ⟨h4, h⟩ := Bool.and_eq_true_iff.mp h
      obtain ⟨h5, h6⟩ := Bool.and_eq_true_iff.mp h
      have h2 : C' = C := of_decide_eq_true h2
      have h3 : n = "ValueError.__new__" := of_decide_eq_true h3
      obtain ⟨nm, bs, mro, ns, qn, hd, sn, sub, ab, col, del⟩ := cd
      dsimp only at hm h4 h5
      have hdel : del = false := by
        cases del with
        | false => rfl
        | true => cases h4
      have hsl : sl = #[k0, k1, k2, k3, some (.builtin n), k5] := by
        obtain ⟨l⟩ := sl
        simp only at hs
        rw [hs]
      subst h1 h2 h3 hm hdel hsl
      have h5 : hd = true := h5
      subst h5
      exact ⟨nm, qn, ns, bs, bm, sn, sub, ab, col, dd, k0, k1, k2, k3, k5, ho, h6⟩
    · cases h
  · cases h
theorem okOex_of {K : PySem.W.Frag} {C : Addr} (h : okOex K C = true) : OexC K C := by
  obtain ⟨h1, h⟩ := Bool.and_eq_true_iff.mp h
  obtain ⟨h2, h⟩ := Bool.and_eq_true_iff.mp h
  obtain ⟨h3, h⟩ := Bool.and_eq_true_iff.mp h
  obtain ⟨h4, h5⟩ := Bool.and_eq_true_iff.mp h
  exact ⟨okOexCls_of h1, He.eqO_ok h2, of_decide_eq_true h3, of_decide_eq_true h4, h5⟩
/-- the def's code object, its cell -/
def codeA (K : PySem.W.Frag) (a : Addr) : Addr := match fdAt K a with
  | some fd => (match fd.code with
    | .ref c => c
    | _ => 0)
  | none => 0
def cellA (K : PySem.W.Frag) (a : Addr) : Addr := match fdAt K a with
  | some fd => (match fd.closure with
    | [(_, c)] => c
    | _ => 0)
  | none => 0
def okSup (K : PySem.W.Frag) (x file : Str) (a : Addr) : Bool :=
  (match fdAt K a with
    | some fd => (match fd.closure with
      | [(n, _)] => decide (n = ("__class__" : Str))
      | _ => false) && (match fd.code with
      | .ref _ => true
      | _ => false)
    | none => false) &&
  ((match K.lookup (codeA K a) with
    | some ⟨_, _, .fields vs, _⟩ => (match (vs[2]? : Option Value) with
      | some (Value.str f _) => decide (f = file)
      | _ => false)
    | _ => false) &&
  ((match K.lookup (cellA K a) with
    | some ⟨_, _, .cell (some (.ref D)), _⟩ => decide (D = He.ga K x)
    | _ => false) &&
  ((PySem.W.clsIn K (He.ga K x)).isSome && (decide (PySem.W.mroIn K (He.ga K x) (.ref (He.ga K x)) = some true) && (He.eqO (PySem.W.ks_superIn K (He.ga K x) (He.ga K x) "__init__") (some (some (.builtin "ValueError.__init__"))) &&
  (decide (PySem.W.subIn K (.ref (He.ga K x)) (.type "ValueError") = some true) && (decide (PySem.W.nsIn K cStatics "thirdparty.any" = some none) && okOex K (He.ga K x))))))))
/-- all of it but the def's text -/
structure SupG (K : PySem.W.Frag) (file : Str) (a C : Addr) : Prop where
  code : ∃ ccl cdd vs ccs tf, K.lookup (codeA K a) = some ⟨ccl, cdd, .fields vs, ccs⟩ ∧ vs[2]? = some (.str file tf)
  cell : ∃ cl cld csl, K.lookup (cellA K a) = some ⟨cl, cld, .cell (some (.ref C)), csl⟩
  fd : ∀ fd, fdAt K a = some fd → fd.closure = [(("__class__" : Str), cellA K a)] ∧ fd.code = .ref (codeA K a)
  cls : ∃ cd, PySem.W.clsIn K C = some cd
  self : PySem.W.mroIn K C (.ref C) = some true
  init : PySem.W.ks_superIn K C C "__init__" = some (some (.builtin "ValueError.__init__"))
  val : PySem.W.subIn K (.ref C) (.type "ValueError") = some true
  opq : PySem.W.nsIn K cStatics "thirdparty.any" = some none
  oex : OexC K C
theorem okSup_of {K : PySem.W.Frag} {x file : Str} {a : Addr} (h : okSup K x file a = true) : SupG K file a (He.ga K x) := by
  obtain ⟨h1, h⟩ := Bool.and_eq_true_iff.mp h
  obtain ⟨h2, h⟩ := Bool.and_eq_true_iff.mp h
  obtain ⟨h3, h⟩ := Bool.and_eq_true_iff.mp h
  obtain ⟨h4, h⟩ := Bool.and_eq_true_iff.mp h
  obtain ⟨h5, h⟩ := Bool.and_eq_true_iff.mp h
  obtain ⟨h6, h⟩ := Bool.and_eq_true_iff.mp h
  obtain ⟨h7, h⟩ := Bool.and_eq_true_iff.mp h
  obtain ⟨h8, h9⟩ := Bool.and_eq_true_iff.mp h
  refine ⟨?_, ?_, fun fd e => ?_, Option.isSome_iff_exists.mp h4, of_decide_eq_true h5, He.eqO_ok h6, of_decide_eq_true h7, of_decide_eq_true h8, okOex_of h9⟩
  · split at h2
    · rename_i o1 o2 vs o3 e
      split at h2
      · rename_i f tk e2
        rw [of_decide_eq_true h2] at e2
        exact ⟨_, _, vs, _, tk, e, e2⟩
      · cases h2
    · cases h2
  · split at h3
    · rename_i o1 o2 D o3 e
      rw [of_decide_eq_true h3] at e
      exact ⟨_, _, _, e⟩
    · cases h3
  · unfold cellA codeA
    rw [e] at h1 ⊢
    obtain ⟨k1, k2⟩ := Bool.and_eq_true_iff.mp h1
    refine ⟨?_, ?_⟩
    · clear h1 k2
      dsimp only
      split at k1
      · rename_i n c e2
        rw [e2, of_decide_eq_true k1]
      · cases k1
    · clear h1 k1
      dsimp only
      split at k2
      · rename_i c e2
        rw [e2]
      · cases k2
theorem DD.funS {P : Program} {K : PySem.W.Frag} {mg : Str → Option Value} {d : DD} {file x : Str} {ar : Arg} (hcl : d.cl = true) (hdf : d.df = []) (hn : d.nm = ("__init__" : Str)) (e : d.obs K = some d.fs) (c : d.ok K = true) (g : SupG K file (d.adr K) (He.ga K x))
    (hfile : ((P.main.file : Str) == file) = true) (htop : (P.main.scope.names.lookup ("super" : Str)).isSome = false) (hmg : mg "super" = none) (hp : ((defArgs d.st).posonlyargs ++ (defArgs d.st).args).head? = some ar) (har : ar.arg = ("self" : Str)) :
    ∃ fd, SupF P K mg d.ql (defArgs d.st) (defBody d.st) (defScope d.st) (d.adr K) fd (He.ga K x) (codeA K (d.adr K)) (cellA K (d.adr K)) := by
  obtain ⟨kp, c2⟩ := Bool.and_eq_true_iff.mp c
  unfold DD.obs at e
  cases q : fdAt K (d.adr K) with
  | none =>
    rw [q] at e
    cases e
  | some fd =>
    obtain ⟨g1, g2⟩ := g.fd fd q
    rw [q] at e c2
    rw [hcl] at e
    obtain ⟨c3, c4⟩ := Bool.and_eq_true_iff.mp c2
    unfold fdAt at q
    cases l : K.lookup (d.adr K) with
    | none =>
      rw [l] at q
      cases q
    | some o =>
      rw [l] at q
      obtain ⟨oc, od, dt, osl⟩ := o
      cases dt with
      | func fd' =>
        have ef : fd' = fd := Option.some.inj q
        subst ef
        have e2 : fsOf { fd' with closure := [] } = d.fs := Option.some.inj e
        obtain ⟨n1, n2, n3, n4, n5, n6, n7, n8, n9, n10, n11, n12, n13, n14, n15⟩ := fd'
        simp only [fsOf, DD.fs, Prod.mk.injEq] at e2
        obtain ⟨h1, h2, h3, h4, h5, h6, h7, h8⟩ := e2
        dsimp only at g1 g2 c3
        rw [hn] at h1
        subst h1 h2 h3 h4 h5 h6 h8
        obtain ⟨ccl, cdd, vs, ccs, tf, k1, k2⟩ := g.code
        have hdv : n8 = .none := by
          have z := He.dflB_ok c4
          rw [hdf] at z
          rcases z with ⟨_, h⟩ | ⟨h, _⟩
          · exact h
          · exact absurd rfl h
        subst hdv
        refine ⟨_, ⟨oc, od, n9, n10, n11, n12, n14, osl, ?_, l⟩, by rw [← g2]; exact c3, ⟨ccl, cdd, vs, ccs, file, tf, k1, k2, hfile⟩, g.cell, ⟨ar, hp, har⟩, htop, hmg, g.cls, g.self, g.init, g.val, g.opq, g.oex⟩
        rw [g1, g2]
      | _ => cases q
end EB

/-! an own exception class: what the head says of it -/
namespace EB
open PySem PySem.Spec PyProof.Rows L2
abbrev bmV : List Value := [.type "ValueError", .type "Exception", .type "BaseException", .type "object"]
structure ExcG (K : PySem.W.Frag) (x : Str) (C : Addr) : Prop where
  keep : PySem.W.keepIn K (.ref C) = true
  base : PySem.W.subIn K (.ref C) (.type "BaseException") = some true
  ty : PySem.W.typeIn K (.ref C) = some (.type "type")
  self : PySem.W.subIn K (.ref C) (.ref C) = some true
  trade : PySem.W.subIn K (.ref C) (.ref (He.ga K "TradeError")) = some true
  val : PySem.W.subIn K (.ref C) (.type "ValueError") = some true
  isc : PySem.W.isClsIn K C = true
structure ExcN (K : PySem.W.Frag) (x : Str) (C : Addr) : Prop extends ExcG K x C where
  own : PySem.W.excIn K C bmV "ValueError.__new__" = true
structure ExcI (K : PySem.W.Frag) (x : Str) (C : Addr) : Prop extends ExcG K x C where
  ini : PySem.W.findIn K (.ref C) "__init__" = some (some (.ref (He.ma K C "__init__")))
  tyi : PySem.W.typeIn K (.ref (He.ma K C "__init__")) = some (.type "function")
  idx : PySem.W.findIn K (.ref C) "index" = some none
def okExc0 (K : PySem.W.Frag) (C : Addr) : Bool := PySem.W.keepIn K (.ref C) && (decide (PySem.W.subIn K (.ref C) (.type "BaseException") = some true) && (decide (PySem.W.typeIn K (.ref C) = some (.type "type")) && (decide (PySem.W.subIn K (.ref C) (.ref C) = some true) &&
  (decide (PySem.W.subIn K (.ref C) (.ref (He.ga K "TradeError")) = some true) && (decide (PySem.W.subIn K (.ref C) (.type "ValueError") = some true) && PySem.W.isClsIn K C)))))
def okExc (K : PySem.W.Frag) (x : Str) : Bool := okExc0 K (He.ga K x) && PySem.W.excIn K (He.ga K x) bmV "ValueError.__new__"
def okExcI (K : PySem.W.Frag) (x : Str) : Bool := okExc0 K (He.ga K x) && (He.eqO (PySem.W.findIn K (.ref (He.ga K x)) "__init__") (some (some (.ref (He.ma K (He.ga K x) "__init__")))) &&
  (decide (PySem.W.typeIn K (.ref (He.ma K (He.ga K x) "__init__")) = some (.type "function")) && decide (PySem.W.findIn K (.ref (He.ga K x)) "index" = some none)))
theorem okExc_of {K : PySem.W.Frag} {x : Str} (h : okExc K x = true) : ExcN K x (He.ga K x) := by
  obtain ⟨h, h0⟩ := Bool.and_eq_true_iff.mp h
  obtain ⟨h1, h⟩ := Bool.and_eq_true_iff.mp h
  obtain ⟨h2, h⟩ := Bool.and_eq_true_iff.mp h
  obtain ⟨h3, h⟩ := Bool.and_eq_true_iff.mp h
  obtain ⟨h4, h⟩ := Bool.and_eq_true_iff.mp h
  obtain ⟨h5, h⟩ := Bool.and_eq_true_iff.mp h
  obtain ⟨h6, h7⟩ := Bool.and_eq_true_iff.mp h
  exact ⟨⟨h1, of_decide_eq_true h2, of_decide_eq_true h3, of_decide_eq_true h4, of_decide_eq_true h5, of_decide_eq_true h6, h7⟩, h0⟩
theorem okExcI_of {K : PySem.W.Frag} {x : Str} (h : okExcI K x = true) : ExcI K x (He.ga K x) := by
  obtain ⟨h, h0⟩ := Bool.and_eq_true_iff.mp h
  obtain ⟨k1, k⟩ := Bool.and_eq_true_iff.mp h0
  obtain ⟨k2, k3⟩ := Bool.and_eq_true_iff.mp k
  obtain ⟨h1, h⟩ := Bool.and_eq_true_iff.mp h
  obtain ⟨h2, h⟩ := Bool.and_eq_true_iff.mp h
  obtain ⟨h3, h⟩ := Bool.and_eq_true_iff.mp h
  obtain ⟨h4, h⟩ := Bool.and_eq_true_iff.mp h
  obtain ⟨h5, h⟩ := Bool.and_eq_true_iff.mp h
  obtain ⟨h6, h7⟩ := Bool.and_eq_true_iff.mp h
  exact ⟨⟨h1, of_decide_eq_true h2, of_decide_eq_true h3, of_decide_eq_true h4, of_decide_eq_true h5, of_decide_eq_true h6, h7⟩, He.eqO_ok k1, of_decide_eq_true k2, of_decide_eq_true k3⟩
end EB

/-! isinstance of a caught error of an own class, with or without fields of its own -/
namespace EB
open PySem PySem.Spec PyProof.Rows L2
def okExcC (K : PySem.W.Frag) (D : Addr) : Bool := He.eqO (PySem.W.findIn K (.ref D) "__getattribute__") (some (some (.builtin "BaseException.__getattribute__"))) && (decide (PySem.W.findIn K (.ref D) "__getattr__" = some none) && (decide (PySem.W.subIn K (.ref D) (.type "BaseException") = some true) &&
  (PySem.W.hasDictIn K D && (He.eqO (PySem.W.findIn K (.ref D) "__class__") (some (some (.builtin "object.__class__"))) && (He.eqO (PySem.W.specialIn K (.builtin "object.__class__") "__get__") (some (some (.builtin "getset_descriptor.__get__"))) &&
  (decide (PySem.W.takesIn K (.builtin "object.__class__") = some true) && decide (PySem.W.mroIn K D (.type "object") = some true)))))))
theorem okExcC_of {K : PySem.W.Frag} {D : Addr} (h : okExcC K D = true) : ExcC K D ∧ XfC K D := by
  obtain ⟨h1, h⟩ := Bool.and_eq_true_iff.mp h
  obtain ⟨h2, h⟩ := Bool.and_eq_true_iff.mp h
  obtain ⟨h3, h⟩ := Bool.and_eq_true_iff.mp h
  obtain ⟨h4, h⟩ := Bool.and_eq_true_iff.mp h
  obtain ⟨h5, h⟩ := Bool.and_eq_true_iff.mp h
  obtain ⟨h6, h⟩ := Bool.and_eq_true_iff.mp h
  obtain ⟨h7, h8⟩ := Bool.and_eq_true_iff.mp h
  exact ⟨⟨He.eqO_ok h1, of_decide_eq_true h2, of_decide_eq_true h3, h4, He.eqO_ok h5, He.eqO_ok h6, of_decide_eq_true h7, of_decide_eq_true h8⟩, ⟨He.eqO_ok h1, of_decide_eq_true h2, of_decide_eq_true h3, h4⟩⟩
/-- isinstance(e, c), e the exception that the suite holds, of the class cls, its dict d -/
def rIsX (K : PySem.W.Frag) (cls : Value) (d : Option Addr) (a : Addr) : List V → Hp → VK → Prop := fun xs H Q => ∃ (D : Addr) (c : V) (cv : Value) (b : Bool), cls = .ref D ∧ ExcC K D ∧ (d = none ∨ ∃ dd fs, d = some dd ∧ H dd = some (.xd fs)) ∧
  xs = [.ref a, c] ∧ (∀ u, RelV c u → u = cv) ∧ PySem.W.kitOne K (.ref D) cv = some b ∧ Q (.bl b) H
theorem call_isX {X : Cx} {a : Addr} {oe : Obj} {cls : Value} {d : Option Addr} {pn : List (Addr × Obj)} (hz : Zc cls d oe) (hf : ∃ vs, oe.data = .fields vs) : CallR (X.suite a ((a, oe) :: pn)) (.builtin "isinstance") (rIsX X.K cls d a) := by
  intro pins s σ H xs us Q I r h
  obtain ⟨D, c, cv, b, rfl, C, hd, rfl, hcv, e, q⟩ := h
  cases r with
  | cons rx rr =>
    cases rr with
    | cons rt rr =>
      cases rr
      cases rx
      have ec := hcv _ rt
      subst ec
      obtain ⟨hget, _⟩ := I.pin (a, oe) (List.mem_append.mpr (.inl List.mem_cons_self))
      obtain ⟨vs, hv⟩ := hf
      obtain ⟨od, J⟩ : ∃ od, PySem.W.InstAt s.heap a oe D od := by
        obtain ⟨oc, odd, oda, osl⟩ := oe
        obtain ⟨h1, h2⟩ := hz
        dsimp only at h1 h2 hv
        subst h1 h2 hv
        rcases hd with rfl | ⟨dd, fs, rfl, ed⟩
        · exact ⟨none, hget, rfl, rfl, trivial⟩
        · have hx : ObjOk X.prog X.w H s.heap dd (.xd fs) := I.hok dd _ ed
          obtain ⟨mA, hns, hr⟩ := hx
          obtain ⟨od, ho, hl⟩ := lookIn_ns hns
          exact ⟨some od, hget, rfl, rfl, ho⟩
      have hcl : (PySem.W.clsIn X.K D).isSome = true := by
        obtain ⟨cd, hc, _⟩ := PySem.W.any_some C.hd
        rw [hc]
        rfl
      exact PySem.W.kia_one (PySem.W.kitx_exc hcl C.hg C.hk C.hs C.ha C.hn C.ht C.hm) I.kIn J e (fun z => nomatch z) fun tk => ⟨.bl b, H, I.kept (t' := tk) fun _ _ z => z, rfl, q⟩
/-- which of the six kinds of errors it is -/
def kindsX : List Str := ["Contradiction", "InvalidNumber", "InvalidOffer", "InvalidStep", "TooGenerous", "UnknownKind"]
def okKit (K : PySem.W.Frag) (x : Str) : Bool := (kindsX.all fun y => decide (PySem.W.kitOne K (.ref (He.ga K x)) (.ref (He.ga K y)) = some (decide (x = y)))) && decide (PySem.W.kitOne K (.ref (He.ga K x)) (.type "ValueError") = some true)
structure KitX6 (K : PySem.W.Frag) (x : Str) : Prop where
  own : ∀ y ∈ kindsX, PySem.W.kitOne K (.ref (He.ga K x)) (.ref (He.ga K y)) = some (decide (x = y))
  val : PySem.W.kitOne K (.ref (He.ga K x)) (.type "ValueError") = some true
theorem okKit_of {K : PySem.W.Frag} {x : Str} (h : okKit K x = true) : KitX6 K x := by
  obtain ⟨h1, h2⟩ := Bool.and_eq_true_iff.mp h
  exact ⟨fun y hy => of_decide_eq_true (List.all_eq_true.mp h1 y hy), of_decide_eq_true h2⟩
/-- xs.count(y), flat items -/
def rCntV (K : PySem.W.Frag) : V → List V → Hp → VK → Prop := fun x xs H Q => ∃ (p : Addr) (ys : List V) (y : V), x = .ref p ∧ xs = [y] ∧ SqL K H p ys ∧ flatV y = true ∧ ys.all flatV = true ∧ Q (.int ((ys.countP fun z => eqV z y : Nat) : Int)) H
theorem count_eqU {x : V} : ∀ {xs : List V} {us : List Value}, Vals xs us → xs.all flatV = true → us.countP (eqU x) = xs.countP fun y => eqV y x
  | _, _, .nil, _ => rfl
  | y :: xs, u :: us, .cons r t, f => by
    rw [List.all_cons, Bool.and_eq_true] at f
    rw [List.countP_cons, List.countP_cons, eqU_of r f.1, count_eqU t f.2]
theorem mt_countV {X : Cx} : MtR X "list.count" (rCntV X.K) := by
  intro pins s σ H x xs v us Q I rx rxs h
  obtain ⟨p, ys, y, rfl, rfl, hs, fy, fys, q⟩ := h
  cases rx
  cases rxs with
  | cons ry rt =>
    rename_i uy ut
    cases rt
    obtain ⟨its, rv, ⟨⟨cls, dd, data, sl⟩, n, ho, hc, hdn, hd⟩, hlen⟩ := I.list hs
    simp only at hc hd
    subst hc hd
    refine call_meets PySem.F.slot_list_count ⟨_, ho, rfl⟩ PySem.F.entry_list_count (PySem.F.args_list_count_2 _ _)
      (SeqAt.list_countAt p its.toArray n dd sl uy (eqU y)) ⟨ho, fun u' hu' => mem_eqAt ry fy rv fys u' (by simpa using hu'), ?_⟩
    refine ⟨.int ((ys.countP fun z => eqV z y : Nat) : Int), H, I.tok _, ⟨s.toks, ?_⟩, q⟩
    show Value.int ((its.toArray.toList.countP (eqU y) : Nat) : Int) s.toks = _
    rw [show its.toArray.toList = its from rfl, count_eqU rv fys]
end EB

/-! enumerate over a tuple; lcm. -/
namespace EB
open PySem PySem.Spec PyProof.Rows L2
def rLcm : List V → Hp → VK → Prop := fun vs H Q => ∃ x y : Int, vs = [.int x, .int y] ∧ x.natAbs < 2 ^ 64 ∧ y.natAbs < 2 ^ 64 ∧ Q (.int ((x.natAbs.lcm y.natAbs : Nat) : Int)) H
theorem cr_lcm {X : Cx} : CallR X (.builtin "math.lcm") rLcm := by
  rintro pins s σ H vs us Q I r ⟨x, y, rfl, hx, hy, q⟩
  obtain ⟨t, u, rfl⟩ := Vals.int2 r
  exact PySem.W.mc_lcm hx hy fun _ => ⟨.int _, H, I.tok _, ⟨_, rfl⟩, q⟩
/-- sum of a tuple of ints -/
def rSumT (K : PySem.W.Frag) : List V → Hp → VK → Prop := fun vs H Q => ∃ (a : Addr) (ns : List Int), vs = [V.ref a] ∧ SqT K H a (ns.map V.int) ∧ Q (.int ns.sum) H
theorem cr_sumT {X : Cx} (hc : X.calm = true) : CallR X (.builtin "sum") (rSumT X.K) := by
  rintro pins s σ H vs us Q I r ⟨a, ns, rfl, hs, q⟩
  obtain ⟨its, rv, ht, _⟩ := I.tuple hs
  rw [Vals.ref1 r]
  have hi : IntsAre its ns := rv.ints
  obtain ⟨xs, e⟩ := hi.allInts.items
  have hn : numsOf (intItems xs).toList = ns := by
    rw [← e]
    exact hi.numsOf
  rw [nums_intItems] at hn
  have ht2 : s.heap.IsTuple a (intItems xs) := by
    rw [← e]
    exact ht
  refine PySem.W.ktm_sumG (I.ok.hd hc) ht2 fun h' tk t' hk => ?_
  rw [preSum_eq, List.take_of_length_le (by simp), hn]
  exact ⟨.int _, H, I.kept hk, ⟨_, rfl⟩, q⟩
/-- o.m(), a positional promise -/
theorem pe_methR0 {X : Cx} {CX : CXT} {k : Nat} {C f : Addr} {m : Str} {sp : Sp} {E : XK} {o : Expr} {ta : TE} {apos pos : Pos} {pl : Sem Bool} (he : PE X o ta) (c : Cls X.K C) (hm : Meth X.K C m f) (F : FnR X.prog X.w X.K X.mg X.base CX k f sp) (hr : Room k X.A) (hx : Passes CX X E)
    (ht : eval (.Call (.Attribute o m apos) [] [] pos) X.env = (do
      let v ← eval o X.env
      standAt apos.atName
      let (g, fst) ← holding [v] (getMethod v m pl)
      callWith pos g fst (backTo pos (starEach [] X.env)) (backToKw pos (keywordEach [] X.env))) := by rfl) : PE X (.Call (.Attribute o m apos) [] [] pos) (tM0 C m sp E ta) := by
  constructor
  intro pins s σ H Q I h
  refine PySem.W.methodCall_KW (pl := pl) (thn (he.run pins s σ H _ I h) fun u s1 ⟨x, H1, I1, rx, a, dx, fs, ex, ea, l, q⟩ => ?_) ht
  subst ex
  obtain rfl : u = Value.ref a := rx
  refine getmeth_ok I1 ea c hm l ?_
  exact PySem.W.callWith_K0 (first := [.ref a]) I1.kIn hm.kp (wpAny_call (run_fnR (us := [.ref a]) (vs := [.ref a]) F hr hx I1 (.cons rfl .nil) q))
theorem meets_enumV {v : Value} {o : Obj} {G : Heap → Prop} (B : Begins v o G) :
    Meets (Builtin.«enumerate.__new__» ⟨[.type "enumerate", v], []⟩) (fun _ R s => G s.heap ∧
      R (.ok (.ret (.ref (s.heap.push o).objs.size))) { s with heap := (s.heap.push o).push { cls := .type "enumerate", data := .fields #[.none, .bool false, .ref s.heap.objs.size, rawInt 0, .none, .none] } }) :=
  .of_wp fun prog w A R s h => by
    obtain ⟨hp, g, d, tk, os⟩ := s
    obtain ⟨h1, h⟩ := h
    have hsub := sub_enumerate
    have q1 : ∀ {A' : Around} {E : Value → Shared → Prop} {Q : Value → Shared → Prop}, Q (.ref hp.objs.size) ⟨hp.push o, g, d, tk, os⟩ → wpAny (model prog w) A' (pyIter v) Q E ⟨hp, g, d, tk, os⟩ :=
      fun q => B.iter prog w _ _ ⟨hp, g, d, tk, os⟩ _ h1 q
    wp_walk using q1
    refine wpAny_stack_any fun st => wpAny_pure ?_
    split
    · rename_i c _ _ _ _ _
      cases (c == Value.type "enumerate")
      · wp_walk using q1
        exact ⟨_, rfl, h⟩
      · wp_walk using q1
        exact ⟨_, rfl, h⟩
    · wp_walk using q1
      exact ⟨_, rfl, h⟩
theorem call_enumT {prog : Program} {w : World} {A : Around} {E : Value → Shared → Prop} {s : Shared} {a : Addr} {its : Array Value} {Q : Value → Shared → Prop} (ht : s.heap.IsTuple a its)
    (h : ∀ h', IsEnum h' (s.heap.objs.size + 1) s.heap.objs.size 0 .none → h'.IsTupleIter s.heap.objs.size a 0 → (∀ b o, s.heap.get? b = some o → h'.get? b = some o) → Q (.ref (s.heap.objs.size + 1)) { s with heap := h' }) :
    wpAny (model prog w) A (call (.type "enumerate") [.ref a]) Q E s := by
  refine callType_new F.called_enumerate (by decide) (F.typeCall_enumerate_1 _) (F.newCall_enumerate_1 _) (fun obj => F.args_object_init_2 obj _) F.entry_enumerate_new (meets_enumV (begins_tuple a its)) ⟨ht, ?_⟩
  have hz : (s.heap.push { cls := .type "tuple_iterator", data := .fields #[.ref a, .int 0 0] }).objs.size = s.heap.objs.size + 1 := Heap.size_push ..
  show _ ∧ _
  rw [hz]
  have he : IsEnum ((s.heap.push { cls := .type "tuple_iterator", data := .fields #[.ref a, .int 0 0] }).push { cls := .type "enumerate", data := .fields #[.none, .bool false, .ref s.heap.objs.size, rawInt 0, .none, .none] }) (s.heap.objs.size + 1) s.heap.objs.size 0 .none := by
    have z := Heap.get?_push_size (s.heap.push { cls := .type "tuple_iterator", data := .fields #[.ref a, .int 0 0] }) (o := { cls := .type "enumerate", data := .fields #[.none, .bool false, .ref s.heap.objs.size, rawInt 0, .none, .none] }) rfl
    rw [hz] at z
    exact z
  exact ⟨⟨_, he, rfl⟩, h _ he ⟨_, Heap.get?_push_of_some _ (Heap.get?_push_size _ rfl), rfl, rfl⟩ fun b o x => Heap.get?_push_of_some _ (Heap.get?_push_of_some _ x)⟩
/-- the tuple at a as it stands at each turn, each item in a new pair with its place -/
def ItE (K : PySem.W.Frag) (a : Addr) : It :=
  ⟨fun i H => ∃ (xs : List V) (x : V), SqT K H a xs ∧ xs[i]? = some x, fun i H v H' => ∃ q x, v = .ref q ∧ H q = none ∧ H' = upd H q (.tup [.int (i : Nat), x]) ∧ ∀ xs, SqT K H a xs → xs[i]? = some x,
    fun i H => ∃ xs : List V, SqT K H a xs ∧ xs.length = i⟩
theorem turn_E {P : Program} {w : World} {K : PySem.W.Frag} {elts : List Expr} {kk : Nat} {tpos : Pos} (a e it : Addr) :
    Turn P w K (.Tuple elts kk tpos) (ItE K a) [e, it] e (fun i h => (∃ old, IsEnum h e it ((i : Nat) : Int) old) ∧ h.IsTupleIter it a i ∧ e ≠ it ∧ a ≠ it ∧ a ≠ e) where
  mem := by simp
  obj := fun i h st b hb => by
    obtain ⟨⟨old, he⟩, ⟨o, ho, hc, hd⟩, _⟩ := st
    rcases (show b = e ∨ b = it by simpa using hb) with rfl | rfl
    · exact ⟨_, he, fun v q => nomatch q⟩
    · exact ⟨o, ho, fun v q => by rw [hd] at q; cases q⟩
  keep := fun i h h' st k => by
    obtain ⟨⟨old, he⟩, hi, hne⟩ := st
    exact ⟨⟨old, k e (by simp) _ he⟩, hi.at fun o q => k it (by simp) o q, hne⟩
  item := by
    intro X hP hw hK hc i pins s σ H E I hf st hg
    subst hP hw hK
    obtain ⟨⟨old, he⟩, hit, hne, hai, hae⟩ := st
    obtain ⟨xs, x, hq, hx⟩ := hg
    obtain ⟨its, rv, p, hz⟩ := I.tuple hq
    obtain ⟨u, hu, ru⟩ := rv.get hx
    have hlt : i < its.toArray.size := by
      have z := (List.getElem?_eq_some_iff.mp hu).1
      simpa using z
    have hel : e < s.heap.objs.size := Heap.lt_size he
    have hil : it < s.heap.objs.size := by
      obtain ⟨_, q, _⟩ := hit
      exact Heap.lt_size q
    have p' : s.heap.IsTuple a its.toArray := p
    refine wpAny_pyNext_enum_itemC (Draws.tuple (prog := X.prog) (w := X.w) (show X.A.in1.handled = none from I.ok.hd hc) it a hai its.toArray) he ⟨hit, p'⟩ hlt hne (by simp [hne, Ne.symm hae]) fun u' h' tk hu' ho hs' hT hsz hk => ?_
    have eu : u' = u := by
      have z : its.toArray[i]? = some u' := hu'
      rw [show its.toArray[i]? = some u by simpa using hu] at z
      exact (Option.some.inj z).symm
    subst eu
    refine ⟨_, rfl, wpAny_letOwnedTupleGo_enum (s := { s with heap := h', toks := tk + 1 }) ho fun h'' he' sb => ?_⟩
    have hT2 : h''.get? s.heap.objs.size = some { cls := .type "tuple", data := .seq #[.int i tk, u'] } := (sb.2 _ (Nat.ne_of_gt hel)).trans hT
    have new : ObjOk X.prog X.w (upd H s.heap.objs.size (.tup [.int (i : Nat), x])) h'' s.heap.objs.size (.tup [.int (i : Nat), x]) := by
      refine ⟨?_, [.int i tk, u'], .cons ⟨_, rfl⟩ (.cons ru .nil), ⟨_, hT2, rfl, _, rfl⟩⟩
      show 2 ≤ sizeLine
      decide
    have I1 : Inv X pins σ (upd H s.heap.objs.size (.tup [.int (i : Nat), x])) { s with heap := h'', toks := tk + 1 } := by
      refine I.turnedNew (ch := [e, it]) (fun b ob hb q => ?_) hf (Nat.le_refl _) new
      have b1 : b ≠ e := fun z => hb (by simp [z])
      have b2 : b ≠ it := fun z => hb (by simp [z])
      exact (sb.2 b b1).trans (hk b ob b1 b2 q)
    refine ⟨.ref s.heap.objs.size, _, I1, rfl, ⟨_, x, rfl, I.hok.fresh (Nat.le_refl _), rfl, fun ys hy => ?_⟩, ⟨⟨u', ?_⟩, ?_, hne, hai, hae⟩, fun b hb => ?_⟩
    · rw [I.tuple_inj hy hq]
      exact hx
    · rw [show ((i + 1 : Nat) : Int) = (i : Int) + 1 by omega]
      exact he'
    · exact hs'.1.at fun o q => (sb.2 it (Ne.symm hne)).trans q
    · have hb' : b < s.heap.objs.size := by
        rcases (show b = e ∨ b = it by simpa using hb) with rfl | rfl
        · exact hel
        · exact hil
      rw [upd_ne (Nat.ne_of_lt hb')]
      exact (hf b hb).1
  done := by
    intro X hP hw hK hc i pins s σ H E I hf st hg
    subst hP hw hK
    obtain ⟨⟨old, he⟩, hit, hne, hai, hae⟩ := st
    obtain ⟨xs, hq, hx⟩ := hg
    obtain ⟨its, rv, p, hz⟩ := I.tuple hq
    obtain ⟨f0, f1, f2, f3, f4, f5⟩ := hf it (by simp)
    have hl := rv.length
    have p' : s.heap.IsTuple a its.toArray := p
    have es : its.toArray.size = i := by
      rw [List.size_toArray]
      omega
    refine wpAny_pyNext_enum_endD (Draws.tuple (prog := X.prog) (w := X.w) (show X.A.in1.handled = none from I.ok.hd hc) it a hai its.toArray) he ?_ fun h' eb => ⟨rfl, I.turned (t' := s.toks) (fun b o hb q => eb b o hb q) f0 f1 f3 f4 f5⟩
    rw [es]
    exact ⟨hit, p'⟩
  self := fun A i s Q E st h => by
    obtain ⟨⟨_, he⟩, _⟩ := st
    exact wpAny_pyIter_enum he h
def iEnumT (K : PySem.W.Frag) (ta : TA) : TI := fun σ H R => ta σ H fun vs H1 => ∃ a xs, vs = [.ref a] ∧ SqT K H1 a xs ∧ R (ItE K a) H1
theorem pi_enumT {X : Cx} {e : Expr} {ta : TA} {p pos tpos : Pos} {elts : List Expr} {kk : Nat} (hg : Gl X "enumerate") (hm : X.mg "enumerate" = none) (ha : PA X [e] ta) (hs : starEach [e] X.env = [(false, eval e X.env)] := by rfl) :
    PI X (.Tuple elts kk tpos) (.Call (.Name "enumerate" p) [e] [] pos) (iEnumT X.K ta) := by
  constructor
  intro pins s σ H R I h
  refine Call_ (ld_blt I hg hm boot_enumerate (PyProof.Rows.callWith_type1 (thn (ha.run pos pins s σ H _ I h) fun us s1 ⟨vs, H1, I1, r1, q1⟩ => ?_) hs rfl))
  obtain ⟨a, xs, rfl, hq, q⟩ := q1
  cases r1 with
  | cons r rr =>
    cases rr
    cases r
    obtain ⟨its, rv, p', hz⟩ := I1.tuple hq
    have al : a < s1.heap.objs.size := by
      obtain ⟨_, z, _⟩ := (show s1.heap.IsTuple a its.toArray from p')
      exact Heap.lt_size z
    refine call_enumT (show s1.heap.IsTuple a its.toArray from p') fun h' he hit hk => wpAny_pyIter_enum he ?_
    have I2 : Inv X pins σ H1 { s1 with heap := h' } := I1.kept (t' := s1.toks) hk
    refine ⟨s1.heap.objs.size + 1, [s1.heap.objs.size + 1, s1.heap.objs.size], _, _, H1, rfl, I2, turn_E a (s1.heap.objs.size + 1) s1.heap.objs.size, ⟨⟨.none, he⟩, hit, Nat.succ_ne_self _, Nat.ne_of_lt al, Nat.ne_of_lt (Nat.lt_succ_of_lt al)⟩, fun b hb => ?_, q⟩
    have hle : s1.heap.objs.size ≤ b := by
      rcases (show b = s1.heap.objs.size + 1 ∨ b = s1.heap.objs.size by simpa using hb) with z | z
      · rw [z]
        exact Nat.le_add_right _ _
      · rw [z]
        exact Nat.le_refl _
    exact I1.fpOk hle (I1.hok.fresh hle)
theorem walk_enumT {K : PySem.W.Frag} {a : Addr} {xs : List V} : Walk (ItE K a) xs.length (fun H => SqT K H a xs) (YPair (fun i => some (.int (i : Nat))) (fun i => xs[i]?)) where
  goes := fun i H hi hs => ⟨xs, xs[i], hs, List.getElem?_eq_getElem hi⟩
  stops := fun H hs => ⟨xs, hs, rfl⟩
  yields := fun i H x H' hi hs h => by
    obtain ⟨q, y, e1, e2, e3, e4⟩ := h
    exact ⟨q, .int (i : Nat), y, e1, e2, e3, rfl, e4 xs hs⟩
end EB
namespace EB
open PySem PySem.Spec PyProof.Rows L2
section
variable {X : Cx} {CX : CXT} {k : Nat} {C g : Addr} {sp : Sp} {E : XK}
/-- x in o, o an instance whose class says __contains__ -/
def rInO (C : Addr) (neg : Bool) (sp : Sp) (E : XK) : R2 := fun x y H Q => ∃ a dx fs, y = .ref a ∧ H a = some (.ins C dx fs) ∧ sp [y, x] H (fun z H' => ∃ b, z = .bl b ∧ Q (.bl (if neg then !b else b)) H') E
theorem op_inO (hs : PySem.W.findIn X.K (.ref C) "__contains__" = some (some (.ref g))) (hf : PySem.W.isFn X.K (.ref g) = true) (F : FnR X.prog X.w X.K X.mg X.base CX k g sp) (hr : Room k X.A) (hx : Passes CX X E) : OpR X (compareOp .In) (rInO C false sp E) := by
  rintro pins s σ H x y v u Q I rx ry ⟨a, dx, fs, rfl, ha, q⟩
  cases (show u = Value.ref a from ry)
  obtain ⟨ox, od, J, _⟩ := StX.insC_at I (.inr ⟨dx, fs, ha⟩)
  obtain ⟨m, hF⟩ := I.fr
  refine PySem.W.in_K hF I.ok.mod.kin J hs hf (thn (wpAny_call (run_fnR (us := [.ref a, v]) (vs := [.ref a, x]) F hr hx I (.cons rfl (.cons rx .nil)) q)) fun w' s' hz => ?_)
  obtain ⟨z, H', I', rz, b, rfl, qb⟩ := hz
  exact thn (tru_ok (X := X) pins s' σ H' (.bl b) w' (fun k H'' => k = b ∧ H'' = H') I' rz ⟨b, rfl, rfl, rfl⟩) fun k s'' ⟨H'', I'', e1, e2⟩ => by
    subst e1 e2
    exact ⟨.bl k, H'', I'', rfl, qb⟩
theorem op_notInO (hs : PySem.W.findIn X.K (.ref C) "__contains__" = some (some (.ref g))) (hf : PySem.W.isFn X.K (.ref g) = true) (F : FnR X.prog X.w X.K X.mg X.base CX k g sp) (hr : Room k X.A) (hx : Passes CX X E) : OpR X (compareOp .NotIn) (rInO C true sp E) := by
  rintro pins s σ H x y v u Q I rx ry ⟨a, dx, fs, rfl, ha, q⟩
  cases (show u = Value.ref a from ry)
  obtain ⟨ox, od, J, _⟩ := StX.insC_at I (.inr ⟨dx, fs, ha⟩)
  obtain ⟨m, hF⟩ := I.fr
  refine PySem.W.notIn_K hF I.ok.mod.kin J hs hf (thn (wpAny_call (run_fnR (us := [.ref a, v]) (vs := [.ref a, x]) F hr hx I (.cons rfl (.cons rx .nil)) q)) fun w' s' hz => ?_)
  obtain ⟨z, H', I', rz, b, rfl, qb⟩ := hz
  exact thn (tru_ok (X := X) pins s' σ H' (.bl b) w' (fun k H'' => k = b ∧ H'' = H') I' rz ⟨b, rfl, rfl, rfl⟩) fun k s'' ⟨H'', I'', e1, e2⟩ => by
    subst e1 e2
    exact ⟨.bl (!k), H'', I'', rfl, qb⟩
/-- x op y, both instances; the class of x says op -/
def rCmpO (K : PySem.W.Frag) (C : Addr) (sp : Sp) (E : XK) : R2 := fun x y H Q => ∃ a dx fs b dy gs, x = .ref a ∧ y = .ref b ∧ H a = some (.ins C dx fs) ∧ H b = some (.ins C dy gs) ∧ PySem.W.notFirst K C (.ref C) = true ∧ sp [x, y] H Q E
theorem op_cmpO {op : CmpOp} (hop : ∀ a b, compareOp op a b = richCompare op a b) (hs : PySem.W.findIn X.K (.ref C) (cmpInfo op).2.1 = some (some (.ref g))) (hf : PySem.W.isFn X.K (.ref g) = true) (F : FnR X.prog X.w X.K X.mg X.base CX k g sp)
    (hr : Room k X.A) (hx : Passes CX X E) : OpR X (compareOp op) (rCmpO X.K C sp E) := by
  rintro pins s σ H x y v u Q I rx ry ⟨a, dx, fs, b, dy, gs, rfl, rfl, ha, hb, hn, q⟩
  cases (show v = Value.ref a from rx)
  cases (show u = Value.ref b from ry)
  obtain ⟨_, _, J, _⟩ := StX.insC_at I (.inr ⟨dx, fs, ha⟩)
  obtain ⟨_, _, J', _⟩ := StX.insC_at I (.inr ⟨dy, gs, hb⟩)
  obtain ⟨m, hF⟩ := I.fr
  rw [hop]
  refine PySem.W.cmp_K (op := op) (tb := .ref C) hr.units0 hF I.ok.mod.kin J J'.type hn hs hf (thn (wpAny_call (run_fnR (us := [.ref a, .ref b]) (vs := [.ref a, .ref b]) F hr hx I (.cons rfl (.cons rfl .nil)) q)) fun w' s' hz => ?_)
  obtain ⟨z, H', I', rz, qz⟩ := hz
  exact SlX.cmpback rz ⟨z, H', I', rz, qz⟩
end
end EB
namespace EB
open PySem PySem.Spec PyProof.Rows L2
section
variable {X : Cx} {CX : CXT} {k : Nat} {C g : Addr} {sp : Sp} {E : XK} {fe e : Expr} {es : List Expr} {tf : TE} {t : TA} {pos : Pos}
/-- o(e, ..), o an instance; its reading names no context -/
def tCallI (C : Addr) (sp : Sp) (E : XK) (tf : TE) (t : TA) : TE := fun σ H Q => tf σ H fun y H1 => ∃ a, y = V.ref a ∧ t σ H1 fun vs H2 => (∃ dx fs, H2 a = some (.ins C dx fs)) ∧ sp (V.ref a :: vs) H2 Q E
theorem pe_callI (hf : PE X fe tf) (c : StX.CallO X.K C g) (F : FnR X.prog X.w X.K X.mg X.base CX k g sp) (hr : Room k X.A) (hx : Passes CX X E) (ha : PA X (e :: es) t)
    (ht : eval (.Call fe (e :: es) [] pos) X.env = (do callWith pos (← eval fe X.env) [] (backTo pos (starEach (e :: es) X.env)) (backToKw pos (keywordEach [] X.env))) := by rfl)
    (hs : starEach (e :: es) X.env = (false, eval e X.env) :: starEach es X.env := by rfl) (hp : (backTo pos (starEach es X.env)).any (·.1) = false := by rfl) : PE X (.Call fe (e :: es) [] pos) (tCallI C sp E tf t) := by
  constructor
  intro pins s σ H Q I h
  refine Call_ (thn (hf.run pins s σ H _ I h) fun u s1 ⟨y, H1, I1, ry, a, ey, q⟩ => ?_) ht
  subst ey
  obtain rfl : u = Value.ref a := ry
  refine StX.callO_with (thn (ha.run pos pins s1 σ H1 _ I1 q) fun us s2 ⟨vs, H2, I2, r, hi, q2⟩ => ?_) hs hp
  obtain ⟨ox, od, J, hd⟩ := StX.insC_at I2 (.inr hi)
  exact ⟨⟨C, ox, od, J, hd⟩, StX.run_callO c F hr hx I2 (.inr hi) r q2⟩
end
end EB

/-! Operators and subscripts of own instances. -/
namespace EB
open PySem PySem.Spec PyProof.Rows L2
section
variable {X : Cx} {CX : CXT} {k : Nat} {C g : Addr} {sp : Sp} {E : XK}
/-- x op y, both instances of C -/
def rBinI (C : Addr) (sp : Sp) (E : XK) : R2 := fun x y H Q => ∃ a dx fs b dy gs, x = .ref a ∧ y = .ref b ∧ H a = some (.ins C dx fs) ∧ H b = some (.ins C dy gs) ∧ sp [x, y] H Q E
theorem op_binI {op : Operator} (hc : PySem.W.selfFirst X.K C = true) (hs : PySem.W.findIn X.K (.ref C) (PySem.dunder op.info.2) = some (some (.ref g))) (hf : PySem.W.isFn X.K (.ref g) = true) (F : FnR X.prog X.w X.K X.mg X.base CX k g sp)
    (hr : Room k X.A) (hx : Passes CX X E) : OpR X (binaryOp op) (rBinI C sp E) := by
  rintro pins s σ H x y v u Q I rx ry ⟨a, dx, fs, b, dy, gs, rfl, rfl, ha, hb, q⟩
  cases (show v = Value.ref a from rx)
  cases (show u = Value.ref b from ry)
  obtain ⟨_, _, J, _⟩ := StX.insC_at I (.inr ⟨dx, fs, ha⟩)
  obtain ⟨_, _, J', _⟩ := StX.insC_at I (.inr ⟨dy, gs, hb⟩)
  obtain ⟨m, hF⟩ := I.fr
  refine PySem.W.binop_K hF I.ok.mod.kin J J'.type hc hs hf (thn (wpAny_call (run_fnR (us := [.ref a, .ref b]) (vs := [.ref a, .ref b]) F hr hx I (.cons rfl (.cons rfl .nil)) q)) fun w' s' hz => ?_)
  obtain ⟨z, H', I', rz, qz⟩ := hz
  exact SlX.cmpback rz ⟨z, H', I', rz, qz⟩
/-- what the head says of such an operator with a text or an int on the right -/
def okBinT (K : PySem.W.Frag) (C : Addr) (nm ty : String) : Bool := (PySem.W.selfFirst K C && (decide (PySem.W.findIn K (.ref C) (dunderR nm) = some none) && ((PySem.W.findIn K (.type ty) (PySem.dunder nm)).isSome && ((PySem.W.findIn K (.type ty) (dunderR nm)).isSome && decide (PySem.W.subIn K (.type ty) (.ref C) = some false)))))
structure BinT (K : PySem.W.Frag) (C : Addr) (nm ty : String) : Prop where
  first : PySem.W.selfFirst K C = true
  noR : PySem.W.findIn K (.ref C) (dunderR nm) = some none
  fo : ∃ o, PySem.W.findIn K (.type ty) (PySem.dunder nm) = some o
  ro : ∃ o, PySem.W.findIn K (.type ty) (dunderR nm) = some o
  sub : PySem.W.subIn K (.type ty) (.ref C) = some false
theorem okBinT_of {K : PySem.W.Frag} {C : Addr} {nm ty : String} (h : okBinT K C nm ty = true) : BinT K C nm ty := by
  obtain ⟨h1, h⟩ := Bool.and_eq_true_iff.mp h
  obtain ⟨h2, h⟩ := Bool.and_eq_true_iff.mp h
  obtain ⟨h3, h⟩ := Bool.and_eq_true_iff.mp h
  obtain ⟨h4, h5⟩ := Bool.and_eq_true_iff.mp h
  exact ⟨h1, of_decide_eq_true h2, Option.isSome_iff_exists.mp h3, Option.isSome_iff_exists.mp h4, of_decide_eq_true h5⟩
/-- x op y, x an instance of C, y a text or an int -/
def rBinT (C : Addr) (sp : Sp) (E : XK) (y : V → Prop) : R2 := fun x z H Q => ∃ a dx fs, x = .ref a ∧ H a = some (.ins C dx fs) ∧ y z ∧ sp [x, z] H Q E
theorem op_binS {op : Operator} (B : BinT X.K C op.info.2 "str") (hs : PySem.W.findIn X.K (.ref C) (PySem.dunder op.info.2) = some (some (.ref g))) (hf : PySem.W.isFn X.K (.ref g) = true) (F : FnR X.prog X.w X.K X.mg X.base CX k g sp)
    (hr : Room k X.A) (hx : Passes CX X E) : OpR X (binaryOp op) (rBinT C sp E fun z => ∃ t : Str, z = .str t) := by
  rintro pins s σ H x y v u Q I rx ry ⟨a, dx, fs, rfl, ha, ⟨z, rfl⟩, q⟩
  cases (show v = Value.ref a from rx)
  have ry' := ry
  obtain ⟨t, rfl⟩ := ry
  obtain ⟨_, _, J, _⟩ := StX.insC_at I (.inr ⟨dx, fs, ha⟩)
  obtain ⟨m, hF⟩ := I.fr
  obtain ⟨fo, h1⟩ := B.fo
  obtain ⟨ro, h2⟩ := B.ro
  refine PySem.W.ksp_binT (T := "str") (rc := none) hF I.ok.mod.kin J rfl B.first hs hf B.noR (.inl rfl) h1 h2 B.sub (thn (wpAny_call (run_fnR (us := [.ref a, .str z t]) (vs := [.ref a, .str z]) F hr hx I (.cons rfl (.cons ry' .nil)) q)) fun w' s' hz => ?_)
  obtain ⟨z, H', I', rz, qz⟩ := hz
  exact SlX.cmpback rz ⟨z, H', I', rz, qz⟩
theorem op_binN {op : Operator} (B : BinT X.K C op.info.2 "int") (hs : PySem.W.findIn X.K (.ref C) (PySem.dunder op.info.2) = some (some (.ref g))) (hf : PySem.W.isFn X.K (.ref g) = true) (F : FnR X.prog X.w X.K X.mg X.base CX k g sp)
    (hr : Room k X.A) (hx : Passes CX X E) : OpR X (binaryOp op) (rBinT C sp E fun z => ∃ t : Int, z = .int t) := by
  rintro pins s σ H x y v u Q I rx ry ⟨a, dx, fs, rfl, ha, ⟨z, rfl⟩, q⟩
  cases (show v = Value.ref a from rx)
  have ry' := ry
  obtain ⟨t, rfl⟩ := ry
  obtain ⟨_, _, J, _⟩ := StX.insC_at I (.inr ⟨dx, fs, ha⟩)
  obtain ⟨m, hF⟩ := I.fr
  obtain ⟨fo, h1⟩ := B.fo
  obtain ⟨ro, h2⟩ := B.ro
  refine PySem.W.ksp_binT (T := "int") (rc := none) hF I.ok.mod.kin J rfl B.first hs hf B.noR (.inl rfl) h1 h2 B.sub (thn (wpAny_call (run_fnR (us := [.ref a, .int z t]) (vs := [.ref a, .int z]) F hr hx I (.cons rfl (.cons ry' .nil)) q)) fun w' s' hz => ?_)
  obtain ⟨z, H', I', rz, qz⟩ := hz
  exact SlX.cmpback rz ⟨z, H', I', rz, qz⟩
/-- o[i], o's class says __getitem__ -/
def rIxO (C : Addr) (sp : Sp) (E : XK) : R2 := fun x y H Q => ∃ a dx fs, x = .ref a ∧ H a = some (.ins C dx fs) ∧ sp [x, y] H Q E
theorem pe_ixO {o i : Expr} {to ti : TE} {pos : Pos} (hs : PySem.W.findIn X.K (.ref C) "__getitem__" = some (some (.ref g))) (hf : PySem.W.fnIn X.K g = true) (hfn : PySem.W.isFn X.K (.ref g) = true) (F : FnR X.prog X.w X.K X.mg X.base CX k g sp)
    (hr : Room (k + 1) X.A) (hx : Passes CX X E) (ho : PE X o to) (hi : PE X i ti) (hsl : ∀ v u, subscripted i true v u = runValue (.builtin "lifetime.subscript" ⟨[v, u], []⟩) := by exact fun _ _ => rfl) :
    PE X (.Subscript o i pos) (tOp (rIxO C sp E) to ti) := by
  refine ⟨fun pins s σ H Q I h => ?_⟩
  refine Subscript_ (binT ho hi I h fun v u s2 x y H2 I2 rx ry q => ?_)
  obtain ⟨a, dx, fs, rfl, ha, q⟩ := q
  cases (show v = Value.ref a from rx)
  obtain ⟨_, _, J, _⟩ := StX.insC_at I2 (.inr ⟨dx, fs, ha⟩)
  obtain ⟨m, hF⟩ := I2.fr
  refine PySem.W.sub_K hF I2.ok.mod.kin J hs hf hfn (wpAny_call ?_) (hsl _ _)
  refine codeAny_mono (F X.A.in1 X.stack s2 H2 [.ref a, u] [.ref a, y] Q E hr.in1 I2.env0.in1 (.cons rfl (.cons ry .nil)) q) fun r s' hq => ?_
  cases r with
  | error er => exact hx pins σ H2 s2 er s' I2 hq
  | ok fl =>
    cases fl with
    | ret u => exact I2.after hq
    | next => exact False.elim hq
    | brk => exact False.elim hq
    | cont => exact False.elim hq
end
section
variable {X : Cx} {CX : CXT} {k : Nat} {C f : Addr} {sp : Sp} {E : XK} {x : Str} {e : Expr} {te : TE} {p pos sp_ : Pos}
/-- C(*y) -/
def tMakeS (K : PySem.W.Frag) (C : Addr) (sp : Sp) (E : XK) (te : TE) : TE := fun σ H Q => te σ H fun y H1 => ∃ a xs, y = V.ref a ∧ (SqT K H1 a xs ∨ SqL K H1 a xs) ∧ ∀ o dx, H1 o = none → H1 dx = none → dx ≠ o →
  sp (V.ref o :: xs) (upd (upd H1 dx (.own o)) o (.ins C dx [])) (fun v H2 => v = .non ∧ Q (.ref o) H2) E
theorem pe_makeS1 (M : Mk X.K C f) (F : FnR X.prog X.w X.K X.mg X.base CX k f sp) (hr : Room (k + 1) X.A) (hg : Gl X x) (hm : X.mg x = some (.ref C)) (hx : Passes CX X E) (he : PE X e te) (hd : (x == ("__debug__" : Str)) = false := by decide)
    (hst : starEach [.Starred e sp_] X.env = [(true, eval e X.env)] := by rfl) : PE X (.Call (.Name x p) [.Starred e sp_] [] pos) (tMakeS X.K C sp E te) := by
  refine ⟨fun pins s σ H Q I h => ?_⟩
  refine wpAny_Call_Name_kw (ld_glob I hg hm ?_ hd)
  refine PySem.W.callWith_S (h₀ := X.base) I.ok.mod.kin M.kp (thn (he.run pins s σ H _ I h) fun v s1 ⟨y, H1, I1, ry, a, xs, ey, hxs, q⟩ => ?_) hst
  subst ey
  obtain rfl : v = Value.ref a := ry
  exact StX.star_any I1 hxs fun us s2 I2 rv => ⟨I2.kIn, StX.run_makeR M F hr hx I2 rv q⟩
end
end EB

namespace EB
/-! ### costs -/
structure CF (c : Nat → Int) (P B : Nat) : Prop where
  zero : c 0 = 0
  step : ∀ d, c (d + 1) ≤ c d + 1
  per : ∀ d, c (d + P) = c d + B
  ppos : 0 < P
  ten : ∀ d : Nat, (d : Int) ≤ 10 * c d
  sub : ∀ x y, c (x + y) ≤ c x + c y
namespace CF
variable {c : Nat → Int} {P B : Nat}
theorem bpos (h : CF c P B) : 0 < B := by
  have h1 := h.ten P
  have h2 := h.per 0
  have h3 := h.zero
  have h4 := h.ppos
  rw [Nat.zero_add, h3] at h2
  omega
theorem nonneg (h : CF c P B) (d : Nat) : 0 ≤ c d := by
  have := h.ten d
  omega
theorem le_self (h : CF c P B) : ∀ d : Nat, c d ≤ d
  | 0 => by rw [h.zero]; exact Int.le_refl _
  | d + 1 => by
    have h1 := h.le_self d
    have h2 := h.step d
    push_cast
    omega
theorem steps (h : CF c P B) (d : Nat) : ∀ k : Nat, c (d + k) ≤ c d + k
  | 0 => by simp
  | k + 1 => by
    have h1 := h.steps d k
    have h2 := h.step (d + k)
    rw [← Nat.add_assoc]
    push_cast
    omega
theorem perm (h : CF c P B) (d : Nat) : ∀ k : Nat, c (d + k * P) = c d + k * B
  | 0 => by simp
  | k + 1 => by
    have h1 := h.perm d k
    have h2 := h.per (d + k * P)
    rw [Nat.succ_mul, ← Nat.add_assoc, h2, h1]
    push_cast
    rw [Int.add_mul]
    omega
end CF
/-- the number of drinks of n bottles -/
def IsD (c : Nat → Int) (n d : Nat) : Prop := (n : Int) ≤ c d ∧ ∀ j, j < d → c j < n
theorem IsD.uniq {c : Nat → Int} {n d e : Nat} (h : IsD c n d) (g : IsD c n e) : d = e := by
  rcases Nat.lt_trichotomy d e with q | q | q
  · have := g.2 d q
    have := h.1
    omega
  · exact q
  · have := h.2 e q
    have := g.1
    omega
theorem least (p : Nat → Prop) [DecidablePred p] : ∀ n, p n → ∃ d, p d ∧ ∀ j, j < d → ¬ p j := by
  intro n
  induction n using Nat.strongRecOn with
  | ind n ih =>
    intro hn
    by_cases q : ∃ j, j < n ∧ p j
    · obtain ⟨j, hj, pj⟩ := q
      exact ih j hj pj
    · exact ⟨n, hn, fun j hj pj => q ⟨j, hj, pj⟩⟩
theorem CF.exD {c : Nat → Int} {P B : Nat} (h : CF c P B) (n : Nat) : ∃ d, IsD c n d := by
  have h1 : (n : Int) ≤ c (10 * n) := by
    have := h.ten (10 * n)
    push_cast at this
    omega
  obtain ⟨d, hd, hj⟩ := least (fun d => (n : Int) ≤ c d) (10 * n) h1
  exact ⟨d, hd, fun j q => by have := hj j q; omega⟩
open Classical in
noncomputable def D (c : Nat → Int) (n : Nat) : Nat := if h : ∃ d, IsD c n d then Classical.choose h else 0
/-- the greatest cost up to d -/
def T (c : Nat → Int) : Nat → Int
  | 0 => c 0
  | d + 1 => if c (d + 1) > T c d then c (d + 1) else T c d
namespace CF
variable {c : Nat → Int} {P B : Nat}
theorem D_is (h : CF c P B) (n : Nat) : IsD c n (D c n) := by
  have e := h.exD n
  unfold D
  rw [dif_pos e]
  exact Classical.choose_spec e
theorem D_eq (h : CF c P B) {n d : Nat} (g : IsD c n d) : D c n = d := (h.D_is n).uniq g
theorem D_cost (h : CF c P B) (n : Nat) : c (D c n) = n := by
  have g := h.D_is n
  cases e : D c n with
  | zero =>
    rw [e] at g
    have g1 := g.1
    rw [h.zero] at g1 ⊢
    omega
  | succ d =>
    rw [e] at g
    have g1 := g.1
    have g2 := g.2 d (Nat.lt_succ_self d)
    have g3 := h.step d
    omega
theorem D_zero (h : CF c P B) : D c 0 = 0 := h.D_eq ⟨by rw [h.zero]; exact Int.le_refl _, fun j q => absurd q (Nat.not_lt_zero j)⟩
theorem D_ge (h : CF c P B) (n : Nat) : n ≤ D c n := by
  have := h.D_cost n
  have := h.le_self (D c n)
  omega
theorem D_le_ten (h : CF c P B) (n : Nat) : D c n ≤ 10 * n := by
  have := h.D_cost n
  have := h.ten (D c n)
  omega
theorem D_lt (h : CF c P B) {n m : Nat} (q : n < m) : D c n < D c m := by
  have h1 := h.D_is n
  have h2 := h.D_cost m
  have h3 := h.D_cost n
  apply Nat.lt_of_not_le
  intro z
  rcases Nat.lt_or_eq_of_le z with z | z
  · have := h1.2 _ z
    omega
  · rw [z] at h2
    omega
theorem D_mono (h : CF c P B) {n m : Nat} (q : n ≤ m) : D c n ≤ D c m := by
  rcases Nat.lt_or_eq_of_le q with q | q
  · exact Nat.le_of_lt (h.D_lt q)
  · rw [q]; exact Nat.le_refl _
theorem D_super (h : CF c P B) (a b : Nat) : D c a + D c b ≤ D c (a + b) := by
  apply Nat.le_of_not_lt
  intro q
  have ca := h.D_cost a
  have cb := h.D_cost b
  have cab := h.D_cost (a + b)
  have ha := h.D_is a
  have hb := h.D_is b
  by_cases z : D c (a + b) < D c a
  · have := ha.2 _ z
    push_cast at cab
    omega
  · cases e : D c a with
    | zero =>
      rw [e] at ca q
      rw [h.zero] at ca
      have : a = 0 := by omega
      rw [this, Nat.zero_add, Nat.zero_add] at q
      exact Nat.lt_irrefl _ q
    | succ x =>
      rw [e] at q z ha
      have hx := ha.2 x (Nat.lt_succ_self x)
      obtain ⟨y, hy⟩ : ∃ y, D c (a + b) = x + y := ⟨D c (a + b) - x, by omega⟩
      have hs := h.sub x y
      rw [hy] at cab q
      push_cast at cab
      rcases Nat.lt_or_ge y (D c b) with w | w
      · have := hb.2 y w
        omega
      · have : y = D c b := by omega
        rw [this, cb] at hs
        rw [this] at cab
        omega
/-! ### the greatest cost -/
theorem T_ge (c : Nat → Int) : ∀ {d j : Nat}, j ≤ d → c j ≤ T c d
  | 0, j, q => by
    have : j = 0 := by omega
    rw [this]
    exact Int.le_refl _
  | d + 1, j, q => by
    unfold T
    rcases Nat.lt_or_eq_of_le q with q | q
    · have := T_ge c (d := d) (j := j) (by omega)
      split <;> omega
    · rw [q]
      split <;> omega
theorem T_at (c : Nat → Int) : ∀ d : Nat, ∃ j, j ≤ d ∧ T c d = c j
  | 0 => ⟨0, Nat.le_refl _, rfl⟩
  | d + 1 => by
    unfold T
    split
    · exact ⟨d + 1, Nat.le_refl _, rfl⟩
    · obtain ⟨j, q, e⟩ := T_at c d
      exact ⟨j, by omega, e⟩
theorem T_mono (c : Nat → Int) {d e : Nat} (q : d ≤ e) : T c d ≤ T c e := by
  obtain ⟨j, hj, ej⟩ := T_at c d
  rw [ej]
  exact T_ge c (by omega)
theorem T_eq (c : Nat → Int) {d : Nat} {t : Int} (h1 : ∃ j, j ≤ d ∧ c j = t) (h2 : ∀ j, j ≤ d → c j ≤ t) : T c d = t := by
  obtain ⟨j, hj, ej⟩ := h1
  obtain ⟨i, hi, ei⟩ := T_at c d
  have := T_ge c hj
  have := h2 i hi
  omega
theorem T_nonneg (h : CF c P B) (d : Nat) : 0 ≤ T c d := by
  have := T_ge c (Nat.zero_le d)
  rw [h.zero] at this
  exact this
theorem T_step (h : CF c P B) (d : Nat) : T c (d + 1) ≤ T c d + 1 := by
  show (if c (d + 1) > T c d then c (d + 1) else T c d) ≤ T c d + 1
  have := T_ge c (Nat.le_refl d)
  have := h.step d
  split <;> omega
/-- n bottles give at most d drinks just if n is at most the greatest cost up to d -/
theorem D_le_iff (h : CF c P B) {n d : Nat} : D c n ≤ d ↔ (n : Int) ≤ T c d := by
  constructor
  · intro q
    have := T_ge c q
    rw [h.D_cost] at this
    exact this
  · intro q
    obtain ⟨j, hj, ej⟩ := T_at c d
    apply Nat.le_of_not_lt
    intro z
    have := (h.D_is n).2 j (by omega)
    omega
theorem T_per (h : CF c P B) {d : Nat} (q : P ≤ d + 1) : T c (d + P) = T c d + B := by
  refine T_eq c ?_ ?_
  · obtain ⟨j, hj, ej⟩ := T_at c d
    exact ⟨j + P, by omega, by rw [h.per, ej]⟩
  · intro j hj
    rcases Nat.lt_or_ge j P with z | z
    · have := T_ge c (d := d) (j := j) (by omega)
      omega
    · obtain ⟨i, rfl⟩ : ∃ i, j = i + P := ⟨j - P, by omega⟩
      rw [h.per]
      have := T_ge c (d := d) (j := i) (by omega)
      omega
theorem T_perk (h : CF c P B) {d : Nat} (q : P ≤ d + 1) : ∀ k : Nat, T c (d + k * P) = T c d + k * B
  | 0 => by simp
  | k + 1 => by
    have h1 := h.T_perk q k
    have h2 := h.T_per (d := d + k * P) (by omega)
    rw [Nat.succ_mul, ← Nat.add_assoc, h2, h1]
    push_cast
    rw [Int.add_mul]
    omega
/-- from T (P - 1) + 1 - B on, drinks repeat -/
theorem D_per (h : CF c P B) {n : Nat} (q : T c (P - 1) < n + B) : D c (n + B) = D c n + P := by
  refine h.D_eq ⟨?_, fun j hj => ?_⟩
  · rw [h.per, h.D_cost]
    push_cast
    exact Int.le_refl _
  · rcases Nat.lt_or_ge j P with z | z
    · have := T_ge c (d := P - 1) (j := j) (by omega)
      push_cast
      omega
    · obtain ⟨i, rfl⟩ : ∃ i, j = i + P := ⟨j - P, by omega⟩
      rw [h.per]
      have := (h.D_is n).2 i (by omega)
      push_cast
      omega
theorem D_perk (h : CF c P B) {n : Nat} (q : T c (P - 1) < n + B) : ∀ k : Nat, D c (n + k * B) = D c n + k * P
  | 0 => by simp
  | k + 1 => by
    have h1 := h.D_perk q k
    have h2 := h.D_per (n := n + k * B) (by push_cast; have : (0:Int) ≤ (k : Int) * B := Int.mul_nonneg (Int.natCast_nonneg _) (Int.natCast_nonneg _); omega)
    rw [Nat.succ_mul, ← Nat.add_assoc, h2, h1, Nat.succ_mul, Nat.add_assoc]
theorem D_per_not (h : CF c P B) {n : Nat} (q : (n : Int) + B ≤ T c (P - 1)) : D c (n + B) < D c n + P := by
  have := (h.D_le_iff (n := n + B) (d := P - 1)).mpr (by push_cast; exact q)
  have := h.ppos
  omega
end CF
end EB

/-! list(zip(a, b)) of two lists -/
namespace EBZ
open PySem PySem.Spec PyProof.Rows L2
abbrev IsZipO (h : Heap) (z TI TO a : Addr) (f : Bool) : Prop :=
  h.get? z = some { cls := .type "zip", dict := none, data := .fields #[rawInt a, .bool f, .bool false, .ref TI, .ref TO], slots := #[] }
section
variable {prog : Program} {w : World} {A : Around} {E : Value → Shared → Prop} {s : Shared}
theorem free_false {z TI TO a : Addr} {f : Bool} (hz : IsZipO s.heap z TI TO a f) (G : Bool → Shared → Prop) (hm : ∀ h₁ : Heap, IsZipO h₁ z TI TO a true → Heap.SameBut z s.heap h₁ → G false { s with heap := h₁ }) :
      wpAny (model prog w) A (if (Value.bool f != Value.bool true) = true then do
        setField (Value.ref z) 1 (Value.bool true)
        pure false
      else pure false) G E s := by
    cases f with
    | false =>
      rw [if_pos (show (Value.bool false != Value.bool true) = true from rfl)]
      refine wpAny_bind (wpAny_setField_rec hz (by simp) fun h₁ hz₁ hs₁ => wpAny_pure (hm h₁ hz₁ hs₁))
    | true =>
      rw [if_neg (show ¬ ((Value.bool true != Value.bool true) = true) from Bool.false_ne_true)]
      exact wpAny_pure (hm s.heap hz (Heap.SameBut.refl _ _))
theorem zipO_next_item {z TI TO i1 i2 l1 l2 a : Addr} {f : Bool} {oa : Obj} {k1 k2 : Nat} {xs ys : Array Value} {x y : Value} {Q : Value → Shared → Prop} (D : ZipApart z TI TO i1 i2 l1 l2)
    (hz : IsZipO s.heap z TI TO a f) (ha : s.heap.get? a = some oa) (hTI : IsPair s.heap TI (.ref i1) (.ref i2))
    (h1 : s.heap.IsListIter i1 l1 k1) (h2 : s.heap.IsListIter i2 l2 k2) (hl1 : s.heap.IsList l1 xs) (hl2 : s.heap.IsList l2 ys) (hx : xs[k1]? = some x) (hy : ys[k2]? = some y)
    (hQ : ∀ h', IsZipO h' z TI TO a true → h'.IsListIter i1 l1 (k1 + 1) → h'.IsListIter i2 l2 (k2 + 1) → IsPair h' s.heap.objs.size x y → h'.objs.size = s.heap.objs.size + 1 →
      (∀ c o, c ≠ z → c ≠ i1 → c ≠ i2 → s.heap.get? c = some o → h'.get? c = some o) → Q (.ref s.heap.objs.size) { s with heap := h' }) :
    wpAny (model prog w) A (Builtin.«zip.__next__» ⟨[.ref z], []⟩) (fun fin s' => ∃ v, fin = .done (.ret v) ∧ Q v s') E s := by
  show wpAny _ _ (field (.ref z) 2 >>= _) _ _ _
  refine wpAny_bind (wpAny_field hz rfl (x := .bool false) rfl ?_)
  show wpAny _ _ (field (.ref z) 3 >>= _) _ _ _
  refine wpAny_bind (wpAny_field hz rfl (x := .ref TI) rfl ?_)
  refine wpAny_bind (wpAny_seqItems hTI rfl ?_)
  show wpAny _ _ (Builtin.SmallTypes.ownedTupleIsFree (.ref z) >>= _) _ _ _
  refine wpAny_bind ?_
  unfold Builtin.SmallTypes.ownedTupleIsFree
  refine wpAny_bind (wpAny_field hz rfl (x := rawInt a) rfl ?_)
  show wpAny _ _ (loadIfAlive ((a : Int).toNat) >>= _) _ _ _
  rw [Int.toNat_natCast]
  refine wpAny_bind (PySem.W.kdx_alive ha ?_)
  simp only [Option.isNone_some, Bool.false_eq_true, if_false]
  refine wpAny_bind (wpAny_field hz rfl (x := .bool f) rfl ?_)
  refine free_false hz _ fun h₁ hz₁ hs₁ => ?_
  simp only [Bool.false_eq_true, if_false]
  rw [← Array.forIn_toList]
  simp only [List.forIn_cons, List.forIn_nil]
  refine wpAny_bind (wpAny_bind (wpAny_bind (wpAny_holding ?_)))
  show wpAny _ _ (Builtin.SmallTypes.nextOf (.ref i1) >>= _) _ _ _
  refine wpAny_bind (wpAny_nextOf_list_item (h1.extBut hs₁.extBut D.i1z) (hl1.extBut hs₁.extBut D.l1z) hx fun h₂ h1₂ hs₂ => wpAny_pure ?_)
  refine wpAny_pure ?_
  refine wpAny_bind (wpAny_bind (wpAny_holding ?_))
  show wpAny _ _ (Builtin.SmallTypes.nextOf (.ref i2) >>= _) _ _ _
  refine wpAny_bind (wpAny_nextOf_list_item ((h2.extBut hs₁.extBut D.i2z).extBut hs₂.extBut D.i12.symm)
    ((hl2.extBut hs₁.extBut D.l2z).extBut hs₂.extBut D.l2i1) hy fun h₄ h2₄ hs₄ => wpAny_pure ?_)
  refine wpAny_pure (wpAny_pure ?_)
  dsimp only at hs₁ hs₂ hs₄ ⊢
  refine wpAny_bind (wpAny_newTuple (hsz := show 2 ≤ sizeLine by decide) ?_)
  have hsz : h₄.objs.size = s.heap.objs.size := by rw [hs₄.1, hs₂.1, hs₁.1]
  have hk : ∀ c o, c ≠ z → c ≠ i1 → c ≠ i2 → s.heap.get? c = some o → h₄.get? c = some o := fun c o c1 c3 c4 e => hs₄.extBut _ _ c4 (hs₂.extBut _ _ c3 (hs₁.extBut _ _ c1 e))
  have hz₄ : IsZipO h₄ z TI TO a true := hs₄.extBut _ _ D.i2z.symm (hs₂.extBut _ _ D.i1z.symm hz₁)
  have h1₄ := h1₂.extBut hs₄.extBut D.i12
  refine wpAny_pure ⟨_, rfl, ?_⟩
  rw [hsz]
  refine hQ _ (Heap.get?_push_of_some _ hz₄) (h1₄.at fun o e => Heap.get?_push_of_some _ e) (h2₄.at fun o e => Heap.get?_push_of_some _ e) ?_ ?_ fun c o c1 c2 c3 e => Heap.get?_push_of_some _ (hk c o c1 c2 c3 e)
  · have e : IsPair (h₄.push { cls := .type "tuple", data := .seq #[x, y] }) h₄.objs.size x y := Heap.get?_push_size _ rfl
    rw [hsz] at e
    exact e
  · rw [Heap.size_push, hsz]
theorem zipO_next_end {z TI TO i1 i2 l1 l2 a : Addr} {f : Bool} {oa : Obj} {k1 : Nat} {xs : Array Value} {Q : PySem.Fin → Shared → Prop} (hh : A.handled = none) (D : ZipApart z TI TO i1 i2 l1 l2)
    (hz : IsZipO s.heap z TI TO a f) (ha : s.heap.get? a = some oa) (hTI : IsPair s.heap TI (.ref i1) (.ref i2))
    (h1 : s.heap.IsListIter i1 l1 k1) (hl1 : s.heap.IsList l1 xs) (hx : xs[k1]? = none)
    (hE : ∀ h' e, (∀ c o, c ≠ z → c ≠ i1 → s.heap.get? c = some o → h'.get? c = some o) → (∃ o, h'.get? e = some o ∧ o.cls = .type "StopIteration") → E (.ref e) { s with heap := h' }) :
    wpAny (model prog w) A (Builtin.«zip.__next__» ⟨[.ref z], []⟩) Q E s := by
  show wpAny _ _ (field (.ref z) 2 >>= _) _ _ _
  refine wpAny_bind (wpAny_field hz rfl (x := .bool false) rfl ?_)
  show wpAny _ _ (field (.ref z) 3 >>= _) _ _ _
  refine wpAny_bind (wpAny_field hz rfl (x := .ref TI) rfl ?_)
  refine wpAny_bind (wpAny_seqItems hTI rfl ?_)
  show wpAny _ _ (Builtin.SmallTypes.ownedTupleIsFree (.ref z) >>= _) _ _ _
  refine wpAny_bind ?_
  unfold Builtin.SmallTypes.ownedTupleIsFree
  refine wpAny_bind (wpAny_field hz rfl (x := rawInt a) rfl ?_)
  show wpAny _ _ (loadIfAlive ((a : Int).toNat) >>= _) _ _ _
  rw [Int.toNat_natCast]
  refine wpAny_bind (PySem.W.kdx_alive ha ?_)
  simp only [Option.isNone_some, Bool.false_eq_true, if_false]
  refine wpAny_bind (wpAny_field hz rfl (x := .bool f) rfl ?_)
  refine free_false hz _ fun h₁ hz₁ hs₁ => ?_
  simp only [Bool.false_eq_true, if_false]
  rw [← Array.forIn_toList]
  simp only [List.forIn_cons, List.forIn_nil]
  refine wpAny_bind (wpAny_bind (wpAny_bind (wpAny_holding ?_)))
  show wpAny _ _ (Builtin.SmallTypes.nextOf (.ref i1) >>= _) _ _ _
  refine wpAny_bind (wpAny_nextOf_list_end hh (h1.extBut hs₁.extBut D.i1z) (hl1.extBut hs₁.extBut D.l1z) hx fun h₂ e hs₂ he => ?_)
  exact hE h₂ e (fun c o c1 c3 x => hs₂ _ _ c3 (hs₁.extBut _ _ c1 x)) he
/-- the zip between two turns of the list that takes its pairs -/
structure ZSt (h : Heap) (z TI TO i1 i2 l1 l2 S : Addr) (i : Nat) : Prop where
  ti : IsPair h TI (.ref i1) (.ref i2)
  a1 : h.IsListIter i1 l1 i
  a2 : h.IsListIter i2 l2 i
  st : (IsZip h z TI TO .none ∧ ∃ x y, IsPair h TO x y) ∨ ∃ a f oa, IsZipO h z TI TO a f ∧ h.get? a = some oa ∧ a ≠ z ∧ a ≠ i1 ∧ a ≠ i2 ∧ a ≠ S
theorem z_item {z TI TO i1 i2 l1 l2 S : Addr} {i : Nat} {xs ys : Array Value} {x y : Value} {Q : Option Value → Shared → Prop} (D : ZipApart z TI TO i1 i2 l1 l2)
    (st : ZSt s.heap z TI TO i1 i2 l1 l2 S i) (hS : S < s.heap.objs.size) (hl1 : s.heap.IsList l1 xs) (hl2 : s.heap.IsList l2 ys) (hx : xs[i]? = some x) (hy : ys[i]? = some y)
    (hQ : ∀ h', ZSt h' z TI TO i1 i2 l1 l2 S (i + 1) → IsPair h' s.heap.objs.size x y → h'.objs.size = s.heap.objs.size + 1 →
      (∀ c o, c ≠ z → c ≠ TO → c ≠ i1 → c ≠ i2 → s.heap.get? c = some o → h'.get? c = some o) → Q (some (.ref s.heap.objs.size)) { s with heap := h' }) :
    wpAny (model prog w) A (pyNext (.ref z)) Q E s := by
  obtain ⟨ti, a1, a2, ⟨hz, x0, y0, hTO⟩ | ⟨a, f, oa, hz, ha, b1, b2, b3, b4⟩⟩ := st
  · refine wpAny_pyNext_zip_item D hz ti hTO a1 a2 hl1 hl2 hx hy fun h' c1 c2 c3 c4 c5 c6 c7 => hQ h' ⟨c7 _ _ D.TIz D.TITO D.TIi1 D.TIi2 ti, c3, c4, .inr ⟨_, false, _, c1, c5, Nat.ne_of_gt (Heap.lt_size hz), ?_, ?_, Nat.ne_of_gt hS⟩⟩ c5 c6 c7
    · obtain ⟨_, e, _⟩ := a1
      exact Nat.ne_of_gt (Heap.lt_size e)
    · obtain ⟨_, e, _⟩ := a2
      exact Nat.ne_of_gt (Heap.lt_size e)
  · have hT : s.TypeIs (.ref z) "zip" := ⟨_, hz, rfl⟩
    unfold pyNext
    refine wpAny_bind (wpAny_attempt (wpAny_callSpecial?_slot (name := Str.ofString "__next__") hT F.slot_zip_next (wpAny_call_entry F.slot_zip_next hT F.entry_zip_next
      (zipO_next_item D hz ha ti a1 a2 hl1 hl2 hx hy fun h' c1 c3 c4 c5 c6 c7 => wpAny_pure ?_) (F.args_zip_next_1 _))))
    exact hQ h' ⟨c7 _ _ D.TIz D.TIi1 D.TIi2 ti, c3, c4, .inr ⟨a, true, _, c1, c7 _ _ b1 b2 b3 ha, b1, b2, b3, b4⟩⟩ c5 c6 fun c o d1 _ d3 d4 e => c7 c o d1 d3 d4 e
theorem z_done {z TI TO i1 i2 l1 l2 S : Addr} {i : Nat} {xs ys : Array Value} {Q : Option Value → Shared → Prop} (hh : A.handled = none) (D : ZipApart z TI TO i1 i2 l1 l2)
    (st : ZSt s.heap z TI TO i1 i2 l1 l2 S i) (hl1 : s.heap.IsList l1 xs) (hl2 : s.heap.IsList l2 ys) (hx : xs[i]? = none)
    (hQ : ∀ h', (∀ c o, c ≠ z → c ≠ TO → c ≠ i1 → c ≠ i2 → s.heap.get? c = some o → h'.get? c = some o) → Q none { s with heap := h' }) :
    wpAny (model prog w) A (pyNext (.ref z)) Q E s := by
  obtain ⟨ti, a1, a2, ⟨hz, x0, y0, hTO⟩ | ⟨a, f, oa, hz, ha, b1, b2, b3, b4⟩⟩ := st
  · exact wpAny_pyNext_zip_end hh D hz ti hTO a1 a2 hl1 hl2 (.inl hx) hQ
  · have hT : s.TypeIs (.ref z) "zip" := ⟨_, hz, rfl⟩
    unfold pyNext
    refine wpAny_bind (wpAny_attempt (wpAny_callSpecial?_slot (name := Str.ofString "__next__") hT F.slot_zip_next (wpAny_call_entry F.slot_zip_next hT F.entry_zip_next
      (zipO_next_end hh D hz ha ti a1 hl1 hx fun h' e hk he => ?_) (F.args_zip_next_1 _))))
    obtain ⟨o, ho, hc⟩ := he
    refine wpAny_bind (wpAny_isInstance (T := "StopIteration") (b := true) ⟨o, ho, hc⟩ isSubtype_stop ?_)
    exact wpAny_pure (hQ _ fun c o d1 _ d3 _ e => hk c o d1 d3 e)
/-- the pairs that were taken, in their order -/
structure ZG (xs ys : Array Value) (lo : Addr) (h : Heap) (as : List Addr) : Prop where
  rise : as.Pairwise (· < ·)
  above : ∀ a ∈ as, lo < a
  prs : ∀ (j : Nat) (a : Addr), as[j]? = some a → ∃ u v, xs[j]? = some u ∧ ys[j]? = some v ∧ IsPair h a u v
theorem ZG.there {xs ys : Array Value} {lo : Addr} {h : Heap} {as : List Addr} (g : ZG xs ys lo h as) {a : Addr} (ha : a ∈ as) : a < h.objs.size := by
  obtain ⟨j, hj⟩ := List.mem_iff_getElem?.mp ha
  obtain ⟨_, _, _, _, e⟩ := g.prs j a hj
  exact Heap.lt_size e
end
theorem zip_no_len : typeLookup (.type "zip") "__len__" = pure none := by rw [typeLookup_type, builtinLookup_eq_fast]; kernel_rfl
theorem zip_no_hint : typeLookup (.type "zip") "__length_hint__" = pure none := by rw [typeLookup_type, builtinLookup_eq_fast]; kernel_rfl
section
variable {prog : Program} {w : World} {A : Around} {s : Shared} {R : Result → Shared → Prop} {xs ys : Array Value}
theorem z_loop {z TI TO i1 i2 l1 l2 S : Addr} (hh : A.handled = none) (D : ZipApart z TI TO i1 i2 l1 l2) (hn : xs.size ≤ sizeLine) (hxy : xs.size = ys.size) (res : Value) {h₁ : Heap}
    (nS : S ≠ z ∧ S ≠ TI ∧ S ≠ TO ∧ S ≠ i1 ∧ S ≠ i2 ∧ S ≠ l1 ∧ S ≠ l2) (lo : z < S ∧ TO < S ∧ i1 < S ∧ i2 < S)
    (hR : ∀ h' tk acc c as, (∀ b o, b ≠ S → b ≠ z → b ≠ TO → b ≠ i1 → b ≠ i2 → h₁.get? b = some o → h'.get? b = some o) → h'.get? S = some { cls := .type "list", dict := none, data := .seq acc c, slots := #[] } → as.length = xs.size → ZG xs ys S h' as →
      acc.toList = as.map Value.ref → R (.ok (.ret res)) { s with heap := h', toks := tk }) :
    ∀ (k i : Nat) (h : Heap) (tk c : Nat) (acc : Array Value) (as : List Addr), xs.size - i = k → i ≤ xs.size → ZSt h z TI TO i1 i2 l1 l2 S i → h.IsList l1 xs → h.IsList l2 ys →
      (∀ b o, b ≠ S → b ≠ z → b ≠ TO → b ≠ i1 → b ≠ i2 → h₁.get? b = some o → h.get? b = some o) →
      h.get? S = some { cls := .type "list", dict := none, data := .seq acc c, slots := #[] } → acc.toList = as.map Value.ref → as.length = i → ZG xs ys S h as →
      codeAny (model prog w) A (.builtin "list.extend.loop" ⟨[.ref S, .ref z, res], []⟩) R { s with heap := h, toks := tk } := by
  obtain ⟨n1, n2, n3, n4, n5, n6, n7⟩ := nS
  obtain ⟨g1, g2, g3, g4⟩ := lo
  intro k
  induction k with
  | zero =>
    intro i h tk c acc as hk hi st hl1 hl2 hkeep hS hacc hal hG
    refine codeAny_builtin PySem.F.entry_extend_loop ?_
    rw [Around.under_plainId PySem.F.plain_extend_loop _]
    show wpAny _ A.in1 (pyNext (.ref z) >>= _) _ _ _
    refine wpAny_bind (z_done (s := { s with heap := h, toks := tk }) (A := A.in1) hh D st hl1 hl2 (by rw [Array.getElem?_eq_none]; omega) fun h' he => ?_)
    refine wpAny_pure (hR h' tk acc c as (fun b o e0 e1 e2 e3 e4 e => he b o e1 e2 e3 e4 (hkeep b o e0 e1 e2 e3 e4 e)) (he S _ n1 n3 n4 n5 hS) (by omega) ⟨hG.rise, hG.above, fun j a hj => ?_⟩ hacc)
    obtain ⟨u, v, e1, e2, e3⟩ := hG.prs j a hj
    have hb := hG.above a (List.mem_of_getElem? hj)
    exact ⟨u, v, e1, e2, he a _ (Nat.ne_of_gt (Nat.lt_trans g1 hb)) (Nat.ne_of_gt (Nat.lt_trans g2 hb)) (Nat.ne_of_gt (Nat.lt_trans g3 hb)) (Nat.ne_of_gt (Nat.lt_trans g4 hb)) e3⟩
  | succ k ih =>
    intro i h tk c acc as hk hi st hl1 hl2 hkeep hS hacc hal hG
    have hlt : i < xs.size := by omega
    have hsz : acc.size = i := by rw [← Array.length_toList, hacc, List.length_map, hal]
    have hSl : S < h.objs.size := Heap.lt_size hS
    refine codeAny_builtin PySem.F.entry_extend_loop ?_
    rw [Around.under_plainId PySem.F.plain_extend_loop _]
    show wpAny _ A.in1 (pyNext (.ref z) >>= _) _ _ _
    refine wpAny_bind (z_item (s := { s with heap := h, toks := tk }) (S := S) D st hSl hl1 hl2 (Array.getElem?_eq_getElem hlt) (Array.getElem?_eq_getElem (by omega)) fun h' st' ht hz hkp => ?_)
    dsimp only at ht hz hkp ⊢
    have hS' := hkp S _ n1 n3 n4 n5 hS
    have up : ∀ b o, b ≠ S → h'.get? b = some o → (h'.update S (Obj.mapSeq (·.push (Value.ref h.objs.size)))).get? b = some o := fun b o hb e => (Heap.get?_update_other _ _ (Ne.symm hb)).trans e
    show wpAny _ A.in1 (updateSeq S (·.push (Value.ref h.objs.size)) >>= _) _ _ _
    refine wpAny_bind ?_
    refine wpAny_updateSeq hS' rfl (wpAny_pure ⟨plainId_quiet PySem.F.plain_extend_loop _, ih (i + 1) _ tk _ (acc.push (Value.ref h.objs.size)) (as ++ [h.objs.size]) (by omega) hlt ?_ (hl1.at fun o e => up l1 o n6.symm (hkp l1 o D.l1z D.l1TO D.l1i1 D.l1i2 e)) (hl2.at fun o e => up l2 o n7.symm (hkp l2 o D.l2z D.l2TO D.l2i1 D.l2i2 e))
      (fun b o e0 e1 e2 e3 e4 e => up b o e0 (hkp b o e1 e2 e3 e4 (hkeep b o e0 e1 e2 e3 e4 e))) (Heap.get?_update_self _ hS' rfl) (by rw [Array.toList_push, hacc, List.map_append]; rfl) (by rw [List.length_append, hal]; rfl) ⟨?_, ?_, ?_⟩⟩) (by rw [hsz]; omega) (by show (acc.push (Value.ref h.objs.size)).size ≤ sizeLine + 1; rw [Array.size_push, hsz]; omega)
    · obtain ⟨ti, b1, b2, ⟨hz, x0, y0, hTO⟩ | ⟨a, f, oa, hz, ha, b5, b6, b7, b8⟩⟩ := st'
      · exact ⟨up _ _ n2.symm ti, b1.at fun o e => up _ o n4.symm e, b2.at fun o e => up _ o n5.symm e, .inl ⟨up _ _ n1.symm hz, x0, y0, up _ _ n3.symm hTO⟩⟩
      · exact ⟨up _ _ n2.symm ti, b1.at fun o e => up _ o n4.symm e, b2.at fun o e => up _ o n5.symm e, .inr ⟨a, f, oa, up _ _ n1.symm hz, up _ _ b8 ha, b5, b6, b7, b8⟩⟩
    · refine List.pairwise_append.mpr ⟨hG.rise, List.pairwise_singleton _ _, fun a ha b hb => ?_⟩
      rw [List.mem_singleton.mp hb]
      exact hG.there ha
    · intro a ha
      rcases List.mem_append.mp ha with ha | ha
      · exact hG.above a ha
      · rw [List.mem_singleton.mp ha]; exact hSl
    · intro j b hj
      rcases Nat.lt_trichotomy j as.length with q | q | q
      · rw [List.getElem?_append_left q] at hj
        obtain ⟨u, v, e1, e2, e3⟩ := hG.prs j b hj
        have hb := hG.above b (List.mem_of_getElem? hj)
        exact ⟨u, v, e1, e2, up b _ (Nat.ne_of_gt hb) (hkp b _ (Nat.ne_of_gt (Nat.lt_trans g1 hb)) (Nat.ne_of_gt (Nat.lt_trans g2 hb)) (Nat.ne_of_gt (Nat.lt_trans g3 hb)) (Nat.ne_of_gt (Nat.lt_trans g4 hb)) e3)⟩
      · subst q
        have hb : h.objs.size = b := by simpa using hj
        subst hb
        exact ⟨_, _, by rw [hal]; exact Array.getElem?_eq_getElem hlt, by rw [hal]; exact Array.getElem?_eq_getElem (by omega), up _ _ (Nat.ne_of_gt hSl) ht⟩
      · have hnone : (as ++ [h.objs.size])[j]? = none := List.getElem?_eq_none (by rw [List.length_append, List.length_singleton]; omega)
        rw [hnone] at hj; cases hj
end
section
variable {prog : Program} {w : World} {A : Around} {E : Value → Shared → Prop} {s : Shared} {xs ys : Array Value}
/-- list(z) of a zip that has not begun -/
theorem z_call {z TI TO i1 i2 l1 l2 : Addr} {Q : Value → Shared → Prop} (hh : A.handled = none) (D : ZipApart z TI TO i1 i2 l1 l2) (hn : xs.size ≤ sizeLine) (hxy : xs.size = ys.size)
    (hz : IsZip s.heap z TI TO .none) (hTI : IsPair s.heap TI (.ref i1) (.ref i2)) (hTO : ∃ x y, IsPair s.heap TO x y) (h1 : s.heap.IsListIter i1 l1 0) (h2 : s.heap.IsListIter i2 l2 0) (hl1 : s.heap.IsList l1 xs) (hl2 : s.heap.IsList l2 ys)
    (hQ : ∀ h' tk acc c as, (∀ b o, b ≠ z → b ≠ TO → b ≠ i1 → b ≠ i2 → s.heap.get? b = some o → h'.get? b = some o) → h'.get? s.heap.objs.size = some { cls := .type "list", dict := none, data := .seq acc c, slots := #[] } → as.length = xs.size → ZG xs ys s.heap.objs.size h' as →
      acc.toList = as.map Value.ref → Q (.ref s.heap.objs.size) { s with heap := h', toks := tk }) :
    wpAny (model prog w) A (call (.type "list") [.ref z]) Q E s := by
  obtain ⟨x0, y0, hTO⟩ := hTO
  have lz : z < s.heap.objs.size := Heap.lt_size hz
  have lTI : TI < s.heap.objs.size := Heap.lt_size hTI
  have lTO : TO < s.heap.objs.size := Heap.lt_size hTO
  have li1 : i1 < s.heap.objs.size := by
    obtain ⟨_, e, _⟩ := h1
    exact Heap.lt_size e
  have li2 : i2 < s.heap.objs.size := by
    obtain ⟨_, e, _⟩ := h2
    exact Heap.lt_size e
  have ll1 : l1 < s.heap.objs.size := by
    obtain ⟨_, e, _⟩ := hl1
    exact Heap.lt_size e
  have ll2 : l2 < s.heap.objs.size := by
    obtain ⟨_, e, _⟩ := hl2
    exact Heap.lt_size e
  refine callType_codes (Q₁ := fun obj s₁ => obj = .ref s.heap.objs.size ∧ s₁ = { s with heap := s.heap.push { cls := .type "list", data := .seq #[] } }) PySem.F.called_list (PySem.F.typeCall_list_1 _) PySem.F.entry_list_init
    (code_list_new _ ⟨rfl, rfl⟩) fun obj s₁ h₁ => ?_
  obtain ⟨rfl, rfl⟩ := h₁
  have hS : (s.heap.push { cls := .type "list", data := .seq #[] }).get? s.heap.objs.size = some { cls := .type "list", data := .seq #[] } := Heap.get?_push_size _ rfl
  refine ⟨⟨_, hS, rfl⟩, PySem.F.args_list_init_2 _ _, ?_⟩
  show wpAny _ A.in1.in1 (do let old ← Builtin.List.listItems (.ref s.heap.objs.size); Builtin.List.listUpdate (.ref s.heap.objs.size) (fun _ => #[]); letGo old.toList.reverse; Builtin.List.listExtendWith (.ref s.heap.objs.size) (.ref z) .none) _ _ _
  refine wpAny_bind ?_
  unfold Builtin.List.listItems
  refine wpAny_bind (wpAny_seqItems hS rfl (wpAny_pure ?_))
  show wpAny _ A.in1.in1 (updateSeq s.heap.objs.size (fun _ => #[]) >>= fun _ => letGo (#[] : Array Value).toList.reverse >>= fun _ => Builtin.List.listExtendWith (.ref s.heap.objs.size) (.ref z) .none) _ _ _
  refine wpAny_bind (wpAny_updateSeq hS rfl ?_)
  have hS2 := Heap.get?_update_self (Obj.mapSeq (fun _ => (#[] : Array Value))) hS rfl
  refine wpAny_bind (wpAny_letGo ?_)
  unfold Builtin.List.listExtendWith
  have up : ∀ (h : Heap) (f : Obj → Obj), (∀ b o, s.heap.get? b = some o → h.get? b = some o) → ∀ b o, s.heap.get? b = some o → (h.update s.heap.objs.size f).get? b = some o := fun h f q b o e =>
    (Heap.get?_update_other _ _ (Ne.symm (Nat.ne_of_lt (Heap.lt_size e)))).trans (q b o e)
  have k1 : ∀ b o, s.heap.get? b = some o → (s.heap.push { cls := .type "list", data := .seq #[] }).get? b = some o := fun b o e => Heap.get?_push_of_some _ e
  have k2 := up _ (Obj.mapSeq (fun _ => (#[] : Array Value))) k1
  have zty : ∀ {h : Heap}, (∀ b o, s.heap.get? b = some o → h.get? b = some o) → Shared.TypeIs { s with heap := h } (.ref z) "zip" := fun {h} q => ⟨_, q _ _ hz, rfl⟩
  refine wpAny_bind (wpAny_typeOf (zty k2) ?_)
  have q1 : Builtin.List.listSameRef (.ref s.heap.objs.size) (.ref z) = false := by simp [Builtin.List.listSameRef, Nat.ne_of_gt lz]
  have q2 : (Value.type "zip" == Value.type "list") = false := by decide
  have q3 : (Value.type "zip" == Value.type "tuple") = false := by decide
  simp only [q1, q2, q3, Bool.or_false, Bool.false_eq_true, if_false]
  refine wpAny_bind (wpAny_pyIter_zip (s := { s with heap := _ }) (k2 _ _ hz) ?_)
  refine wpAny_bind (wpAny_holding ?_)
  unfold Builtin.List.listLengthHint
  refine wpAny_bind (wpAny_specialOf (zty k2) zip_no_len ?_)
  show wpAny _ A.in1.in1 (specialOf (Value.ref z) (Str.ofString "__length_hint__") >>= _) _ _ _
  refine wpAny_bind (wpAny_specialOf (zty k2) zip_no_hint ?_)
  refine wpAny_pure ?_
  refine wpAny_ite_split (fun _ => ?_) (fun q => absurd (Bool.true_or _) q)
  refine wpAny_bind (wpAny_rule ?_)
  refine wpAny_bind ?_
  show wpAny _ A.in1.in1 (updateSeq s.heap.objs.size (·.push .none) >>= fun _ => updateSeq s.heap.objs.size (·.pop)) _ _ _
  refine wpAny_bind (wpAny_updateSeq hS2 rfl ?_)
  have hS3 := Heap.get?_update_self (Obj.mapSeq (·.push Value.none)) hS2 rfl
  refine wpAny_updateSeq (hz := by seq_fits) hS3 rfl ?_
  have hS4 := Heap.get?_update_self (Obj.mapSeq (·.pop)) hS3 rfl
  have k4 := up _ (Obj.mapSeq (·.pop)) (up _ (Obj.mapSeq (·.push Value.none)) k2)
  refine wpAny_pure ⟨plainId_quiet F.plain_extend_loop _, ?_⟩
  refine z_loop (s := s) (A := A.in1) (xs := xs) (ys := ys) (h₁ := s.heap) hh D hn hxy .none ⟨Nat.ne_of_gt lz, Nat.ne_of_gt lTI, Nat.ne_of_gt lTO, Nat.ne_of_gt li1, Nat.ne_of_gt li2, Nat.ne_of_gt ll1, Nat.ne_of_gt ll2⟩ ⟨lz, lTO, li1, li2⟩
    (fun h' tk acc c as f1 f2 f3 f4 f5 => ⟨rfl, hQ h' tk acc c as (fun b o e1 e2 e3 e4 e => f1 b o (Nat.ne_of_lt (Heap.lt_size e)) e1 e2 e3 e4 e) f2 f3 f4 f5⟩)
    xs.size 0 _ s.toks _ #[] [] (Nat.sub_zero _) (Nat.zero_le _) ⟨k4 _ _ hTI, h1.at fun o e => k4 _ o e, h2.at fun o e => k4 _ o e, .inl ⟨k4 _ _ hz, x0, y0, k4 _ _ hTO⟩⟩ (hl1.at fun o e => k4 _ o e) (hl2.at fun o e => k4 _ o e) (fun b o _ _ _ _ _ e => k4 b o e) hS4 rfl rfl
    ⟨List.Pairwise.nil, fun a ha => (nomatch ha), fun j a hj => (nomatch hj)⟩
end
/-! ### in the tracked heap -/
def putP : Hp → List Addr → List (V × V) → Hp
  | H, a :: as, p :: ps => putP (upd H a (.tup [p.1, p.2])) as ps
  | H, _, _ => H
theorem putP_off {b : Addr} : ∀ (as : List Addr) (ps : List (V × V)) (H : Hp), b ∉ as → putP H as ps b = H b
  | [], _, _, _ => rfl
  | _ :: _, [], _, _ => rfl
  | a :: as, p :: ps, H, h => by
    have h1 := putP_off as ps (upd H a (.tup [p.1, p.2])) fun z => h (List.mem_cons_of_mem _ z)
    have h2 : b ≠ a := fun z => h (by rw [z]; exact List.mem_cons_self)
    rw [upd_ne h2] at h1
    exact h1
theorem putP_at : ∀ (as : List Addr) (ps : List (V × V)) (H : Hp), as.length = ps.length → as.Nodup → ∀ (j : Nat) (a : Addr), as[j]? = some a → ∃ p, ps[j]? = some p ∧ putP H as ps a = some (.tup [p.1, p.2])
  | [], _, _, _, _, j, a, e => by simp at e
  | _ :: _, [], _, h, _, _, _, _ => by cases h
  | b :: as, p :: ps, H, h, nd, 0, a, e => by
    cases e
    have nd2 := List.nodup_cons.mp nd
    refine ⟨p, rfl, ?_⟩
    have h1 := putP_off as ps (upd H b (.tup [p.1, p.2])) nd2.1
    rw [upd_same] at h1
    exact h1
  | b :: as, p :: ps, H, h, nd, j + 1, a, e => putP_at as ps (upd H b (.tup [p.1, p.2])) (Nat.succ.inj h) (List.nodup_cons.mp nd).2 j a e
/-- the list of pairs of what stands in two lists -/
def rZip2 (K : PySem.W.Frag) : List V → Hp → VK → Prop := fun vs H Q => ∃ (a b : Addr) (xs ys : List V), vs = [.ref a, .ref b] ∧ SqL K H a xs ∧ SqL K H b ys ∧ xs.length = ys.length ∧
  ∀ (H' : Hp) (p : Addr) (ts : List Addr), Same H H' → H p = none → (∀ t ∈ ts, H t = none) → p ∉ ts → ts.length = xs.length → H' p = some (.lst (ts.map V.ref)) →
    (∀ (j : Nat) (t : Addr), ts[j]? = some t → ∃ x y, xs[j]? = some x ∧ ys[j]? = some y ∧ H' t = some (.tup [x, y])) → Q (.ref p) H'
def tListZip (K : PySem.W.Frag) (ta : TA) : TE := fun σ H Q => ta σ H fun vs H1 => rZip2 K vs H1 Q
section
variable {X : Cx} {e e2 : Expr} {ta : TA} {p p2 pos pos2 : Pos}
theorem pe_listZip (hc : X.calm = true) (ha : PA X [e, e2] ta) (hg : Gl X "list") (hm : X.mg "list" = none) (hv : bootBuiltins "list" = some (.type "list")) (hg2 : Gl X "zip") (hm2 : X.mg "zip" = none)
    (hs : starEach [.Call (.Name "zip" p2) [e, e2] [] pos2] X.env = (false, eval (.Call (.Name "zip" p2) [e, e2] [] pos2) X.env) :: starEach [] X.env := by rfl)
    (hs2 : starEach [e, e2] X.env = (false, eval e X.env) :: starEach [e2] X.env := by rfl) (hpl : (backTo pos2 (starEach [e2] X.env)).any (·.1) = false := by rfl) :
    PE X (.Call (.Name "list" p) [.Call (.Name "zip" p2) [e, e2] [] pos2] [] pos) (tListZip X.K ta) := by
  refine ⟨fun pins s σ H Q I hq => ?_⟩
  refine wpAny_Call_Name_kw (ld_blt I hg hm hv ?_)
  refine PyProof.Rows.callWith_type1 ?_ hs rfl
  rw [hs]
  show wpAny _ _ (spliced ((false, eval (.Call (.Name "zip" p2) [e, e2] [] pos2) X.env) :: backTo pos (starEach [] X.env))) _ _ s
  refine Calls.spliced_cons ?_
  refine Call_ (ld_blt I hg2 hm2 PyProof.Rows.boot_zip (PyProof.Rows.callWith_type1 (thn (ha.run pos2 pins s σ H _ I hq) fun us s1 ⟨vs, H1, I1, r1, q1⟩ => ?_) hs2 hpl))
  obtain ⟨a, b, xs, ys, ex, hqx, hqy, hxy, q⟩ := q1
  subst ex
  cases r1 with
  | cons r rr =>
    cases rr with
    | cons r' rr =>
      cases rr
      cases r
      cases r'
      obtain ⟨its, rv, p1, _⟩ := I1.list hqx
      obtain ⟨its2, rv2, p2, _⟩ := I1.list hqy
      have la : a < s1.heap.objs.size := p1.lt
      have lb : b < s1.heap.objs.size := p2.lt
      have l1 := rv.length
      have l2 := rv2.length
      refine call_zip_2 p1.isList p2.isList fun h' hz hTI hTO h1 h2 hsz hk => ?_
      refine Calls.spliced_nil ?_
      have low : ∀ b' o, s1.heap.get? b' = some o → b' < s1.heap.objs.size := fun b' o e => Heap.lt_size e
      have far : ∀ (b' : Addr) (n : Nat), b' < s1.heap.objs.size → b' ≠ s1.heap.objs.size + n := fun b' n z => Nat.ne_of_lt (Nat.lt_of_lt_of_le z (Nat.le_add_right _ _))
      refine z_call (s := { s1 with heap := h' }) (xs := its.toArray) (ys := its2.toArray) (I1.ok.hd hc) (PySem.W.ktu_apart s1.heap.objs.size a b la lb) (by rw [List.size_toArray]; omega) (by rw [List.size_toArray, List.size_toArray]; omega) hz hTI ⟨_, _, hTO⟩ h1 h2
        (p1.isList.at fun o e => hk _ o e) (p2.isList.at fun o e => hk _ o e) fun h'' tk acc c as hk2 hS hl hG hacc => ?_
      dsimp only at hk2 hS hG ⊢
      rw [hsz] at hS hG ⊢
      have kp : ∀ b' o, s1.heap.get? b' = some o → h''.get? b' = some o := fun b' o e => by
        have := low b' o e
        exact hk2 b' o (far _ _ this) (far _ _ this) (Nat.ne_of_lt this) (far _ _ this) (hk b' o e)
      have hl2 : as.length = xs.length := by
        rw [hl, List.size_toArray]
        omega
      have hSn : s1.heap.objs.size + 5 ∉ as := fun z => Nat.lt_irrefl _ (hG.above _ z)
      have nd : as.Nodup := List.Pairwise.imp (fun {a b} (h : a < b) => Nat.ne_of_lt h) hG.rise
      have new : ∀ t ∈ as, H1 t = none := fun t ht => I1.hok.fresh (Nat.le_trans (Nat.le_add_right _ _) (Nat.le_of_lt (hG.above t ht)))
      have newS : H1 (s1.heap.objs.size + 5) = none := I1.hok.fresh (by omega)
      have lz : as.length = (xs.zip ys).length := by
        rw [List.length_zip]
        omega
      have off : ∀ b', b' ∉ as → b' ≠ s1.heap.objs.size + 5 → putP (upd H1 (s1.heap.objs.size + 5) (.lst (as.map V.ref))) as (xs.zip ys) b' = H1 b' := fun b' e1 e2 => by rw [putP_off as _ _ e1, upd_ne e2]
      have eS : putP (upd H1 (s1.heap.objs.size + 5) (.lst (as.map V.ref))) as (xs.zip ys) (s1.heap.objs.size + 5) = some (.lst (as.map V.ref)) := by rw [putP_off as _ _ hSn, upd_same]
      have atP := putP_at as (xs.zip ys) (upd H1 (s1.heap.objs.size + 5) (.lst (as.map V.ref))) lz nd
      generalize putP (upd H1 (s1.heap.objs.size + 5) (.lst (as.map V.ref))) as (xs.zip ys) = H' at off eS atP
      have kpH : ∀ b' u, H1 b' = some u → H' b' = some u := fun b' u e => by
        rw [off b' (fun z => by rw [new b' z] at e; cases e) (fun z => by rw [z, newS] at e; cases e)]
        exact e
      have at2 : ∀ (j : Nat) (t : Addr), as[j]? = some t → ∃ x y, xs[j]? = some x ∧ ys[j]? = some y ∧ H' t = some (.tup [x, y]) := fun j t e => by
        obtain ⟨pr, e1, e2⟩ := atP j t e
        obtain ⟨x, y⟩ := pr
        rw [List.getElem?_zip_eq_some] at e1
        exact ⟨x, y, e1.1, e1.2, e2⟩
      refine ⟨.ref (s1.heap.objs.size + 5), H', ?_, rfl, q H' _ as kpH newS new hSn hl2 eS at2⟩
      refine I1.call' (ch := []) rfl ⟨fun b' o e _ _ _ => kp b' o e, fun b' o e _ _ _ => ⟨o.slots, kp b' o e⟩, fun b' o e n _ => ?_, fun b' o e _ => ⟨o, kp b' o e⟩, fun b' xs' e => kpH b' _ e, fun b' o u e => kpH b' _ e, fun b' ps e => ⟨#[], by rw [kpH b' _ e]; simp⟩⟩ (fun b' u e => ?_) I1.bare fun b' z => by simp at z
      · have lb' := low b' o e
        rw [off b' (fun z => Nat.lt_asymm (Nat.lt_of_le_of_lt (Nat.le_add_right _ 5) (hG.above b' z)) lb') (far _ _ lb')]
        exact n
      · by_cases hb : b' ∈ as
        · obtain ⟨j, hj⟩ := List.mem_iff_getElem?.mp hb
          obtain ⟨x, y, f1, f2, f3⟩ := at2 j b' hj
          obtain ⟨u1, u2, g1, g2, g3⟩ := hG.prs j b' hj
          rw [f3] at e
          cases e
          obtain ⟨v1, w1, r1⟩ := rv.get f1
          obtain ⟨v2, w2, r2⟩ := rv2.get f2
          rw [List.getElem?_toArray, w1] at g1
          rw [List.getElem?_toArray, w2] at g2
          cases g1
          cases g2
          exact ⟨by show 2 ≤ sizeLine; decide, [u1, u2], .cons r1 (.cons r2 .nil), ⟨_, g3, rfl, _, rfl⟩⟩
        · by_cases hb2 : b' = s1.heap.objs.size + 5
          · rw [hb2] at e ⊢
            rw [eS] at e
            cases e
            refine ⟨by rw [List.length_map]; omega, acc.toList, c, by rw [hacc]; exact LiI.vals_refs as, ?_⟩
            rw [Array.toArray_toList]
            exact hS
          · rw [off b' hb hb2] at e
            exact (I1.hok b' u e).stay (fun d v _ z => kp d v z) (fun d z => kpH d _ z) fun d xs z => kpH d _ z
theorem pe_listZipK {K : PySem.W.Frag} (h : X.K = K) (hc : X.calm = true) (ha : PA X [e, e2] ta) (hg : Gl X "list") (hm : X.mg "list" = none) (hv : bootBuiltins "list" = some (.type "list")) (hg2 : Gl X "zip") (hm2 : X.mg "zip" = none)
    (hs : starEach [.Call (.Name "zip" p2) [e, e2] [] pos2] X.env = (false, eval (.Call (.Name "zip" p2) [e, e2] [] pos2) X.env) :: starEach [] X.env := by rfl)
    (hs2 : starEach [e, e2] X.env = (false, eval e X.env) :: starEach [e2] X.env := by rfl) (hpl : (backTo pos2 (starEach [e2] X.env)).any (·.1) = false := by rfl) :
    PE X (.Call (.Name "list" p) [.Call (.Name "zip" p2) [e, e2] [] pos2] [] pos) (tListZip K ta) := h ▸ pe_listZip hc ha hg hm hv hg2 hm2 hs hs2 hpl
end
end EBZ

namespace PySem
open Sem (wp)
section
variable {prog : Program} {w : World} {A : Around} {R : GenEnd} {Y : Protocol} {n : Nat} {s₀ : Shared} {fs : List Frame} {s : Shared} {env : Env}
/-- what a loop's code does with an exception -/
def loopEx (env : Env) (x : Value) : Sem Fin := (do noteFrame x env; theTreesLotGoes x : Sem Unit).wrap (fun _ => .raise x) .raise id id
theorem seg_forLoop {target : Expr} {it : Value} {body : List Stmt}
    (h : wpAny (model prog w) (A.over (.forLoop target it body [] env) fs) (pyNext it) (fun r s₁ => match r with
        | none => Seg (model prog w) A R Y n s₀ (.forLoop target it body [] env) (.pure (.again (.block [] env))) fs s₁
        | some v => wpAny (model prog w) (A.over (.forLoop target it body [] env) fs) (letOwnedTupleGo target it v) (fun _ s₂ =>
            wpAny (model prog w) (A.over (.forLoop target it body [] env) fs) (assign target env v) (fun _ s₃ =>
              Seg (model prog w) A R Y n s₀ (.forLoop target it body [] env) ((execs body env).wrap (fun f => match f with
                | .next | .cont => .pure (.again (.forLoop target it body [] env))
                | .brk => .pure (.done .next)
                | .ret v => .pure (.done (.ret v))) (loopEx env) id id) fs s₃)
              (fun x s' => Seg (model prog w) A R Y n s₀ (.forLoop target it body [] env) (loopEx env x) fs s') s₂)
            (fun x s' => Seg (model prog w) A R Y n s₀ (.forLoop target it body [] env) (loopEx env x) fs s') s₁)
      (fun x s' => Seg (model prog w) A R Y n s₀ (.forLoop target it body [] env) (loopEx env x) fs s') s) :
    Seg (model prog w) A R Y n s₀ (.forLoop target it body [] env) ((model prog w).den (.forLoop target it body [] env)) fs s := by
  have ex : ∀ x, ((do noteFrame x env; theTreesLotGoes x : Sem Unit).bind fun _ => (Sem.raise x : Sem Fin)) = loopEx env x := fun x => by rw [Sem.bind_eq_wrap]; rfl
  show Seg _ A R Y n s₀ _ ((forTurn target it body [] env).onRaise (fun x => do noteFrame x env; theTreesLotGoes x)) fs s
  unfold forTurn
  rw [Sem.onRaise_eq_wrap]
  refine seg_at ?_
  show Seg _ A R Y n s₀ _ (Sem.wrap _ _ _ _ ((pyNext it).onRaise (fun _ => standAt { target.pos with line := 0 }) >>= _)) fs s
  rw [Sem.bind_eq_wrap', Sem.wrap_wrap]
  refine seg_wrap (wpAny_onRaise (wpAny_mono h (fun r s₁ h₁ => ?_) fun x s' hx => wpAny_standAt ?_))
  · cases r with
    | none => exact h₁
    | some v =>
      show Seg _ A R Y n s₀ _ (Sem.wrap _ _ _ _ (letOwnedTupleGo target it v >>= _)) fs s₁
      rw [Sem.bind_eq_wrap', Sem.wrap_wrap]
      refine seg_wrap (wpAny_mono h₁ (fun _ s₂ h₂ => ?_) fun x s' hx => ?_)
      · show Seg _ A R Y n s₀ _ (Sem.wrap _ _ _ _ (assign target env v >>= _)) fs s₂
        rw [Sem.bind_eq_wrap', Sem.wrap_wrap]
        refine seg_wrap (wpAny_mono h₂ (fun _ s₃ h₃ => ?_) fun x s' hx => ?_)
        · show Seg _ A R Y n s₀ _ (Sem.wrap _ _ _ _ (execs body env >>= _)) fs s₃
          rw [Sem.bind_eq_wrap', Sem.wrap_wrap]
          rw [Sem.wrap_congr (execs body env) _ _ (K' := fun f => match f with
            | .next | .cont => .pure (.again (.forLoop target it body [] env))
            | .brk => .pure (.done .next)
            | .ret v => .pure (.done (.ret v))) (H' := loopEx env) (fun f => by cases f <;> rfl) (fun e => by exact ex e)]
          exact h₃
        · show Seg _ A R Y n s₀ _ ((do noteFrame x env; theTreesLotGoes x : Sem Unit).bind fun _ => .raise x) fs s'
          rw [ex]
          exact hx
      · show Seg _ A R Y n s₀ _ ((do noteFrame x env; theTreesLotGoes x : Sem Unit).bind fun _ => .raise x) fs s'
        rw [ex]
        exact hx
  · show Seg _ A R Y n s₀ _ ((do noteFrame x env; theTreesLotGoes x : Sem Unit).bind fun _ => .raise x) fs s'
    rw [ex]
    exact hx
end
section
variable {M : Model} {A : Around} {R : GenEnd} {Y : Protocol} {n : Nat} {s₀ : Shared} {c : Code} {fs : List Frame} {s : Shared} {env : Env}
  {K : Flow → Sem Fin} {H : Value → Sem Fin} {gd : Bool → Bool} {lv : List Value → List Value}
theorem seg_For {target iter : Expr} {body : List Stmt} {pos : Pos}
    (h : wpAny M (A.over c fs) (eval iter env) (fun v s₁ => wpAny M (A.over c fs) (pyIter v) (fun it s₂ => ∀ p, Seg M A R Y n s₀ (.forLoop target it body [] env) (M.den (.forLoop target it body [] env))
      (.ret (fun r => ((match r with | .ok f => (.pure f : Sem Flow) | .error e => .raise e).onRaise fun (x : Value) => do
        if (← field x 1) == Value.none then unsupported "frame.own-activation:exception-without-traceback"
        setFlight x env.frame).wrap K H gd lv) none (gd false) (lv []) c p [] :: fs) s₂)
      (fun x s' => Seg M A R Y n s₀ c (H x) fs s') s₁) (fun x s' => Seg M A R Y n s₀ c (H x) fs s') s)
    (hs : ∀ x, foldedSetIterable iter env x = pure x) :
    Seg M A R Y n s₀ c ((exec (.For target iter body [] pos) env).wrap K H gd lv) fs s := by
  rw [exec_For]
  refine seg_at ?_
  show Seg M A R Y n s₀ c (Sem.wrap _ _ _ _ (eval iter env >>= _)) fs s
  rw [Sem.bind_eq_wrap', Sem.wrap_wrap]
  refine seg_wrap (wpAny_mono h (fun v s₁ h₁ => ?_) fun x s' hx => hx)
  show Seg M A R Y n s₀ c (Sem.wrap _ _ _ _ (foldedSetIterable iter env v >>= _)) fs s₁
  rw [hs v]
  refine seg_at ?_
  show Seg M A R Y n s₀ c (Sem.wrap _ _ _ _ (holding [v] (pyIter v) >>= _)) fs s₁
  rw [Sem.bind_eq_wrap', Sem.wrap_wrap]
  refine seg_wrap (wpAny_holding (wpAny_mono h₁ (fun it s₂ h₂ => ?_) fun x s' hx => hx))
  exact seg_call h₂
end
end PySem
namespace L2
open PySem PySem.Spec PyProof.Rows
section
variable {X : Cx} {c : Expr} {a b : List Stmt} {pos : Pos} {tc : TT} {t u : TGn}
def tGIf (tc : TT) (t u : TGn) : TGn := fun D ys σ H => tc σ H fun d H1 => if d = true then t D ys σ H1 else u D ys σ H1
theorem gs_if (hc : PT X c tc) (ha : GSs X a t) (hb : GSs X b u) : GS X (.If c a b pos) (tGIf tc t u) := by
  refine ⟨fun A S ip R n ys s₀ cc fs K J gd lv s σ H D g hn k hI ht => ?_⟩
  rw [exec_If]
  refine seg_at ?_
  show Seg _ _ _ _ _ _ _ (Sem.wrap _ _ _ _ (isTrue c X.env (eval c X.env) >>= fun z => if z = true then execs a X.env else execs b X.env)) _ _
  rw [Sem.bind_eq_wrap', Sem.wrap_wrap]
  obtain ⟨acc, cn, r, I⟩ := hI
  refine seg_wrap ?_
  rw [g.over]
  refine wpAny_mono (hc.run _ s σ H _ I ht) (fun z s' hz => ?_) fun x s' hx => k.exc n s₀ x s' hx
  obtain ⟨H1, I1, q1⟩ := hz
  cases z with
  | true => exact ha.run A S ip R n ys s₀ cc fs K J gd lv s' σ H1 D g hn k ⟨acc, cn, r, I1⟩ q1
  | false => exact hb.run A S ip R n ys s₀ cc fs K J gd lv s' σ H1 D g hn k ⟨acc, cn, r, I1⟩ q1
def tGFor (wi : TI) (g : TG) (tb : TGn) : TGn := fun D ys σ H => wi σ H fun J H2 => ∃ W : Nat → Nat → List V → L2.St → Hp → Prop, (∃ m, W 0 m ys σ H2) ∧ ∀ i m ys σ H, W i m ys σ H →
  (J.stop i H ∧ D.nx ys σ H) ∨ (J.go i H ∧ ∃ N : List V → L2.St → Hp → Prop, (∀ ys' σ' H', N ys' σ' H' → ∃ m', m' < m ∧ W (i + 1) m' ys' σ' H') ∧ ∀ x H', J.yld i H x H' → g x σ H' fun σ2 H2 => tb { D with nx := N, ct := N, bk := D.nx } ys σ2 H2)
theorem gs_for {tg iter : Expr} {body : List Stmt} {wi : TI} {g : TG} {tb : TGn} {pos : Pos} (hp : PassesOwn (model X.prog X.w) X.A X.env X.xe) (hc : X.calm = true) (hi : PI X tg iter wi) (hg : PG X tg g) (hb : GSs X body tb)
    (hs : ∀ x, foldedSetIterable iter X.env x = pure x := by intro _; rfl) : GS X (.For tg iter body [] pos) (tGFor wi g tb) := by
  refine ⟨fun A S ip R n ys s₀ c fs K J gd lv s σ H D gc hn k hI ht => ?_⟩
  obtain ⟨acc, cc, r, I⟩ := hI
  refine seg_For ?_ hs
  rw [gc.over]
  refine wpAny_mono (hi.run _ s σ H _ I ht) (fun v s1 h1 => ?_) fun x s' hx => k.exc n s₀ x s' hx
  refine wpAny_mono h1 (fun itv s2 h2 => ?_) fun x s' hx => k.exc n s₀ x s' hx
  obtain ⟨it, fp, tn, It, H2, rfl, I2, T, st2, f2, W, ⟨m0, w0⟩, turn⟩ := h2
  intro p
  have gl := fun (ip' : List (Addr × Obj)) (hip : ∀ q ∈ ip', q.1 ≠ S) (kk : Result → Sem PySem.Fin) (c' : Code) (hw : c'.weight = 0) (hu : c'.cUnits = 0) => ({ gc_loop (k := kk) (c' := c') (l := lv []) (kp := []) (p := p) gc hw hu with ip := hip } : GC X S ip' A c' (.ret kk none (gd false) (lv []) c p [] :: fs) id)
  have stat : ∀ {acc' : Array Value} {cc' : Nat} {H' : Hp}, (∀ b ∈ fp, H' b = none) → ∀ b ∈ fp, FpOk X ((S, lstObj acc' cc') :: ip) H' b := by
    intro acc' cc' H' hnn b hb
    obtain ⟨_, a1, a2, a3, a4, a5⟩ := f2 b hb
    refine ⟨hnn b hb, a1, a2, a3, a4, fun q hq => ?_⟩
    rcases List.mem_append.mp hq with z | z
    · exact a5 q (List.mem_append_left _ z)
    · rcases List.mem_cons.mp z with rfl | z
      · exact a5 (S, lstObj acc cc) (List.mem_append_right _ (List.mem_cons_self ..))
      · exact a5 q (List.mem_append_right _ (List.mem_cons_of_mem _ z))
  have fpS : ∀ b ∈ fp, b ≠ S := by
    intro b hb
    obtain ⟨_, _, _, _, _, a5⟩ := f2 b hb
    exact fun z => a5 (S, lstObj acc cc) (List.mem_append_right _ (List.mem_cons_self ..)) z.symm
  have loop : ∀ (m n i : Nat) (ys : List V) (s₀ s : Shared) (σ : L2.St) (H : Hp), n + ys.length = sizeLine → W i m ys σ H → GI X S ip ys σ H s → tn i s.heap → (∀ b ∈ fp, H b = none) →
      Seg (model X.prog X.w) A R (GY X S) n s₀ (.forLoop tg (.ref it) body [] X.env) ((model X.prog X.w).den (.forLoop tg (.ref it) body [] X.env))
        (.ret (fun r => ((match r with | .ok f => (.pure f : Sem Flow) | .error e => .raise e).onRaise (cameBack X.env)).wrap K J gd lv) none (gd false) (lv []) c p [] :: fs) s := by
    intro m
    induction m using Nat.strongRecOn with
    | ind m ih =>
      intro n i ys s₀ s σ H hn w hI st fr
      have ee : ∀ (n : Nat) (s₀ : Shared) (x : Value) (s' : Shared), X.xe x s' → Seg (model X.prog X.w) A R (GY X S) n s₀ (.forLoop tg (.ref it) body [] X.env) (loopEx X.env x)
          (.ret (fun r => ((match r with | .ok f => (.pure f : Sem Flow) | .error e => .raise e).onRaise (cameBack X.env)).wrap K J gd lv) none (gd false) (lv []) c p [] :: fs) s' := fun n s₀ x s' hx => by
        refine seg_wrap ?_
        rw [(gl ip gc.ip _ _ rfl rfl).over]
        refine wpAny_bind (wpAny_mono (hp x s' hx) (fun _ s'' hcb => wpAny_theTreesLotGoes ?_) fun y s'' hcb => ?_)
        · exact seg_leaf (.error x) (seg_cameBack gc k hcb)
        · exact seg_leaf (.error y) (seg_cameBack gc k hcb)
      refine seg_forLoop ?_
      rw [(gl ip gc.ip _ _ rfl rfl).over]
      obtain ⟨acc, cc, r, I⟩ := hI
      rcases turn i m ys σ H w with ⟨stop, qn⟩ | ⟨go, N, hN, step⟩
      · refine wpAny_mono (T.done X rfl rfl rfl hc i _ s σ H X.xe I (stat fr) st stop) (fun r' s4 ⟨hr, I4⟩ => ?_) fun x s' hx => ee n s₀ x s' hx
        subst hr
        refine seg_again rfl ?_
        exact seg_leaf (.ok .next) (k.ok n ys s₀ s4 .next hn ⟨σ, H, ⟨acc, cc, r, I4⟩, qn⟩)
      · refine wpAny_mono (T.item X rfl rfl rfl hc i _ s σ H X.xe I (stat fr) st go) (fun r' s4 ⟨u, hr, h4⟩ => ?_) fun x s' hx => ee n s₀ x s' hx
        subst hr
        refine wpAny_mono h4 (fun _ s5 ⟨x, H5, I5, r5, y5, st5, fr5⟩ => ?_) fun x s' hx => ee n s₀ x s' hx
        have I5' := I5.pinned (stat fr5) (T.obj _ _ st5)
        refine wpAny_mono (hg.run _ s5 σ H5 x u _ I5' r5 (step x H5 y5)) (fun _ s6 ⟨σ6, H6, I6, q6⟩ => ?_) fun x s' hx => ee n s₀ x s' hx
        have hip' : ∀ q ∈ ip ++ pinsAt fp s5.heap, q.1 ≠ S := fun q hq => (List.mem_append.mp hq).elim (gc.ip q) fun z => fpS _ (of_pinsAt z).1
        have again : ∀ (n' : Nat) (ys' : List V) (s₀' s7 : Shared), n' + ys'.length = sizeLine → (∃ σ7 H7, GI X S (ip ++ pinsAt fp s5.heap) ys' σ7 H7 s7 ∧ N ys' σ7 H7) → Seg (model X.prog X.w) A R (GY X S) n' s₀' (.forLoop tg (.ref it) body [] X.env) (.pure (.again (.forLoop tg (.ref it) body [] X.env)))
            (.ret (fun r => ((match r with | .ok f => (.pure f : Sem Flow) | .error e => .raise e).onRaise (cameBack X.env)).wrap K J gd lv) none (gd false) (lv []) c p [] :: fs) s7 := by
          rintro n' ys' s₀' s7 hn' ⟨σ7, H7, ⟨acc7, cc7, r7, I7⟩, n7⟩
          obtain ⟨m', hm, w7⟩ := hN ys' σ7 H7 n7
          have pin : ∀ b ∈ fp, ∀ o, s5.heap.get? b = some o → _ := fun b hb o e => I7.pin (b, o) (List.mem_append_right _ (List.mem_cons_of_mem _ (List.mem_append_right _ (mem_pinsAt hb e))))
          refine seg_again rfl (ih m' hm n' (i + 1) ys' s₀' s7 σ7 H7 hn' w7 ⟨acc7, cc7, r7, Inv.unpinned (pins := (S, lstObj acc7 cc7) :: ip) I7⟩ (T.keep _ _ _ st5 fun b hb o e => (pin b hb o e).1) fun b hb => ?_)
          obtain ⟨o, e, d⟩ := T.obj _ _ st5 b hb
          exact (pin b hb o e).2.1
        refine hb.run A S (ip ++ pinsAt fp s5.heap) R n ys s₀ _ _ _ _ id id s6 σ6 H6 { D with nx := N, ct := N, bk := D.nx } (gl _ hip' _ _ rfl rfl) hn ⟨fun n' ys' s₀' s7 f hn' hs => ?_, fun n' s₀' x s7 hx => ee n' s₀' x s7 hx⟩ ⟨acc, cc, r, I6⟩ q6
        cases f with
        | next => exact again n' ys' s₀' s7 hn' hs
        | cont => exact again n' ys' s₀' s7 hn' hs
        | brk =>
          obtain ⟨σ7, H7, ⟨acc7, cc7, r7, I7⟩, q7⟩ := hs
          exact seg_leaf (.ok .next) (k.ok n' ys' s₀' s7 .next hn' ⟨σ7, H7, ⟨acc7, cc7, r7, Inv.unpinned (pins := (S, lstObj acc7 cc7) :: ip) I7⟩, q7⟩)
        | ret v =>
          obtain ⟨x7, σ7, H7, ⟨acc7, cc7, r7, I7⟩, rv, q7⟩ := hs
          exact seg_leaf (.ok (.ret v)) (k.ok n' ys' s₀' s7 (.ret v) hn' ⟨x7, σ7, H7, ⟨acc7, cc7, r7, Inv.unpinned (pins := (S, lstObj acc7 cc7) :: ip) I7⟩, rv, q7⟩)
  exact loop m0 n 0 ys s₀ s2 σ H2 hn w0 ⟨acc, cc, r, I2⟩ st2 fun b hb => (f2 b hb).1
theorem gfor_range {lo : Int} {n : Nat} {g : TG} {tb : TGn} {D : GEnds} {ys : List V} {σ : L2.St} {H : Hp} (Pv : Nat → List V → L2.St → Hp → Prop) (h0 : Pv 0 ys σ H)
    (hs : ∀ i ys σ H, i < n → Pv i ys σ H → g (.int (lo + i)) σ H fun σ2 H2 => tb { D with nx := Pv (i + 1), ct := Pv (i + 1), bk := D.nx } ys σ2 H2) (hd : ∀ ys σ H, Pv n ys σ H → D.nx ys σ H) :
    ∃ W : Nat → Nat → List V → L2.St → Hp → Prop, (∃ m, W 0 m ys σ H) ∧ ∀ i m ys σ H, W i m ys σ H →
      ((Itr lo n).stop i H ∧ D.nx ys σ H) ∨ ((Itr lo n).go i H ∧ ∃ N : List V → L2.St → Hp → Prop, (∀ ys' σ' H', N ys' σ' H' → ∃ m', m' < m ∧ W (i + 1) m' ys' σ' H') ∧ ∀ x H', (Itr lo n).yld i H x H' → g x σ H' fun σ2 H2 => tb { D with nx := N, ct := N, bk := D.nx } ys σ2 H2) := by
  refine ⟨fun i m ys σ H => m = n - i ∧ i ≤ n ∧ Pv i ys σ H, ⟨n, by simp, Nat.zero_le _, h0⟩, ?_⟩
  rintro i m ys σ H ⟨rfl, hi, p⟩
  by_cases hlt : i < n
  · refine .inr ⟨hlt, Pv (i + 1), fun ys' σ' H' p' => ⟨n - (i + 1), by omega, rfl, hlt, p'⟩, fun x H' y => ?_⟩
    obtain ⟨e, y⟩ := y
    subst e y
    exact hs i ys σ _ hlt p
  · have e : i = n := by omega
    subst e
    exact .inl ⟨Nat.le_refl _, hd ys σ H p⟩
end
end L2

/-! One segment of a generator's run, from a waking to what it hands out next or to its end: what is wanted of the end may speak of the continuation itself. -/
namespace EBG
open PySem PySem.Spec PyProof.Rows L2 GenW
open Sem (wp)
def Run1 (M : Model) (A : Around) (Φ : End → Shared → Prop) (c : Code) (t : Sem PySem.Fin) (fs : List Frame) (s : Shared) : Prop :=
  ∀ Γ p, Γ.code = c → Γ.Woken A → ∃ e s', Runs M Γ p t fs s e s' ∧ Φ e s'
section
variable {M : Model} {A : Around} {Φ : End → Shared → Prop} {c : Code} {fs : List Frame} {s : Shared}
theorem r1_mono {Ψ : End → Shared → Prop} {t : Sem PySem.Fin} (h : Run1 M A Φ c t fs s) (k : ∀ e s', Φ e s' → Ψ e s') : Run1 M A Ψ c t fs s := fun Γ p e1 e2 =>
  let ⟨e, s', r, q⟩ := h Γ p e1 e2
  ⟨e, s', r, k e s' q⟩
theorem r1_wrap {α : Type} {m : Sem α} {K : α → Sem PySem.Fin} {J : Value → Sem PySem.Fin} {gd : Bool → Bool} {lv : List Value → List Value} (h : wpAny M (A.over c fs) m (fun v z => Run1 M A Φ c (K v) fs z) (fun v z => Run1 M A Φ c (J v) fs z) s) : Run1 M A Φ c (m.wrap K J gd lv) fs s := by
  intro Γ p e hΓ
  subst e
  exact runs_wrap_of_wp K J gd lv m (h (Γ.over fs) p (hΓ.over fs)) (fun v q z hz => hz Γ q rfl hΓ) fun v q z hz => hz Γ q rfl hΓ
theorem r1_bind {α : Type} {m : Sem α} {K : α → Sem PySem.Fin} (h : wpAny M (A.over c fs) m (fun v z => Run1 M A Φ c (K v) fs z) (fun v z => Run1 M A Φ c (.raise v) fs z) s) : Run1 M A Φ c (m >>= K) fs s :=
  (Sem.bind_eq_wrap' m K) ▸ r1_wrap h
theorem r1_at {q : Pos} {k : Unit → Sem PySem.Fin} (h : Run1 M A Φ c (k ()) fs s) : Run1 M A Φ c (.at q k) fs s := r1_wrap (m := standAt q) (K := k) (J := .raise) (gd := id) (lv := id) (wpAny_standAt h)
theorem r1_point {l : List Value} {k : Unit → Sem PySem.Fin} (h : Run1 M A Φ c (k ()) fs s) : Run1 M A Φ c (.point l k) fs s := r1_wrap (m := point) (K := k) (J := .raise) (gd := id) (lv := fun _ => l) (wpAny_point h)
theorem r1_call {d : Code} {h : Option Value} {g : Bool} {l : List Value} {k : Result → Sem PySem.Fin} (hc : ∀ q, Run1 M A Φ d (M.den d) (.ret k h g l c q [] :: fs) s) : Run1 M A Φ c (.call d h g l k) fs s := by
  intro Γ p e hΓ
  subst e
  exact let ⟨e, z, r, q⟩ := hc p (Γ.goto d) p rfl (hΓ.goto d); ⟨e, z, runs_call_seg r, q⟩
theorem r1_leaf {k : Result → Sem PySem.Fin} {h : Option Value} {g : Bool} {l kp : List Value} {d : Code} {q : Pos} (r : Result) (hk : Run1 M A Φ d (k r) fs s) : Run1 M A Φ c (leafOf r) (.ret k h g l d q kp :: fs) s := by
  intro Γ p e hΓ
  subst e
  exact let ⟨e, z, r1, w⟩ := hk (Γ.goto d) q rfl (hΓ.goto d); ⟨e, z, Runs.pop r r1, w⟩
theorem r1_again {d : Code} (hq : d.quiet = true) (hc : Run1 M A Φ d (M.den d) fs s) : Run1 M A Φ c (.pure (.again d)) fs s := by
  intro Γ p e hΓ
  subst e
  exact let ⟨e, z, r, w⟩ := hc (Γ.goto d) p rfl (hΓ.goto d); ⟨e, z, Runs.head (c₁ := d) (fun _ _ y => .again hq y) r, w⟩
theorem r1_end (r : Result) (h : Φ (.ret r) s) : Run1 M A Φ c (leafOf r) [] s := fun Γ p _ _ => ⟨.ret r, s, Runs.leaf r, h⟩
theorem r1_susp {v : Value} {g : Bool} {l : List Value} {k : Resume → Sem PySem.Fin} (hfs : splitAtGen fs = none) (h : ∀ q, Φ (.susp v g l k c q fs) s) : Run1 M A Φ c (.yield v g l k) fs s := by
  intro Γ p e _
  subst e
  exact ⟨_, s, Runs.yield' fs hfs, h p⟩
end
section
variable {M : Model} {A : Around} {Φ : End → Shared → Prop} {c : Code} {fs : List Frame} {s : Shared} {env : Env} {K : Flow → Sem PySem.Fin} {J : Value → Sem PySem.Fin} {gd : Bool → Bool} {lv : List Value → List Value}
theorem r1_cons {st : Stmt} {rest : List Stmt} (h : Run1 M A Φ c ((exec st env).wrap (fun f => match f with | .next => (execs rest env).wrap K J gd lv | f => K f) J gd lv) fs s) : Run1 M A Φ c ((execs (st :: rest) env).wrap K J gd lv) fs s :=
  (execs_cons_wrap st rest (env := env) (K := K) (H := J) (gd := gd) (lv := lv)).symm ▸ h
/-- yield e: what is wanted where it sleeps, told by its own continuation -/
theorem r1_yield {e : Expr} {yp pos : Pos} (hfs : splitAtGen fs = none) (hgd : gd false = false)
    (h : wpAny M (A.over c fs) (eval e env) (fun v z => ∀ (kk : Resume → Sem PySem.Fin) (l : List Value) (q : Pos), (∀ (A' : Around) (Ψ : End → Shared → Prop) (z' : Shared), Run1 M A' Ψ c (K .next) fs z' → Run1 M A' Ψ c (kk (.send .none)) fs z') → Φ (.susp v false l kk c q fs) z) (fun v z => Run1 M A Φ c (J v) fs z) s)
    (hco : env.scope.isCoroutine = false := by rfl) (hi : interactive env = false := by rfl) : Run1 M A Φ c ((exec (.Expr (.Yield (some e) yp) pos) env).wrap K J gd lv) fs s := by
  have ho : ∀ v, yieldOut env v = yieldValue v := fun v => by
    unfold yieldOut
    rw [hco]
    rfl
  rw [exec_Expr env _ pos hi rfl]
  show Run1 M A Φ c (.at pos fun _ => ((eval e env >>= fun v => (standAt yp >>= fun _ => yieldOut env v)) >>= fun x => dropValue (.Yield (some e) yp) pos x).wrap K J gd lv) fs s
  refine r1_at ?_
  simp only [ho]
  rw [Sem.bind_eq_wrap', Sem.bind_eq_wrap', Sem.wrap_wrap, Sem.wrap_wrap]
  refine r1_wrap (wpAny_mono h (fun v z hz => r1_at ?_) fun _ _ y => y)
  refine r1_susp hfs fun q => ?_
  show Φ (.susp v (gd false) _ _ c q fs) z
  rw [hgd]
  exact hz _ _ q fun A' Ψ z' hr => hr
/-- a while of a generator -/
theorem r1_While {test : Expr} {body orelse : List Stmt} {pos : Pos}
    (h : ∀ q, Run1 M A Φ (.whileLoop test body orelse env) (M.den (.whileLoop test body orelse env)) (.ret (fun r => ((match r with | .ok f => (.pure f : Sem Flow) | .error e => .raise e).onRaise (cameBack env)).wrap K J gd lv) none (gd false) (lv []) c q [] :: fs) s) :
    Run1 M A Φ c ((exec (.While test body orelse pos) env).wrap K J gd lv) fs s := r1_at (r1_call h)
end
section
variable {P : Program} {w : World} {A : Around} {Φ : End → Shared → Prop} {fs : List Frame} {s : Shared} {env : Env}
/-- what a loop's turn makes of an exception -/
abbrev offLoop (env : Env) (e : Value) : Sem PySem.Fin := (do noteFrame e env; theTreesLotGoes e : Sem Unit).wrap (fun _ => .raise e) .raise id id
abbrev turnK (test : Expr) (body orelse : List Stmt) (env : Env) : Flow → Sem PySem.Fin := fun f => match f with
  | .next | .cont => .pure (.again (.whileLoop test body orelse env))
  | .brk => .pure (.done .next)
  | .ret v => .pure (.done (.ret v))
theorem r1_whileLoop {test : Expr} {body orelse : List Stmt}
    (h : wpAny (model P w) (A.over (.whileLoop test body orelse env) fs) (isTrue test env (eval test env)) (fun b z => if b = true then Run1 (model P w) A Φ (.whileLoop test body orelse env) ((execs body env).wrap (turnK test body orelse env) (offLoop env) id id) fs z
        else Run1 (model P w) A Φ (.whileLoop test body orelse env) ((execs orelse env).wrap (fun f => .pure (.done f)) (offLoop env) id id) fs z)
      (fun v z => Run1 (model P w) A Φ (.whileLoop test body orelse env) (offLoop env v) fs z) s) :
    Run1 (model P w) A Φ (.whileLoop test body orelse env) ((model P w).den (.whileLoop test body orelse env)) fs s := by
  show Run1 _ A Φ _ ((whileTurn test body orelse env).onRaise (fun x => do noteFrame x env; theTreesLotGoes x)) fs s
  have off : ∀ e : Value, (do noteFrame e env; theTreesLotGoes e : Sem Unit).bind (fun _ => (.raise e : Sem PySem.Fin)) = offLoop env e := fun e => Sem.bind_eq_wrap _ _
  unfold whileTurn
  rw [Sem.onRaise_eq_wrap, Sem.bind_eq_wrap', Sem.wrap_wrap]
  refine r1_wrap (wpAny_mono h (fun b z hb => ?_) fun v z hv => ?_)
  rotate_left
  · show Run1 _ A Φ _ ((do noteFrame v env; theTreesLotGoes v : Sem Unit).bind fun _ => (.raise v : Sem PySem.Fin)) fs z
    rw [off]
    exact hv
  cases b with
  | true =>
    rw [if_pos rfl] at hb
    show Run1 _ A Φ _ (Sem.wrap _ _ _ _ (if true = true then _ else _)) fs z
    rw [if_pos rfl, Sem.bind_eq_wrap', Sem.wrap_wrap, Sem.wrap_congr (execs body env) _ _ (K' := turnK test body orelse env) (H' := offLoop env) (fun f => by cases f <;> rfl) fun e => by exact off e]
    exact hb
  | false =>
    rw [if_neg Bool.false_ne_true] at hb
    show Run1 _ A Φ _ (Sem.wrap _ _ _ _ (if false = true then _ else _)) fs z
    rw [if_neg Bool.false_ne_true, Sem.bind_eq_wrap', Sem.wrap_wrap, Sem.wrap_congr (execs orelse env) _ _ (K' := fun f => (.pure (.done f) : Sem PySem.Fin)) (H' := offLoop env) (fun f => by rfl) fun e => by exact off e]
    exact hb
/-- a generator's code -/
theorem r1_func {body : List Stmt} (h : Run1 (model P w) A Φ (.func body env) ((execs body env).wrap (fun f => .pure (.done (.ret (match f with | .ret v => v | _ => .none)))) (fun e => (leaving env e).wrap (fun _ => .raise e) .raise id id) id id) fs s) :
    Run1 (model P w) A Φ (.func body env) ((model P w).den (.func body env)) fs s := by
  show Run1 _ A Φ _ (.point [] fun _ => ((execs body env).onRaise (leaving env)) >>= _) fs s
  refine r1_point ?_
  rw [Sem.onRaise_eq_wrap, Sem.bind_eq_wrap', Sem.wrap_wrap, Sem.wrap_congr (execs body env) _ _ (K' := fun f => .pure (.done (.ret (match f with | .ret v => v | _ => .none)))) (H' := fun e => (leaving env e).wrap (fun _ => .raise e) .raise id id) (fun f => by cases f <;> rfl) fun e => by rw [Sem.bind_eq_wrap, Sem.wrap_wrap]; rfl]
  exact h
/-- a sleeping generator, or one that has not begun, woken -/
def Woken1 (M : Model) (A : Around) (Φ : End → Shared → Prop) (gs : GenState) (s : Shared) : Prop := match gs with
  | .fresh c => Run1 M A Φ c (M.den c) [] s
  | .suspended k _ c _ fs _ => Run1 M A Φ c (k (.send .none)) fs s
  | _ => False
theorem resume1 {M : Model} {E : Value → Shared → Prop} {g : Nat} {gs : GenState} {l : List Value} {α : Type} {k : GenResult → Sem α} {Q : α → Shared → Prop} (hg : s.gens[g]? = some gs) (hgo : Woken1 M A Φ gs (s.setGen g .running)) (hq : ∀ e z, Φ e z → e.quiet = true)
    (hQ : ∀ e z, Φ e z → g < z.gens.size → wpAny M A (k e.result) Q E (z.setGen g e.genState)) : wpAny M A (.resume g (.send .none) l k) Q E s := by
  have hlt : g < s.gens.size := by
    rcases Nat.lt_or_ge g s.gens.size with q | q
    · exact q
    · rw [Array.getElem?_eq_none q] at hg
      cases hg
  intro Γ p hΓ
  rw [Sem.wp_resume]
  have fin : ∀ (e : End) (z : Shared), Φ e z → Wakes M Γ p g (.send .none) s e.result (z.setGen g e.genState) → ∃ r z', Wakes M Γ p g (.send .none) s r z' ∧ wp M Γ (k r) (fun a _ s' => Q a s') (fun e _ s' => E e s') p z' := fun e z w hw => by
    have h1 := GenW.wakes_gsz hw
    rw [GenW.setGen_size] at h1
    exact ⟨_, _, hw, hQ e z w (Nat.lt_of_lt_of_le hlt h1) Γ p hΓ⟩
  cases gs with
  | fresh c =>
    obtain ⟨e, z, r, w⟩ := hgo (Γ.wake c p) p rfl (hΓ.wake c p)
    exact fin e z w (by unfold Wakes; rw [hg]; exact ⟨e, z, r, hq e z w, rfl, rfl⟩)
  | suspended k' l' c q fs' cl =>
    obtain ⟨e, z, r, w⟩ := hgo (Γ.wake c p) q rfl (hΓ.wake c p)
    exact fin e z w (by unfold Wakes; rw [hg]; exact ⟨e, z, r, hq e z w, rfl, rfl⟩)
  | running => exact hgo.elim
  | finished => exact hgo.elim
end
end EBG

/-! A generator def's body, its context based anew at each waking. -/
namespace EBG
open PySem PySem.Spec PyProof.Rows L2 GenW EB
/-- where a segment begins: its state, what is tracked there -/
abbrev Bs := Shared × Hp
abbrev XeF := Bs → Value → Shared → Prop
/-- the context, based at a -/
abbrev reb (X0 : Cx) (xe : XeF) (a : Bs) : Cx := { X0 with s_0 := a.1, H_0 := a.2, xe := xe a }
/-- what a sleeping generator keeps: what it shares with its consumer, and its own lists, tuples, dicts, sets -/
def kg (L : Nat) (F H : Hp) : Hp := fun b => match F b with
  | some o => some o
  | none => if L < b then (match H b with
    | some (.lst xs) => some (.lst xs)
    | some (.dK kvs) => some (.dK kvs)
    | some (.set S n) => some (.set S n)
    | _ => none) else none
theorem kg_same (L : Nat) (F H : Hp) : Same F (kg L F H) := fun b o e => by
  unfold kg
  rw [e]
theorem kg_own {L : Nat} {F H : Hp} {b : Addr} {o : HO} (e : kg L F H b = some o) (n : F b = none) : L < b ∧ H b = some o ∧ ((∃ xs, o = .lst xs) ∨ (∃ kvs, o = .dK kvs) ∨ ∃ S m, o = .set S m) := by
  unfold kg at e
  rw [n] at e
  by_cases hL : L < b
  · rw [if_pos hL] at e
    cases q : H b with
    | none =>
      rw [q] at e
      cases e
    | some u =>
      rw [q] at e
      cases u with
      | lst xs => cases e; exact ⟨hL, rfl, .inl ⟨_, rfl⟩⟩
      | dK kvs => cases e; exact ⟨hL, rfl, .inr (.inl ⟨_, rfl⟩)⟩
      | set S m => cases e; exact ⟨hL, rfl, .inr (.inr ⟨_, _, rfl⟩)⟩
      | _ => cases e
  · rw [if_neg hL] at e
    cases e
theorem kg_none {L : Nat} {F H : Hp} {b : Addr} (s : Same F H) (n : H b = none) : kg L F H b = none := by
  have hF := s.free n
  unfold kg
  simp only [hF, n]
  exact ite_self ..
theorem kg_self (L : Nat) (F : Hp) : kg L F F = F := by
  funext b
  unfold kg
  cases q : F b with
  | some o => rfl
  | none => exact ite_self ..
/-- what is told of a generator: its heap at each waking, what is known of each item, of the end, of an exception -/
structure Told where
  F : Hp
  Yp : List V → V → Hp → Prop
  Fin : List V → Prop
  Exc : XeF
structure YEnds where
  nx : List V → L2.St → Hp → Prop
  rt : List V → VK
  bk : List V → L2.St → Hp → Prop := fun _ _ _ => False
  ct : List V → L2.St → Hp → Prop := fun _ _ _ => False
abbrev TY := Bs → YEnds → List V → L2.St → Hp → Prop
def YEnds.at (D : YEnds) (ys : List V) : Ends := { nx := D.nx ys, rt := D.rt ys, bk := D.bk ys, ct := D.ct ys }
/-- the run's end -/
def AftR (X0 : Cx) (xe : XeF) (T : Told) (a : Bs) (C : List (Addr × Obj)) (ys : List V) (r : Result) (z : Shared) : Prop := match r with
  | .error e => T.Exc a e z
  | .ok f => (f = .ret .none ∨ f = .next) ∧ T.Fin ys ∧ ∃ σ H, Inv (reb X0 xe a) C σ H z ∧ Same T.F H
/-- a segment's end, n items at most still to come -/
def Aft (X0 : Cx) (xe : XeF) (T : Told) (A : Around) : Nat → Bs → List (Addr × Obj) → List V → End → Shared → Prop
  | 0, a, C, ys, e, z => match e with
    | .ret r => AftR X0 xe T a C ys r z
    | .susp .. => False
  | n + 1, a, C, ys, e, z => match e with
    | .ret r => AftR X0 xe T a C ys r z
    | .susp v g l k c q fs => (End.susp v g l k c q fs).quiet = true ∧ ∃ x σ H, RelV x v ∧ T.Yp ys x H ∧ Inv (reb X0 xe a) C σ H z ∧ Same T.F H ∧
        ∀ a' C' z', Inv (reb X0 xe a') C' σ (kg X0.env.locals T.F H) z' → Run1 (model X0.prog X0.w) A (Aft X0 xe T A n a' C' (ys ++ [x])) c (k (.send .none)) fs z'
theorem aft_ret {X0 : Cx} {xe : XeF} {T : Told} {A : Around} {n : Nat} {a : Bs} {C : List (Addr × Obj)} {ys : List V} {r : Result} {z : Shared} (h : AftR X0 xe T a C ys r z) : Aft X0 xe T A n a C ys (.ret r) z := by
  cases n with
  | zero => exact h
  | succ n => exact h
theorem aft_quiet {X0 : Cx} {xe : XeF} {T : Told} {A : Around} {n : Nat} {a : Bs} {C : List (Addr × Obj)} {ys : List V} {e : End} {z : Shared} (h : Aft X0 xe T A n a C ys e z) : e.quiet = true := by
  cases e with
  | ret r => rfl
  | susp v g l k c q fs =>
    cases n with
    | zero => exact h.elim
    | succ n => exact h.1
/-- where the code stands -/
structure YC (X0 : Cx) (A : Around) (c : Code) (fs : List Frame) (gd : Bool → Bool) : Prop where
  over : A.over c fs = X0.A
  split : splitAtGen fs = none
  guard : fs.any Frame.guarded = false
  gd : gd false = false
/-- what follows -/
structure YK (X0 : Cx) (xe : XeF) (T : Told) (A : Around) (c : Code) (fs : List Frame) (K : Flow → Sem PySem.Fin) (J : Value → Sem PySem.Fin) (D : YEnds) : Prop where
  ok : ∀ n a C ys z f, n + ys.length = sizeLine → SP (reb X0 xe a) C (D.at ys) f z → Run1 (model X0.prog X0.w) A (Aft X0 xe T A n a C ys) c (K f) fs z
  exc : ∀ n a C ys e z, xe a e z → Run1 (model X0.prog X0.w) A (Aft X0 xe T A n a C ys) c (J e) fs z
/-- a statement, statements of a generator -/
structure YS (X0 : Cx) (xe : XeF) (T : Told) (st : Stmt) (t : TY) : Prop where
  same : ∀ a b, t a = t b
  run : ∀ A c fs K J gd lv D, YC X0 A c fs gd → YK X0 xe T A c fs K J D → ∀ n a C ys z σ H, n + ys.length = sizeLine → Inv (reb X0 xe a) C σ H z → t a D ys σ H → Run1 (model X0.prog X0.w) A (Aft X0 xe T A n a C ys) c ((exec st X0.env).wrap K J gd lv) fs z
structure YSs (X0 : Cx) (xe : XeF) (T : Told) (st : List Stmt) (t : TY) : Prop where
  same : ∀ a b, t a = t b
  run : ∀ A c fs K J gd lv D, YC X0 A c fs gd → YK X0 xe T A c fs K J D → ∀ n a C ys z σ H, n + ys.length = sizeLine → Inv (reb X0 xe a) C σ H z → t a D ys σ H → Run1 (model X0.prog X0.w) A (Aft X0 xe T A n a C ys) c ((execs st X0.env).wrap K J gd lv) fs z
section
variable {X0 : Cx} {xe : XeF} {T : Told} {st : Stmt} {rest : List Stmt}
def tYPlain (t : Bs → TS) : TY := fun a D ys σ H => t a (D.at ys) σ H
theorem ys_ps {t : Bs → TS} (h : ∀ a, PS (reb X0 xe a) st (t a)) (hs : ∀ a b, t a = t b := by intros; rfl) : YS X0 xe T st (tYPlain t) := by
  refine ⟨fun a b => by unfold tYPlain; rw [hs a b], fun A c fs K J gd lv D g k n a C ys z σ H hn I ht => r1_wrap ?_⟩
  rw [g.over]
  exact wpAny_mono ((h a).run C z σ H (D.at ys) I ht) (fun f z' q => k.ok n a C ys z' f hn q) fun e z' q => k.exc n a C ys e z' q
theorem yss_pss {t : Bs → TS} (h : ∀ a, PSs (reb X0 xe a) rest (t a)) (hs : ∀ a b, t a = t b := by intros; rfl) : YSs X0 xe T rest (tYPlain t) := by
  refine ⟨fun a b => by unfold tYPlain; rw [hs a b], fun A c fs K J gd lv D g k n a C ys z σ H hn I ht => r1_wrap ?_⟩
  rw [g.over]
  exact wpAny_mono ((h a).run C z σ H (D.at ys) I ht) (fun f z' q => k.ok n a C ys z' f hn q) fun e z' q => k.exc n a C ys e z' q
def tYNil : TY := fun _ D ys σ H => D.nx ys σ H
theorem yss_nil : YSs X0 xe T [] tYNil := ⟨fun _ _ => rfl, fun A c fs K J gd lv D g k n a C ys z σ H hn I ht => k.ok n a C ys z .next hn ⟨σ, H, I, ht⟩⟩
def tYThen (t u : TY) : TY := fun a D ys σ H => t a { D with nx := fun ys' σ' H' => u a D ys' σ' H' } ys σ H
theorem yss_cons {t u : TY} (h : YS X0 xe T st t) (h2 : YSs X0 xe T rest u) : YSs X0 xe T (st :: rest) (tYThen t u) := by
  refine ⟨fun a b => by unfold tYThen; rw [h.same a b, h2.same a b], fun A c fs K J gd lv D g k n a C ys z σ H hn I ht => r1_cons ?_⟩
  refine h.run A c fs _ J gd lv { D with nx := fun ys' σ' H' => u a D ys' σ' H' } g ⟨fun n' a' C' ys' z' f hn' q => ?_, k.exc⟩ n a C ys z σ H hn I ht
  cases f with
  | next =>
    obtain ⟨σ', H', I', w⟩ := q
    have w' : u a D ys' σ' H' := w
    rw [h2.same a a'] at w'
    exact h2.run A c fs K J gd lv D g k n' a' C' ys' z' σ' H' hn' I' w'
  | brk => exact k.ok n' a' C' ys' z' .brk hn' q
  | cont => exact k.ok n' a' C' ys' z' .cont hn' q
  | ret v => exact k.ok n' a' C' ys' z' (.ret v) hn' q
def tYYield (L : Nat) (T : Told) (te : Bs → TE) : TY := fun a D ys σ H => ys.length < sizeLine ∧ te a σ H fun x H1 => Same T.F H1 ∧ T.Yp ys x H1 ∧ D.nx (ys ++ [x]) σ (kg L T.F H1)
theorem ys_yield {e : Expr} {yp pos : Pos} {te : Bs → TE} (h : ∀ a, PE (reb X0 xe a) e (te a)) (hs : ∀ a b, te a = te b := by intros; rfl) (hco : X0.env.scope.isCoroutine = false := by rfl) (hi : interactive X0.env = false := by rfl) :
    YS X0 xe T (.Expr (.Yield (some e) yp) pos) (tYYield X0.env.locals T te) := by
  refine ⟨fun a b => by unfold tYYield; rw [hs a b], fun A c fs K J gd lv D g k n a C ys z σ H hn I ht => r1_yield g.split g.gd ?_ hco hi⟩
  obtain ⟨hlt, ht⟩ := ht
  obtain ⟨m, rfl⟩ : ∃ m, n = m + 1 := ⟨n - 1, by omega⟩
  rw [g.over]
  refine wpAny_mono ((h a).run C z σ H _ I ht) (fun v z' q kk l q' hk => ?_) fun e z' q => k.exc _ a C ys e z' q
  obtain ⟨x, H1, I1, rv, sF, hy, hD⟩ := q
  refine ⟨by simp [End.quiet, g.guard], x, σ, H1, rv, hy, I1, sF, fun a' C' z2 I2 => hk _ _ _ (k.ok m a' C' (ys ++ [x]) z2 .next ?_ ⟨σ, _, I2, hD⟩)⟩
  rw [List.length_append, List.length_singleton]
  omega
/-! ### while -/
def tYWhile (tc : Bs → TT) (tb : TY) : TY := fun a D ys σ H => ∃ W : Nat → List V → L2.St → Hp → Prop, (∃ m, W m ys σ H) ∧ ∀ m ys σ H, W m ys σ H →
  tc a σ H fun b H1 => if b = true then ∃ N : List V → L2.St → Hp → Prop, (∀ ys' σ' H', N ys' σ' H' → ∃ m', m' < m ∧ W m' ys' σ' H') ∧ tb a { D with nx := N, ct := N, bk := D.nx } ys σ H1 else D.nx ys σ H1
theorem yc_loop {A : Around} {c d : Code} {fs : List Frame} {gd : Bool → Bool} {k : Result → Sem PySem.Fin} {l kp : List Value} {q : Pos} (g : YC X0 A c fs gd) (hw : d.weight = 0) (hu : d.cUnits = 0) : YC X0 A d (.ret k none (gd false) l c q kp :: fs) id where
  over := (over_loop hw hu).trans g.over
  split := by
    show (splitAtGen fs).map _ = none
    rw [g.split]
    rfl
  guard := by
    show (gd false || fs.any Frame.guarded) = false
    rw [g.gd, g.guard]
    rfl
  gd := rfl
/-- an exception leaves a loop's code -/
theorem r1_back {A : Around} {c : Code} {fs : List Frame} {K : Flow → Sem PySem.Fin} {J : Value → Sem PySem.Fin} {gd : Bool → Bool} {lv : List Value → List Value} {D : YEnds} {n : Nat} {a : Bs} {C : List (Addr × Obj)} {ys : List V} {z : Shared} {e : Value} (g : YC X0 A c fs gd) (k : YK X0 xe T A c fs K J D)
    (h : cameBackBy (model X0.prog X0.w) X0.A X0.env (xe a) e z) : Run1 (model X0.prog X0.w) A (Aft X0 xe T A n a C ys) c (((Sem.raise e : Sem Flow).onRaise (cameBack X0.env)).wrap K J gd lv) fs z := by
  show Run1 _ _ _ _ (((cameBack X0.env e).bind fun _ => (Sem.raise e : Sem Flow)).wrap K J gd lv) _ _
  rw [Sem.bind_eq_wrap, Sem.wrap_wrap]
  refine r1_wrap ?_
  rw [g.over]
  exact wpAny_mono h (fun _ z' q => k.exc n a C ys e z' q) fun e' z' q => k.exc n a C ys e' z' q
theorem ys_while {test : Expr} {body : List Stmt} {pos : Pos} {tc : Bs → TT} {tb : TY} (hp : ∀ a, PassesOwn (model X0.prog X0.w) X0.A X0.env (xe a)) (hc : ∀ a, PT (reb X0 xe a) test (tc a)) (hb : YSs X0 xe T body tb) (hs : ∀ a b, tc a = tc b := by intros; rfl) : YS X0 xe T (.While test body [] pos) (tYWhile tc tb) := by
  refine ⟨fun a b => by unfold tYWhile; rw [hs a b, hb.same a b], fun A c fs K J gd lv D g k n a C ys z σ H hn I ht => r1_While fun q => ?_⟩
  obtain ⟨W, ⟨m0, w0⟩, turn⟩ := ht
  have turn : ∀ a' m ys σ H, W m ys σ H → tc a' σ H fun b H1 => if b = true then ∃ N : List V → L2.St → Hp → Prop, (∀ ys' σ' H', N ys' σ' H' → ∃ m', m' < m ∧ W m' ys' σ' H') ∧ tb a' { D with nx := N, ct := N, bk := D.nx } ys σ H1 else D.nx ys σ H1 := fun a' => by
    rw [hs a' a, hb.same a' a]
    exact turn
  have gl := fun (kk : Result → Sem PySem.Fin) => yc_loop (k := kk) (d := .whileLoop test body [] X0.env) (l := lv []) (kp := []) (q := q) g rfl rfl
  generalize hkk : (fun (r : Result) => ((match r with | .ok f => (.pure f : Sem Flow) | .error e => .raise e).onRaise (cameBack X0.env)).wrap K J gd lv) = kk
  have out : ∀ f, kk (.ok f) = K f := fun f => by rw [← hkk]; rfl
  have outE : ∀ e, kk (.error e) = ((Sem.raise e : Sem Flow).onRaise (cameBack X0.env)).wrap K J gd lv := fun e => by rw [← hkk]
  clear hkk
  have main : ∀ (m n : Nat) (a : Bs) (C : List (Addr × Obj)) (ys : List V) (z : Shared) (σ : L2.St) (H : Hp), n + ys.length = sizeLine → W m ys σ H → Inv (reb X0 xe a) C σ H z →
      Run1 (model X0.prog X0.w) A (Aft X0 xe T A n a C ys) (.whileLoop test body [] X0.env) ((model X0.prog X0.w).den (.whileLoop test body [] X0.env)) (.ret kk none (gd false) (lv []) c q [] :: fs) z := by
    intro m
    induction m using Nat.strongRecOn with
    | ind m ih =>
      intro n a C ys z σ H hn w I
      have ee : ∀ (n : Nat) (a : Bs) (C : List (Addr × Obj)) (ys : List V) (e : Value) (z' : Shared), xe a e z' → Run1 (model X0.prog X0.w) A (Aft X0 xe T A n a C ys) (.whileLoop test body [] X0.env) (offLoop X0.env e) (.ret kk none (gd false) (lv []) c q [] :: fs) z' := fun n a C ys e z' hx => by
        refine r1_wrap ?_
        rw [(gl _).over]
        refine wpAny_bind (wpAny_mono (hp a e z' hx) (fun _ z2 y => wpAny_theTreesLotGoes ?_) fun e2 z2 y => ?_)
        · exact r1_leaf (.error e) (by rw [outE]; exact r1_back g k y)
        · exact r1_leaf (.error e2) (by rw [outE]; exact r1_back g k y)
      refine r1_whileLoop ?_
      rw [(gl _).over]
      refine wpAny_mono ((hc a).run C z σ H _ I (turn a m ys σ H w)) (fun b z' hb' => ?_) fun e z' hx => ee n a C ys e z' hx
      obtain ⟨H2, I2, q2⟩ := hb'
      cases b with
      | true =>
        obtain ⟨N, hN, q2⟩ := q2
        rw [if_pos rfl]
        have again : ∀ n' a' C' ys' z3 σ3 H3, n' + ys'.length = sizeLine → Inv (reb X0 xe a') C' σ3 H3 z3 → N ys' σ3 H3 → Run1 (model X0.prog X0.w) A (Aft X0 xe T A n' a' C' ys') (.whileLoop test body [] X0.env) (.pure (.again (.whileLoop test body [] X0.env))) (.ret kk none (gd false) (lv []) c q [] :: fs) z3 := fun n' a' C' ys' z3 σ3 H3 hn' I3 n3 => by
          obtain ⟨m', hm, w3⟩ := hN ys' σ3 H3 n3
          exact r1_again rfl (ih m' hm n' a' C' ys' z3 σ3 H3 hn' w3 I3)
        refine hb.run A _ _ _ _ id id { D with nx := N, ct := N, bk := D.nx } (gl _) ⟨fun n' a' C' ys' z3 f hn' q3 => ?_, fun n' a' C' ys' e z3 hx => ee n' a' C' ys' e z3 hx⟩ n a C ys z' σ H2 hn I2 q2
        cases f with
        | next =>
          obtain ⟨σ3, H3, I3, n3⟩ := q3
          exact again n' a' C' ys' z3 σ3 H3 hn' I3 n3
        | cont =>
          obtain ⟨σ3, H3, I3, n3⟩ := q3
          exact again n' a' C' ys' z3 σ3 H3 hn' I3 n3
        | brk => exact r1_leaf (.ok .next) (by rw [out]; exact k.ok n' a' C' ys' z3 .next hn' q3)
        | ret v => exact r1_leaf (.ok (.ret v)) (by rw [out]; exact k.ok n' a' C' ys' z3 (.ret v) hn' q3)
      | false =>
        rw [if_neg Bool.false_ne_true]
        exact r1_leaf (.ok .next) (by rw [out]; exact k.ok n a C ys z' .next hn ⟨σ, H2, I2, q2⟩)
  exact main m0 n a C ys z σ H hn w0 I
end
end EBG

/-! A generator def called; a sleeping generator's context based anew. -/
namespace EBG
open PySem PySem.Spec PyProof.Rows L2 GenW EB
/-! ### the heap cut to its first objects -/
def cutH (h : Heap) (n : Nat) : Heap := ⟨h.objs.extract 0 n, h.life⟩
theorem cutH_lt {h : Heap} {n : Nat} {b : Addr} (hb : b < n) : (cutH h n).get? b = h.get? b := by
  have hb' : (b : Nat) < n := hb
  have e : (h.objs.extract 0 n)[(b : Nat)]? = h.objs[(b : Nat)]? := by
    rw [Array.getElem?_extract]
    split
    · rw [Nat.zero_add]
    · rename_i z
      exact (Array.getElem?_eq_none (Nat.le_of_not_lt fun y => z (by have := Nat.lt_min.mpr ⟨hb', y⟩; simpa using this))).symm
  show (match (h.objs.extract 0 n)[(b : Nat)]? with | some ⟨_, _, .freed, _⟩ => none | o => o) = (match h.objs[(b : Nat)]? with | some ⟨_, _, .freed, _⟩ => none | o => o)
  rw [e]
theorem cutH_size {h : Heap} {n : Nat} (hn : n ≤ h.objs.size) : (cutH h n).objs.size = n := by
  show (h.objs.extract 0 n).size = n
  rw [Array.size_extract]
  omega
theorem cutH_of {h : Heap} {n : Nat} (hn : n ≤ h.objs.size) {b : Addr} {o : Obj} (e : (cutH h n).get? b = some o) : b < n ∧ h.get? b = some o := by
  have hb : b < n := by
    have z := Heap.lt_size e
    rw [cutH_size hn] at z
    exact z
  exact ⟨hb, (cutH_lt hb) ▸ e⟩
abbrev cut (z : Shared) (n : Nat) : Shared := { z with heap := cutH z.heap n }
theorem frames_cut {h base : Heap} {n : Nat} : ∀ {l : List Env}, (∀ b ∈ frs l, b < n) → h.FunFrames base l → (cutH h n).FunFrames base l
  | [], _, _ => trivial
  | env :: r, hs, ⟨hk, ⟨L, o, hf, hn, ho, hd⟩, hr⟩ => by
    have hL : L < n := hs L (by unfold frs; rw [List.filterMap_cons, hf]; exact List.mem_cons_self ..)
    exact ⟨hk, ⟨L, o, hf, hn, (cutH_lt hL).trans ho, hd⟩, frames_cut (fun b hb => hs b (by unfold frs; rw [List.filterMap_cons, hf]; exact List.mem_cons_of_mem _ hb)) hr⟩
/-- the sleeping generator's context, based at the state cut to what was there at its call -/
theorem rebase {X0 : Cx} {xe : XeF} {a : Bs} {z z' : Shared} {C C' : List (Addr × Obj)} {σ : L2.St} {F H : Hp} {n0 : Nat} (I : Inv (reb X0 xe a) C σ H z) (hF : Same F H) (hc : X0.env.cells = []) (hex : X0.ex = []) (hn : n0 ≤ X0.env.locals) (hb0 : X0.base.objs.size ≤ n0) (hfn : ∀ b ∈ X0.fs, b < n0)
    (keepL : ∀ o, z.heap.get? X0.env.locals = some o → z'.heap.get? X0.env.locals = some o) (hb : ∀ b o, X0.base.get? b = some o → z'.heap.get? b = some o) (hf : z'.heap.FunFrames X0.base X0.outer) (hbare : AllBare z'.gens) (hok : HOk X0.prog X0.w (kg X0.env.locals F H) z'.heap)
    (hpin : ∀ p ∈ X0.pn ++ C', z'.heap.get? p.1 = some p.2 ∧ kg X0.env.locals F H p.1 = none ∧ p.1 ≠ X0.env.locals ∧ p.1 ∉ X0.fs ∧ ∀ v, p.2.data ≠ .cell v) : Inv (reb X0 xe (cut z' n0, kg X0.env.locals F H)) C' σ (kg X0.env.locals F H) z' := by
  obtain ⟨m, hns, hl⟩ := I.loc
  obtain ⟨oL, es, ep, hoL, hrest⟩ := id hns
  have hoL' := keepL oL hoL
  have hsz : n0 ≤ z'.heap.objs.size := Nat.le_of_lt (Nat.lt_of_le_of_lt hn (Heap.lt_size hoL'))
  have noc : ∀ (x : Str) (c : Addr), X0.env.cells.lookup x ≠ some c := fun x c e => by
    rw [hc] at e
    cases e
  have ok := I.ok
  have hHb : ∀ b o, X0.base.get? b = some o → kg X0.env.locals F H b = none := fun b o e => kg_none hF (I.bs b o e).2
  refine ⟨⟨ok.mod, ok.kind, ok.glob, ok.blt, ?_, ok.inj, ok.has, fun x c _ e => absurd e (noc x c), ok.hd, ok.frames, ok.stk, ok.exf, fun b o e => ⟨?_, hHb b o e⟩, ?_, ok.noex, ok.exfs, frames_cut hfn hf, fun b hb => ?_⟩, rfl, hbare, ?_, ⟨m, ⟨oL, es, ep, hoL', hrest⟩, fun i x v e1 e2 e3 => ?_⟩, fun x c e => absurd e (noc x c), ?_, fun x c e => absurd e (noc x c), hpin, hok, I.len⟩
  · show (cutH z'.heap n0).objs.size ≤ _
    rw [cutH_size hsz]
    exact hn
  · exact (cutH_lt (Nat.lt_of_lt_of_le (Heap.lt_size e) hb0)).trans (hb b o e)
  · show _ ≤ (cutH z'.heap n0).objs.size
    rw [cutH_size hsz]
    exact hb0
  · obtain ⟨_, o, e, _⟩ := ok.funs.mem hb
    exact kg_none hF (I.base.free b o e (ok.frf b hb) (by rw [show (reb X0 xe a).ex = [] from hex]; exact List.not_mem_nil))
  · show Un X0.fs X0.ex (kg X0.env.locals F H) (kg X0.env.locals F H) (cutH z'.heap n0) z'.heap
    exact Un.kept fun b o e => (cutH_of hsz e).2
  · obtain ⟨u, r, q⟩ := hl i x v e1 e2 e3
    refine ⟨u, r, ?_⟩
    rcases q with q | ⟨_, c, e, _⟩
    · exact .inl q
    · exact absurd e (noc x c)
  · exact kg_none hF I.free
/-! ### what leaves it -/
abbrev xeG (X0 : Cx) (E : XK) : XeF := fun a e z => wpAny (model X0.prog X0.w) X0.A (leaving X0.env e) (fun _ z' => CX X0.prog X0.w X0.outer a.2 a.1 E e z' ∧ ∀ p ∈ X0.pn, z'.heap.get? p.1 = some p.2) (fun _ _ => False) z
abbrev excG (X0 : Cx) (E : XK) : XeF := fun a e z => CX X0.prog X0.w X0.outer a.2 a.1 E e z ∧ ∀ p ∈ X0.pn, z.heap.get? p.1 = some p.2
theorem takesG {X0 : Cx} {E : XK} {a : Bs} (hs : X0.stack = X0.env :: X0.outer) (hf : X0.env.frame = some X0.env.locals) (hex : X0.ex = []) : Takes (reb X0 (xeG X0 E) a) (fun cls d _ H' => E cls d H') := fun u s' x =>
  XE.leaveG (X := reb X0 (xeG X0 E) a) (W := fun cls d _ H' => E cls d H') (E := E) hs hf hex (fun _ _ _ _ h => h) x
theorem ownsG {X0 : Cx} {E : XK} {a : Bs} (hf : X0.env.frame = some X0.env.locals) : PassesOwn (model X0.prog X0.w) X0.A X0.env (xeG X0 E a) :=
  passes_of (X := reb X0 (xeG X0 E) a) (K := fun e s'' => CX X0.prog X0.w X0.outer a.2 a.1 E e s'' ∧ ∀ p ∈ X0.pn, s''.heap.get? p.1 = some p.2) (E₁ := fun _ _ => False) rfl
/-! ### a generator def called -/
abbrev SP1 := List V → Hp → (List V → V → Hp → Prop) → (List V → Prop) → XK → Prop
abbrev gx (P : Program) (w : World) (K : PySem.W.Frag) (mg : Str → Option Value) (base : Heap) (N : List Str) (qual : Str) (scope : Scope) (f : Addr) (cd : Value) (outer : List Env) (s : Shared) (F : Hp) (E : XK) (pn : List (Addr × Obj)) (A : Around) : Cx := gcxOf P w K mg base N qual scope f cd A outer s F E pn
def GMade1 (P : Program) (w : World) (K : PySem.W.Frag) (mg : Str → Option Value) (base : Heap) (k : Nat) (outer : List Env) (F : Hp) (Yp : List V → V → Hp → Prop) (Fin : List V → Prop) (E : XK) (s : Shared) (u : Value) (s' : Shared) : Prop :=
  ∃ (ag : Addr) (g : Nat) (c : Code) (N : List Str) (qual : Str) (scope : Scope) (f : Addr) (cd : Value) (go : Obj) (σ0 : L2.St), u = .ref ag ∧ s.heap.objs.size < ag ∧ ag < s'.heap.objs.size ∧ s'.heap.IsGen ag g ∧ s'.gens[g]? = some (.fresh c) ∧ s'.os = s.os ∧ AllBare s'.gens ∧ s'.heap.NoLimit ∧
    (∀ b o, s.heap.get? b = some o → s'.heap.get? b = some o) ∧ s'.heap.get? ag = some go ∧ (∀ v, go.data ≠ .cell v) ∧ (∀ n, cellsFrom n scope.names [] = []) ∧
    ∀ A, Room k A → A.frames = some outer → Inv (reb (gx P w K mg base N qual scope f cd outer s F E [(ag, go)] A) (xeG (gx P w K mg base N qual scope f cd outer s F E [(ag, go)] A) E) (s, F)) [] σ0 F s' ∧
      ∀ a' C' z', Inv (reb (gx P w K mg base N qual scope f cd outer s F E [(ag, go)] A) (xeG (gx P w K mg base N qual scope f cd outer s F E [(ag, go)] A) E) a') C' σ0 F z' →
        Run1 (model P w) A (Aft (gx P w K mg base N qual scope f cd outer s F E [(ag, go)] A) (xeG (gx P w K mg base N qual scope f cd outer s F E [(ag, go)] A) E) ⟨F, Yp, Fin, excG (gx P w K mg base N qual scope f cd outer s F E [(ag, go)] A) E⟩ A sizeLine a' C' []) c ((model P w).den c) [] z'
structure GFn1 (P : Program) (w : World) (K : PySem.W.Frag) (mg : Str → Option Value) (base : Heap) (k : Nat) (f : Addr) (fd : FuncData) (ps : List Str) (sp : SP1) : Prop where
  len : ∀ vs F Yp Fin E, sp vs F Yp Fin E → vs.length = ps.length
  run : ∀ (A : Around) (outer : List Env) (s : Shared) (F : Hp) (args : Args) (us : List Value) (vs : List V) (Yp : List V → V → Hp → Prop) (Fin : List V → Prop) (E : XK), Room k A → Env0 P w K mg base A outer s F → BindsTo s fd args (ps.zip us) → Vals vs us → sp vs F Yp Fin E →
    codeAny (model P w) A (.call (.ref f) args) (fun r s' => match r with | .ok (.ret u) => GMade1 P w K mg base k outer F Yp Fin E s u s' | _ => False) s
theorem gfn1_of {P : Program} {w : World} {K : PySem.W.Frag} {mg : Str → Option Value} {base : Heap} {k : Nat} {f : Addr} {name qual : Str} {params : Arguments} {body : List Stmt} {scope : Scope} {dV kV doc pm cdv ct oc : Value} {an od : Option Addr} {osl : Array (Option Value)} {N ps : List Str} {sp : SP1}
    (lk : K.lookup f = some ⟨oc, od, .func (PySem.W.fnOf name qual params body scope dV kV doc pm an cdv ct), osl⟩) (hcd : PySem.W.codeIn K cdv qual = true) (S : GScope N ps scope) (hnc : ∀ n, cellsFrom n scope.names [] = []) (len : ∀ vs F Yp Fin E, sp vs F Yp Fin E → vs.length = ps.length)
    (hbody : ∀ (A : Around) (outer : List Env) (s : Shared) (F : Hp) (vs : List V) (Yp : List V → V → Hp → Prop) (Fin : List V → Prop) (E : XK) (pn : List (Addr × Obj)), Room k (A.deeper (envOfC qual scope s.heap.objs.size f cdv)) → sp vs F Yp Fin E →
      ∃ t, YSs (gx P w K mg base N qual scope f cdv outer s F E pn A) (xeG (gx P w K mg base N qual scope f cdv outer s F E pn A) E) ⟨F, Yp, Fin, excG (gx P w K mg base N qual scope f cdv outer s F E pn A) E⟩ body t ∧
        t (s, F) { nx := fun ys _ H' => Same F H' ∧ Fin ys, rt := fun ys v H' => v = .non ∧ Same F H' ∧ Fin ys } [] (start N vs) F) :
    GFn1 P w K mg base (k + 1) f (PySem.W.fnOf name qual params body scope dV kV doc pm an cdv ct) ps sp := by
  refine ⟨len, fun A outer s F args us vs Yp Fin E hr e0 hb r hsp => ?_⟩
  have hl := len _ _ _ _ _ hsp
  have inS : ∀ b o, base.get? b = some o → s.heap.get? b = some o := fun b o e => (e0.bs b o e).1
  have KX : K.In s.heap := e0.mod.kin.keeps inS
  have lim : s.heap.NoLimit := e0.mod.nolimit.keeps inS
  have kinds : ∀ y ∈ ps.zip us, scope.names.lookup y.1 = some .local ∨ (scope.names.lookup y.1 = some .cell ∧ ((cellsFrom (s.heap.objs.size + 1) scope.names []).lookup y.1).isSome = true) := fun ⟨x, v⟩ hy => by
    rcases S.par x (List.of_mem_zip hy).1 with q | q
    · exact .inl q
    · exact .inr ⟨q, PySem.W.cellsFrom_some _ _ _ (.inl q)⟩
  refine codeAny_call_generator hr.depth (KX _ _ lk) rfl S.co S.gen rfl (PySem.W.codeRec_of KX hcd) (hb _ _ _ _ ?_)
  refine wpAny_newFunctionEnv_cells S.kind kinds fun env he s1 x => ?_
  subst he
  refine ⟨lim.keeps x.toInCall.keep, ?_⟩
  have lt1 : s.heap.objs.size < s1.heap.objs.size := x.toInCall.ns.lt
  have kp := x.toInCall.keep
  obtain ⟨os1, gen1⟩ : s1.os = s.os ∧ s1.gens = s.gens := by
    obtain ⟨h1, tk, e1, _⟩ := x.done
    rw [e1]
    exact ⟨rfl, rfl⟩
  have main : ∀ (go : Obj) (nm qn : Value) (tk : Nat), go.cls = .type "generator" → go.data = .fields #[.int s1.gens.size 0, nm, qn] → go.slots = #[] → (∀ h : Heap, (h.push go).get? h.objs.size = some go) →
      GMade1 P w K mg base (k + 1) outer F Yp Fin E s (.ref s1.heap.objs.size) { s1 with gens := s1.gens.push (.fresh (.func body (envOfC qual scope s.heap.objs.size f cdv))), toks := tk, heap := s1.heap.push go } := by
    intro go nm qn tk g1 g2 g3 g4
    have ncell : ∀ v, go.data ≠ .cell v := fun v q => by
      rw [g2] at q
      cases q
    have bareN : AllBare (s1.gens.push (.fresh (.func body (envOfC qual scope s.heap.objs.size f cdv)))) := AllBare.push (by rw [gen1]; exact e0.bare) rfl
    have kp2 : ∀ b o, s1.heap.get? b = some o → (s1.heap.push go).get? b = some o := fun b o e => Heap.get?_push_of_some _ e
    refine ⟨s1.heap.objs.size, s1.gens.size, _, N, qual, scope, f, cdv, go, start N vs, rfl, lt1, ?_, ⟨go, nm, qn, g4 _, g1, g2, g3⟩, Array.getElem?_push_size .., os1, bareN, (lim.keeps kp).keeps kp2, fun b o e => kp2 b o (kp b o e), g4 _, ncell, hnc, fun Aw hrw hfr => ?_⟩
    · show _ < (s1.heap.push _).objs.size
      rw [Heap.size_push]
      exact Nat.lt_succ_self _
    have e0w : Env0 P w K mg base Aw outer s F := ⟨hfr, e0.mod, e0.bs, e0.bsz, e0.funs, e0.frf, e0.hok, e0.bare⟩
    obtain ⟨t, ht, hq⟩ := hbody Aw outer s F vs Yp Fin E [(s1.heap.objs.size, go)] (hrw.deeper _) hsp
    have I1 : Inv (gcxOf P w K mg base N qual scope f cdv Aw outer s F E []) [] (start N vs) F s1 := inv_startG S hrw.hd e0w hl r x
    have I2 : Inv (gcxOf P w K mg base N qual scope f cdv Aw outer s F E []) [] (start N vs) F { s1 with gens := s1.gens.push (.fresh (.func body (envOfC qual scope s.heap.objs.size f cdv))), toks := tk, heap := s1.heap.push go } :=
      I1.call' (ch := []) rfl (Un.kept kp2) (I1.hok.kept kp2) bareN fun b z => nomatch z
    have I3 : Inv (gcxOf P w K mg base N qual scope f cdv Aw outer s F E [(s1.heap.objs.size, go)]) [] (start N vs) F { s1 with gens := s1.gens.push (.fresh (.func body (envOfC qual scope s.heap.objs.size f cdv))), toks := tk, heap := s1.heap.push go } := Inv.pinnedG I2 fun p hp => by
      rw [List.append_nil] at hp
      rw [List.mem_singleton.mp hp]
      exact ⟨g4 _, I1.hok.fresh (Nat.le_refl _), Nat.ne_of_gt lt1, I1.nofs (Nat.le_refl _), ncell⟩
    refine ⟨I3, fun a' C' z' I' => r1_func ?_⟩
    refine ht.run Aw _ [] _ _ id id { nx := fun ys _ H' => Same F H' ∧ Fin ys, rt := fun ys v H' => v = .non ∧ Same F H' ∧ Fin ys } ⟨over_func, rfl, rfl, rfl⟩ ⟨fun n a C ys z fl hn q => ?_, fun n a C ys e z hx => ?_⟩ sizeLine a' C' [] z' (start N vs) F (Nat.add_zero _) I' (by rw [ht.same a' (s, F)]; exact hq)
    · cases fl with
      | next =>
        obtain ⟨σ', H', I4, sF, hf⟩ := q
        exact r1_end (.ok (.ret .none)) (aft_ret ⟨.inl rfl, hf, σ', H', I4, sF⟩)
      | brk =>
        obtain ⟨_, _, _, q⟩ := q
        exact q.elim
      | cont =>
        obtain ⟨_, _, _, q⟩ := q
        exact q.elim
      | ret u =>
        obtain ⟨v, σ', H', I4, rv, ev, sF, hf⟩ := q
        subst ev
        cases (show u = Value.none from rv)
        exact r1_end (.ok (.ret .none)) (aft_ret ⟨.inl rfl, hf, σ', H', I4, sF⟩)
    · refine r1_wrap ?_
      rw [over_func]
      exact wpAny_mono (show wpAny (model P w) (Aw.deeper (envOfC qual scope s.heap.objs.size f cdv)) (leaving (envOfC qual scope s.heap.objs.size f cdv) e) _ _ z from hx) (fun _ z2 q => r1_end (.error e) (aft_ret q)) fun _ z2 q => q.elim
  exact main _ _ _ _ rfl rfl rfl fun h => Heap.get?_push_size _ rfl
end EBG

/-! next of a generator, one segment. -/
namespace EBG
open PySem PySem.Spec PyProof.Rows L2 GenW EB
theorem next1 {P : Program} {w : World} {A : Around} {E : Value → Shared → Prop} {s : Shared} {a : Addr} {g : Nat} {gs : GenState} {Φ : End → Shared → Prop} {Q : Option Value → Shared → Prop} (hh : A.handled = none) (hl : s.heap.NoLimit) (hroom : A.depth < recursionLimit) (hg : s.heap.IsGen a g) (hgs : s.gens[g]? = some gs)
    (hgo : Woken1 (model P w) A.in1 Φ gs (s.setGen g .running)) (hq : ∀ e z, Φ e z → e.quiet = true)
    (hY : ∀ v gd l k c q fs z, Φ (.susp v gd l k c q fs) z → g < z.gens.size → Q (some v) (z.setGen g (End.susp v gd l k c q fs).genState))
    (hP : ∀ fl z, Φ (.ret (.ok fl)) z → (fl = .ret .none ∨ fl = .next) ∧ ∀ h', (∀ b o, z.heap.get? b = some o → h'.get? b = some o) → Q none { z.setGen g .finished with heap := h' })
    (hE : ∀ e z, Φ (.ret (.error e)) z → z.heap.IsGen a g ∧ NotStop (model P w) e z.heap ∧ E e (z.setGen g .finished)) : wpAny (model P w) A (pyNext (.ref a)) Q E s := by
  unfold pyNext
  refine wpAny_bind (wpAny_attempt (wpAny_callSpecial?_slot (name := Str.ofString "__next__") hg.typeIs slot_gen_next (wpAny_call_entry slot_gen_next hg.typeIs entry_gen_next ?_ (args_gen_next _))))
  show wpAny _ A.in1 (Builtin.Generator.genWake (.ref a) (.send .none)) _ _ s
  unfold Builtin.Generator.genWake
  refine wpAny_bind (wpAny_holding (wpAny_genNumber hg (wpAny_bind (wpAny_genState hgs ?_))))
  have go : ∀ {l : List Value} {α : Type} {k : GenResult → Sem α} {Q' : α → Shared → Prop} {E' : Value → Shared → Prop}, (∀ e z, Φ e z → g < z.gens.size → wpAny (model P w) A.in1 (k e.result) Q' E' (z.setGen g e.genState)) → wpAny (model P w) A.in1 (.resume g (.send .none) l k) Q' E' s := fun h => resume1 hgs hgo hq h
  cases gs with
  | running => exact hgo.elim
  | finished => exact hgo.elim
  | _ =>
    refine wpAny_bind (wpAny_roomToWake hl hroom ?_)
    show wpAny _ A.in1 (.resume g (.send .none) [] _) _ _ s
    refine go fun e z hz hgz => ?_
    cases e with
    | susp v gd l k c q fs => exact wpAny_pure ⟨v, rfl, wpAny_pure (hY v gd l k c q fs z hz hgz)⟩
    | ret r =>
      cases r with
      | ok fl =>
        obtain ⟨hr, hp⟩ := hP fl z hz
        have hres : End.result (.ret (.ok fl)) = .returned .none := by
          rcases hr with hr | hr <;> rw [hr] <;> rfl
        first | rw [hres] | simp only [hres]
        show wpAny _ A.in1 (newExc (.type "StopIteration") [] >>= _) _ _ _
        refine wpAny_bind ?_
        simp only [newExc, newTuple]
        refine wpAny_bind (wpAny_newObj_type (wpAny_bind (m := firstArgMember _ _) (wpAny_of_eq (a := Value.none) (by first | rfl | (simp only [firstArgMember]; rfl)) (wpAny_newObj_type ?_ (by size_fits)))) (by size_fits))
        simp only [raiseNew]
        refine wpAny_bind (wpAny_bind (wpAny_handled ?_))
        first | rw [show A.in1.handled = none from hh] | rw [hh]
        refine wpAny_throw (wpAny_bind (wpAny_isInstance (T := "StopIteration") (b := true) ⟨_, Heap.get?_push_size _ rfl, rfl⟩ isSubtype_stop ?_))
        exact wpAny_pure (hp _ fun b o e => Heap.get?_push_of_some _ (Heap.get?_push_of_some _ e))
      | error e =>
        obtain ⟨hg1, hns, hx⟩ := hE e z hz
        obtain ⟨o, nm, qn, ho, hc, hd, hsl⟩ := hg1
        show wpAny _ A.in1 (Builtin.Generator.genLeft (.ref a) e) _ _ _
        unfold Builtin.Generator.genLeft Builtin.Generator.madeByALambda
        refine wpAny_bind (wpAny_bind (wpAny_load (o := o) ho (wpAny_pure (wpAny_bind (hns _ _ _ _ rfl ?_)))))
        rw [Bool.and_false, if_neg Bool.false_ne_true]
        unfold Builtin.Generator.genEscaped
        first
          | refine wpAny_bind (hns _ _ _ _ rfl ?_)
          | refine wpAny_bind (wpAny_pure (wpAny_bind (hns _ _ _ _ rfl ?_)))
        rw [if_pos (show (!false) = true from rfl)]
        first
          | refine wpAny_throw (wpAny_bind (hns _ _ _ _ rfl ?_))
          | refine wpAny_bind (wpAny_throw (wpAny_bind (hns _ _ _ _ rfl ?_)))
        rw [if_neg Bool.false_ne_true]
        exact wpAny_throw hx
end EBG

/-! What a generator and its consumer know in common, and the consumer's state behind a segment. -/
namespace EBG
open PySem PySem.Spec PyProof.Rows L2 GenW EB
/-! ### what they share: instances, their dicts, tuples, ranges, methods -/
def kindF : HO → Bool
  | .dT _ | .tbl _ | .ext _ | .xd _ => false
  | .frz _ u => kindF u
  | _ => true
def fzO : HO → Bool
  | .lst _ | .dK _ | .set _ _ => false
  | o => kindF o
def noIns : HO → Bool
  | .ins _ _ _ => false
  | .frz _ u => noIns u
  | _ => true
theorem kindF_of {o : HO} (h : fzO o = true) : kindF o = true := by
  cases o <;> first | rfl | exact h
theorem noIns_kind {o : HO} (h : kindF o = false) : noIns o = true := by
  induction o with
  | frz _ u ih => exact ih h
  | ins _ _ _ => cases h
  | _ => rfl
theorem noIns_of {o : HO} (h : fzO o = false) : noIns o = true := by
  cases o with
  | lst _ => rfl
  | dK _ => rfl
  | set _ _ => rfl
  | ins _ _ _ => cases h
  | frz q u => exact noIns_kind (o := .frz q u) h
  | _ => rfl
def fz (H : Hp) : Hp := fun b => match H b with
  | some o => if fzO o = true then some o else none
  | none => none
theorem fz_of {H : Hp} {b : Addr} {o : HO} (e : fz H b = some o) : H b = some o ∧ fzO o = true := by
  unfold fz at e
  cases q : H b with
  | none =>
    rw [q] at e
    cases e
  | some u =>
    rw [q] at e
    have e : (if fzO u = true then some u else none) = some o := e
    by_cases h : fzO u = true
    · rw [if_pos h] at e
      cases e
      exact ⟨rfl, h⟩
    · rw [if_neg h] at e
      cases e
theorem fz_to {H : Hp} {b : Addr} {o : HO} (e : H b = some o) (h : fzO o = true) : fz H b = some o := by
  unfold fz
  rw [e]
  exact if_pos h
theorem fz_not {H : Hp} {b : Addr} {o : HO} (e : H b = some o) (h : fz H b = none) : fzO o = false := by
  cases q : fzO o with
  | false => rfl
  | true =>
    rw [fz_to e q] at h
    cases h
theorem fz_same (H : Hp) : Same (fz H) H := fun _ _ e => (fz_of e).1
section
variable {P : Program} {w : World} {Ha Hb Hr H H1 : Hp} {ha hb h h' h1 : Heap} {a b : Addr} {u o : HO}
theorem mixO (hk : kindF u = true) (x : ObjOk P w Ha ha a u) (y : ObjOk P w Hb hb a u) (ho : ∀ c, Ha c = some (.own a) → Hr c = some (.own a)) : ObjOk P w Hr hb a u := by
  induction u with
  | ins C dx fs => exact ⟨ho _ x.1, y.2⟩
  | frz q u ih => exact ⟨y.1, ih hk x.2 y.2⟩
  | dT _ => cases hk
  | _ => exact y
theorem fz_down (ok1 : HOk P w H1 h1) (ok : HOk P w H h) (s : Same (fz H1) H) : HOk P w (fz H1) h := fun b o e => by
  obtain ⟨e1, ho⟩ := fz_of e
  exact mixO (kindF_of ho) (ok1 b o e1) (ok b o (s b o e)) fun c q => fz_to q rfl
/-- an object with no dict of its own elsewhere -/
theorem stayI (n : noIns u = true) (x : ObjOk P w H h a u) (k : ∀ q, h.get? a = some q → h'.get? a = some q) (ht : ∀ b xs, H b = some (.tup xs) → Hr b = some (.tup xs)) : ObjOk P w Hr h' a u := by
  induction u with
  | lst xs => exact let ⟨z, its, n, r, e⟩ := x; ⟨z, its, n, r, k _ e⟩
  | tup xs => exact let ⟨z, its, r, ob, e, c⟩ := x; ⟨z, its, r, ob, k _ e, c⟩
  | dK kvs => exact let ⟨z, y, vs, r, ob, es, ep, e, c⟩ := x; ⟨z, y, vs, r, ob, es, ep, k _ e, c⟩
  | dT kvs => exact let ⟨z, y, xs, r, ob, es, ep, e, c⟩ := x; ⟨z, y, xs, Paired.mapP r fun p q t => ⟨t.1, ht _ _ t.2.1, t.2.2⟩, ob, es, ep, k _ e, c⟩
  | set S m => exact let ⟨ob, es, ep, t, e, c⟩ := x; ⟨ob, es, ep, t, k _ e, c⟩
  | ins C dx fs => cases n
  | own y => exact let ⟨ob, e⟩ := x; ⟨ob, k _ e⟩
  | xd fs => exact let ⟨mA, ⟨od, es, ep, e, c⟩, r⟩ := x; ⟨mA, ⟨od, es, ep, k _ e, c⟩, r⟩
  | rng lo hi => exact let ⟨t, u, v, e⟩ := x; ⟨t, u, v, k _ e⟩
  | frz ob u ih => exact ⟨k _ x.1, ih n x.2⟩
  | tbl ps => exact k _ x
  | met f y => exact k _ x
  | ext φ => exact let ⟨p, ⟨o, e⟩, st⟩ := x; ⟨st _ _ p fun o q => k _ q, ⟨o, k _ e⟩, st⟩
/-- what is tracked is there -/
theorem obj_at (ok : HOk P w H h) (e : H a = some o) : ∃ q, h.get? a = some q := by
  have x := ok a o e
  cases o with
  | frz q u => exact ⟨_, x.1⟩
  | lst xs => exact let ⟨_, _, _, _, e⟩ := x; ⟨_, e⟩
  | tup xs => exact let ⟨_, _, _, _, e, _⟩ := x; ⟨_, e⟩
  | dK kvs => exact let ⟨_, _, _, _, _, _, _, e, _⟩ := x; ⟨_, e⟩
  | dT kvs => exact let ⟨_, _, _, _, _, _, _, e, _⟩ := x; ⟨_, e⟩
  | set S n => exact let ⟨_, _, _, _, e, _⟩ := x; ⟨_, e⟩
  | ins C dx fs => exact let ⟨_, _, _, e, _⟩ := x; ⟨_, e⟩
  | own y => exact x
  | xd fs => exact let ⟨_, ⟨_, _, _, e, _⟩, _⟩ := x; ⟨_, e⟩
  | rng lo hi => exact let ⟨_, _, _, e⟩ := x; ⟨_, e⟩
  | tbl ps => exact ⟨_, x⟩
  | met f y => exact ⟨_, x⟩
  | ext φ => exact x.2.1
/-- lists, tuples, dicts, sets -/
def solid : HO → Bool
  | .lst _ | .tup _ | .dK _ | .set _ _ => true
  | _ => false
theorem solid_noIns (h : solid u = true) : noIns u = true := by
  cases u <;> first | rfl | cases h
theorem solid_obj (hs : solid u = true) (x : ObjOk P w H h a u) : ∃ q, h.get? a = some q ∧ ∀ v, q.data ≠ .cell v := by
  cases u with
  | lst xs =>
    obtain ⟨z, its, n, r, e⟩ := x
    exact ⟨_, e, fun v q => by cases q⟩
  | tup xs =>
    obtain ⟨z, its, r, ob, e, c, n, d⟩ := x
    exact ⟨_, e, fun v q => by rw [d] at q; cases q⟩
  | dK kvs =>
    obtain ⟨z, y, vs, r, ob, es, ep, e, c, d, _⟩ := x
    exact ⟨_, e, fun v q => by rw [d] at q; cases q⟩
  | set S m =>
    obtain ⟨ob, es, ep, t, e, x⟩ := x
    refine ⟨_, e, fun v q => ?_⟩
    obtain ⟨_, d, _⟩ := x
    rw [d] at q
    cases q
  | _ => cases hs
/-- the generator's own things where it slept, as they were -/
theorem kg_down {L : Nat} {F Hg : Hp} {zg : Heap} (ok : HOk P w F h) (okg : HOk P w Hg zg) (pv : ∀ b, kg L F Hg b ≠ none → F b = none → h.get? b = zg.get? b) : HOk P w (kg L F Hg) h := fun b o e => by
  cases q : F b with
  | some o' =>
    have e' := kg_same L F Hg b o' q
    rw [e] at e'
    cases e'
    exact (ok b o q).stay (fun _ _ _ z => z) (fun c z => kg_same _ _ _ _ _ z) fun c xs z => kg_same _ _ _ _ _ z
  | none =>
    obtain ⟨_, e1, k⟩ := kg_own e q
    have hp := pv b (by rw [e]; exact fun z => by cases z) q
    have x := okg b o e1
    rcases k with ⟨xs, rfl⟩ | ⟨kvs, rfl⟩ | ⟨S, m, rfl⟩
    · exact let ⟨z, its, n, r, e⟩ := x; ⟨z, its, n, r, hp.trans e⟩
    · exact let ⟨z, y, vs, r, ob, es, ep, e, c⟩ := x; ⟨z, y, vs, r, ob, es, ep, hp.trans e, c⟩
    · exact let ⟨ob, es, ep, t, e, c⟩ := x; ⟨ob, es, ep, t, hp.trans e, c⟩
end
/-! ### all that is not tracked -/
def isCellB (o : Obj) : Bool := match o.data with
  | .cell _ => true
  | _ => false
theorem isCellB_false {o : Obj} : isCellB o = false ↔ ∀ v, o.data ≠ .cell v := by
  unfold isCellB
  constructor
  · intro h v e
    rw [e] at h
    cases h
  · intro h
    split
    · rename_i v e
      exact absurd e (h v)
    · rfl
def restAll (h : Heap) (H : Hp) (no : List Addr) : List (Addr × Obj) := (List.range h.objs.size).filterMap fun b => match h.get? b with
  | some o => if ((H b).isNone && !(decide (b ∈ no)) && !(isCellB o)) = true then some (b, o) else none
  | none => none
theorem mem_rest {h : Heap} {H : Hp} {no : List Addr} {b : Addr} {o : Obj} (e : h.get? b = some o) (n : H b = none) (hb : b ∉ no) (d : ∀ v, o.data ≠ .cell v) : (b, o) ∈ restAll h H no := by
  refine List.mem_filterMap.mpr ⟨b, List.mem_range.mpr (Heap.lt_size e), ?_⟩
  rw [e]
  refine if_pos ?_
  rw [n, isCellB_false.mpr d, decide_eq_false hb]
  rfl
theorem of_rest {h : Heap} {H : Hp} {no : List Addr} {p : Addr × Obj} (hp : p ∈ restAll h H no) : h.get? p.1 = some p.2 ∧ H p.1 = none ∧ p.1 ∉ no ∧ ∀ v, p.2.data ≠ .cell v := by
  obtain ⟨b, _, e⟩ := List.mem_filterMap.mp hp
  cases q : h.get? b with
  | none =>
    rw [q] at e
    cases e
  | some o =>
    rw [q] at e
    have e : (if ((H b).isNone && !(decide (b ∈ no)) && !(isCellB o)) = true then some (b, o) else none) = some p := e
    by_cases c : ((H b).isNone && !(decide (b ∈ no)) && !(isCellB o)) = true
    · rw [if_pos c] at e
      cases e
      rw [Bool.and_eq_true, Bool.and_eq_true] at c
      obtain ⟨⟨c1, c2⟩, c3⟩ := c
      exact ⟨q, Option.isNone_iff_eq_none.mp c1, of_decide_eq_false (by simpa using c2), isCellB_false.mp (by simpa using c3)⟩
    · rw [if_neg c] at e
      cases e
/-- the cells from n0 on, the generator's own things -/
def youngs (h : Heap) (G F : Hp) (n0 : Nat) : List Addr := (List.range h.objs.size).filter fun b => (decide (n0 < b) && (match h.get? b with | some o => isCellB o | none => false)) || ((G b).isSome && (F b).isNone)
theorem mem_young {h : Heap} {G F : Hp} {n0 : Nat} {b : Addr} {o : Obj} (e : h.get? b = some o) (hk : (n0 < b ∧ ¬ ∀ v, o.data ≠ .cell v) ∨ (G b ≠ none ∧ F b = none)) : b ∈ youngs h G F n0 := by
  refine List.mem_filter.mpr ⟨List.mem_range.mpr (Heap.lt_size e), ?_⟩
  rw [e]
  rcases hk with ⟨h1, h2⟩ | ⟨h1, h2⟩
  · have q : isCellB o = true := by
      cases q : isCellB o with
      | true => rfl
      | false => exact absurd (isCellB_false.mp q) h2
    show ((decide (n0 < b) && isCellB o) || _) = true
    rw [decide_eq_true h1, q]
    rfl
  · have q : (G b).isSome = true := Option.isSome_iff_ne_none.mpr h1
    rw [q, h2, Bool.or_eq_true]
    exact .inr rfl
theorem of_young {h : Heap} {G F : Hp} {n0 : Nat} {b : Addr} (hb : b ∈ youngs h G F n0) : n0 < b ∨ (G b ≠ none ∧ F b = none) := by
  have z := (List.mem_filter.mp hb).2
  rw [Bool.or_eq_true] at z
  rcases z with z | z
  · rw [Bool.and_eq_true] at z
    exact .inl (of_decide_eq_true z.1)
  · rw [Bool.and_eq_true] at z
    exact .inr ⟨Option.isSome_iff_ne_none.mp z.1, Option.isNone_iff_eq_none.mp z.2⟩
/-! ### the consumer's heap -/
/-- since H1 only lists, tuples, dicts, sets were laid or changed -/
structure Grow (H1 H : Hp) : Prop where
  same : Same (fz H1) H
  new : ∀ b o, H b = some o → fz H1 b = none → H1 b = some o ∨ solid o = true
theorem Grow.refl (H : Hp) : Grow H H := ⟨fz_same H, fun _ _ e _ => .inl e⟩
theorem Grow.upd {H1 H : Hp} {a : Addr} {o : HO} (g : Grow H1 H) (ha : fz H1 a = none) (ho : solid o = true) : Grow H1 (upd H a o) := by
  refine ⟨fun b u e => ?_, fun b u e n => ?_⟩
  · rw [upd_ne (fun z => by rw [z, ha] at e; cases e)]
    exact g.same b u e
  · by_cases hb : b = a
    · rw [hb, upd_same] at e
      cases e
      exact .inr ho
    · rw [upd_ne hb] at e
      exact g.new b u e n
/-- tuples that came with an item -/
def mrg (H T : Hp) : Hp := fun b => match H b with
  | some o => some o
  | none => match T b with
    | some (.tup xs) => some (.tup xs)
    | _ => none
theorem mrg_same (H T : Hp) : Same H (mrg H T) := fun b o e => by
  unfold mrg
  rw [e]
theorem mrg_new {H T : Hp} {b : Addr} {o : HO} (e : mrg H T b = some o) (n : H b = none) : ∃ xs, o = .tup xs ∧ T b = some (.tup xs) := by
  unfold mrg at e
  rw [n] at e
  cases q : T b with
  | none =>
    rw [q] at e
    cases e
  | some u =>
    rw [q] at e
    cases u with
    | tup xs => cases e; exact ⟨xs, rfl, rfl⟩
    | _ => cases e
theorem Grow.mrg {H1 H T : Hp} (g : Grow H1 H) : Grow H1 (mrg H T) := by
  refine ⟨g.same.trans (mrg_same H T), fun b o e n => ?_⟩
  cases q : H b with
  | some u =>
    have e' := mrg_same H T b u q
    rw [e] at e'
    cases e'
    exact g.new b o q n
  | none =>
    obtain ⟨xs, rfl, _⟩ := mrg_new e q
    exact .inr rfl
end EBG

/-! The consumer's state behind a segment of its generator. -/
namespace EBG
open PySem PySem.Spec PyProof.Rows L2 GenW EB
/-- the consumer's things lie below n0, what was there when the generator was made -/
structure Bel (X : Cx) (pins : List (Addr × Obj)) (n0 : Nat) : Prop where
  s0 : X.s_0.heap.objs.size ≤ n0
  loc : X.env.locals < n0
  cel : ∀ x c, X.env.cells.lookup x = some c → c < n0
  pin : ∀ p ∈ X.pn ++ pins, p.1 < n0
  fr : ∀ b ∈ frs X.stack, b < n0
theorem bel_of {X : Cx} {pins : List (Addr × Obj)} {σ : L2.St} {H : Hp} {sc : Shared} (I : Inv X pins σ H sc) : Bel X pins sc.heap.objs.size := by
  refine ⟨I.sz, I.lt, fun x c e => ?_, fun p hp => Heap.lt_size (I.pin p hp).1, fun b hb => ?_⟩
  · obtain ⟨v, o, e1, _⟩ := I.cell x c e
    exact Heap.lt_size e1
  · obtain ⟨_, o, e1, _⟩ := I.stack.mem hb
    exact Heap.lt_size e1
abbrev gX (X : Cx) (N : List Str) (qual : Str) (scope : Scope) (f : Addr) (cd : Value) (sc : Shared) (F : Hp) (ag : Addr) (go : Obj) : Cx := gx X.prog X.w X.K X.mg X.base N qual scope f cd X.stack sc F E0 [(ag, go)] X.A.in1
section
variable {X : Cx} {N : List Str} {qual : Str} {scope : Scope} {f : Addr} {cd : Value} {sc : Shared} {ag : Addr} {go : Obj} {pins : List (Addr × Obj)} {σ σ2 : L2.St} {H1 Hc H2 G Hr : Hp} {z z2 : Shared}
/-- no young thing of the consumer is a cell -/
theorem young_noncell {P : Program} {w : World} {h : Heap} {n0 : Nat} (hok : HOk P w Hc h) (gr : Grow H1 Hc) (hF1 : ∀ b : Addr, n0 ≤ b → H1 b = none) {b : Addr} {ob : HO} {o : Obj} (hb : n0 ≤ b) (e : Hc b = some ob) (eo : h.get? b = some o) : solid ob = true ∧ ∀ v, o.data ≠ .cell v := by
  have n1 := hF1 b hb
  have nf : fz H1 b = none := by
    unfold fz
    rw [n1]
  have s : solid ob = true := by
    rcases gr.new b ob e nf with q | q
    · rw [n1] at q
      cases q
    · exact q
  obtain ⟨q, eq, d⟩ := solid_obj s (hok b ob e)
  rw [eo] at eq
  cases eq
  exact ⟨s, d⟩
theorem behind (B : Bel X pins sc.heap.objs.size) (I : Inv X pins σ Hc z) (gr : Grow H1 Hc) (hF1 : ∀ b : Addr, sc.heap.objs.size ≤ b → H1 b = none) (hlg : Hc sc.heap.objs.size = none) (hag : Hc ag = none) (hgl : sc.heap.objs.size < ag)
    (J : Inv (reb (gX X N qual scope f cd sc (fz H1) ag go) (xeG (gX X N qual scope f cd sc (fz H1) ag go) E0) (cut z sc.heap.objs.size, G)) (restAll z.heap G (sc.heap.objs.size :: frs X.stack)) σ2 H2 z2) (hz : sc.heap.objs.size ≤ z.heap.objs.size)
    (s2 : Same (fz H1) H2) (hG : ∀ b : Addr, G b ≠ none → fz H1 b = none → sc.heap.objs.size < b ∧ Hc b = none) (hr : Hr = Hc ∨ Hr = mrg Hc H2) : Inv X pins σ Hr z2 := by
  have sR : Same Hc Hr := by
    rcases hr with rfl | rfl
    · exact fun _ _ e => e
    · exact mrg_same _ _
  have nR : ∀ {b o}, Hr b = some o → Hc b = none → ∃ xs, o = .tup xs ∧ H2 b = some (.tup xs) := by
    intro b o e n
    rcases hr with rfl | rfl
    · rw [n] at e
      cases e
    · exact mrg_new e n
  -- what the consumer does not share is as it was
  have kp : ∀ b o, z.heap.get? b = some o → G b = none → b ≠ sc.heap.objs.size → b ∉ frs X.stack → (sc.heap.objs.size ≤ b → ∀ v, o.data ≠ .cell v) → z2.heap.get? b = some o ∧ H2 b = none := fun b o e n h1 h2 h3 => by
    by_cases hb : sc.heap.objs.size ≤ b
    · have q := J.pin (b, o) (List.mem_append_right _ (mem_rest e n (fun y => (List.mem_cons.mp y).elim h1 h2) (h3 hb)))
      exact ⟨q.1, q.2.1⟩
    · have e' : (cut z sc.heap.objs.size).heap.get? b = some o := (cutH_lt (Nat.lt_of_not_le hb)).trans e
      exact ⟨J.base.keep b o e' n h2 List.not_mem_nil, J.base.free b o e' n List.not_mem_nil⟩
  have kf : ∀ b ∈ frs X.stack, ∀ o, z.heap.get? b = some o → (∃ sl, z2.heap.get? b = some { o with slots := sl }) ∧ H2 b = none := fun b hb o e => by
    have e' : (cut z sc.heap.objs.size).heap.get? b = some o := (cutH_lt (B.fr b hb)).trans e
    have n : G b = none := J.ok.frf b hb
    exact ⟨J.base.slot b o e' n hb List.not_mem_nil, J.base.free b o e' n List.not_mem_nil⟩
  have gN : ∀ b ob, Hc b = some ob → fz H1 b = none → G b = none := fun b ob e n => by
    cases q : G b with
    | none => rfl
    | some o =>
      have := (hG b (by rw [q]; exact fun z => by cases z) n).2
      rw [e] at this
      cases this
  have kc : ∀ b ob o, Hc b = some ob → fz H1 b = none → z.heap.get? b = some o → z2.heap.get? b = some o := fun b ob o e n eo =>
    (kp b o eo (gN b ob e n) (fun y => by rw [y, hlg] at e; cases e) (fun y => by rw [I.stkFree b y] at e; cases e) fun hb => (young_noncell I.hok gr hF1 hb e eo).2).1
  refine I.call' (ch := sc.heap.objs.size :: ag :: youngs z.heap G (fz H1) sc.heap.objs.size) J.os ⟨fun b o e n hb hc => ?_, fun b o e n hb hc => (kf b hb o e).1, fun b o e n hc => ?_, fun b o e hc => ?_, fun b xs e => sR _ _ e, fun b o u e => sR _ _ e, fun b ps e => ⟨#[], by rw [Array.append_empty]; exact sR _ _ e⟩⟩ (fun b ob e => ?_) J.bare fun b hb => ?_
  · have nf : fz H1 b = none := gr.same.free n
    refine (kp b o e ?_ (fun y => hc (y ▸ List.mem_cons_self ..)) hb fun hl => ?_).1
    · cases q : G b with
      | none => rfl
      | some u => exact absurd (List.mem_cons_of_mem _ (List.mem_cons_of_mem _ (mem_young e (.inr ⟨(by rw [q]; exact fun z => nomatch z), nf⟩)))) hc
    · refine Classical.byContradiction fun y => hc (List.mem_cons_of_mem _ (List.mem_cons_of_mem _ (mem_young e (.inl ⟨?_, y⟩))))
      exact Nat.lt_of_le_of_ne hl fun z => hc (z ▸ List.mem_cons_self ..)
  · cases q : Hr b with
    | none => rfl
    | some u =>
      obtain ⟨xs, _, e2⟩ := nR q n
      have nf : fz H1 b = none := gr.same.free n
      have contra : H2 b = none := by
        by_cases hb : b ∈ frs X.stack
        · exact (kf b hb o e).2
        refine (kp b o e ?_ (fun y => hc (y ▸ List.mem_cons_self ..)) hb fun hl => ?_).2
        · cases q : G b with
          | none => rfl
          | some u => exact absurd (List.mem_cons_of_mem _ (List.mem_cons_of_mem _ (mem_young e (.inr ⟨(by rw [q]; exact fun z => nomatch z), nf⟩)))) hc
        · refine Classical.byContradiction fun y => hc (List.mem_cons_of_mem _ (List.mem_cons_of_mem _ (mem_young e (.inl ⟨?_, y⟩))))
          exact Nat.lt_of_le_of_ne hl fun z => hc (z ▸ List.mem_cons_self ..)
      rw [contra] at e2
      cases e2
  · by_cases hb : b ∈ frs X.stack
    · obtain ⟨sl, q⟩ := (kf b hb o e).1
      exact ⟨_, q⟩
    cases qF : fz H1 b with
    | some u => exact obj_at J.hok (s2 b u qF)
    | none =>
      cases q : G b with
      | some u => exact absurd (List.mem_cons_of_mem _ (List.mem_cons_of_mem _ (mem_young e (.inr ⟨(by rw [q]; exact fun z => nomatch z), qF⟩)))) hc
      | none =>
        refine ⟨o, (kp b o e q (fun y => hc (y ▸ List.mem_cons_self ..)) hb fun hl => ?_).1⟩
        refine Classical.byContradiction fun y => hc (List.mem_cons_of_mem _ (List.mem_cons_of_mem _ (mem_young e (.inl ⟨?_, y⟩))))
        exact Nat.lt_of_le_of_ne hl fun z => hc (z ▸ List.mem_cons_self ..)
  · cases qc : Hc b with
    | none =>
      obtain ⟨xs, rfl, e2⟩ := nR e qc
      exact J.hok b _ e2
    | some u =>
      have e' := sR b u qc
      rw [e] at e'
      cases e'
      cases qF : fz H1 b with
      | some u =>
        have q1 := gr.same b u qF
        rw [qc] at q1
        cases q1
        exact mixO (kindF_of (fz_of qF).2) (I.hok b ob qc) (J.hok b ob (s2 b ob qF)) fun c q => sR _ _ q
      | none =>
        obtain ⟨o, eo⟩ := obj_at I.hok qc
        have nI : noIns ob = true := by
          rcases gr.new b ob qc qF with q | q
          · exact noIns_of (fz_not q qF)
          · exact solid_noIns q
        refine stayI nI (I.hok b ob qc) (fun q eq => ?_) fun c xs q => sR _ _ q
        exact kc b ob q qc qF eq
  · have big : sc.heap.objs.size ≤ b := by
      rcases List.mem_cons.mp hb with rfl | hb
      · exact Nat.le_refl _
      rcases List.mem_cons.mp hb with rfl | hb
      · exact Nat.le_of_lt hgl
      rcases of_young hb with q | ⟨q1, q2⟩
      · exact Nat.le_of_lt q
      · exact Nat.le_of_lt (hG b q1 q2).1
    exact ⟨.inr (Nat.le_trans B.s0 big), Nat.ne_of_gt (Nat.lt_of_lt_of_le B.loc big), fun x c e => Nat.ne_of_lt (Nat.lt_of_lt_of_le (B.cel x c e) big), fun p hp => Nat.ne_of_lt (Nat.lt_of_lt_of_le (B.pin p hp) big)⟩
end
end EBG

/-! Rules that keep the table of generators: for a body that is run while a generator sleeps. -/
namespace EBG
open PySem PySem.Spec PyProof.Rows L2 GenW EB
abbrev GK (s z : Shared) : Prop := z.gens = s.gens
structure KE (X : Cx) (e : Expr) (t : TE) : Prop where
  go : ∀ pins s σ H Q, Inv X pins σ H s → t σ H Q → wpAny (model X.prog X.w) X.A (eval e X.env) (fun u z => EP X pins σ Q u z ∧ GK s z) X.xe s
structure KT (X : Cx) (e : Expr) (t : TT) : Prop where
  go : ∀ pins s σ H Q, Inv X pins σ H s → t σ H Q → wpAny (model X.prog X.w) X.A (isTrue e X.env (eval e X.env)) (fun b z => TP X pins σ Q b z ∧ GK s z) X.xe s
structure KA (X : Cx) (es : List Expr) (t : TA) : Prop where
  go : ∀ pos pins s σ H Q, Inv X pins σ H s → t σ H Q → wpAny (model X.prog X.w) X.A (spliced (backTo pos (starEach es X.env))) (fun us z => AP X pins σ Q us z ∧ GK s z) X.xe s
structure KS (X : Cx) (st : Stmt) (t : TS) : Prop where
  go : ∀ pins s σ H D, Inv X pins σ H s → t D σ H → wpAny (model X.prog X.w) X.A (exec st X.env) (fun f z => SP X pins D f z ∧ GK s z) X.xe s
structure KSs (X : Cx) (st : List Stmt) (t : TS) : Prop where
  go : ∀ pins s σ H D, Inv X pins σ H s → t D σ H → wpAny (model X.prog X.w) X.A (execs st X.env) (fun f z => SP X pins D f z ∧ GK s z) X.xe s
structure KG (X : Cx) (e : Expr) (t : TG) : Prop where
  go : ∀ pins s σ H v u Q, Inv X pins σ H s → RelV v u → t v σ H Q → wpAny (model X.prog X.w) X.A (assign e X.env u) (fun _ z => (∃ σ' H', Inv X pins σ' H' z ∧ Q σ' H') ∧ GK s z) X.xe s
structure KGs (X : Cx) (es : List Expr) (t : TGs) : Prop where
  go : ∀ pins s σ H vs us Q, Inv X pins σ H s → Vals vs us → t vs σ H Q → wpAny (model X.prog X.w) X.A (assignInOrder ((assignEach es X.env).map (·.2)) us) (fun _ z => (∃ σ' H', Inv X pins σ' H' z ∧ Q σ' H') ∧ GK s z) X.xe s
section
variable {X : Cx} {e a b : Expr} {es : List Expr} {te ta tb : TE} {t : TA} {pos p : Pos} {st : Stmt} {rest : List Stmt}
theorem k_var {i : Nat} {x : Str} (hN : X.N[i]? = some x) (hv : Vis X.env.scope x) (hd : (x == ("__debug__" : Str)) = false := by decide) (hcd : (x == ("__classdict__" : Str)) = false := by decide) : KE X (.Name x pos) (tVar i) := ⟨fun pins s σ H Q I ⟨v, e1, q⟩ => by
  obtain ⟨m, ns, at_⟩ := I.loc
  obtain ⟨u, r, l⟩ := at_ i x v hN e1 hv
  have out : EP X pins σ Q u s ∧ GK s s := ⟨⟨v, H, I, r, q⟩, rfl⟩
  rcases l with ⟨k1, k2⟩ | ⟨k1 | k1, c, k2, k3⟩
  · exact wpAny_Name (wpAny_loadName_local I.ok.kind k1 ns k2 out) hd
  · exact wpAny_Name (wpAny_loadName_cell I.ok.kind k1 k2 k3 out) hd
  · exact wpAny_Name (wpAny_loadName_free I.ok.kind k1 k2 k3 out hcd) hd⟩
theorem k_int {i : Int} {j : Nat} : KE X (.Constant (.int i) j pos) (tC (.int i)) := ⟨fun _ _ _ H _ I q => wpAny_Constant_int ⟨⟨.int i, H, I.tok _, ⟨_, rfl⟩, q⟩, rfl⟩⟩
theorem k_str {x : Str} {j : Nat} : KE X (.Constant (.str x) j pos) (tC (.str x)) := ⟨fun _ _ _ H _ I q => Calls.Constant_str ⟨⟨.str x, H, I.tok _, ⟨_, rfl⟩, q⟩, rfl⟩⟩
theorem k_glob {x : Str} {v : V} {u : Value} (hg : Gl X x) (hm : X.mg x = some u) (r : RelV v u) (hd : (x == ("__debug__" : Str)) = false := by decide) : KE X (.Name x pos) (tC v) := ⟨fun _ _ _ H _ I q => ld_glob I hg hm ⟨⟨v, H, I, r, q⟩, rfl⟩ hd⟩
theorem ka_nil : KA X [] tNil := ⟨fun pos pins s σ H Q I q => Calls.spliced_nil ⟨⟨[], H, I, .nil, q⟩, rfl⟩⟩
theorem ka_cons (h : KE X e te) (h2 : KA X es t) (hs : starEach (e :: es) X.env = (false, eval e X.env) :: starEach es X.env := by rfl) : KA X (e :: es) (tCons te t) := ⟨fun pos pins s σ H Q I q => by
  rw [hs]
  show wpAny _ _ (spliced ((false, eval e X.env) :: backTo pos (starEach es X.env))) _ _ s
  exact Calls.spliced_cons (thn (h.go pins s σ H _ I q) fun u s1 ⟨⟨x, H1, I1, r1, q1⟩, g1⟩ => thn (h2.go pos pins s1 σ H1 _ I1 q1) fun us s2 ⟨⟨xs, H2, I2, r2, q2⟩, g2⟩ => ⟨⟨x :: xs, H2, I2, .cons r1 r2, q2⟩, g2.trans g1⟩)⟩
theorem k_tup {x1} (h : KA X es t) : KE X (.Tuple es x1 pos) (tTup t) := ⟨fun pins s σ H Q I q => by
  refine wpAny_Tuple_spliced (thn (h.go pos pins s σ H _ I q) fun us s1 ⟨⟨xs, H1, I1, r, z, q1⟩, g1⟩ => ⟨r.length ▸ z, ?_⟩)
  have new := I1.hok.fresh (Nat.le_refl s1.heap.objs.size)
  exact ⟨⟨.ref s1.heap.objs.size, _, I1.laid (o := .tup xs) (t' := s1.toks) (fun c w e1 => Heap.get?_push_of_some _ e1) (Nat.le_refl _) ⟨z, us, r, ⟨_, Heap.get?_push_size _ rfl, rfl, _, rfl⟩⟩, rfl, q1 _ new⟩, g1⟩⟩
def KOp (X : Cx) (f : Value → Value → Sem Value) (r : R2) : Prop := ∀ pins s σ H x y v u Q, Inv X pins σ H s → RelV x v → RelV y u → r x y H Q → wpAny (model X.prog X.w) X.A (f v u) (fun c z => EP X pins σ Q c z ∧ GK s z) X.xe s
theorem ko_add : KOp X (binaryOp .Add) (rI0 fun i j => .int (i + j)) := fun pins s σ H x y v u Q I rx ry ⟨i, j, e1, e2, q⟩ => by
  subst e1 e2
  obtain ⟨t1, rfl⟩ := rx
  obtain ⟨t2, rfl⟩ := ry
  exact add_int ⟨⟨.int (i + j), H, I.tok _, ⟨_, rfl⟩, q⟩, rfl⟩
theorem ko_mul : KOp X (binaryOp .Mult) (rI CMul fun i j => .int (i * j)) := fun pins s σ H x y v u Q I rx ry ⟨i, j, e1, e2, hc, q⟩ => by
  subst e1 e2
  obtain ⟨t1, rfl⟩ := rx
  obtain ⟨t2, rfl⟩ := ry
  exact mul_int ⟨⟨.int (i * j), H, I.tok _, ⟨_, rfl⟩, q⟩, rfl⟩ hc.ok
theorem k_op {op : Operator} {r : R2} (ho : KOp X (binaryOp op) r) (ha : KE X a ta) (hb : KE X b tb) : KE X (.BinOp a op b pos) (tOp r ta tb) := ⟨fun pins s σ H Q I q => by
  refine wpAny_BinOp (thn (ha.go pins s σ H _ I q) fun v s1 ⟨⟨x, H1, I1, r1, q1⟩, g1⟩ => thn (hb.go pins s1 σ H1 _ I1 q1) fun u s2 ⟨⟨y, H2, I2, r2, q2⟩, g2⟩ => ?_)
  exact thn (ho pins s2 σ H2 x y v u Q I2 r1 r2 q2) fun c z ⟨w, g3⟩ => ⟨w, g3.trans (g2.trans g1)⟩⟩
theorem ko_gt : KOp X (compareOp .Gt) (rI0 fun i j => .bl (decide (j < i))) := fun pins s σ H x y v u Q I rx ry ⟨i, j, e1, e2, q⟩ => by
  subst e1 e2
  obtain ⟨t1, rfl⟩ := rx
  obtain ⟨t2, rfl⟩ := ry
  exact PyProof.Rows.gt_int ⟨⟨.bl (decide (j < i)), H, I, rfl, q⟩, rfl⟩
theorem kt_cmp {op : CmpOp} {r : R2} (ho : KOp X (compareOp op) r) (ha : KE X a ta) (hb : KE X b tb) (hm : behindInMarks op b = false) : KT X (.Compare a [op] [b] pos) (tTest (tOp r ta tb)) := ⟨fun pins s σ H Q I q => by
  refine wpAny_isTrue_Compare1 (thn (ha.go pins s σ H _ I q) fun v s1 ⟨⟨x, H1, I1, r1, q1⟩, g1⟩ => thn (hb.go pins s1 σ H1 _ I1 q1) fun u s2 ⟨⟨y, H2, I2, r2, q2⟩, g2⟩ => thn (ho pins s2 σ H2 x y v u _ I2 r1 r2 q2) fun c s3 ⟨⟨z, H3, I3, r3, k, e1, q3⟩, g3⟩ => ?_) hm
  subst e1
  cases r3
  exact wpAny_truthy_bool ⟨⟨H3, I3, q3⟩, g3.trans (g2.trans g1)⟩⟩
/-- d[y] -/
theorem k_dget {o i : Expr} {td ty : TE} (hu : X.A.units + 1 < cLine) (ho : KE X o td) (hi : KE X i ty) (hs : NoSl i) : KE X (.Subscript o i pos) (tDGet td ty) := ⟨fun pins s σ H Q I q => by
  refine subD_of PySem.F.slot_dict_getitem.lookup hs (thn (ho.go pins s σ H _ I q) fun u s1 ⟨⟨x, H1, I1, rx, q1⟩, g1⟩ => thn (hi.go pins s1 σ H1 _ I1 q1) fun iv s2 ⟨⟨y, H2, I2, ry, da, v, ex, g, q2⟩, g2⟩ => ?_)
  subst ex
  cases (show u = Value.ref da from rx)
  refine ⟨dict_typeIs I2 g, ?_⟩
  rcases g with ⟨kvs, k, e1, ey, l⟩ | ⟨kvs, k, kb, e1, ey, eb, l⟩
  · subst ey
    obtain ⟨_, _, vs, rel, dd⟩ := dk_rd I2.hok e1
    obtain ⟨w', hw, rw'⟩ := RelO.some_of (v := v) (o := valueAt vs k) (l ▸ rel.val k)
    exact wpAny_getItem_of (kV_is ry) dd.mapOf hw ⟨⟨v, H2, I2.tok _, rw', q2⟩, g2.trans g1⟩
  · subst ey
    cases (show iv = Value.ref kb from ry)
    obtain ⟨_, _, xs, rel, dd⟩ := dt_rd I2.hok e1
    obtain ⟨w', hw, rw'⟩ := RelO.some_of (v := v) (o := (atKey xs k).map (·.2)) (l ▸ rel.val k)
    obtain ⟨pr, hp, hp2⟩ := Option.map_eq_some_iff.mp hw
    refine wpAny_getItem_heap (tupleKind_room_in1 hu) (key_of I2.hok eb) dd hp ?_
    rw [hp2]
    exact ⟨⟨v, H2, I2.tok _, rw', q2⟩, g2.trans g1⟩⟩
theorem k_divmod {x : Str} (hg : Gl X x) (hm : X.mg x = none) (hv : bootBuiltins x = some (.builtin "divmod")) (ha : KA X (e :: es) t) (hn : x ≠ "__name__" := by decide) (hdb : (x == ("__debug__" : Str)) = false := by decide)
    (he : starEach (e :: es) X.env = (false, eval e X.env) :: starEach es X.env := by rfl) (hpl : (backTo pos (starEach es X.env)).any (·.1) = false := by rfl) :
    KE X (.Call (.Name x p) (e :: es) [] pos) (tCB (fun xs H Q => ∃ i j, xs = [.int i, .int j] ∧ CDiv i j ∧ ∀ q, H q = none → Q (.ref q) (upd H q (.tup [.int (i / j), .int (i % j)]))) t) := ⟨fun pins s σ H Q I q => by
  refine wpAny_Call_Name_kw (ld_blt I hg hm hv ?_ hn hdb)
  refine PyProof.Rows.callWith_builtin1 (thn (ha.go pos pins s σ H _ I q) fun us s1 ⟨⟨vs, H1, I1, r1, i, j, ev, ⟨h1, h2⟩, q1⟩, g1⟩ => ?_) he hpl
  subst ev
  obtain ⟨u, u', rfl, ⟨t1, rfl⟩, ⟨t2, rfl⟩⟩ := vals2 r1
  refine divmod_int (by omega) ?_ (.inl (PyProof.noPylong_small (by omega)))
  rw [Int.fdiv_eq_ediv_of_nonneg i (by omega), Int.fmod_eq_emod_of_nonneg i (by omega)]
  refine ⟨⟨.ref s1.heap.objs.size, _, ?_, rfl, q1 _ (I1.hok.fresh (Nat.le_refl _))⟩, g1⟩
  exact I1.laid (fun c o e1 => Heap.get?_push_of_some _ e1) (Nat.le_refl _) ⟨by show 2 ≤ sizeLine; decide, [.int (i / j) s1.toks, .int (i % j) (s1.toks + 1)], .cons ⟨_, rfl⟩ (.cons ⟨_, rfl⟩ .nil), ⟨_, Heap.get?_push_size s1.heap rfl, rfl, 0, rfl⟩⟩⟩
/-! ### targets -/
theorem inv_stored {pins : List (Addr × Obj)} {σ : L2.St} {H : Hp} {s : Shared} {i : Nat} {x : Str} {v : V} {u : Value} {m : Str → Option Value} {h' : Heap} {tk : Nat} (I : Inv X pins σ H s) (hN : X.N.Nodup) (hi : X.N[i]? = some x) (hk : X.env.kindOf x = some .local) (r : RelV v u)
    (hm : s.heap.Ns X.env.locals m) (look : ∀ (i : Nat) (x : Str) (v : V), X.N[i]? = some x → σ[i]? = some (some v) → Vis X.env.scope x → ∃ u, RelV v u ∧ Look X.env s.heap m x u) (ns : h'.Ns X.env.locals (fun y => if y = x then some u else m y)) (sb : Heap.SameBut X.env.locals s.heap h') :
    Inv X pins (σ.set i (some v)) H { s with heap := h', toks := tk } := by
  have young : ∀ b o, X.s_0.heap.get? b = some o → b ≠ X.env.locals := fun b o e1 => Nat.ne_of_lt (Nat.lt_of_lt_of_le (Heap.lt_size e1) I.ok.above)
  have hiσ : i < σ.length := I.len ▸ (List.getElem?_eq_some_iff.mp hi).1
  refine ⟨I.ok, I.os, I.bare, ⟨fun b o e1 n hb hx => (sb.2 b (young b o e1)).trans (I.base.keep b o e1 n hb hx), fun b o e1 n hb hx => ?_, I.base.free, fun b o e1 hx => ?_, I.base.tups, I.base.frzs, I.base.tbls⟩, ⟨_, ns, fun j y w e1 e2 e3 => ?_⟩, fun y c e1 => ?_, I.free, I.freeC, fun pr hp => ?_, fun b ob e1 => ?_, by rw [List.length_set]; exact I.len⟩
  · obtain ⟨sl, e2⟩ := I.base.slot b o e1 n hb hx
    exact ⟨sl, (sb.2 b (young b o e1)).trans e2⟩
  · obtain ⟨o', e2⟩ := I.base.there b o e1 hx
    exact ⟨o', (sb.2 b (young b o e1)).trans e2⟩
  · by_cases hj : j = i
    · subst hj
      rw [hi] at e1
      cases e1
      rw [List.getElem?_set_self hiσ] at e2
      cases e2
      exact ⟨u, r, .inl ⟨hk, if_pos rfl⟩⟩
    · rw [List.getElem?_set_ne (Ne.symm hj)] at e2
      obtain ⟨u', r', l⟩ := look j y w e1 e2 e3
      refine ⟨u', r', ?_⟩
      rcases l with ⟨k1, k2⟩ | ⟨k1, c, k2, k3⟩
      · have hy : y ≠ x := fun z => hj (nodup_ix hN e1 (z.symm ▸ hi))
        exact .inl ⟨k1, by show (if y = x then _ else _) = _; rw [if_neg hy]; exact k2⟩
      · exact .inr ⟨k1, c, k2, k3.sameBut sb (I.cne y c k2)⟩
  · obtain ⟨w, k⟩ := I.cell y c e1
    exact ⟨w, k.sameBut sb (I.cne y c e1)⟩
  · obtain ⟨k1, k2, k3, k4⟩ := I.pin pr hp
    exact ⟨(sb.2 pr.1 k3).trans k1, k2, k3, k4⟩
  · refine (I.hok b ob e1).stay (fun c w hc k => (sb.2 c ?_).trans k) (fun _ k => k) fun _ _ k => k
    rintro rfl
    rcases hc with rfl | hc
    · rw [I.free] at e1
      cases e1
    · rw [I.free] at hc
      cases hc
theorem kg_name {i : Nat} {x : Str} (hN : X.N.Nodup) (hi : X.N[i]? = some x) (hk : X.env.kindOf x = some .local) : KG X (.Name x pos) (gName i) := ⟨fun pins s σ H v u Q I r q => by
  obtain ⟨m, ns, look⟩ := I.loc
  refine wpAny_assign_Name (wpAny_storeName_local hk ns (fun h' ns' sb => ⟨⟨σ.set i (some v), H, inv_stored I hN hi hk r ns look ns' sb, q⟩, rfl⟩) ?_)
  rw [I.ok.kind]
  rfl⟩
theorem kgs_nil : KGs X [] gNil := ⟨fun pins s σ H vs us Q I r ⟨e1, q⟩ => by
  subst e1
  cases r
  exact assignInOrder_nil ⟨⟨σ, H, I, q⟩, rfl⟩⟩
theorem kgs_cons {g : TG} {gs : TGs} (h : KG X e g) (h2 : KGs X es gs) (hs : (assignEach (e :: es) X.env).map (·.2) = assign e X.env :: (assignEach es X.env).map (·.2) := by rfl) : KGs X (e :: es) (gCons g gs) := ⟨fun pins s σ H vs us Q I r ⟨v, vr, e1, q⟩ => by
  subst e1
  cases r with
  | cons r rr =>
    rw [hs]
    exact assignInOrder_cons (thn (h.go pins s σ H _ _ _ I r q) fun _ s1 ⟨⟨σ1, H1, I1, q1⟩, g1⟩ => thn (h2.go pins s1 σ1 H1 _ _ Q I1 rr q1) fun _ s2 ⟨w, g2⟩ => ⟨w, g2.trans g1⟩)⟩
theorem kg_tup {k : Nat} {gs : TGs} {n : Nat} (hc : X.calm = true) (h : KGs X es gs) (hn : (assignEach es X.env).length = n := by rfl) (hst : (assignEach es X.env).findIdx? (·.1) = none := by rfl) : KG X (.Tuple es k pos) (gTup X.K n gs) := ⟨fun pins s σ H v u Q I r ⟨ad, xs, e1, hq, hl, q⟩ => by
  subst e1
  cases r
  obtain ⟨its, rv, ht, hz⟩ := I.tuple hq
  refine assign_Tuple_tuple (I.ok.hd hc) ht (by simp [hn, ← hl, rv.length]) hst fun h' hx => ?_
  exact h.go pins _ σ H xs _ Q (I.kept (t' := s.toks) fun c o e1 => hx c o (Nat.ne_of_lt (Heap.lt_size e1)) e1) (by simpa using rv) q⟩
/-- d[y] = v as a target -/
theorem kg_dset {o i : Expr} {to ti : TE} (hu : X.A.units + 1 < cLine) (ho : KE X o to) (hi : KE X i ti)
    (ha : ∀ v, assign (.Subscript o i pos) X.env v = (do
      let ov ← holding [v] (eval o X.env)
      let iv ← holding [v, ov] (eval i X.env)
      standAt pos
      holding [v, ov, iv] (setItem ov iv v)
      release [v, ov, iv] []) := by intro _; rfl) : KG X (.Subscript o i pos) (gSub to ti fun o i v H Q => ∃ ad kvs k, o = .ref ad ∧ H ad = some (.dK kvs) ∧ i = kV k ∧ kvs.length < sizeLine ∧ Q (upd H ad (.dK (putK kvs k v)))) := ⟨fun pins s σ H v u Q I r q => by
  rw [ha]
  refine wpAny_bind (wpAny_holding (thn (ho.go pins s σ H _ I q) fun ov s1 ⟨⟨x, H1, I1, r1, q1⟩, g1⟩ => ?_))
  refine wpAny_bind (wpAny_holding (thn (hi.go pins s1 σ H1 _ I1 q1) fun iv s2 ⟨⟨y, H2, I2, r2, ad, kvs, k, ex, eH, ey, hl, q2⟩, g2⟩ => ?_))
  subst ex ey
  cases (show ov = Value.ref ad from r1)
  obtain ⟨z, hd, vs, rel, dd⟩ := dk_of I2.hok eH
  have lp : (putK kvs k v).length ≤ sizeLine := by
    have := length_putK kvs k v
    omega
  refine wpAny_bind (wpAny_standAt (wpAny_bind (wpAny_holding (wpAny_setItem_pairs (hsz := by rw [← rel.length]; exact z) (kV_is r2) dd fun h' dd' hs => wpAny_release ⟨⟨σ, _, ?_, q2⟩, g2.trans g1⟩))))
  exact d_write I2 (by rw [eH]; exact True.intro) hs (let ⟨w, _, _, hw, _⟩ := dd'; ⟨w, hw⟩) (dk_new lp hd (rel.put k r) dd')⟩
/-! ### statements -/
theorem ks_asg {tg : Expr} {g : TG} (he : KE X e te) (hg : KG X tg g) (hs : swapsWithSole [tg] e pos.line X.env = pure false := by rfl) (hw : swappedStores [tg] e X.env = pure none := by rfl) (h1 : (assignEach [tg] X.env).map (·.2) = [assign tg X.env] := by rfl) : KS X (.Assign [tg] e pos) (tAsg te g) := ⟨fun pins s σ H D I q => by
  refine wpAny_Assign_stores (thn (he.go pins s σ H _ I q) fun v s1 ⟨⟨x, H1, I1, r1, q1⟩, g1⟩ => ?_) hs hw
  rw [h1]
  exact thn (hg.go pins s1 σ H1 x v _ I1 r1 q1) fun _ s2 ⟨w, g2⟩ => ⟨w, g2.trans g1⟩⟩
theorem ks_expr (he : KE X e te) (hs : swapsWith e none pos.line X.env = pure false := by rfl) : KS X (.Expr e pos) (tDrop te) := ⟨fun pins s σ H D I q =>
  wpAny_Expr_any (thn (he.go pins s σ H _ I q) fun v s1 ⟨⟨x, H1, I1, _, q1⟩, g1⟩ => ⟨⟨σ, H1, I1, q1⟩, g1⟩) I.quiet hs⟩
theorem ks_if {c : Expr} {sa sb : List Stmt} {tc : TT} {t1 t2 : TS} (hc : KT X c tc) (ha : KSs X sa t1) (hb : KSs X sb t2) : KS X (.If c sa sb pos) (tIfS tc t1 t2) := ⟨fun pins s σ H D I q => by
  refine wpAny_If (thn (hc.go pins s σ H _ I q) fun d s1 ⟨⟨H1, I1, q1⟩, g1⟩ => ?_)
  cases d with
  | true => exact thn (ha.go pins s1 σ H1 D I1 q1) fun f z ⟨w, g2⟩ => ⟨w, g2.trans g1⟩
  | false => exact thn (hb.go pins s1 σ H1 D I1 q1) fun f z ⟨w, g2⟩ => ⟨w, g2.trans g1⟩⟩
theorem kss_nil : KSs X [] tNext := ⟨fun pins s σ H D I q => wpAny_execs_nil ⟨⟨σ, H, I, q⟩, rfl⟩⟩
theorem kss_cons {t1 t2 : TS} (h : KS X st t1) (h2 : KSs X rest t2) : KSs X (st :: rest) (tSeq t1 t2) := ⟨fun pins s σ H D I q => by
  refine wpAny_execs_cons (thn (h.go pins s σ H { D with nx := t2 D } I q) fun f s1 ⟨q1, g1⟩ => ?_)
  cases f with
  | next =>
    obtain ⟨σ', H', I', q2⟩ := q1
    exact thn (h2.go pins s1 σ' H' D I' q2) fun f z ⟨w, g2⟩ => ⟨w, g2.trans g1⟩
  | ret v => exact ⟨q1, g1⟩
  | brk => exact ⟨q1, g1⟩
  | cont => exact ⟨q1, g1⟩⟩
/-- xs.append(e) -/
theorem k_append {o : Expr} {to : TE} {apos : Pos} (ho : KE X o to) (he : KE X e te) (hbase : attributeBase o "append" X.env (eval o X.env) = eval o X.env := by rfl)
    (hfew : ((backTo pos (starEach [e] X.env)).all (fun x => !x.1) && (backToKw pos (keywordEach [] X.env)).all (fun x => x.1.isSome) && decide ([e].length + ([] : List Keyword).length + (if ([] : List Keyword).isEmpty then 0 else 1) < 30)) = true := by rfl)
    (hline : (apos.endLine == pos.line) = true := by rfl) (hs : starEach [e] X.env = (false, eval e X.env) :: starEach [] X.env := by rfl) (hplain : (backTo pos (starEach [] X.env)).any (·.1) = false := by rfl) :
    KE X (.Call (.Attribute o "append" apos) [e] [] pos) (tBM X.K "list" rAppend to (tCons te tNil)) := ⟨fun pins s σ H Q I q => by
  refine wpAny_Call_method_late hbase hfew hline rfl (thn (ho.go pins s σ H _ I q) fun v s1 ⟨⟨x, H1, I1, r1, ty, q1⟩, g1⟩ => ?_)
  obtain ⟨h1, h2⟩ := tyV_is I1 r1 ty
  refine ⟨"list", "list.append", PySem.F.plainAttrs_list, PySem.F.slot_list_append, PySem.F.type_list_append, h1, h2, ?_⟩
  have hA := (ka_cons (X := X) he ka_nil hs).go pos pins s1 σ H1 _ I1 q1
  rw [hs] at hA ⊢
  refine Calls.callWith_builtin (by show (false || (backTo pos (starEach [] X.env)).any (·.1)) = false; rw [hplain] <;> rfl) (Calls.evalArgs_plain (thn hA fun us s2 ⟨⟨vs, H2, I2, r2, l, xs, y, ex, ev, eH, hz, q2⟩, g2⟩ => ?_))
  subst ex ev
  cases (show v = Value.ref l from r1)
  obtain ⟨u, rfl, ru⟩ := r2.one
  obtain ⟨_, its, n, r, hl, e1⟩ := I2.lstM eH
  refine call_meets F.slot_list_append ⟨_, e1, rfl⟩ F.entry_list_append (F.args_list_append_2 _ _) (PySem.list_append l its.toArray n u (by rw [List.size_toArray]; omega)) ⟨e1, ?_⟩
  refine ⟨⟨.non, _, I2.lset (its' := its ++ [u]) eH e1 (by simp) (r.append (.cons ru .nil)) ?_, rfl, q2⟩, g2.trans g1⟩
  rw [List.length_append, List.length_singleton]
  omega⟩
end
end EBG

/-! A for over an own generator, its body any. -/
namespace EBG
open PySem PySem.Spec PyProof.Rows L2 GenW EB
theorem e0_no {P : Program} {w : World} {outer : List Env} {H : Hp} {s z : Shared} {e : Value} (h : CX P w outer H s E0 e z) : False := by
  obtain ⟨_, _, _, _, _, _, _, _, _, _, _, _, q⟩ := h
  exact q
theorem aft_of {X0 : Cx} {xe : XeF} {T : Told} {A : Around} {n : Nat} {a : Bs} {C : List (Addr × Obj)} {ys : List V} {r : Result} {z : Shared} (h : Aft X0 xe T A n a C ys (.ret r) z) : AftR X0 xe T a C ys r z := by
  cases n <;> exact h
section
variable (X : Cx) (N : List Str) (qual : Str) (scope : Scope) (f : Addr) (cd : Value) (sc : Shared) (ag : Addr) (go : Obj) (H1 : Hp) (Yp : List V → V → Hp → Prop) (Fin : List V → Prop) (g : Nat)
/-- it sleeps -/
def Slp (ys : List V) (Hc : Hp) (z : Shared) : Prop :=
  ∃ (gs : GenState) (a : Bs) (C : List (Addr × Obj)) (σg : L2.St) (Hg : Hp) (zg : Shared) (n : Nat), n + ys.length = sizeLine ∧ z.gens[g]? = some gs ∧ z.heap.get? ag = some go ∧ Hc ag = none ∧ Hc sc.heap.objs.size = none ∧
    z.heap.get? sc.heap.objs.size = zg.heap.get? sc.heap.objs.size ∧ Inv (reb (gX X N qual scope f cd sc (fz H1) ag go) (xeG (gX X N qual scope f cd sc (fz H1) ag go) E0) a) C σg Hg zg ∧ Same (fz H1) Hg ∧
    (∀ b, kg sc.heap.objs.size (fz H1) Hg b ≠ none → fz H1 b = none → Hc b = none ∧ z.heap.get? b = zg.heap.get? b) ∧
    ∀ a' C' z', Inv (reb (gX X N qual scope f cd sc (fz H1) ag go) (xeG (gX X N qual scope f cd sc (fz H1) ag go) E0) a') C' σg (kg sc.heap.objs.size (fz H1) Hg) z' →
      Woken1 (model X.prog X.w) X.A.in1 (Aft (gX X N qual scope f cd sc (fz H1) ag go) (xeG (gX X N qual scope f cd sc (fz H1) ag go) E0) ⟨fz H1, Yp, Fin, excG (gX X N qual scope f cd sc (fz H1) ag go) E0⟩ X.A.in1 n a' C' ys) gs z'
end
section
variable {X : Cx} {N : List Str} {qual : Str} {scope : Scope} {f : Addr} {cd : Value} {sc : Shared} {ag : Addr} {go : Obj} {H1 Hc : Hp} {Yp : List V → V → Hp → Prop} {Fin : List V → Prop} {g : Nat} {pins : List (Addr × Obj)} {σ σ1 : L2.St} {z : Shared} {ys : List V} {k : Nat}
/-- what is known of the generator's own object, of the state at its making -/
structure GAt (X : Cx) (pins : List (Addr × Obj)) (σ1 : L2.St) (H1 : Hp) (sc : Shared) (ag : Addr) (go : Obj) (g : Nat) (scope : Scope) : Prop where
  inv : Inv X pins σ1 H1 sc
  lt : sc.heap.objs.size < ag
  ncell : ∀ v, go.data ≠ .cell v
  noc : ∀ n, cellsFrom n scope.names [] = []
  gen : ∀ h : Heap, h.get? ag = some go → h.IsGen ag g
theorem wake {E : Value → Shared → Prop} (hc : X.calm = true) (hr : Room k X.A) (G : GAt X pins σ1 H1 sc ag go g scope) (I : Inv X pins σ Hc z) (gr : Grow H1 Hc) (S : Slp X N qual scope f cd sc ag go H1 Yp Fin g ys Hc z) :
    wpAny (model X.prog X.w) X.A (pyNext (.ref ag)) (fun r z2 => match r with
      | none => Fin ys ∧ Inv X pins σ Hc z2
      | some v => ∃ x H2, RelV x v ∧ Yp ys x H2 ∧ Inv X pins σ (mrg Hc H2) z2 ∧ Slp X N qual scope f cd sc ag go H1 Yp Fin g (ys ++ [x]) (mrg Hc H2) z2) E z := by
  obtain ⟨gs, a, C, σg, Hg, zg, n, hn, hgs, hgo, nag, nlg, klg, J, sG, pv, go1⟩ := S
  have B := bel_of G.inv
  have hF1 : ∀ b : Addr, sc.heap.objs.size ≤ b → H1 b = none := fun b hb => G.inv.hok.fresh hb
  have szz : sc.heap.objs.size ≤ z.heap.objs.size := Nat.le_of_lt (Nat.lt_trans G.lt (Heap.lt_size hgo))
  have bare' : AllBare (z.setGen g .running).gens := allBare_setGen I.bare rfl
  have I' : Inv X pins σ Hc (z.setGen g .running) := ⟨I.ok, I.os, bare', I.base, I.loc, I.cell, I.free, I.freeC, I.pin, I.hok, I.len⟩
  have okF : HOk X.prog X.w (fz H1) z.heap := fz_down G.inv.hok I.hok gr.same
  have nfa : fz H1 ag = none := gr.same.free nag
  have kag : kg sc.heap.objs.size (fz H1) Hg ag = none := by
    have q := J.pin (ag, go) (List.mem_append_left _ (List.mem_singleton.mpr rfl))
    exact kg_none sG q.2.1
  have hpv : ∀ b : Addr, kg sc.heap.objs.size (fz H1) Hg b ≠ none → fz H1 b = none → sc.heap.objs.size < b ∧ Hc b = none := fun b h1 h2 => by
    obtain ⟨o, e⟩ := Option.ne_none_iff_exists'.mp h1
    exact ⟨(kg_own e h2).1, (pv b h1 h2).1⟩
  have J' := rebase (z' := z.setGen g .running) (n0 := sc.heap.objs.size) (C' := restAll z.heap (kg sc.heap.objs.size (fz H1) Hg) (sc.heap.objs.size :: frs X.stack)) J sG (G.noc _) rfl (Nat.le_refl _) G.inv.env0.bsz B.fr
    (fun o e => by rw [← e]; exact klg) I.bk I.stack bare' (kg_down okF J.hok fun b h1 h2 => (pv b h1 h2).2) (fun p hp => by
      rcases List.mem_append.mp hp with y | y
      · rw [List.mem_singleton.mp y]
        exact ⟨hgo, kag, Nat.ne_of_gt G.lt, fun y => Nat.lt_irrefl _ (Nat.lt_trans G.lt (B.fr _ y)), G.ncell⟩
      · obtain ⟨e, n, nm, d⟩ := of_rest y
        exact ⟨e, n, fun y => nm (y ▸ List.mem_cons_self ..), fun y => nm (List.mem_cons_of_mem _ y), d⟩)
  refine next1 (I.ok.hd hc) I.nolimit (by have := hr.dp; omega) (G.gen _ hgo) hgs (go1 _ _ _ J') (fun e z2 q => aft_quiet q) (fun v gd l kk c q fs z2 hz hgz => ?_) (fun fl z2 hz => ?_) fun e z2 hz => ?_
  · obtain ⟨m, rfl⟩ : ∃ m, n = m + 1 := by
      cases n with
      | zero => exact absurd hz id
      | succ m => exact ⟨m, rfl⟩
    obtain ⟨hq, x, σ2, H2, rv, hy, J2, s2, cont⟩ := hz
    have Ib : Inv X pins σ (mrg Hc H2) z2 := behind B I' gr hF1 nlg nag G.lt J2 szz s2 hpv (.inr rfl)
    have bare2 : AllBare (z2.setGen g (End.susp v gd l kk c q fs).genState).gens := allBare_setGen J2.bare (by simpa [GenState.bare, End.genState, End.quiet] using hq)
    have nm : ∀ b, Hc b = none → H2 b = none → mrg Hc H2 b = none := fun b h1 h2 => by
      cases q : mrg Hc H2 b with
      | none => rfl
      | some u =>
        obtain ⟨xs, _, e⟩ := mrg_new q h1
        rw [h2] at e
        cases e
    have pag := J2.pin (ag, go) (List.mem_append_left _ (List.mem_singleton.mpr rfl))
    refine ⟨x, H2, rv, hy, ⟨Ib.ok, Ib.os, bare2, Ib.base, Ib.loc, Ib.cell, Ib.free, Ib.freeC, Ib.pin, Ib.hok, Ib.len⟩, _, _, _, σ2, H2, z2, m, ?_, setGen_at hgz, pag.1, nm _ nag pag.2.1, nm _ nlg J2.free, rfl, J2, s2, fun b h1 h2 => ⟨?_, rfl⟩, fun a' C' z' J3 => ?_⟩
    · rw [List.length_append, List.length_singleton]
      omega
    · obtain ⟨o, e⟩ := Option.ne_none_iff_exists'.mp h1
      obtain ⟨hlt, e2, ksn⟩ := kg_own e h2
      have hc0 : Hc b = none := by
        by_cases hk : kg sc.heap.objs.size (fz H1) Hg b = none
        · cases qc : Hc b with
          | none => rfl
          | some u =>
            obtain ⟨ob, eo⟩ := obj_at I.hok qc
            have nc := (young_noncell I.hok gr hF1 (Nat.le_of_lt hlt) qc eo).2
            have := (J2.pin (b, ob) (List.mem_append_right _ (mem_rest eo hk (fun y => (List.mem_cons.mp y).elim (Nat.ne_of_gt hlt) fun y => Nat.lt_irrefl _ (Nat.lt_trans hlt (B.fr _ y))) nc))).2.1
            have this : H2 b = none := this
            rw [this] at e2
            cases e2
        · exact (hpv b hk h2).2
      cases q : mrg Hc H2 b with
      | none => rfl
      | some u =>
        obtain ⟨xs, _, e3⟩ := mrg_new q hc0
        rw [e2] at e3
        rcases ksn with ⟨_, rfl⟩ | ⟨_, rfl⟩ | ⟨_, _, rfl⟩ <;> cases e3
    · exact cont a' C' z' J3
  · have hz := aft_of hz
    obtain ⟨hf, fin, σ2, H2, J2, s2⟩ := hz
    have Ib : Inv X pins σ Hc z2 := behind B I' gr hF1 nlg nag G.lt J2 szz s2 hpv (.inl rfl)
    refine ⟨hf, fun h' kp => ⟨fin, ?_⟩⟩
    have bare2 : AllBare (z2.setGen g .finished).gens := allBare_setGen J2.bare rfl
    have Ic : Inv X pins σ Hc (z2.setGen g .finished) := ⟨Ib.ok, Ib.os, bare2, Ib.base, Ib.loc, Ib.cell, Ib.free, Ib.freeC, Ib.pin, Ib.hok, Ib.len⟩
    exact Ic.kept (t' := (z2.setGen g .finished).toks) kp
  · have hz := aft_of hz
    exact (e0_no hz.1).elim
end
/-! ### a call that makes a generator -/
abbrev TG1 := L2.St → Hp → (Hp → (List V → V → Hp → Prop) → (List V → Prop) → Prop) → Prop
theorem fz_none {H : Hp} {b : Addr} (e : H b = none) : fz H b = none := by
  unfold fz
  rw [e]
theorem env0_fz {P : Program} {w : World} {K : PySem.W.Frag} {mg : Str → Option Value} {base : Heap} {A : Around} {outer : List Env} {s : Shared} {H : Hp} (e : Env0 P w K mg base A outer s H) : Env0 P w K mg base A outer s (fz H) :=
  ⟨e.frames, e.mod, fun b o q => ⟨(e.bs b o q).1, fz_none (e.bs b o q).2⟩, e.bsz, e.funs, fun b hb => fz_none (e.frf b hb), fz_down e.hok e.hok (fz_same H), e.bare⟩
structure PGen1 (X : Cx) (k : Nat) (e : Expr) (tg : TG1) : Prop where
  run : ∀ (pins : List (Addr × Obj)) (s : Shared) (σ : L2.St) (H : Hp) cont, Inv X pins σ H s → tg σ H cont → wpAny (model X.prog X.w) X.A (eval e X.env)
    (fun u s' => ∃ H1 sc Yp Fin, Inv X pins σ H1 sc ∧ GMade1 X.prog X.w X.K X.mg X.base k X.stack (fz H1) Yp Fin E0 sc u s' ∧ cont H1 Yp Fin) X.xe s
section
variable {X : Cx} {k : Nat} {f C : Addr} {fd : FuncData} {ps : List Str} {sp : SP1} {dvs : List V} {ds : List Value} {x m : Str} {p pos pos' apos : Pos} {o : Expr} {ta : TE}
theorem run_gfn1 {pins : List (Addr × Obj)} {σ : L2.St} {H : Hp} {s : Shared} {us : List Value} {vs : List V} {cont : Hp → (List V → V → Hp → Prop) → (List V → Prop) → Prop} {Yp : List V → V → Hp → Prop} {Fin : List V → Prop} {E1 : Value → Shared → Prop} (F : GFn1 X.prog X.w X.K X.mg X.base k f fd ps sp) (hr : Room k X.A) (hb : Binds X.K fd ps ds) (hd : Vals dvs ds)
    (I : Inv X pins σ H s) (r : Vals vs us) (h : sp (vs ++ dvs) (fz H) Yp Fin E0) (c : cont H Yp Fin) :
    wpAny (model X.prog X.w) X.A (call (.ref f) us) (fun u s' => ∃ H1 sc Yp Fin, Inv X pins σ H1 sc ∧ GMade1 X.prog X.w X.K X.mg X.base k X.stack (fz H1) Yp Fin E0 sc u s' ∧ cont H1 Yp Fin) E1 s := by
  have r2 := r.append hd
  have hl : (us ++ ds).length = ps.length := r2.length.symm.trans (F.len _ _ _ _ _ h)
  refine wpAny_call (codeAny_mono (F.run X.A X.stack s (fz H) ⟨us, []⟩ (us ++ ds) (vs ++ dvs) Yp Fin E0 hr (env0_fz I.env0) (hb s us I.kIn hl) r2 h) fun q s' hq => ?_)
  cases q with
  | error e => exact hq.elim
  | ok fl =>
    cases fl with
    | ret u => exact ⟨H, s, Yp, Fin, I, hq, c⟩
    | next => exact hq.elim
    | brk => exact hq.elim
    | cont => exact hq.elim
def tMeth1 (C : Addr) (m : Str) (sp : SP1) (dvs : List V) (ta : TE) (t : TA) : TG1 := fun σ H cont => ta σ H fun x H1 => ∃ a dx fs, x = .ref a ∧ H1 a = some (.ins C dx fs) ∧ fs.lookup m = none ∧
  t σ H1 fun vs H2 => ∃ Yp Fin, sp (x :: (vs ++ dvs)) (fz H2) Yp Fin E0 ∧ cont H2 Yp Fin
/-- o.m(e, ..) of a generator method -/
theorem pgen1_meth {pl : Sem Bool} {e : Expr} {es : List Expr} {t : TA} (he : PE X o ta) (c : Cls X.K C) (hm : Meth X.K C m f) (F : GFn1 X.prog X.w X.K X.mg X.base k f fd ps sp) (hr : Room k X.A) (hb : Binds X.K fd ps ds) (hd : Vals dvs ds) (ha : PA X (e :: es) t)
    (hs : starEach (e :: es) X.env = (false, eval e X.env) :: starEach es X.env := by rfl) (hp : (backTo pos' (starEach es X.env)).any (·.1) = false := by rfl)
    (ht : eval (.Call (.Attribute o m apos) (e :: es) [] pos') X.env = (do
      let ov ← eval o X.env
      standAt apos.atName
      let (f, first) ← holding [ov] (getMethod ov m pl)
      callWith pos' f first (backTo pos' (starEach (e :: es) X.env)) (backToKw pos' (keywordEach [] X.env))) := by rfl) :
    PGen1 X k (.Call (.Attribute o m apos) (e :: es) [] pos') (tMeth1 C m sp dvs ta t) := by
  refine ⟨fun pins s σ H cont I q0 => PySem.W.methodCall_KW (pl := pl) (thn (he.run pins s σ H _ I q0) fun u s1 ⟨x, H1, I1, rx, a, dx, fs, ex, ea, l, q⟩ => ?_) ht⟩
  subst ex
  obtain rfl : u = Value.ref a := rx
  refine getmeth_ok I1 ea c hm l (PySem.W.callWith_K (first := [.ref a]) (h₀ := X.base) I.ok.mod.kin hm.kp (thn (ha.run pos' pins s1 σ H1 _ I1 q) fun us s2 ⟨vs, H2, I2, r, Yp, fin, q2, q3⟩ => ⟨I2.kIn, ?_⟩) hs hp)
  exact run_gfn1 (us := .ref a :: us) (vs := .ref a :: vs) F hr hb hd I2 (.cons rfl r) q2 q3
end
/-! ### for -/
theorem owned_gen {M : Model} {A : Around} {E : Value → Shared → Prop} {s : Shared} {ag : Addr} {g : Nat} {tgt : Expr} {v : Value} {Q : Unit → Shared → Prop} (hg : s.heap.IsGen ag g) (h : Q () s) : wpAny M A (letOwnedTupleGo tgt (.ref ag) v) Q E s := by
  obtain ⟨o, nm, qn, ho, hc, hd, _⟩ := hg
  unfold letOwnedTupleGo
  cases tgt <;> first
    | exact wpAny_pure h
    | (cases v <;> first
        | exact wpAny_pure h
        | (refine wpAny_bind (wpAny_load ho ?_)
           rw [hc, hd]
           exact wpAny_pure h))
def tForG (tg : TG1) (g : TG) (tb : TS) : TS := fun D σ H => tg σ H fun H1 Yp Fin => ∃ W : List V → L2.St → Hp → Prop, W [] σ H1 ∧ ∀ ys σ' H', W ys σ' H' → Grow H1 H' ∧ (Fin ys → D.nx σ' H') ∧
  ∀ x H2, Yp ys x H2 → g x σ' (mrg H' H2) fun σ3 H3 => tb { D with nx := W (ys ++ [x]), ct := W (ys ++ [x]), bk := D.nx } σ3 H3
theorem ps_forG {X : Cx} {k : Nat} {tgt iter : Expr} {body : List Stmt} {tg : TG1} {g : TG} {tb : TS} {pos : Pos} (hp : PassesOwn (model X.prog X.w) X.A X.env X.xe) (hc : X.calm = true) (hr : Room (k + 1) X.A) (hi : PGen1 X k iter tg) (hg : KG X tgt g) (hb : KSs X body tb)
    (hs : ∀ x, foldedSetIterable iter X.env x = pure x := by intro _; rfl) : PS X (.For tgt iter body [] pos) (tForG tg g tb) := by
  refine ⟨fun pins s σ H D I h => wpAny_For (thn (hi.run pins s σ H _ I h) fun u s1 h1 => ?_) hs⟩
  obtain ⟨H1, sc, Yp, Fn, I1, made, W, w0, turn⟩ := h1
  obtain ⟨ag, gn, c, N, qual, scope, f, cd, go, σ0, rfl, hlt, hls, hgen, hgs, hos, hbare, hlim, kp, hgo, hnc, hnoc, run⟩ := made
  have I2 : Inv X pins σ H1 s1 := I1.call' (ch := []) hos (Un.kept kp) (I1.hok.kept kp) hbare fun b z => nomatch z
  obtain ⟨J0, go0⟩ := run X.A.in1 hr.in1 I1.env0.in1.frames
  have G : GAt X pins σ H1 sc ag go gn scope := ⟨I1, hlt, hnc, hnoc, fun h e => by
    obtain ⟨o, nm, qn, e1, r⟩ := hgen
    rw [hgo] at e1
    cases e1
    exact ⟨go, nm, qn, e, r⟩⟩
  have S0 : Slp X N qual scope f cd sc ag go H1 Yp Fn gn [] H1 s1 := by
    refine ⟨.fresh c, _, _, σ0, fz H1, s1, sizeLine, Nat.add_zero _, hgs, hgo, I1.hok.fresh (Nat.le_of_lt hlt), I1.hok.fresh (Nat.le_refl _), rfl, J0, fun _ _ e => e, fun b h1 h2 => ?_, fun a' C' z' J => ?_⟩
    · rw [kg_self] at h1
      exact absurd h2 h1
    · rw [kg_self] at J
      exact go0 a' C' z' J
  refine wpAny_pyIter_gen hgen (codeAny_forLoop_any (fun n s' => ∃ ys σ' H', n + ys.length = sizeLine ∧ W ys σ' H' ∧ Inv X pins σ' H' s' ∧ Slp X N qual scope f cd sc ag go H1 Yp Fn gn ys H' s') ?_ sizeLine ⟨[], σ, H1, Nat.add_zero _, w0, I2, S0⟩)
  rintro n s3 ⟨ys, σ3, H3, hn, w3, I3, S3⟩
  obtain ⟨gr, fin, step⟩ := turn ys σ3 H3 w3
  refine wpAny_mono (wake (E := fun _ _ => False) hc hr G I3 gr S3) (fun r s4 q4 => ?_) fun _ _ q => q.elim
  cases r with
  | none => exact wpAny_execs_nil ⟨σ3, H3, q4.2, fin q4.1⟩
  | some v =>
    obtain ⟨x, H2, rv, hy, I4, S4⟩ := q4
    have S4' := S4
    obtain ⟨gs, a, C, σg, Hg, zg, m, hm, e1, e2, e3, e4, e5, J, sG, pv, cont⟩ := S4'
    rw [List.length_append, List.length_singleton] at hm
    refine owned_gen (G.gen _ e2) ?_
    have I4' : Inv X (pins ++ restAll s4.heap (mrg H3 H2) (X.env.locals :: X.fs)) σ3 (mrg H3 H2) s4 := I4.pins_of fun p hp => by
      rcases List.mem_append.mp hp with y | y
      · exact I4.pin p (List.mem_append_right _ y)
      · obtain ⟨h1, h2, h3, h4⟩ := of_rest y
        exact ⟨h1, h2, fun q => h3 (q ▸ List.mem_cons_self ..), fun q => h3 (List.mem_cons_of_mem _ q), h4⟩
    refine wpAny_passesOwn hp (thn (hg.go _ s4 σ3 _ x v _ I4' rv (step x H2 hy)) fun _ s5 ⟨⟨σ5, H5, I5, q5⟩, g5⟩ => ?_)
    refine wpAny_passesOwn hp (thn (hb.go _ s5 σ5 H5 _ I5 q5) fun fl s6 ⟨q6, g6⟩ => ?_)
    have back : ∀ {σ6 : L2.St} {H6 : Hp}, Inv X (pins ++ restAll s4.heap (mrg H3 H2) (X.env.locals :: X.fs)) σ6 H6 s6 → Inv X pins σ6 H6 s6 := fun I6 => I6.pins_of fun p hp => I6.pin p (List.mem_append_right _ (List.mem_append_left _ hp))
    have again : ∀ {σ6 : L2.St} {H6 : Hp}, Inv X (pins ++ restAll s4.heap (mrg H3 H2) (X.env.locals :: X.fs)) σ6 H6 s6 → W (ys ++ [x]) σ6 H6 → ∃ m, m < n ∧ ∃ ys σ' H', m + ys.length = sizeLine ∧ W ys σ' H' ∧ Inv X pins σ' H' s6 ∧ Slp X N qual scope f cd sc ag go H1 Yp Fn gn ys H' s6 := fun {σ6 H6} I6 w6 => by
      have B := bel_of I1
      have kept : ∀ (b : Addr) (o : Obj), s4.heap.get? b = some o → mrg H3 H2 b = none → sc.heap.objs.size ≤ b → (∀ v, o.data ≠ .cell v) → s6.heap.get? b = some o ∧ H6 b = none := fun b o e n hb d => by
        have q := I6.pin (b, o) (List.mem_append_right _ (List.mem_append_right _ (mem_rest e n (fun y => (List.mem_cons.mp y).elim (fun y => absurd (y ▸ B.loc : b < _) (Nat.not_lt.mpr hb)) fun y => by
          obtain ⟨_, o', e', _⟩ := I1.ok.funs.mem y
          exact absurd (Nat.lt_of_lt_of_le (Heap.lt_size e') (Nat.le_trans I1.sz hb)) (Nat.lt_irrefl _)) d)))
        exact ⟨q.1, q.2.1⟩
      have kl : s6.heap.get? sc.heap.objs.size = s4.heap.get? sc.heap.objs.size ∧ H6 sc.heap.objs.size = none := by
        obtain ⟨_, ⟨oL, es, ep, hoL, hd, _⟩, _⟩ := J.loc
        have hoL : zg.heap.get? sc.heap.objs.size = some oL := hoL
        have q := kept _ oL (e5.trans hoL) e4 (Nat.le_refl _) fun v y => by
          rw [hd] at y
          cases y
        exact ⟨q.1.trans (e5.trans hoL).symm, q.2⟩
      have ka := kept ag go e2 e3 (Nat.le_of_lt hlt) hnc
      refine ⟨n - 1, by omega, ys ++ [x], σ6, H6, by rw [List.length_append, List.length_singleton]; omega, w6, back I6, gs, a, C, σg, Hg, zg, m, by rw [List.length_append, List.length_singleton]; omega, ?_, ka.1, ka.2, kl.2, kl.1.trans e5, J, sG, fun b h1 h2 => ?_, cont⟩
      · rw [g6, g5]
        exact e1
      · obtain ⟨p1, p2⟩ := pv b h1 h2
        obtain ⟨o, e⟩ := Option.ne_none_iff_exists'.mp h1
        obtain ⟨hb, e6, ks⟩ := kg_own e h2
        have so : solid o = true := by
          rcases ks with ⟨_, rfl⟩ | ⟨_, rfl⟩ | ⟨_, _, rfl⟩ <;> rfl
        obtain ⟨ob, eo, d⟩ := solid_obj so (J.hok b o e6)
        have q := kept b ob (p2.trans eo) p1 (Nat.le_of_lt hb) d
        exact ⟨q.2, q.1.trans eo.symm⟩
    cases fl with
    | next => obtain ⟨σ6, H6, I6, w6⟩ := q6; exact again I6 w6
    | cont => obtain ⟨σ6, H6, I6, w6⟩ := q6; exact again I6 w6
    | brk => obtain ⟨σ6, H6, I6, w6⟩ := q6; exact ⟨σ6, H6, back I6, w6⟩
    | ret v => obtain ⟨x6, σ6, H6, I6, r6, w6⟩ := q6; exact ⟨x6, σ6, H6, back I6, r6, w6⟩
end EBG

/-! Rules that keep the table of generators: attributes, properties, a for over a tuple. -/
namespace EBG
open PySem PySem.Spec PyProof.Rows L2 GenW EB
section
variable {X : Cx} {e : Expr} {te : TE} {pos : Pos} {f : Str}
theorem k_fld (he : KE X e te) (hb : attributeBase e f X.env (eval e X.env) = eval e X.env := by rfl) : KE X (.Attribute e f pos) (tFld X.K te f) := ⟨fun pins s σ H Q I q => by
  refine attr_of hb (thn (he.go pins s σ H _ I q) fun u s1 ⟨⟨x, H1, I1, rx, a, C, dx, fs, v, ex, ea, c, n, l, q1⟩, g1⟩ => ?_)
  subst ex
  cases (show u = Value.ref a from rx)
  obtain ⟨mA, O, r, _, _, _⟩ := ins_get I1.hok ea
  obtain ⟨w, hw, rw'⟩ := RelO.some_of (v := v) (o := mA f) (l ▸ r f)
  exact get_map I1.kIn O (c.get f) c.hd n hw (handed_of rw') ⟨⟨v, H1, I1.tok _, rw', q1⟩, g1⟩⟩
theorem ks_ret (he : KE X e te) : KS X (.Return (some e) pos) (tRet te) := ⟨fun pins s σ H D I q => wpAny_Return_some (thn (he.go pins s σ H _ I q) fun v s1 ⟨⟨x, H1, I1, r1, q1⟩, g1⟩ => ⟨⟨x, σ, H1, I1, r1, q1⟩, g1⟩)⟩
end
/-! ### a def that keeps it -/
structure FnKp (P : Program) (w : World) (K : PySem.W.Frag) (mg : Str → Option Value) (base : Heap) (k : Nat) (f : Addr) (fd : FuncData) (ps : List Str) (sp : Sp) : Prop where
  len : ∀ vs H Q E, sp vs H Q E → vs.length = ps.length
  run : ∀ (A : Around) (outer : List Env) (s : Shared) (H : Hp) (args : Args) (us : List Value) (vs : List V) (Q : VK), Room k A → Env0 P w K mg base A outer s H → BindsTo s fd args (ps.zip us) → Vals vs us → sp vs H Q E0 →
    codeAny (model P w) A (.call (.ref f) args) (fun r s' => match r with | .ok (.ret u) => CE outer P w H s Q u s' ∧ GK s s' | _ => False) s
theorem fnk_of {P : Program} {w : World} {K : PySem.W.Frag} {mg : Str → Option Value} {base : Heap} {k : Nat} {f : Addr} {name qual : Str} {params : Arguments} {body : List Stmt} {scope : Scope} {dV kV doc pm cdv ct oc : Value} {an od : Option Addr} {osl : Array (Option Value)} {N ps : List Str} {sp : Sp}
    (lk : K.lookup f = some ⟨oc, od, .func (PySem.W.fnOf name qual params body scope dV kV doc pm an cdv ct), osl⟩) (hcd : PySem.W.codeIn K cdv qual = true) (S : FnScope N ps scope) (len : ∀ vs H Q E, sp vs H Q E → vs.length = ps.length)
    (hbody : ∀ (A : Around) (outer : List Env) (s : Shared) (H : Hp) (vs : List V) (Q : VK), Room k (A.deeper (envOfC qual scope s.heap.objs.size f cdv)) → sp vs H Q E0 →
      ∃ t, KSs (cxOf CX0 P w K mg base N qual scope f cdv A outer s H E0) body t ∧ t { nx := fun _ H' => Q .non H', rt := Q } (start N vs) H) :
    FnKp P w K mg base (k + 1) f (PySem.W.fnOf name qual params body scope dV kV doc pm an cdv ct) ps sp := by
  refine ⟨len, fun A outer s H args us vs Q hr e0 hb r hsp => ?_⟩
  have inS : ∀ b o, base.get? b = some o → s.heap.get? b = some o := fun b o e => (e0.bs b o e).1
  have KX : K.In s.heap := e0.mod.kin.keeps inS
  have lim : s.heap.NoLimit := e0.mod.nolimit.keeps inS
  have kinds : ∀ y ∈ ps.zip us, scope.names.lookup y.1 = some .local ∨ (scope.names.lookup y.1 = some .cell ∧ ((cellsFrom (s.heap.objs.size + 1) scope.names []).lookup y.1).isSome = true) := fun ⟨x, v⟩ hy => by
    rcases S.par x (List.of_mem_zip hy).1 with q | q
    · exact .inl q
    · exact .inr ⟨q, PySem.W.cellsFrom_some _ _ _ (.inl q)⟩
  refine codeAny_call_function (hr.depth) (KX _ _ lk) rfl (S.co) (S.gen) rfl (PySem.W.codeRec_of KX hcd) (hb _ _ _ _ (wpAny_newFunctionEnv_cells S.kind kinds fun env he s1 x => ?_))
  subst he
  obtain ⟨t, ht, hq⟩ := hbody A outer s H vs Q (hr.deeper _) hsp
  have g1 : s1.gens = s.gens := by
    obtain ⟨h1, tk, e1, _⟩ := x.done
    rw [e1]
  have I : Inv (cxOf CX0 P w K mg base N qual scope f cdv A outer s H E0) [] (start N vs) H s1 := inv_start S hr.hd e0 (len _ _ _ _ hsp) r x
  refine ⟨lim.keeps x.toInCall.keep, codeAny_func (wpAny_mono (ht.go [] s1 (start N vs) H _ I hq) (fun fl s' hs => ?_) fun e s' hs => hs)⟩
  obtain ⟨hs, g2⟩ := hs
  have fin : ∀ {σ' : L2.St} {H' : Hp} {v : V} {u : Value}, Inv (cxOf CX0 P w K mg base N qual scope f cdv A outer s H E0) [] σ' H' s' → RelV v u → Q v H' → CE outer P w H s Q u s' ∧ GK s s' :=
    fun {σ' H' v u} J rv q => ⟨⟨v, H', J.os, J.bare, J.base, J.hok, rv, q⟩, g2.trans g1⟩
  cases fl with
  | ret u => obtain ⟨v, σ', H', J, rv, q⟩ := hs; exact fin J rv q
  | next => obtain ⟨σ', H', J, q⟩ := hs; exact fin (v := V.non) (u := Value.none) J rfl q
  | brk => obtain ⟨_, _, _, q⟩ := hs; exact q.elim
  | cont => obtain ⟨_, _, _, q⟩ := hs; exact q.elim
section
variable {X : Cx} {k : Nat} {C p g : Addr} {f : Str} {fd : FuncData} {ps : List Str} {sp : Sp} {dvs : List V} {ds : List Value} {e : Expr} {pos : Pos} {ta : TE}
/-- e.f, a property -/
theorem k_prop (he : KE X e ta) (c : Cls X.K C) (hp : PropOf X.K C f p g) (F : FnKp X.prog X.w X.K X.mg X.base k g fd ps sp) (hr : Room (k + 1) X.A) (hb : Binds X.K fd ps ds) (hd : Vals dvs ds)
    (hab : attributeBase e f X.env (eval e X.env) = eval e X.env := by rfl) : KE X (.Attribute e f pos) (tProp C sp dvs E0 ta) := ⟨fun pins s0 σ H0 Q I0 q0 => by
  refine attr_of hab (thn (he.go pins s0 σ H0 _ I0 q0) fun u s ⟨⟨x, H, I, rx, a, dx, fs, ex, ea, h⟩, g0⟩ => ?_)
  subst ex
  cases (show u = Value.ref a from rx)
  obtain ⟨mA, O, _, _, _, _⟩ := ins_get I.hok ea
  obtain ⟨od, J, _⟩ := O.look
  obtain ⟨rest, hrec⟩ := hp.rec_
  have I1 := I.tok (s.toks + 1)
  have hl : ([Value.ref a] ++ ds).length = ps.length := by
    rw [← F.len _ _ _ _ h, List.length_append, ← hd.length]
    simp [Nat.add_comm]
  have hc : (PySem.W.clsIn X.K C).isSome = true := by
    obtain ⟨cd, hc, _⟩ := PySem.W.any_some c.hd
    rw [hc]
    rfl
  refine PySem.W.get_bind I.kIn J (PySem.W.plainGet_of (c.get f)).1 (PySem.W.findObj_data hc hp.at_ hp.get hp.tak) (PySem.W.plainGet_of (c.get f)).2 (wpAny_call (PySem.W.prop_get (s := { s with toks := s.toks + 1 }) I.kIn hrec
    (codeAny_mono (F.run X.A.in1 X.stack { s with toks := s.toks + 1 } H ⟨[.ref a], []⟩ (.ref a :: ds) (.ref a :: dvs) Q hr.in1 I1.env0.in1 (hb _ [.ref a] I1.kIn hl) (.cons rfl hd) h) fun r s' hq => ?_)))
  cases r with
  | error er => exact hq.elim
  | ok fl =>
    cases fl with
    | ret u =>
      obtain ⟨v, H', I3, rv, q3⟩ := I1.after hq.1
      show wpAny _ _ (handedOut u) _ _ _
      rw [PySem.W.handedOut_of (handed_of rv)]
      exact wpAny_pure ⟨⟨v, H', I3, rv, q3⟩, hq.2.trans g0⟩
    | next => exact hq.elim
    | brk => exact hq.elim
    | cont => exact hq.elim⟩
end
/-- for over a tuple -/
theorem ks_forT {X : Cx} {iter tg : Expr} {body : List Stmt} {tl : TE} {g : TG} {tb : TS} {pos : Pos} (hp : PassesOwn (model X.prog X.w) X.A X.env X.xe) (hc : X.calm = true) (hi : KE X iter tl) (hg : KG X tg g) (hb : KSs X body tb)
    (hs : ∀ x, foldedSetIterable iter X.env x = pure x := by intro _; rfl) : KS X (.For tg iter body [] pos) (tFor (iTup X.K tl) g tb) := ⟨fun pins s σ H D I h => by
  refine wpAny_For (thn (hi.go pins s σ H _ I h) fun v s1 ⟨⟨x, H1, I1, r1, a, e, ⟨xs, hq⟩, W, ⟨m0, w0⟩, turn⟩, g1⟩ => ?_) hs
  subst e
  cases (show v = Value.ref a from r1)
  obtain ⟨its, rv, p, hz⟩ := I1.tuple hq
  refine wpAny_pyIter_tuple (show s1.heap.IsTuple a its.toArray from p) ?_
  have T := turn_tuple (P := X.prog) (w := X.w) (K := X.K) (tg := tg) a s1.heap.objs.size
  have fp0 : FpOk X pins H1 s1.heap.objs.size := I1.fpOk (Nat.le_refl _) (I1.hok.fresh (Nat.le_refl _))
  refine codeAny_forLoop_any (fun n s' => ∃ i σ' H', Inv X pins σ' H' s' ∧ s'.heap.IsTupleIter s1.heap.objs.size a i ∧ H' s1.heap.objs.size = none ∧ W i n σ' H' ∧ GK s s') ?_ m0
    ⟨0, σ, H1, I1.kept (t' := s1.toks) fun b o e => Heap.get?_push_of_some _ e, ⟨_, Heap.get?_push_size _ rfl, rfl, rfl⟩, fp0.1, w0, g1⟩
  rintro n s3 ⟨i, σ3, H3, I3, st3, fr3, w3, g3⟩
  have f3 : FpOk X pins H3 s1.heap.objs.size := ⟨fr3, fp0.2⟩
  obtain ⟨f0, f1, f2, f3', f4, f5⟩ := id f3
  rcases turn i n σ3 H3 w3 with ⟨⟨ys, hy, hlen⟩, qn⟩ | ⟨⟨ys, x, hy, hx⟩, N, hN, step⟩
  · obtain ⟨it2, rv2, p2, _⟩ := I3.tuple hy
    have hl := rv2.length
    refine wpAny_pyNext_tuple_end (I3.ok.hd hc) st3 (show s3.heap.IsTuple a it2.toArray from p2) (by simp; omega) fun h' eb => wpAny_execs_nil ⟨⟨σ3, H3, I3.turned (t' := s3.toks) (fun b o hb e => eb b o hb e) f0 f1 f3' f4 f5, qn⟩, g3⟩
  · obtain ⟨it2, rv2, p2, _⟩ := I3.tuple hy
    obtain ⟨u, hu, ru⟩ := rv2.get hx
    refine wpAny_pyNext_tuple_item st3 (show s3.heap.IsTuple a it2.toArray from p2) (x := u) (by simpa using hu) fun h' st' sb => ?_
    have I4 : Inv X pins σ3 H3 { s3 with heap := h' } := I3.turned (t' := s3.toks) (fun b o hb e => (sb.2 b hb).trans e) f0 f1 f3' f4 f5
    obtain ⟨o, eo, co, dd⟩ := id st'
    refine go_of (s := { s3 with heap := h' }) eo co dd (by decide) ?_
    have I5 := I4.pinned (fp := [s1.heap.objs.size]) (fun b hb => by
      rw [List.mem_singleton.mp hb]
      exact f3) fun b hb => by
      rw [List.mem_singleton.mp hb]
      exact ⟨o, eo, fun v z => by rw [dd] at z; cases z⟩
    refine wpAny_passesOwn hp (thn (hg.go _ _ σ3 H3 x u _ I5 ru (step x H3 ⟨rfl, fun ys' hy' => by rw [I3.tuple_inj hy' hy]; exact hx⟩)) fun _ s6 ⟨⟨σ6, H6, I6, q6⟩, g6⟩ => ?_)
    refine wpAny_passesOwn hp (thn (hb.go _ s6 σ6 H6 _ I6 q6) fun fl s7 ⟨q7, g7⟩ => ?_)
    have gg : GK s s7 := g7.trans (g6.trans g3)
    have again : ∀ {σ7 : L2.St} {H7 : Hp}, Inv X (pins ++ pinsAt [s1.heap.objs.size] h') σ7 H7 s7 → N σ7 H7 → ∃ m, m < n ∧ ∃ i σ' H', Inv X pins σ' H' s7 ∧ s7.heap.IsTupleIter s1.heap.objs.size a i ∧ H' s1.heap.objs.size = none ∧ W i m σ' H' ∧ GK s s7 := fun {σ7 H7} I7 n7 => by
      obtain ⟨m', hm, w7⟩ := hN σ7 H7 n7
      obtain ⟨k1, k2, _⟩ := I7.pin (s1.heap.objs.size, o) (List.mem_append_right _ (List.mem_append_right _ (mem_pinsAt (List.mem_singleton.mpr rfl) eo)))
      exact ⟨m', hm, i + 1, σ7, H7, I7.unpinned, ⟨o, k1, co, dd⟩, k2, w7, gg⟩
    cases fl with
    | next => obtain ⟨σ7, H7, I7, n7⟩ := q7; exact again I7 n7
    | cont => obtain ⟨σ7, H7, I7, n7⟩ := q7; exact again I7 n7
    | brk => obtain ⟨σ7, H7, I7, n7⟩ := q7; exact ⟨⟨σ7, H7, I7.unpinned, n7⟩, gg⟩
    | ret v => obtain ⟨x7, σ7, H7, I7, r7, n7⟩ := q7; exact ⟨⟨x7, σ7, H7, I7.unpinned, r7, n7⟩, gg⟩⟩
end EBG

/-! name = {..: .. for .. in ..} on one line, the name a local. -/
namespace EB
open PySem PySem.Spec PyProof.Rows L2
section
variable {X : Cx}
theorem ps_setDc {i : Nat} {y : Str} {py : Pos} {kx vx tg iter : Expr} {ifs : List Expr} {scope : Scope} {own : List (Str × Nat)} {pos spos : Pos} {wi : TI} {g : TG} {tt : TT} {tk tv : TE} (calm : X.calm = true) (nd : X.N.Nodup) (hy : X.N[i]? = some y) (hyl : X.env.scope.names.lookup y = some .local)
    (sw : swapsWith (.DictComp kx vx [⟨tg, iter, ifs, 0⟩] scope pos) (some (.Name y py)) spos.line X.env = pure true) (hi : PI X tg iter wi) (blk : BlkOk X.N X.env.scope scope own)
    (pg : ∀ (s : Shared) (H : Hp) (C : Addr) (cl : List (Str × Addr)) (fp : List Addr), PG (X.blk s H scope (compEnvC scope cl C X.env) fp) tg g)
    (pt : ∀ (s : Shared) (H : Hp) (C : Addr) (cl : List (Str × Addr)) (fp : List Addr), PTs (X.blk s H scope (compEnvC scope cl C X.env) fp) ifs tt)
    (pk : ∀ (s : Shared) (H : Hp) (C : Addr) (cl : List (Str × Addr)) (fp : List Addr), PE (X.blk s H scope (compEnvC scope cl C X.env) fp) kx tk)
    (pv : ∀ (s : Shared) (H : Hp) (C : Addr) (cl : List (Str × Addr)) (fp : List Addr), PE (X.blk s H scope (compEnvC scope cl C X.env) fp) vx tv) (hs : ∀ x, foldedSetIterable iter X.env x = pure x := by intro _; rfl) :
    PS X (.Assign [.Name y py] (.DictComp kx vx [⟨tg, iter, ifs, 0⟩] scope pos) spos) (tAsg (tDc wi g tt tk tv (own.map (·.2))) (gName i)) := ⟨fun pins s σ H D I h => by
  rw [exec_Assign_Name_used _ _ _ _ sw]
  refine wpAny_bind (wpAny_standAt (wpAny_bind ?_))
  show wpAny _ X.A (do let _ ← comprehension (.DictComp kx vx [⟨tg, iter, ifs, 0⟩] scope pos) scope X.env (firstIterPos [⟨tg, iter, ifs, 0⟩] pos) newDict false (eval iter X.env) (some (assign (.Name y py) X.env))) _ _ s
  have h : tDc wi g tt tk tv (own.map (·.2)) σ H (fun x H1 => gName i x σ H1 D.nx) := h
  have core := dc_core (use := some (assign (.Name y py) X.env)) (Qf := fun _ s' => SP X pins D .next s') (pos := pos) (pos' := firstIterPos [⟨tg, iter, ifs, 0⟩] pos) calm nd I hi blk pg pt pk pv hs h fun L C s' m H' I' q hn ⟨f0, f1, f2, f3, f4, f5⟩ => by
    show wpAny _ _ (assign (.Name y py) X.env (.ref L)) _ _ _
    refine wpAny_assign_Name (store_ok2 (v := V.ref L) I' nd hy (.inl hyl) rfl (fun s2 I2 ⟨a, sb, ha⟩ => ⟨m, hn.sameBut sb ?_, fun h3 sb3 => ⟨_, H', I2.turned (t' := s2.toks) (fun b o hb e => (sb3.2 b hb).trans e) f0 f1 f3 f4 f5, q⟩⟩) (.inr hyl))
    rcases ha with z | z
    · exact fun e => f1 (e.trans z)
    · exact fun e => (f4 y a z) e.symm
  exact wpAny_bind (thn core fun _ s' hq => wpAny_pure (wpAny_pure hq))⟩
theorem sw_trueD {kx vx : Expr} {gs : List Comprehension} {scope : Scope} {pos py : Pos} {y : Str} {l : Nat} {env : Env} (hk : env.scope.kind = .function) (hy : env.scope.names.lookup y = some .local) (hl : (py.line == pos.line) = true)
    (ha : (scope.names.any fun (n, k) => n == y && (k == .local || k == .cell)) = false) : swapsWith (.DictComp kx vx gs scope pos) (some (.Name y py)) l env = pure true := by
  have k1 : env.kindOf y = some .local := hy
  have k2 : env.blockKind = .function := by
    unfold Env.blockKind
    rw [hk]
    rfl
  unfold swapsWith
  simp only [k2, k1, ha, Expr.pos, hl]
  rfl
end
end EB

namespace EB
/-! Counting the numbers that a test takes. -/
def cnt (g : Nat → Bool) : Nat → Nat
  | 0 => 0
  | n + 1 => cnt g n + if g n = true then 1 else 0
theorem cnt_s (g : Nat → Bool) (n : Nat) : cnt g (n + 1) = cnt g n + if g n = true then 1 else 0 := rfl
theorem cnt_t {g : Nat → Bool} {n : Nat} (h : g n = true) : cnt g (n + 1) = cnt g n + 1 := by
  rw [cnt_s, if_pos h]
theorem cnt_add (g : Nat → Bool) (a : Nat) : ∀ b, cnt g (a + b) = cnt g a + cnt (fun i => g (a + i)) b
  | 0 => rfl
  | b + 1 => by
    rw [← Nat.add_assoc, cnt_s, cnt_add g a b, cnt_s]
    omega
theorem cnt_congr {g f : Nat → Bool} : ∀ n, (∀ i, i < n → g i = f i) → cnt g n = cnt f n
  | 0, _ => rfl
  | n + 1, h => by rw [cnt_s, cnt_s, cnt_congr n (fun i hi => h i (Nat.lt_succ_of_lt hi)), h n (Nat.lt_succ_self n)]
theorem cnt_mono (g : Nat → Bool) {m n : Nat} (h : m ≤ n) : cnt g m ≤ cnt g n := by
  obtain ⟨k, rfl⟩ : ∃ k, n = m + k := ⟨n - m, by omega⟩
  rw [cnt_add]
  omega
theorem cnt_le (g : Nat → Bool) : ∀ n, cnt g n ≤ n
  | 0 => Nat.le_refl _
  | n + 1 => by
    have := cnt_le g n
    rw [cnt_s]
    split <;> omega
theorem cnt_filter (g : Nat → Bool) : ∀ n, ((List.range n).filter g).length = cnt g n
  | 0 => rfl
  | n + 1 => by
    rw [List.range_succ, List.filter_append, List.length_append, cnt_filter g n, cnt_s, List.filter_cons]
    split <;> rfl
/-- two numbers with the same count before them are the same -/
theorem cnt_inj {g : Nat → Bool} {a b : Nat} (ha : g a = true) (hb : g b = true) (e : cnt g a = cnt g b) : a = b := by
  rcases Nat.lt_trichotomy a b with h | h | h
  · have h1 := cnt_mono g (show a + 1 ≤ b from h)
    rw [cnt_t ha] at h1
    omega
  · exact h
  · have h1 := cnt_mono g (show b + 1 ≤ a from h)
    rw [cnt_t hb] at h1
    omega
theorem filter_get (g : Nat → Bool) : ∀ (n i : Nat) (b : Nat), ((List.range n).filter g)[i]? = some b → g b = true ∧ cnt g b = i ∧ b < n
  | 0, i, b, h => by cases h
  | n + 1, i, b, h => by
    rw [List.range_succ, List.filter_append] at h
    rcases Nat.lt_or_ge i ((List.range n).filter g).length with z | z
    · rw [List.getElem?_append_left z] at h
      have h1 := filter_get g n i b h
      exact ⟨h1.1, h1.2.1, by omega⟩
    · rw [List.getElem?_append_right z, List.filter_cons] at h
      split at h
      · rename_i hg
        cases hk : i - ((List.range n).filter g).length with
        | zero =>
          rw [hk] at h
          cases h
          rw [cnt_filter] at hk z
          exact ⟨hg, by omega, by omega⟩
        | succ k =>
          rw [hk] at h
          cases h
      · cases h
/-- from s on it repeats -/
def Rpt (g : Nat → Bool) (s p : Nat) : Prop := ∀ n, s ≤ n → g (n + p) = g n
theorem Rpt.many {g : Nat → Bool} {s p : Nat} (h : Rpt g s p) : ∀ k n, s ≤ n → g (n + k * p) = g n
  | 0, n, _ => by rw [Nat.zero_mul, Nat.add_zero]
  | k + 1, n, hn => by
    rw [show n + (k + 1) * p = (n + k * p) + p by rw [Nat.succ_mul]; omega, h _ (by omega), h.many k n hn]
theorem Rpt.modp {g : Nat → Bool} {s p : Nat} (h : Rpt g s p) (m : Nat) : g (s + m) = g (s + m % p) := by
  have e := Nat.mod_add_div m p
  have h1 := h.many (m / p) (s + m % p) (by omega)
  rw [show s + m % p + m / p * p = s + m by rw [Nat.mul_comm]; omega] at h1
  exact h1
theorem Rpt.mul {g : Nat → Bool} {s p : Nat} (h : Rpt g s p) (k : Nat) : Rpt g s (k * p) := fun n hn => h.many k n hn
theorem Rpt.and {g f : Nat → Bool} {s p : Nat} (h : Rpt g s p) (k : Rpt f s p) : Rpt (fun n => g n && f n) s p := fun n hn => by
  show (g (n + p) && f (n + p)) = (g n && f n)
  rw [h n hn, k n hn]
theorem Rpt.cnt {g : Nat → Bool} {s p : Nat} (h : Rpt g s p) : ∀ k r, EB.cnt g (s + k * p + r) = EB.cnt g s + k * EB.cnt (fun i => g (s + i)) p + EB.cnt (fun i => g (s + i)) r := by
  have one : ∀ k, EB.cnt g (s + k * p) = EB.cnt g s + k * EB.cnt (fun i => g (s + i)) p := by
    intro k
    induction k with
    | zero => simp
    | succ k ih =>
      rw [show s + (k + 1) * p = (s + k * p) + p by rw [Nat.succ_mul]; omega, cnt_add, ih, Nat.succ_mul]
      rw [cnt_congr (g := fun i => g (s + k * p + i)) (f := fun i => g (s + i)) p (fun i _ => by rw [show s + k * p + i = (s + i) + k * p by omega]; exact h.many k _ (by omega))]
      omega
  intro k r
  rw [cnt_add, one]
  rw [cnt_congr (g := fun i => g (s + k * p + i)) (f := fun i => g (s + i)) r (fun i _ => by rw [show s + k * p + i = (s + i) + k * p by omega]; exact h.many k _ (by omega))]
/-- the numbers below a bound that are taken, as the program keeps them -/
def takeN (g : Nat → Bool) (n : Nat) : List Int := ((List.range n).filter g).map fun i : Nat => (i : Int)
theorem takeN_len (g : Nat → Bool) (n : Nat) : (takeN g n).length = cnt g n := by
  unfold takeN
  rw [List.length_map, cnt_filter]
theorem takeN_s (g : Nat → Bool) (n : Nat) : takeN g (n + 1) = takeN g n ++ if g n = true then [(n : Int)] else [] := by
  unfold takeN
  rw [List.range_succ, List.filter_append, List.map_append, List.filter_cons]
  split <;> rfl
theorem takeN_mem {g : Nat → Bool} {n : Nat} {x : Int} (h : x ∈ takeN g n) : ∃ i : Nat, x = i ∧ i < n ∧ g i = true := by
  unfold takeN at h
  obtain ⟨i, m, rfl⟩ := List.mem_map.mp h
  obtain ⟨m1, m2⟩ := List.mem_filter.mp m
  exact ⟨i, rfl, List.mem_range.mp m1, m2⟩
theorem takeN_le (g : Nat → Bool) (t : Nat) : ∀ n, ((takeN g n).filter fun x => decide (x ≤ (t : Int))).length = cnt g (min n (t + 1))
  | 0 => by rw [Nat.zero_min]; rfl
  | n + 1 => by
    rw [takeN_s, List.filter_append, List.length_append, takeN_le g t n]
    by_cases z : n ≤ t
    · rw [show min n (t + 1) = n by omega, show min (n + 1) (t + 1) = n + 1 by omega, cnt_s]
      split
      · rw [List.filter_cons, if_pos (decide_eq_true (by omega))]
        rfl
      · rfl
    · rw [show min n (t + 1) = t + 1 by omega, show min (n + 1) (t + 1) = t + 1 by omega]
      split
      · rw [List.filter_cons, if_neg (by simp; omega)]
        rfl
      · rfl
theorem takeN_get {g : Nat → Bool} {n i : Nat} (h : i < cnt g n) : ∃ b : Nat, (takeN g n).getD i 0 = (b : Int) ∧ g b = true ∧ cnt g b = i ∧ b < n := by
  have hl : i < ((List.range n).filter g).length := by rw [cnt_filter]; exact h
  have e := List.getElem?_eq_getElem hl
  refine ⟨_, ?_, filter_get g n i _ e⟩
  unfold takeN
  rw [List.getD_eq_getElem?_getD, List.getElem?_map, e]
  rfl
theorem takeN_filter (g f : Nat → Bool) (n : Nat) : (takeN g n).filter (fun x => f x.toNat) = takeN (fun i => g i && f i) n := by
  induction n with
  | zero => rfl
  | succ n ih =>
    rw [takeN_s, takeN_s, List.filter_append, ih]
    congr 1
    cases hg : g n <;> cases hf : f n <;> simp [hf]
theorem takeN_congr {g f : Nat → Bool} : ∀ n, (∀ i, i < n → g i = f i) → takeN g n = takeN f n
  | 0, _ => rfl
  | n + 1, h => by rw [takeN_s, takeN_s, takeN_congr n (fun i hi => h i (Nat.lt_succ_of_lt hi)), h n (Nat.lt_succ_self n)]
theorem takeN_add (g : Nat → Bool) (a : Nat) : ∀ b, takeN g (a + b) = takeN g a ++ (takeN (fun i => g (a + i)) b).map fun x => (a : Int) + x
  | 0 => by
    show takeN g a = takeN g a ++ []
    rw [List.append_nil]
  | b + 1 => by
    rw [← Nat.add_assoc, takeN_s, takeN_add g a b, takeN_s, List.map_append, ← List.append_assoc]
    congr 1
    cases hg : g (a + b)
    · simp [hg]
    · simp [hg]
end EB

/-! A range kept in a variable: made of one argument, walked. -/
namespace EB
open PySem PySem.Spec PyProof.Rows L2
section
variable {X : Cx} {tg : Expr}
theorem cr_range1 : CallR X (.type "range") (fun vs H Q => ∃ j, vs = [V.int j] ∧ ∀ p, H p = none → Q (.ref p) (upd H p (.rng 0 j))) := by
  intro pins s σ H vs us Q I r h
  obtain ⟨j, rfl, q⟩ := h
  obtain ⟨u1, rfl, rj⟩ := vals1 r
  obtain ⟨t, rfl⟩ := rj
  refine call_range_1 ⟨.ref s.heap.objs.size, upd H s.heap.objs.size (.rng 0 j), I.laid (fun b o e => Heap.get?_push_of_some _ e) (Nat.le_refl _) ?_, rfl, q _ (I.hok.fresh (Nat.le_refl _))⟩
  exact ⟨_, _, _, Heap.get?_push_size _ rfl⟩
def iRngV (tl : TE) : TI := fun σ H R => tl σ H fun x H1 => ∃ (a : Addr) (lo hi : Int), x = .ref a ∧ H1 a = some (.rng lo hi) ∧ (-(2 ^ 62) ≤ lo ∧ lo < 2 ^ 62 ∧ -(2 ^ 62) ≤ hi ∧ hi < 2 ^ 62) ∧ R (Itr lo (hi - lo).toNat) H1
theorem pi_rng {l : Expr} {tl : TE} (hl : PE X l tl) : PI X tg l (iRngV tl) := by
  refine ⟨fun pins s σ H R I h => ?_⟩
  refine thn (hl.run pins s σ H _ I h) fun v s1 ⟨x, H1, I1, r1, q1⟩ => ?_
  obtain ⟨a, lo, hi, e, ha, ⟨h1, h2, h3, h4⟩, q⟩ := q1
  subst e
  cases r1
  obtain ⟨t, u, w, ho⟩ := I1.hok a _ ha
  refine wpAny_pyIter_range (r := a) (a := lo) (b := hi) (c := 1) (t := t) (u := u) (v := w) ho (small_one h1 h2 h3 h4) ?_
  refine ⟨s1.heap.objs.size, [s1.heap.objs.size], _, _, H1, rfl, I1.kept (t' := s1.toks) fun b o e => Heap.get?_push_of_some _ e, turn_range _ lo (hi - lo).toNat, ?_, fun b hb => ?_, q⟩
  · have e1 : lo + ((0 : Nat) : Int) * 1 = lo := by simp
    have e2 : (((hi - lo).toNat : Nat) : Int) - ((0 : Nat) : Int) = Builtin.Range.rangeSize lo hi 1 := by rw [rangeSize_one]; split <;> omega
    show IsRangeIter _ _ (lo + ((0 : Nat) : Int) * 1) ((((hi - lo).toNat : Nat) : Int) - ((0 : Nat) : Int)) 1
    rw [e1, e2]
    exact Heap.get?_push_size _ rfl
  · have e : b = s1.heap.objs.size := by simpa using hb
    subst e
    exact I1.fpOk (Nat.le_refl _) (I1.hok.fresh (Nat.le_refl _))
end
/-! ### a comprehension with two generators: its walks, the body left open -/
theorem walk_lst {K : PySem.W.Frag} {a : Addr} {xs : List V} {H0 : Hp} {Q : Hp → Prop} {body : V → Hp → (Hp → Prop) → Prop} (Pv : Nat → Hp → Prop) (h0 : Pv 0 H0) (hl : ∀ i H, i ≤ xs.length → Pv i H → SqL K H a xs)
    (hs : ∀ i x H, xs[i]? = some x → Pv i H → body x H (Pv (i + 1))) (hd : ∀ H, Pv xs.length H → Q H) :
    ∃ W : Nat → Nat → Hp → Prop, (∃ m, W 0 m H0) ∧ ∀ i m H, W i m H → ((Itl K a).stop i H ∧ Q H) ∨ ((Itl K a).go i H ∧ ∃ Nx : Hp → Prop, (∀ H', Nx H' → ∃ m', m' < m ∧ W (i + 1) m' H') ∧ ∀ x H', (Itl K a).yld i H x H' → body x H' Nx) := by
  refine ⟨fun i m H => m = xs.length - i ∧ i ≤ xs.length ∧ Pv i H, ⟨xs.length, by simp, Nat.zero_le _, h0⟩, ?_⟩
  rintro i m H ⟨rfl, hi, p⟩
  have q := hl i H hi p
  by_cases hlt : i < xs.length
  · refine .inr ⟨⟨xs, xs[i], q, by simp [hlt]⟩, Pv (i + 1), fun H' p' => ⟨xs.length - (i + 1), by omega, rfl, hlt, p'⟩, fun x H' y => ?_⟩
    obtain ⟨e, y⟩ := y
    subst e
    exact hs i x _ (y xs q) p
  · have e : i = xs.length := by omega
    subst e
    exact .inl ⟨⟨xs, q, Nat.le_refl _⟩, hd H p⟩
theorem walk_r3 {lo c : Int} {n : Nat} {H0 : Hp} {Q : Hp → Prop} {body : V → Hp → (Hp → Prop) → Prop} (Pv : Nat → Hp → Prop) (h0 : Pv 0 H0) (hs : ∀ (i : Nat) H, i < n → Pv i H → body (.int (lo + (i : Nat) * c)) H (Pv (i + 1))) (hd : ∀ H, Pv n H → Q H) :
    ∃ W : Nat → Nat → Hp → Prop, (∃ m, W 0 m H0) ∧ ∀ i m H, W i m H → ((Itc lo c n).stop i H ∧ Q H) ∨ ((Itc lo c n).go i H ∧ ∃ Nx : Hp → Prop, (∀ H', Nx H' → ∃ m', m' < m ∧ W (i + 1) m' H') ∧ ∀ x H', (Itc lo c n).yld i H x H' → body x H' Nx) := by
  refine ⟨fun i m H => m = n - i ∧ i ≤ n ∧ Pv i H, ⟨n, by simp, Nat.zero_le _, h0⟩, ?_⟩
  rintro i m H ⟨rfl, hi, p⟩
  by_cases hlt : i < n
  · refine .inr ⟨hlt, Pv (i + 1), fun H' p' => ⟨n - (i + 1), by omega, rfl, hlt, p'⟩, fun x H' y => ?_⟩
    obtain ⟨e, y⟩ := y
    subst e y
    exact hs i _ hlt p
  · have e : i = n := by omega
    subst e
    exact .inl ⟨Nat.le_refl _, hd H p⟩
end EB

namespace EB
open PySem PySem.Spec PyProof.Rows L2
section
variable {prog : Program} {w : World} {A : Around} {E : Value → Shared → Prop} {s : Shared}
theorem meets_bool_any (x : Value) : MeetsIn prog w (Builtin.«bool.__new__» ⟨[.type "bool", x], []⟩) (fun A R s => wpAny (model prog w) A.in1 (truthy x) (fun b s' => R (.ok (.ret (.bool b))) s') (fun e s' => R (.error e) s') s) :=
  .of_wp fun A R s hs => by
    have f1 := F.conv_sub_bool
    obtain ⟨hp, g, d, tk, os⟩ := s
    repeat (any_goals (first | assumption | (with_reducible refine wpAny_bind (wpAny_mono hs (fun b s' hb => ?_) fun _ _ e => e)) | wp_step))
    exact ⟨_, rfl, hb⟩
end
section
variable {X : Cx} {CX : CXT} {k : Nat} {C g : Addr} {sp : Sp} {E : XK}
/-- bool(o), o's class says __bool__ -/
theorem call_boolO (hs : PySem.W.findIn X.K (.ref C) "__bool__" = some (some (.ref g))) (hf : PySem.W.isFn X.K (.ref g) = true) (Fn : FnR X.prog X.w X.K X.mg X.base CX k g sp) (hr : Room (k + 2) X.A) (hx : Passes CX X E) :
    CallR X (.type "bool") (fun xs H Q => ∃ a dx fs, xs = [.ref a] ∧ H a = some (.ins C dx fs) ∧ sp [.ref a] H (fun z H' => ∃ b, z = .bl b ∧ Q (.bl b) H') E) := by
  intro pins s σ H xs us Q I r h
  obtain ⟨a, dx, fs, rfl, ha, q⟩ := h
  obtain rfl := Vals.ref1 r
  obtain ⟨ox, od, J, _⟩ := StX.insC_at I (.inr ⟨dx, fs, ha⟩)
  obtain ⟨m, hF⟩ := I.fr
  refine callType_newIn F.called_bool F.newNe_bool (F.typeCall_bool_1 _) (F.newCall_bool_1 _) (fun obj => F.args_object_init_2 obj _) F.entry_bool_new (meets_bool_any (.ref a)) ?_
  refine PySem.W.truthy_K hF I.ok.mod.kin J hs hf (wpAny_call ?_)
  refine codeAny_mono (Fn X.A.in1.in1 X.stack s H [.ref a] [.ref a] _ E hr.in1.in1 I.env0.in1.in1 (.cons rfl .nil) q) fun r s' hq => ?_
  cases r with
  | error er => exact hx pins σ H s er s' I hq
  | ok fl =>
    cases fl with
    | ret u =>
      obtain ⟨v, H', I3, rv, b, rfl, q4⟩ := I.after hq
      cases rv
      exact ⟨rfl, .bl b, H', I3, rfl, q4⟩
    | next => exact False.elim hq
    | brk => exact False.elim hq
    | cont => exact False.elim hq
end
end EB

/-! t[::-1] of a tuple -/
namespace EBR
open PySem PySem.Spec PyProof.Rows L2
section
variable {prog : Program} {w : World} {A : Around} {E : Value → Shared → Prop} {s : Shared}
theorem applied_rev {sl : Addr} {vl vu vs : Value} {n : Nat} {Q : Int × Int × Nat → Shared → Prop} (hs : s.heap.IsSliceOf sl vl vu vs) (pl : IsPart vl none) (pu : IsPart vu none) (ps : IsPart vs (some (-1)))
    (h : Q ((n : Int) - 1, -1, n) s) : wpAny (model prog w) A (Builtin.Slice.sliceApplied (.ref sl) (pure (n : Int))) Q E s := by
  obtain ⟨os, hos, hcs, hds⟩ := id hs
  unfold Builtin.Slice.sliceApplied Builtin.Slice.sliceFields
  refine wpAny_bind (wpAny_bind (wpAny_field hos hds (x := vl) rfl (wpAny_bind (wpAny_field hos hds (x := vu) rfl (wpAny_bind (wpAny_field hos hds (x := vs) rfl (wpAny_pure ?_)))))))
  refine wpAny_bind (HT.slicePart_ ps ?_)
  show wpAny _ _ (if ((-1 : Int) == 0) = true then _ else _) _ _ s
  rw [if_neg (by decide)]
  refine wpAny_bind (HT.slicePart_ pl (wpAny_bind (HT.slicePart_ pu (wpAny_bind (wpAny_pure ?_)))))
  show wpAny _ _ (match Builtin.Slice.sliceAdjust none none (-1) (n : Int) with | (lo, hi) => pure (lo, (-1 : Int), Builtin.Slice.slicePlaces lo hi (-1))) _ _ s
  have ea : Builtin.Slice.sliceAdjust none none (-1) (n : Int) = ((n : Int) - 1, -1) := rfl
  have ep : Builtin.Slice.slicePlaces ((n : Int) - 1) (-1) (-1) = n := by
    unfold Builtin.Slice.slicePlaces
    rw [if_neg (by decide), Int.neg_neg, Int.ediv_one]
    split <;> omega
  rw [ea]
  show wpAny _ _ (pure ((n : Int) - 1, (-1 : Int), Builtin.Slice.slicePlaces ((n : Int) - 1) (-1) (-1))) _ _ s
  rw [ep]
  exact wpAny_pure h
theorem pick_rev (xs : Array Value) : ((List.range xs.size).filterMap fun (m : Nat) => xs[((xs.size : Int) - 1 + (m : Int) * -1).toNat]?).toArray = xs.toList.reverse.toArray := by
  have h1 := PySem.W.krv_all xs
  have h2 := PySem.W.krv_range xs.size
  have cong : ∀ (l : List Nat), (∀ m ∈ l, m < xs.size) → (l.filterMap fun (m : Nat) => xs[((xs.size : Int) - 1 + (m : Int) * -1).toNat]?) = l.filterMap ((xs[·]?) ∘ fun k => xs.size - 1 - k) := by
    intro l
    induction l with
    | nil => intro _; rfl
    | cons m l ih =>
      intro hl
      have hm := hl m (List.mem_cons_self ..)
      have e0 : ((xs.size : Int) - 1 + (m : Int) * -1).toNat = xs.size - 1 - m := by omega
      rw [List.filterMap_cons, List.filterMap_cons, ih fun k hk => hl k (List.mem_cons_of_mem _ hk)]
      rw [e0]
      rfl
  have e : ((List.range xs.size).filterMap fun (m : Nat) => xs[((xs.size : Int) - 1 + (m : Int) * -1).toNat]?) = ((List.range xs.size).map fun k => xs.size - 1 - k).filterMap (xs[·]?) := by
    rw [List.filterMap_map]
    exact cong _ fun m hm => List.mem_range.mp hm
  rw [e, h2, List.filterMap_reverse, h1]
theorem getItem_rev {t sl : Addr} {items : Array Value} {vl vu vs : Value} {Q : Value → Shared → Prop} (ht : IsTup s.heap t items) (hs : s.heap.IsSliceOf sl vl vu vs) (pl : IsPart vl none) (pu : IsPart vu none) (ps : IsPart vs (some (-1)))
    (h : Q (.ref s.heap.objs.size) { s with heap := s.heap.push { cls := .type "tuple", data := .seq items.toList.reverse.toArray } }) (hsz : items.size ≤ sizeLine) : wpAny (model prog w) A (getItem (.ref t) (.ref sl)) Q E s := by
  have hok : sizeOk (.seq items.toList.reverse.toArray) := by
    show items.toList.reverse.toArray.size ≤ sizeLine
    rw [List.size_toArray, List.length_reverse, Array.length_toList]
    exact hsz
  obtain ⟨os, hos, hcs, hds⟩ := id hs
  have hTs : s.TypeIs (.ref sl) "slice" := ⟨os, hos, hcs⟩
  unfold getItem
  try with_reducible refine wpAny_holding ?_
  first | refine wpAny_bind (wpAny_pure ?_) | skip
  refine wpAny_bind (wpAny_sequenceKey ht.typeIs (by decide) ?_)
  refine wpAny_bind (wpAny_callSpecial?_slot (name := Str.ofString "__getitem__") ht.typeIs PyProof.Rows.slot_tuple_getitem
    (wpAny_call_entry PyProof.Rows.slot_tuple_getitem ht.typeIs entry_tuple_getitem ?_ (args_tuple_getitem _ _)))
  show wpAny _ _ (Builtin.Tuple.tupleItemsOf (.ref t) >>= _) _ _ s
  refine wpAny_bind (tupleItemsOf_ ht ?_)
  refine wpAny_bind (wpAny_typeOf hTs ?_)
  rw [if_pos (by decide)]
  refine wpAny_bind (applied_rev hs pl pu ps ?_)
  have hno : ¬ ((((items.size : Int) - 1) == 0 && (-1 : Int) == 1 && items.size == items.size) = true) := by
    intro q
    rw [Bool.and_eq_true, Bool.and_eq_true] at q
    exact absurd q.1.2 (by decide)
  show wpAny _ _ (if (((items.size : Int) - 1) == 0 && (-1 : Int) == 1 && items.size == items.size) = true then _ else _) _ _ s
  rw [if_neg hno, pick_rev]
  first
    | exact wpAny_bind (m := Builtin.Tuple.tupleExact _) (wpAny_newObj_type (wpAny_pure ⟨_, rfl, wpAny_pure h⟩) hok)
    | exact wpAny_bind (m := Builtin.Tuple.tupleExact _) (wpAny_newObj_type (wpAny_bind (wpAny_pure (wpAny_pure ⟨_, rfl, wpAny_pure h⟩))) hok)
    | exact wpAny_bind (wpAny_bind (m := Builtin.Tuple.tupleExact _) (wpAny_newObj_type (wpAny_pure (wpAny_pure ⟨_, rfl, wpAny_pure h⟩)) hok))
    | exact wpAny_bind (wpAny_bind (m := Builtin.Tuple.tupleExact _) (wpAny_newObj_type (wpAny_pure ⟨_, rfl, wpAny_pure h⟩) hok))
end
end EBR
namespace EB
open PySem PySem.Spec PyProof.Rows L2
def tRevT (K : PySem.W.Frag) (te : TE) : TE := fun σ H Q => te σ H fun x H1 => ∃ a xs, x = .ref a ∧ SqT K H1 a xs ∧ ∀ p, H1 p = none → Q (.ref p) (upd H1 p (.tup xs.reverse))
theorem pe_revT {X : Cx} {e : Expr} {te : TE} {k : Nat} {p1 p2 p3 pos : Pos} (he : PE X e te) : PE X (.Subscript e (.Slice none none (some (.UnaryOp .USub (.Constant (.int 1) k p1) p2)) p3) pos) (tRevT X.K te) := by
  refine ⟨fun pins s σ H Q I h => ?_⟩
  refine Subscript_ (thn (he.run pins s σ H _ I h) fun v s1 ⟨x, H1, I1, r1, q1⟩ => ?_)
  obtain ⟨a, xs, ex, hx, q⟩ := q1
  subst ex
  cases r1
  have hst : PO X (some (.UnaryOp .USub (.Constant (.int 1) k p1) p2)) (tPart (tUn (rU fun i => .int (-i)) (tC (.int 1)))) := po_some (pe_un un_neg pe_int)
  refine wpAny_Slice (thn (po_none.run pins s1 σ H1 (fun o H2 => o = none ∧ H2 = H1) I1 ⟨rfl, rfl⟩) fun vl s2 ⟨l, H2, I2, pl, el, e2⟩ => ?_)
  subst el e2
  refine thn (po_none.run pins s2 σ H2 (fun o H3 => o = none ∧ H3 = H2) I2 ⟨rfl, rfl⟩) fun vu s3 ⟨u, H3, I3, pu, eu, e3⟩ => ?_
  subst eu e3
  refine thn (hst.run pins s3 σ H3 (fun o H4 => o = some (-1) ∧ H4 = H3) I3 ⟨1, rfl, -1, rfl, rfl, rfl⟩) fun vs s4 ⟨o, H4, I4, ps, eo, e4⟩ => ?_
  subst eo e4
  have I5 : Inv X pins σ H4 { s4 with heap := s4.heap.push { cls := .type "slice", data := .fields #[vl, vu, vs] } } := I4.kept (t' := s4.toks) fun b ob q => Heap.get?_push_of_some _ q
  obtain ⟨its, r, ht, hz⟩ := I5.tuple hx
  have hlen := r.length
  show wpAny (model X.prog X.w) X.A (subscriptTail e (.Slice none none (some (.UnaryOp .USub (.Constant (.int 1) k p1) p2)) p3) (.ref a) (.ref s4.heap.objs.size)) (EP X pins σ Q) X.xe { s4 with heap := s4.heap.push { cls := .type "slice", data := .fields #[vl, vu, vs] } }
  refine tail_any (ops := [.ref a, .ref s4.heap.objs.size]) ht.typeIs (PyProof.Rows.slot_tuple_getitem.lookup) ?_ (by with_unfolding_all rfl)
  refine EBR.getItem_rev ht (Heap.IsSliceOf.new _ vl vu vs) pl pu ps ?_ (by rw [List.size_toArray]; omega)
  refine ⟨.ref _, _, I5.laid (t' := s4.toks) (o := .tup xs.reverse) (fun b ob q => Heap.get?_push_of_some _ q) (Nat.le_refl _) ?_, rfl, q _ (I5.hok.fresh (Nat.le_refl _))⟩
  exact ⟨by rw [List.length_reverse]; exact hz, _, r.reverse, IsTup.new _ _⟩
end EB


namespace EB
open PySem PySem.Spec PyProof.Rows L2
def top (i : Nat) : Stmt := PySem.Challenge.pw_emptiesback_k14_repeated_calls.main.body.getD i (.Pass ⟨0, 0, 0, 0⟩)
abbrev PX : Program := PySem.Challenge.pw_emptiesback_k14_repeated_calls
abbrev s_InvalidOffer_init : Stmt := inClass (top 4) 0
theorem sc_InvalidOffer_init : SupS "index" (defScope s_InvalidOffer_init) := ⟨rfl, rfl, rfl, rfl, rfl, rfl, rfl, by decide +kernel, by decide⟩
abbrev a_InvalidOffer_init (K : PySem.W.Frag) : Addr := He.ma K (He.ga K "InvalidOffer") "__init__"
def d_InvalidOffer_init : DD := ⟨a_InvalidOffer_init, "__init__", "InvalidOffer.__init__", s_InvalidOffer_init, [], true⟩
abbrev s_is_integer : Stmt := top 14
abbrev N_is_integer : List Str := ["value"]
theorem sc_is_integer : FnScope N_is_integer ["value"] (defScope s_is_integer) := ⟨rfl, rfl, rfl, by decide +kernel, rfl, by decide +kernel, by decide +kernel⟩
abbrev a_is_integer (K : PySem.W.Frag) : Addr := He.ga K "is_integer"
def d_is_integer : DD := ⟨a_is_integer, "is_integer", "is_integer", s_is_integer, [], false⟩
abbrev s_is_number : Stmt := top 15
abbrev N_is_number : List Str := ["value", "least", "most"]
theorem sc_is_number : FnScope N_is_number ["value", "least", "most"] (defScope s_is_number) := ⟨rfl, rfl, rfl, by decide +kernel, rfl, by decide +kernel, by decide +kernel⟩
abbrev a_is_number (K : PySem.W.Frag) : Addr := He.ga K "is_number"
def d_is_number : DD := ⟨a_is_number, "is_number", "is_number", s_is_number, [], false⟩
abbrev s_check_number : Stmt := top 16
abbrev N_check_number : List Str := ["value", "least", "most"]
theorem sc_check_number : FnScope N_check_number ["value", "least", "most"] (defScope s_check_number) := ⟨rfl, rfl, rfl, by decide +kernel, rfl, by decide +kernel, by decide +kernel⟩
abbrev a_check_number (K : PySem.W.Frag) : Addr := He.ga K "check_number"
def d_check_number : DD := ⟨a_check_number, "check_number", "check_number", s_check_number, [.int 0, .int 1000000000000000000], false⟩
abbrev s_is_label : Stmt := top 17
abbrev N_is_label : List Str := ["value", "letter"]
theorem sc_is_label : FnScope N_is_label ["value"] (defScope s_is_label) := ⟨rfl, rfl, rfl, by decide +kernel, rfl, by decide +kernel, by decide +kernel⟩
abbrev a_is_label (K : PySem.W.Frag) : Addr := He.ga K "is_label"
def d_is_label : DD := ⟨a_is_label, "is_label", "is_label", s_is_label, [], false⟩
abbrev s_is_kind : Stmt := top 18
abbrev N_is_kind : List Str := ["value"]
theorem sc_is_kind : FnScope N_is_kind ["value"] (defScope s_is_kind) := ⟨rfl, rfl, rfl, by decide +kernel, rfl, by decide +kernel, by decide +kernel⟩
abbrev a_is_kind (K : PySem.W.Frag) : Addr := He.ga K "is_kind"
def d_is_kind : DD := ⟨a_is_kind, "is_kind", "is_kind", s_is_kind, [], false⟩
abbrev s_cost_of : Stmt := top 20
abbrev N_cost_of : List Str := ["trades", "drinks", "_", "left", "needed"]
theorem sc_cost_of : FnScope N_cost_of ["trades", "drinks"] (defScope s_cost_of) := ⟨rfl, rfl, rfl, by decide +kernel, rfl, by decide +kernel, by decide +kernel⟩
abbrev a_cost_of (K : PySem.W.Frag) : Addr := He.ga K "cost_of"
def d_cost_of : DD := ⟨a_cost_of, "cost_of", "cost_of", s_cost_of, [], false⟩
abbrev s_drinks_of_period : Stmt := top 21
abbrev N_drinks_of_period : List Str := ["trades", "drinks", "_", "left", "needed"]
theorem sc_drinks_of_period : FnScope N_drinks_of_period ["trades"] (defScope s_drinks_of_period) := ⟨rfl, rfl, rfl, by decide +kernel, rfl, by decide +kernel, by decide +kernel⟩
abbrev a_drinks_of_period (K : PySem.W.Frag) : Addr := He.ga K "drinks_of_period"
def d_drinks_of_period : DD := ⟨a_drinks_of_period, "drinks_of_period", "drinks_of_period", s_drinks_of_period, [], false⟩
abbrev s_tops_of : Stmt := top 22
abbrev N_tops_of : List Str := ["costs", "tops", "top", "cost"]
theorem sc_tops_of : FnScope N_tops_of ["costs"] (defScope s_tops_of) := ⟨rfl, rfl, rfl, by decide +kernel, rfl, by decide +kernel, by decide +kernel⟩
abbrev a_tops_of (K : PySem.W.Frag) : Addr := He.ga K "tops_of"
def d_tops_of : DD := ⟨a_tops_of, "tops_of", "tops_of", s_tops_of, [], false⟩
abbrev s_firsts_of : Stmt := top 23
abbrev N_firsts_of : List Str := ["tops", "firsts", "drinks", "top"]
theorem sc_firsts_of : FnScope N_firsts_of ["tops"] (defScope s_firsts_of) := ⟨rfl, rfl, rfl, by decide +kernel, rfl, by decide +kernel, by decide +kernel⟩
abbrev a_firsts_of (K : PySem.W.Frag) : Addr := He.ga K "firsts_of"
def d_firsts_of : DD := ⟨a_firsts_of, "firsts_of", "firsts_of", s_firsts_of, [], false⟩
abbrev s_gaps_of : Stmt := top 24
abbrev N_gaps_of : List Str := ["tops", "firsts", "drinks", "top"]
theorem sc_gaps_of : FnScope N_gaps_of ["tops", "firsts"] (defScope s_gaps_of) := ⟨rfl, rfl, rfl, by decide +kernel, rfl, by decide +kernel, by decide +kernel⟩
abbrev a_gaps_of (K : PySem.W.Frag) : Addr := He.ga K "gaps_of"
def d_gaps_of : DD := ⟨a_gaps_of, "gaps_of", "gaps_of", s_gaps_of, [], false⟩
abbrev s_value_at : Stmt := top 25
abbrev N_value_at : List Str := ["table", "at", "span", "rise", "turns"]
theorem sc_value_at : FnScope N_value_at ["table", "at", "span", "rise"] (defScope s_value_at) := ⟨rfl, rfl, rfl, by decide +kernel, rfl, by decide +kernel, by decide +kernel⟩
abbrev a_value_at (K : PySem.W.Frag) : Addr := He.ga K "value_at"
def d_value_at : DD := ⟨a_value_at, "value_at", "value_at", s_value_at, [], false⟩
abbrev s_is_trade : Stmt := top 29
abbrev N_is_trade : List Str := ["kind", "left", "needed"]
theorem sc_is_trade : FnScope N_is_trade ["kind", "left", "needed"] (defScope s_is_trade) := ⟨rfl, rfl, rfl, by decide +kernel, rfl, by decide +kernel, by decide +kernel⟩
abbrev a_is_trade (K : PySem.W.Frag) : Addr := He.ga K "_is_trade"
def d_is_trade : DD := ⟨a_is_trade, "_is_trade", "_is_trade", s_is_trade, [], false⟩
abbrev s_check_trades : Stmt := top 30
abbrev N_check_trades : List Str := ["trades", "kinds", "index", "kind", "left", "needed"]
theorem sc_check_trades : FnScope N_check_trades ["trades"] (defScope s_check_trades) := ⟨rfl, rfl, rfl, by decide +kernel, rfl, by decide +kernel, by decide +kernel⟩
abbrev a_check_trades (K : PySem.W.Frag) : Addr := He.ga K "_check_trades"
def d_check_trades : DD := ⟨a_check_trades, "_check_trades", "_check_trades", s_check_trades, [], false⟩
abbrev s_check_generosity : Stmt := top 31
abbrev N_check_generosity : List Str := ["trades", "whole", "_", "needed", "parts", "left"]
theorem sc_check_generosity : FnScope N_check_generosity ["trades"] (defScope s_check_generosity) := ⟨rfl, rfl, rfl, by decide +kernel, rfl, by decide +kernel, by decide +kernel⟩
abbrev a_check_generosity (K : PySem.W.Frag) : Addr := He.ga K "_check_generosity"
def d_check_generosity : DD := ⟨a_check_generosity, "_check_generosity", "_check_generosity", s_check_generosity, [], false⟩
abbrev s_Offer_init : Stmt := inClass (top 32) 2
abbrev N_Offer_init : List Str := ["self", "trades", "drinks", "kind", "left", "needed", "count"]
theorem sc_Offer_init : FnScope N_Offer_init ["self", "trades"] (defScope s_Offer_init) := ⟨rfl, rfl, rfl, by decide +kernel, rfl, by decide +kernel, by decide +kernel⟩
abbrev a_Offer_init (K : PySem.W.Frag) : Addr := He.ma K (He.ga K "Offer") "__init__"
def d_Offer_init : DD := ⟨a_Offer_init, "__init__", "Offer.__init__", s_Offer_init, [], false⟩
abbrev s_Offer_trades : Stmt := inClass (top 32) 4
abbrev N_Offer_trades : List Str := ["self"]
theorem sc_Offer_trades : FnScope N_Offer_trades ["self"] (defScope s_Offer_trades) := ⟨rfl, rfl, rfl, by decide +kernel, rfl, by decide +kernel, by decide +kernel⟩
abbrev a_Offer_trades (K : PySem.W.Frag) : Addr := propG K (He.ga K "Offer") (He.ma K (He.ga K "Offer") "trades")
def d_Offer_trades : DD := ⟨a_Offer_trades, "trades", "Offer.trades", s_Offer_trades, [], false⟩
abbrev s_Offer_kinds : Stmt := inClass (top 32) 5
abbrev N_Offer_kinds : List Str := ["self", "kind", "_"]
theorem sc_Offer_kinds : FnScope N_Offer_kinds ["self"] (defScope s_Offer_kinds) := ⟨rfl, rfl, rfl, by decide +kernel, rfl, by decide +kernel, by decide +kernel⟩
abbrev a_Offer_kinds (K : PySem.W.Frag) : Addr := propG K (He.ga K "Offer") (He.ma K (He.ga K "Offer") "kinds")
def d_Offer_kinds : DD := ⟨a_Offer_kinds, "kinds", "Offer.kinds", s_Offer_kinds, [], false⟩
abbrev s_Offer_period : Stmt := inClass (top 32) 6
abbrev N_Offer_period : List Str := ["self"]
theorem sc_Offer_period : FnScope N_Offer_period ["self"] (defScope s_Offer_period) := ⟨rfl, rfl, rfl, by decide +kernel, rfl, by decide +kernel, by decide +kernel⟩
abbrev a_Offer_period (K : PySem.W.Frag) : Addr := propG K (He.ga K "Offer") (He.ma K (He.ga K "Offer") "period")
def d_Offer_period : DD := ⟨a_Offer_period, "period", "Offer.period", s_Offer_period, [], false⟩
abbrev s_Offer_steady_from : Stmt := inClass (top 32) 7
abbrev N_Offer_steady_from : List Str := ["self", "bottles", "drinks"]
theorem sc_Offer_steady_from : FnScope N_Offer_steady_from ["self"] (defScope s_Offer_steady_from) := ⟨rfl, rfl, rfl, by decide +kernel, rfl, by decide +kernel, by decide +kernel⟩
abbrev a_Offer_steady_from (K : PySem.W.Frag) : Addr := propG K (He.ga K "Offer") (He.ma K (He.ga K "Offer") "steady_from")
def d_Offer_steady_from : DD := ⟨a_Offer_steady_from, "steady_from", "Offer.steady_from", s_Offer_steady_from, [], false⟩
abbrev s_Offer_drinks_for : Stmt := inClass (top 32) 8
abbrev N_Offer_drinks_for : List Str := ["self", "bottles", "span", "rise"]
theorem sc_Offer_drinks_for : FnScope N_Offer_drinks_for ["self", "bottles"] (defScope s_Offer_drinks_for) := ⟨rfl, rfl, rfl, by decide +kernel, rfl, by decide +kernel, by decide +kernel⟩
abbrev a_Offer_drinks_for (K : PySem.W.Frag) : Addr := He.ma K (He.ga K "Offer") "_drinks_for"
def d_Offer_drinks_for : DD := ⟨a_Offer_drinks_for, "_drinks_for", "Offer._drinks_for", s_Offer_drinks_for, [], false⟩
abbrev s_Offer_most_within : Stmt := inClass (top 32) 9
abbrev N_Offer_most_within : List Str := ["self", "drinks", "rise", "span"]
theorem sc_Offer_most_within : FnScope N_Offer_most_within ["self", "drinks"] (defScope s_Offer_most_within) := ⟨rfl, rfl, rfl, by decide +kernel, rfl, by decide +kernel, by decide +kernel⟩
abbrev a_Offer_most_within (K : PySem.W.Frag) : Addr := He.ma K (He.ga K "Offer") "_most_within"
def d_Offer_most_within : DD := ⟨a_Offer_most_within, "_most_within", "Offer._most_within", s_Offer_most_within, [], false⟩
abbrev s_Offer_call : Stmt := inClass (top 32) 10
abbrev N_Offer_call : List Str := ["self", "bottles"]
theorem sc_Offer_call : FnScope N_Offer_call ["self", "bottles"] (defScope s_Offer_call) := ⟨rfl, rfl, rfl, by decide +kernel, rfl, by decide +kernel, by decide +kernel⟩
abbrev a_Offer_call (K : PySem.W.Frag) : Addr := He.ma K (He.ga K "Offer") "__call__"
def d_Offer_call : DD := ⟨a_Offer_call, "__call__", "Offer.__call__", s_Offer_call, [], false⟩
abbrev s_Offer_trades_made : Stmt := inClass (top 32) 11
abbrev N_Offer_trades_made : List Str := ["self", "bottles", "drinks", "kind", "left", "needed"]
theorem sc_Offer_trades_made : FnScope N_Offer_trades_made ["self", "bottles"] (defScope s_Offer_trades_made) := ⟨rfl, rfl, rfl, by decide +kernel, rfl, by decide +kernel, by decide +kernel⟩
abbrev a_Offer_trades_made (K : PySem.W.Frag) : Addr := He.ma K (He.ga K "Offer") "trades_made"
def d_Offer_trades_made : DD := ⟨a_Offer_trades_made, "trades_made", "Offer.trades_made", s_Offer_trades_made, [], false⟩
abbrev s_Offer_left_over : Stmt := inClass (top 32) 12
abbrev N_Offer_left_over : List Str := ["self", "bottles", "drinks", "kind", "left", "needed"]
theorem sc_Offer_left_over : FnScope N_Offer_left_over ["self", "bottles"] (defScope s_Offer_left_over) := ⟨rfl, rfl, rfl, by decide +kernel, rfl, by decide +kernel, by decide +kernel⟩
abbrev a_Offer_left_over (K : PySem.W.Frag) : Addr := He.ma K (He.ga K "Offer") "left_over"
def d_Offer_left_over : DD := ⟨a_Offer_left_over, "left_over", "Offer.left_over", s_Offer_left_over, [], false⟩
abbrev s_Offer_rounds : Stmt := inClass (top 32) 13
abbrev N_Offer_rounds : List Str := ["self", "bottles", "drunk", "full"]
theorem sc_Offer_rounds : GScope N_Offer_rounds ["self", "bottles"] (defScope s_Offer_rounds) := ⟨rfl, rfl, rfl, by decide +kernel, rfl, by decide +kernel, by decide +kernel⟩
abbrev a_Offer_rounds (K : PySem.W.Frag) : Addr := He.ma K (He.ga K "Offer") "rounds"
def d_Offer_rounds : DD := ⟨a_Offer_rounds, "rounds", "Offer.rounds", s_Offer_rounds, [], false⟩
abbrev s_Offer_credit : Stmt := inClass (top 32) 14
abbrev N_Offer_credit : List Str := ["self", "bottles", "period_bottles", "period_drinks", "turns", "rest", "drinks"]
theorem sc_Offer_credit : FnScope N_Offer_credit ["self", "bottles"] (defScope s_Offer_credit) := ⟨rfl, rfl, rfl, by decide +kernel, rfl, by decide +kernel, by decide +kernel⟩
abbrev a_Offer_credit (K : PySem.W.Frag) : Addr := He.ma K (He.ga K "Offer") "credit"
def d_Offer_credit : DD := ⟨a_Offer_credit, "credit", "Offer.credit", s_Offer_credit, [], false⟩
abbrev s_Offer_fewest_bottles : Stmt := inClass (top 32) 15
abbrev N_Offer_fewest_bottles : List Str := ["self", "drinks"]
theorem sc_Offer_fewest_bottles : FnScope N_Offer_fewest_bottles ["self", "drinks"] (defScope s_Offer_fewest_bottles) := ⟨rfl, rfl, rfl, by decide +kernel, rfl, by decide +kernel, by decide +kernel⟩
abbrev a_Offer_fewest_bottles (K : PySem.W.Frag) : Addr := He.ma K (He.ga K "Offer") "fewest_bottles"
def d_Offer_fewest_bottles : DD := ⟨a_Offer_fewest_bottles, "fewest_bottles", "Offer.fewest_bottles", s_Offer_fewest_bottles, [], false⟩
abbrev s_Offer_missing : Stmt := inClass (top 32) 16
abbrev N_Offer_missing : List Str := ["self", "first", "last", "drinks"]
theorem sc_Offer_missing : GScope N_Offer_missing ["self", "first", "last"] (defScope s_Offer_missing) := ⟨rfl, rfl, rfl, by decide +kernel, rfl, by decide +kernel, by decide +kernel⟩
abbrev a_Offer_missing (K : PySem.W.Frag) : Addr := He.ma K (He.ga K "Offer") "missing"
def d_Offer_missing : DD := ⟨a_Offer_missing, "missing", "Offer.missing", s_Offer_missing, [], false⟩
abbrev s_Offer_count_missing : Stmt := inClass (top 32) 17
abbrev N_Offer_count_missing : List Str := ["self", "last"]
theorem sc_Offer_count_missing : FnScope N_Offer_count_missing ["self", "last"] (defScope s_Offer_count_missing) := ⟨rfl, rfl, rfl, by decide +kernel, rfl, by decide +kernel, by decide +kernel⟩
abbrev a_Offer_count_missing (K : PySem.W.Frag) : Addr := He.ma K (He.ga K "Offer") "count_missing"
def d_Offer_count_missing : DD := ⟨a_Offer_count_missing, "count_missing", "Offer.count_missing", s_Offer_count_missing, [], false⟩
abbrev s_Offer_nth_missing : Stmt := inClass (top 32) 18
abbrev N_Offer_nth_missing : List Str := ["self", "number", "bottles", "drinks"]
theorem sc_Offer_nth_missing : FnScope N_Offer_nth_missing ["self", "number"] (defScope s_Offer_nth_missing) := ⟨rfl, rfl, rfl, by decide +kernel, rfl, by decide +kernel, by decide +kernel⟩
abbrev a_Offer_nth_missing (K : PySem.W.Frag) : Addr := He.ma K (He.ga K "Offer") "nth_missing"
def d_Offer_nth_missing : DD := ⟨a_Offer_nth_missing, "nth_missing", "Offer.nth_missing", s_Offer_nth_missing, [], false⟩
abbrev s_Offer_pooled : Stmt := inClass (top 32) 19
abbrev N_Offer_pooled : List Str := ["self", "counts", "bottles"]
theorem sc_Offer_pooled : FnScope N_Offer_pooled ["self", "counts"] (defScope s_Offer_pooled) := ⟨rfl, rfl, rfl, by decide +kernel, rfl, by decide +kernel, by decide +kernel⟩
abbrev a_Offer_pooled (K : PySem.W.Frag) : Addr := He.ma K (He.ga K "Offer") "pooled"
def d_Offer_pooled : DD := ⟨a_Offer_pooled, "pooled", "Offer.pooled", s_Offer_pooled, [], false⟩
abbrev s_Offer_add : Stmt := inClass (top 32) 20
abbrev N_Offer_add : List Str := ["self", "other", "trades"]
theorem sc_Offer_add : FnScope N_Offer_add ["self", "other"] (defScope s_Offer_add) := ⟨rfl, rfl, rfl, by decide +kernel, rfl, by decide +kernel, by decide +kernel⟩
abbrev a_Offer_add (K : PySem.W.Frag) : Addr := He.ma K (He.ga K "Offer") "__add__"
def d_Offer_add : DD := ⟨a_Offer_add, "__add__", "Offer.__add__", s_Offer_add, [], false⟩
abbrev s_Offer_sub : Stmt := inClass (top 32) 21
abbrev N_Offer_sub : List Str := ["self", "other", "trades", "trade"]
theorem sc_Offer_sub : FnScope N_Offer_sub ["self", "other"] (defScope s_Offer_sub) := ⟨rfl, rfl, rfl, by decide +kernel, rfl, by decide +kernel, by decide +kernel⟩
abbrev a_Offer_sub (K : PySem.W.Frag) : Addr := He.ma K (He.ga K "Offer") "__sub__"
def d_Offer_sub : DD := ⟨a_Offer_sub, "__sub__", "Offer.__sub__", s_Offer_sub, [], false⟩
abbrev s_Offer_getitem : Stmt := inClass (top 32) 22
abbrev N_Offer_getitem : List Str := ["self", "at", "kind", "left", "needed"]
theorem sc_Offer_getitem : FnScope N_Offer_getitem ["self", "at"] (defScope s_Offer_getitem) := ⟨rfl, rfl, rfl, by decide +kernel, rfl, by decide +kernel, by decide +kernel⟩
abbrev a_Offer_getitem (K : PySem.W.Frag) : Addr := He.ma K (He.ga K "Offer") "__getitem__"
def d_Offer_getitem : DD := ⟨a_Offer_getitem, "__getitem__", "Offer.__getitem__", s_Offer_getitem, [], false⟩
abbrev s_Offer_iter : Stmt := inClass (top 32) 23
abbrev N_Offer_iter : List Str := ["self"]
theorem sc_Offer_iter : FnScope N_Offer_iter ["self"] (defScope s_Offer_iter) := ⟨rfl, rfl, rfl, by decide +kernel, rfl, by decide +kernel, by decide +kernel⟩
abbrev a_Offer_iter (K : PySem.W.Frag) : Addr := He.ma K (He.ga K "Offer") "__iter__"
def d_Offer_iter : DD := ⟨a_Offer_iter, "__iter__", "Offer.__iter__", s_Offer_iter, [], false⟩
abbrev s_Offer_bool : Stmt := inClass (top 32) 24
abbrev N_Offer_bool : List Str := ["self", "_", "left"]
theorem sc_Offer_bool : FnScope N_Offer_bool ["self"] (defScope s_Offer_bool) := ⟨rfl, rfl, rfl, by decide +kernel, rfl, by decide +kernel, by decide +kernel⟩
abbrev a_Offer_bool (K : PySem.W.Frag) : Addr := He.ma K (He.ga K "Offer") "__bool__"
def d_Offer_bool : DD := ⟨a_Offer_bool, "__bool__", "Offer.__bool__", s_Offer_bool, [], false⟩
abbrev s_Offer_contains : Stmt := inClass (top 32) 25
abbrev N_Offer_contains : List Str := ["self", "x"]
theorem sc_Offer_contains : FnScope N_Offer_contains ["self", "x"] (defScope s_Offer_contains) := ⟨rfl, rfl, rfl, by decide +kernel, rfl, by decide +kernel, by decide +kernel⟩
abbrev a_Offer_contains (K : PySem.W.Frag) : Addr := He.ma K (He.ga K "Offer") "__contains__"
def d_Offer_contains : DD := ⟨a_Offer_contains, "__contains__", "Offer.__contains__", s_Offer_contains, [], false⟩
abbrev s_Offer_le : Stmt := inClass (top 32) 26
abbrev N_Offer_le : List Str := ["self", "other"]
theorem sc_Offer_le : FnScope N_Offer_le ["self", "other"] (defScope s_Offer_le) := ⟨rfl, rfl, rfl, by decide +kernel, rfl, by decide +kernel, by decide +kernel⟩
abbrev a_Offer_le (K : PySem.W.Frag) : Addr := He.ma K (He.ga K "Offer") "__le__"
def d_Offer_le : DD := ⟨a_Offer_le, "__le__", "Offer.__le__", s_Offer_le, [], false⟩
abbrev s_Offer_lt : Stmt := inClass (top 32) 27
abbrev N_Offer_lt : List Str := ["self", "other"]
theorem sc_Offer_lt : FnScope N_Offer_lt ["self", "other"] (defScope s_Offer_lt) := ⟨rfl, rfl, rfl, by decide +kernel, rfl, by decide +kernel, by decide +kernel⟩
abbrev a_Offer_lt (K : PySem.W.Frag) : Addr := He.ma K (He.ga K "Offer") "__lt__"
def d_Offer_lt : DD := ⟨a_Offer_lt, "__lt__", "Offer.__lt__", s_Offer_lt, [], false⟩
abbrev s_Offer_ge : Stmt := inClass (top 32) 28
abbrev N_Offer_ge : List Str := ["self", "other"]
theorem sc_Offer_ge : FnScope N_Offer_ge ["self", "other"] (defScope s_Offer_ge) := ⟨rfl, rfl, rfl, by decide +kernel, rfl, by decide +kernel, by decide +kernel⟩
abbrev a_Offer_ge (K : PySem.W.Frag) : Addr := He.ma K (He.ga K "Offer") "__ge__"
def d_Offer_ge : DD := ⟨a_Offer_ge, "__ge__", "Offer.__ge__", s_Offer_ge, [], false⟩
abbrev s_Offer_gt : Stmt := inClass (top 32) 29
abbrev N_Offer_gt : List Str := ["self", "other"]
theorem sc_Offer_gt : FnScope N_Offer_gt ["self", "other"] (defScope s_Offer_gt) := ⟨rfl, rfl, rfl, by decide +kernel, rfl, by decide +kernel, by decide +kernel⟩
abbrev a_Offer_gt (K : PySem.W.Frag) : Addr := He.ma K (He.ga K "Offer") "__gt__"
def d_Offer_gt : DD := ⟨a_Offer_gt, "__gt__", "Offer.__gt__", s_Offer_gt, [], false⟩
abbrev s_slack : Stmt := top 33
abbrev N_slack : List Str := ["one", "other", "bottles"]
theorem sc_slack : FnScope N_slack ["one", "other", "bottles"] (defScope s_slack) := ⟨rfl, rfl, rfl, by decide +kernel, rfl, by decide +kernel, by decide +kernel⟩
abbrev a_slack (K : PySem.W.Frag) : Addr := He.ga K "_slack"
def d_slack : DD := ⟨a_slack, "_slack", "_slack", s_slack, [], false⟩
abbrev s_repetition : Stmt := top 34
abbrev N_repetition : List Str := ["one", "other", "one_bottles", "one_drinks", "other_bottles", "other_drinks", "drinks", "span", "fall"]
theorem sc_repetition : FnScope N_repetition ["one", "other"] (defScope s_repetition) := ⟨rfl, rfl, rfl, by decide +kernel, rfl, by decide +kernel, by decide +kernel⟩
abbrev a_repetition (K : PySem.W.Frag) : Addr := He.ga K "_repetition"
def d_repetition : DD := ⟨a_repetition, "_repetition", "_repetition", s_repetition, [], false⟩
abbrev s_never_more : Stmt := top 35
abbrev N_never_more : List Str := ["one", "other", "start", "span", "fall", "bottles"]
theorem sc_never_more : FnScope N_never_more ["one", "other"] (defScope s_never_more) := ⟨rfl, rfl, rfl, by decide +kernel, rfl, by decide +kernel, by decide +kernel⟩
abbrev a_never_more (K : PySem.W.Frag) : Addr := He.ga K "_never_more"
def d_never_more : DD := ⟨a_never_more, "_never_more", "_never_more", s_never_more, [], false⟩
abbrev s_first_difference : Stmt := top 36
abbrev N_first_difference : List Str := ["one", "other", "start", "span", "fall", "bottles"]
theorem sc_first_difference : FnScope N_first_difference ["one", "other"] (defScope s_first_difference) := ⟨rfl, rfl, rfl, by decide +kernel, rfl, by decide +kernel, by decide +kernel⟩
abbrev a_first_difference (K : PySem.W.Frag) : Addr := He.ga K "first_difference"
def d_first_difference : DD := ⟨a_first_difference, "first_difference", "first_difference", s_first_difference, [], false⟩
abbrev s_Candidates_init : Stmt := inClass (top 38) 0
abbrev N_Candidates_init : List Str := ["self", "start", "early", "span", "offsets"]
theorem sc_Candidates_init : FnScope N_Candidates_init ["self", "start", "early", "span", "offsets"] (defScope s_Candidates_init) := ⟨rfl, rfl, rfl, by decide +kernel, rfl, by decide +kernel, by decide +kernel⟩
abbrev a_Candidates_init (K : PySem.W.Frag) : Addr := He.ma K (He.ga K "Candidates") "__init__"
def d_Candidates_init : DD := ⟨a_Candidates_init, "__init__", "Candidates.__init__", s_Candidates_init, [], false⟩
abbrev s_Candidates_narrowed : Stmt := inClass (top 38) 1
abbrev N_Candidates_narrowed : List Str := ["self", "fits", "span", "start", "early", "whole", "offsets", "number", "base", "offset"]
theorem sc_Candidates_narrowed : FnScope N_Candidates_narrowed ["self", "fits", "span"] (defScope s_Candidates_narrowed) := ⟨rfl, rfl, rfl, by decide +kernel, rfl, by decide +kernel, by decide +kernel⟩
abbrev a_Candidates_narrowed (K : PySem.W.Frag) : Addr := He.ma K (He.ga K "Candidates") "narrowed"
def d_Candidates_narrowed : DD := ⟨a_Candidates_narrowed, "narrowed", "Candidates.narrowed", s_Candidates_narrowed, [], false⟩
abbrev s_Candidates_many_within : Stmt := inClass (top 38) 2
abbrev N_Candidates_many_within : List Str := ["self", "last", "many", "turns", "rest", "number", "offset"]
theorem sc_Candidates_many_within : FnScope N_Candidates_many_within ["self", "last"] (defScope s_Candidates_many_within) := ⟨rfl, rfl, rfl, by decide +kernel, rfl, by decide +kernel, by decide +kernel⟩
abbrev a_Candidates_many_within (K : PySem.W.Frag) : Addr := He.ma K (He.ga K "Candidates") "many_within"
def d_Candidates_many_within : DD := ⟨a_Candidates_many_within, "many_within", "Candidates.many_within", s_Candidates_many_within, [], false⟩
abbrev s_Candidates_candidate : Stmt := inClass (top 38) 3
abbrev N_Candidates_candidate : List Str := ["self", "place", "turns", "rest"]
theorem sc_Candidates_candidate : FnScope N_Candidates_candidate ["self", "place"] (defScope s_Candidates_candidate) := ⟨rfl, rfl, rfl, by decide +kernel, rfl, by decide +kernel, by decide +kernel⟩
abbrev a_Candidates_candidate (K : PySem.W.Frag) : Addr := He.ma K (He.ga K "Candidates") "candidate"
def d_Candidates_candidate : DD := ⟨a_Candidates_candidate, "candidate", "Candidates.candidate", s_Candidates_candidate, [], false⟩
abbrev s_BottleObserver_init : Stmt := inClass (top 40) 0
abbrev N_BottleObserver_init : List Str := ["self", "offer", "start"]
theorem sc_BottleObserver_init : FnScope N_BottleObserver_init ["self", "offer"] (defScope s_BottleObserver_init) := ⟨rfl, rfl, rfl, by decide +kernel, rfl, by decide +kernel, by decide +kernel⟩
abbrev a_BottleObserver_init (K : PySem.W.Frag) : Addr := He.ma K (He.ga K "BottleObserver") "__init__"
def d_BottleObserver_init : DD := ⟨a_BottleObserver_init, "__init__", "BottleObserver.__init__", s_BottleObserver_init, [], false⟩
abbrev s_BottleObserver_records : Stmt := inClass (top 40) 1
abbrev N_BottleObserver_records : List Str := ["self"]
theorem sc_BottleObserver_records : FnScope N_BottleObserver_records ["self"] (defScope s_BottleObserver_records) := ⟨rfl, rfl, rfl, by decide +kernel, rfl, by decide +kernel, by decide +kernel⟩
abbrev a_BottleObserver_records (K : PySem.W.Frag) : Addr := propG K (He.ga K "BottleObserver") (He.ma K (He.ga K "BottleObserver") "records")
def d_BottleObserver_records : DD := ⟨a_BottleObserver_records, "records", "BottleObserver.records", s_BottleObserver_records, [], false⟩
abbrev s_BottleObserver_accept : Stmt := inClass (top 40) 2
abbrev N_BottleObserver_accept : List Str := ["self", "fits", "span", "record", "narrowed", "remaining"]
theorem sc_BottleObserver_accept : FnScope N_BottleObserver_accept ["self", "fits", "span", "record"] (defScope s_BottleObserver_accept) := ⟨rfl, rfl, rfl, by decide +kernel, rfl, by decide +kernel, by decide +kernel⟩
abbrev a_BottleObserver_accept (K : PySem.W.Frag) : Addr := He.ma K (He.ga K "BottleObserver") "_accept"
def d_BottleObserver_accept : DD := ⟨a_BottleObserver_accept, "_accept", "BottleObserver._accept", s_BottleObserver_accept, [], false⟩
abbrev s_BottleObserver_see_left : Stmt := inClass (top 40) 3
abbrev N_BottleObserver_see_left : List Str := ["self", "kind", "count", "offer", "span", "seen", "fits", "bottles"]
theorem sc_BottleObserver_see_left : FnScope N_BottleObserver_see_left ["self", "kind", "count"] (defScope s_BottleObserver_see_left) := ⟨rfl, rfl, rfl, by decide +kernel, rfl, by decide +kernel, by decide +kernel⟩
abbrev a_BottleObserver_see_left (K : PySem.W.Frag) : Addr := He.ma K (He.ga K "BottleObserver") "see_left"
def d_BottleObserver_see_left : DD := ⟨a_BottleObserver_see_left, "see_left", "BottleObserver.see_left", s_BottleObserver_see_left, [], false⟩
abbrev s_BottleObserver_nth_possible : Stmt := inClass (top 40) 6
abbrev N_BottleObserver_nth_possible : List Str := ["self", "number", "bottles"]
theorem sc_BottleObserver_nth_possible : FnScope N_BottleObserver_nth_possible ["self", "number"] (defScope s_BottleObserver_nth_possible) := ⟨rfl, rfl, rfl, by decide +kernel, rfl, by decide +kernel, by decide +kernel⟩
abbrev a_BottleObserver_nth_possible (K : PySem.W.Frag) : Addr := He.ma K (He.ga K "BottleObserver") "nth_possible"
def d_BottleObserver_nth_possible : DD := ⟨a_BottleObserver_nth_possible, "nth_possible", "BottleObserver.nth_possible", s_BottleObserver_nth_possible, [], false⟩
abbrev s_is_possible : Stmt := top 42
abbrev N_is_possible : List Str := ["offer", "bottles", "pieces", "step", "word", "count"]
theorem sc_is_possible : FnScope N_is_possible ["offer", "bottles", "pieces", "step"] (defScope s_is_possible) := ⟨rfl, rfl, rfl, by decide +kernel, rfl, by decide +kernel, by decide +kernel⟩
abbrev a_is_possible (K : PySem.W.Frag) : Addr := He.ga K "_is_possible"
def d_is_possible : DD := ⟨a_is_possible, "_is_possible", "_is_possible", s_is_possible, [], false⟩
abbrev s_play : Stmt := top 43
abbrev N_play : List Str := ["offer", "bottles", "steps", "drinks", "kind", "pieces", "index", "word", "count", "left", "_"]
theorem sc_play : FnScope N_play ["offer", "bottles", "steps"] (defScope s_play) := ⟨rfl, rfl, rfl, by decide +kernel, rfl, by decide +kernel, by decide +kernel⟩
abbrev a_play (K : PySem.W.Frag) : Addr := He.ga K "play"
def d_play : DD := ⟨a_play, "play", "play", s_play, [], false⟩
abbrev s_greedy_steps : Stmt := top 44
abbrev N_greedy_steps : List Str := ["offer", "bottles", "steps", "kind", "pieces", "drunk", "left", "needed", "count"]
theorem sc_greedy_steps : FnScope N_greedy_steps ["offer", "bottles"] (defScope s_greedy_steps) := ⟨rfl, rfl, rfl, by decide +kernel, rfl, by decide +kernel, by decide +kernel⟩
abbrev a_greedy_steps (K : PySem.W.Frag) : Addr := He.ga K "greedy_steps"
def d_greedy_steps : DD := ⟨a_greedy_steps, "greedy_steps", "greedy_steps", s_greedy_steps, [], false⟩
abbrev s_law_mix : Stmt := top 46
abbrev N_law_mix : List Str := ["_law_script", "_law_seed", "_law_mixed", "_law_cell"]
theorem sc_law_mix : FnScope N_law_mix ["_law_script", "_law_seed"] (defScope s_law_mix) := ⟨rfl, rfl, rfl, by decide +kernel, rfl, by decide +kernel, by decide +kernel⟩
abbrev a_law_mix (K : PySem.W.Frag) : Addr := He.ga K "_law_mix"
def d_law_mix : DD := ⟨a_law_mix, "_law_mix", "_law_mix", s_law_mix, [], false⟩
abbrev s_law_next : Stmt := top 47
abbrev N_law_next : List Str := ["_law_h", "_law_limit", "_law_cell"]
theorem sc_law_next : FnScope N_law_next ["_law_h", "_law_limit"] (defScope s_law_next) := ⟨rfl, rfl, rfl, by decide +kernel, rfl, by decide +kernel, by decide +kernel⟩
abbrev a_law_next (K : PySem.W.Frag) : Addr := He.ga K "_law_next"
def d_law_next : DD := ⟨a_law_next, "_law_next", "_law_next", s_law_next, [], false⟩
abbrev s_law_alike : Stmt := top 48
abbrev N_law_alike : List Str := ["_law_found", "_law_due", "_law_k"]
theorem sc_law_alike : FnScope N_law_alike ["_law_found", "_law_due"] (defScope s_law_alike) := ⟨rfl, rfl, rfl, by decide +kernel, rfl, by decide +kernel, by decide +kernel⟩
abbrev a_law_alike (K : PySem.W.Frag) : Addr := He.ga K "_law_alike"
def d_law_alike : DD := ⟨a_law_alike, "_law_alike", "_law_alike", s_law_alike, [], false⟩
abbrev s_law_trades : Stmt := top 49
abbrev N_law_trades : List Str := ["_law_h", "_law_most", "_law_largest", "_law_found", "_law_worth", "_law_kind", "_law_needed", "_law_left"]
theorem sc_law_trades : FnScope N_law_trades ["_law_h", "_law_most", "_law_largest"] (defScope s_law_trades) := ⟨rfl, rfl, rfl, by decide +kernel, rfl, by decide +kernel, by decide +kernel⟩
abbrev a_law_trades (K : PySem.W.Frag) : Addr := He.ga K "_law_trades"
def d_law_trades : DD := ⟨a_law_trades, "_law_trades", "_law_trades", s_law_trades, [], false⟩
abbrev s_law_offer : Stmt := top 50
abbrev N_law_offer : List Str := ["_law_trades_here"]
theorem sc_law_offer : FnScope N_law_offer ["_law_trades_here"] (defScope s_law_offer) := ⟨rfl, rfl, rfl, by decide +kernel, rfl, by decide +kernel, by decide +kernel⟩
abbrev a_law_offer (K : PySem.W.Frag) : Addr := He.ga K "_law_offer"
def d_law_offer : DD := ⟨a_law_offer, "_law_offer", "_law_offer", s_law_offer, [], false⟩
abbrev s_law_buys : Stmt := top 51
abbrev N_law_buys : List Str := ["_law_trades_here", "_law_drinks", "_law_kind", "_law_left", "_law_needed"]
theorem sc_law_buys : FnScope N_law_buys ["_law_trades_here", "_law_drinks"] (defScope s_law_buys) := ⟨rfl, rfl, rfl, by decide +kernel, rfl, by decide +kernel, by decide +kernel⟩
abbrev a_law_buys (K : PySem.W.Frag) : Addr := He.ga K "_law_buys"
def d_law_buys : DD := ⟨a_law_buys, "_law_buys", "_law_buys", s_law_buys, [], false⟩
abbrev s_law_all : Stmt := top 52
abbrev N_law_all : List Str := ["_law_offer_here", "_law_observer", "_law_far", "_law_found"]
theorem sc_law_all : FnScope N_law_all ["_law_offer_here", "_law_observer", "_law_far"] (defScope s_law_all) := ⟨rfl, rfl, rfl, by decide +kernel, rfl, by decide +kernel, by decide +kernel⟩
abbrev a_law_all (K : PySem.W.Frag) : Addr := He.ga K "_law_all"
def d_law_all : DD := ⟨a_law_all, "_law_all", "_law_all", s_law_all, [], false⟩
abbrev s_law : Stmt := top 53
abbrev N_law : List Str := ["_law_script", "_law_h", "_law_offer_here", "_law_far", "_law_observer", "_law_left", "_law_kept", "_law_turn", "_law_found", "_law_one"]
theorem sc_law : FnScope N_law ["_law_script"] (defScope s_law) := ⟨rfl, rfl, rfl, by decide +kernel, rfl, by decide +kernel, by decide +kernel⟩
abbrev a_law (K : PySem.W.Frag) : Addr := He.ga K "law"
def d_law : DD := ⟨a_law, "law", "law", s_law, [], false⟩
/-- what the top has left -/
structure Tx (K : PySem.W.Frag) (mg : Str → Option Value) where
  S_InvalidOffer_init : ∃ fd, SupF PX K mg "InvalidOffer.__init__" (defArgs s_InvalidOffer_init) (defBody s_InvalidOffer_init) (defScope s_InvalidOffer_init) (a_InvalidOffer_init K) fd (He.ga K "InvalidOffer") (codeA K (a_InvalidOffer_init K)) (cellA K (a_InvalidOffer_init K))
  fd_is_integer : FuncData
  F_is_integer : FnP K d_is_integer fd_is_integer
  g_is_integer : mg "is_integer" = some (.ref (a_is_integer K))
  fd_is_number : FuncData
  F_is_number : FnP K d_is_number fd_is_number
  g_is_number : mg "is_number" = some (.ref (a_is_number K))
  fd_check_number : FuncData
  F_check_number : FnP K d_check_number fd_check_number
  g_check_number : mg "check_number" = some (.ref (a_check_number K))
  fd_is_label : FuncData
  F_is_label : FnP K d_is_label fd_is_label
  g_is_label : mg "is_label" = some (.ref (a_is_label K))
  fd_is_kind : FuncData
  F_is_kind : FnP K d_is_kind fd_is_kind
  g_is_kind : mg "is_kind" = some (.ref (a_is_kind K))
  fd_cost_of : FuncData
  F_cost_of : FnP K d_cost_of fd_cost_of
  g_cost_of : mg "cost_of" = some (.ref (a_cost_of K))
  fd_drinks_of_period : FuncData
  F_drinks_of_period : FnP K d_drinks_of_period fd_drinks_of_period
  g_drinks_of_period : mg "drinks_of_period" = some (.ref (a_drinks_of_period K))
  fd_tops_of : FuncData
  F_tops_of : FnP K d_tops_of fd_tops_of
  g_tops_of : mg "tops_of" = some (.ref (a_tops_of K))
  fd_firsts_of : FuncData
  F_firsts_of : FnP K d_firsts_of fd_firsts_of
  g_firsts_of : mg "firsts_of" = some (.ref (a_firsts_of K))
  fd_gaps_of : FuncData
  F_gaps_of : FnP K d_gaps_of fd_gaps_of
  g_gaps_of : mg "gaps_of" = some (.ref (a_gaps_of K))
  fd_value_at : FuncData
  F_value_at : FnP K d_value_at fd_value_at
  g_value_at : mg "value_at" = some (.ref (a_value_at K))
  fd_is_trade : FuncData
  F_is_trade : FnP K d_is_trade fd_is_trade
  g_is_trade : mg "_is_trade" = some (.ref (a_is_trade K))
  fd_check_trades : FuncData
  F_check_trades : FnP K d_check_trades fd_check_trades
  g_check_trades : mg "_check_trades" = some (.ref (a_check_trades K))
  fd_check_generosity : FuncData
  F_check_generosity : FnP K d_check_generosity fd_check_generosity
  g_check_generosity : mg "_check_generosity" = some (.ref (a_check_generosity K))
  fd_Offer_init : FuncData
  F_Offer_init : FnP K d_Offer_init fd_Offer_init
  mk_Offer : Mk K (He.ga K "Offer") (a_Offer_init K)
  fd_Offer_trades : FuncData
  F_Offer_trades : FnP K d_Offer_trades fd_Offer_trades
  p_Offer_trades : PropOf K (He.ga K "Offer") "trades" (He.ma K (He.ga K "Offer") "trades") (a_Offer_trades K)
  fd_Offer_kinds : FuncData
  F_Offer_kinds : FnP K d_Offer_kinds fd_Offer_kinds
  p_Offer_kinds : PropOf K (He.ga K "Offer") "kinds" (He.ma K (He.ga K "Offer") "kinds") (a_Offer_kinds K)
  fd_Offer_period : FuncData
  F_Offer_period : FnP K d_Offer_period fd_Offer_period
  p_Offer_period : PropOf K (He.ga K "Offer") "period" (He.ma K (He.ga K "Offer") "period") (a_Offer_period K)
  fd_Offer_steady_from : FuncData
  F_Offer_steady_from : FnP K d_Offer_steady_from fd_Offer_steady_from
  p_Offer_steady_from : PropOf K (He.ga K "Offer") "steady_from" (He.ma K (He.ga K "Offer") "steady_from") (a_Offer_steady_from K)
  fd_Offer_drinks_for : FuncData
  F_Offer_drinks_for : FnP K d_Offer_drinks_for fd_Offer_drinks_for
  m_Offer_drinks_for : Meth K (He.ga K "Offer") "_drinks_for" (a_Offer_drinks_for K)
  fd_Offer_most_within : FuncData
  F_Offer_most_within : FnP K d_Offer_most_within fd_Offer_most_within
  m_Offer_most_within : Meth K (He.ga K "Offer") "_most_within" (a_Offer_most_within K)
  fd_Offer_call : FuncData
  F_Offer_call : FnP K d_Offer_call fd_Offer_call
  co_Offer : StX.CallO K (He.ga K "Offer") (a_Offer_call K)
  fd_Offer_trades_made : FuncData
  F_Offer_trades_made : FnP K d_Offer_trades_made fd_Offer_trades_made
  m_Offer_trades_made : Meth K (He.ga K "Offer") "trades_made" (a_Offer_trades_made K)
  fd_Offer_left_over : FuncData
  F_Offer_left_over : FnP K d_Offer_left_over fd_Offer_left_over
  m_Offer_left_over : Meth K (He.ga K "Offer") "left_over" (a_Offer_left_over K)
  fd_Offer_rounds : FuncData
  F_Offer_rounds : FnP K d_Offer_rounds fd_Offer_rounds
  m_Offer_rounds : Meth K (He.ga K "Offer") "rounds" (a_Offer_rounds K)
  fd_Offer_credit : FuncData
  F_Offer_credit : FnP K d_Offer_credit fd_Offer_credit
  m_Offer_credit : Meth K (He.ga K "Offer") "credit" (a_Offer_credit K)
  fd_Offer_fewest_bottles : FuncData
  F_Offer_fewest_bottles : FnP K d_Offer_fewest_bottles fd_Offer_fewest_bottles
  m_Offer_fewest_bottles : Meth K (He.ga K "Offer") "fewest_bottles" (a_Offer_fewest_bottles K)
  fd_Offer_missing : FuncData
  F_Offer_missing : FnP K d_Offer_missing fd_Offer_missing
  m_Offer_missing : Meth K (He.ga K "Offer") "missing" (a_Offer_missing K)
  fd_Offer_count_missing : FuncData
  F_Offer_count_missing : FnP K d_Offer_count_missing fd_Offer_count_missing
  m_Offer_count_missing : Meth K (He.ga K "Offer") "count_missing" (a_Offer_count_missing K)
  fd_Offer_nth_missing : FuncData
  F_Offer_nth_missing : FnP K d_Offer_nth_missing fd_Offer_nth_missing
  m_Offer_nth_missing : Meth K (He.ga K "Offer") "nth_missing" (a_Offer_nth_missing K)
  fd_Offer_pooled : FuncData
  F_Offer_pooled : FnP K d_Offer_pooled fd_Offer_pooled
  m_Offer_pooled : Meth K (He.ga K "Offer") "pooled" (a_Offer_pooled K)
  fd_Offer_add : FuncData
  F_Offer_add : FnP K d_Offer_add fd_Offer_add
  m_Offer_add : Meth K (He.ga K "Offer") "__add__" (a_Offer_add K)
  fd_Offer_sub : FuncData
  F_Offer_sub : FnP K d_Offer_sub fd_Offer_sub
  m_Offer_sub : Meth K (He.ga K "Offer") "__sub__" (a_Offer_sub K)
  fd_Offer_getitem : FuncData
  F_Offer_getitem : FnP K d_Offer_getitem fd_Offer_getitem
  m_Offer_getitem : Meth K (He.ga K "Offer") "__getitem__" (a_Offer_getitem K)
  fd_Offer_iter : FuncData
  F_Offer_iter : FnP K d_Offer_iter fd_Offer_iter
  m_Offer_iter : Meth K (He.ga K "Offer") "__iter__" (a_Offer_iter K)
  fd_Offer_bool : FuncData
  F_Offer_bool : FnP K d_Offer_bool fd_Offer_bool
  m_Offer_bool : Meth K (He.ga K "Offer") "__bool__" (a_Offer_bool K)
  fd_Offer_contains : FuncData
  F_Offer_contains : FnP K d_Offer_contains fd_Offer_contains
  m_Offer_contains : Meth K (He.ga K "Offer") "__contains__" (a_Offer_contains K)
  fd_Offer_le : FuncData
  F_Offer_le : FnP K d_Offer_le fd_Offer_le
  m_Offer_le : Meth K (He.ga K "Offer") "__le__" (a_Offer_le K)
  fd_Offer_lt : FuncData
  F_Offer_lt : FnP K d_Offer_lt fd_Offer_lt
  m_Offer_lt : Meth K (He.ga K "Offer") "__lt__" (a_Offer_lt K)
  fd_Offer_ge : FuncData
  F_Offer_ge : FnP K d_Offer_ge fd_Offer_ge
  m_Offer_ge : Meth K (He.ga K "Offer") "__ge__" (a_Offer_ge K)
  fd_Offer_gt : FuncData
  F_Offer_gt : FnP K d_Offer_gt fd_Offer_gt
  m_Offer_gt : Meth K (He.ga K "Offer") "__gt__" (a_Offer_gt K)
  fd_slack : FuncData
  F_slack : FnP K d_slack fd_slack
  g_slack : mg "_slack" = some (.ref (a_slack K))
  fd_repetition : FuncData
  F_repetition : FnP K d_repetition fd_repetition
  g_repetition : mg "_repetition" = some (.ref (a_repetition K))
  fd_never_more : FuncData
  F_never_more : FnP K d_never_more fd_never_more
  g_never_more : mg "_never_more" = some (.ref (a_never_more K))
  fd_first_difference : FuncData
  F_first_difference : FnP K d_first_difference fd_first_difference
  g_first_difference : mg "first_difference" = some (.ref (a_first_difference K))
  fd_Candidates_init : FuncData
  F_Candidates_init : FnP K d_Candidates_init fd_Candidates_init
  mk_Candidates : Mk K (He.ga K "Candidates") (a_Candidates_init K)
  fd_Candidates_narrowed : FuncData
  F_Candidates_narrowed : FnP K d_Candidates_narrowed fd_Candidates_narrowed
  m_Candidates_narrowed : Meth K (He.ga K "Candidates") "narrowed" (a_Candidates_narrowed K)
  fd_Candidates_many_within : FuncData
  F_Candidates_many_within : FnP K d_Candidates_many_within fd_Candidates_many_within
  m_Candidates_many_within : Meth K (He.ga K "Candidates") "many_within" (a_Candidates_many_within K)
  fd_Candidates_candidate : FuncData
  F_Candidates_candidate : FnP K d_Candidates_candidate fd_Candidates_candidate
  m_Candidates_candidate : Meth K (He.ga K "Candidates") "candidate" (a_Candidates_candidate K)
  fd_BottleObserver_init : FuncData
  F_BottleObserver_init : FnP K d_BottleObserver_init fd_BottleObserver_init
  mk_BottleObserver : Mk K (He.ga K "BottleObserver") (a_BottleObserver_init K)
  fd_BottleObserver_records : FuncData
  F_BottleObserver_records : FnP K d_BottleObserver_records fd_BottleObserver_records
  p_BottleObserver_records : PropOf K (He.ga K "BottleObserver") "records" (He.ma K (He.ga K "BottleObserver") "records") (a_BottleObserver_records K)
  fd_BottleObserver_accept : FuncData
  F_BottleObserver_accept : FnP K d_BottleObserver_accept fd_BottleObserver_accept
  m_BottleObserver_accept : Meth K (He.ga K "BottleObserver") "_accept" (a_BottleObserver_accept K)
  fd_BottleObserver_see_left : FuncData
  F_BottleObserver_see_left : FnP K d_BottleObserver_see_left fd_BottleObserver_see_left
  m_BottleObserver_see_left : Meth K (He.ga K "BottleObserver") "see_left" (a_BottleObserver_see_left K)
  fd_BottleObserver_nth_possible : FuncData
  F_BottleObserver_nth_possible : FnP K d_BottleObserver_nth_possible fd_BottleObserver_nth_possible
  m_BottleObserver_nth_possible : Meth K (He.ga K "BottleObserver") "nth_possible" (a_BottleObserver_nth_possible K)
  fd_is_possible : FuncData
  F_is_possible : FnP K d_is_possible fd_is_possible
  g_is_possible : mg "_is_possible" = some (.ref (a_is_possible K))
  fd_play : FuncData
  F_play : FnP K d_play fd_play
  g_play : mg "play" = some (.ref (a_play K))
  fd_greedy_steps : FuncData
  F_greedy_steps : FnP K d_greedy_steps fd_greedy_steps
  g_greedy_steps : mg "greedy_steps" = some (.ref (a_greedy_steps K))
  fd_law_mix : FuncData
  F_law_mix : FnP K d_law_mix fd_law_mix
  g_law_mix : mg "_law_mix" = some (.ref (a_law_mix K))
  fd_law_next : FuncData
  F_law_next : FnP K d_law_next fd_law_next
  g_law_next : mg "_law_next" = some (.ref (a_law_next K))
  fd_law_alike : FuncData
  F_law_alike : FnP K d_law_alike fd_law_alike
  g_law_alike : mg "_law_alike" = some (.ref (a_law_alike K))
  fd_law_trades : FuncData
  F_law_trades : FnP K d_law_trades fd_law_trades
  g_law_trades : mg "_law_trades" = some (.ref (a_law_trades K))
  fd_law_offer : FuncData
  F_law_offer : FnP K d_law_offer fd_law_offer
  g_law_offer : mg "_law_offer" = some (.ref (a_law_offer K))
  fd_law_buys : FuncData
  F_law_buys : FnP K d_law_buys fd_law_buys
  g_law_buys : mg "_law_buys" = some (.ref (a_law_buys K))
  fd_law_all : FuncData
  F_law_all : FnP K d_law_all fd_law_all
  g_law_all : mg "_law_all" = some (.ref (a_law_all K))
  fd_law : FuncData
  F_law : FnP K d_law fd_law
  g_law : mg "law" = some (.ref (a_law K))
  g_Offer : mg "Offer" = some (.ref (He.ga K "Offer"))
  k_Offer : Cls K (He.ga K "Offer")
  r_Offer : ClX.CRead K (He.ga K "Offer") (.type "type")
  na_trades : NoAttr K (He.ga K "Offer") "_trades"
  na_period : NoAttr K (He.ga K "Offer") "_period"
  na_tops : NoAttr K (He.ga K "Offer") "_tops"
  na_firsts : NoAttr K (He.ga K "Offer") "_firsts"
  na_gaps : NoAttr K (He.ga K "Offer") "_gaps"
  v_Offer_MAX_TRADES : ∃ u, ClX.CVal K (He.ga K "Offer") (.type "type") "MAX_TRADES" (.int 3) u
  v_Offer_MAX_NEEDED : ∃ u, ClX.CVal K (He.ga K "Offer") (.type "type") "MAX_NEEDED" (.int 12) u
  g_Candidates : mg "Candidates" = some (.ref (He.ga K "Candidates"))
  k_Candidates : Cls K (He.ga K "Candidates")
  na_start : NoAttr K (He.ga K "Candidates") "_start"
  na_early : NoAttr K (He.ga K "Candidates") "_early"
  na_span : NoAttr K (He.ga K "Candidates") "_span"
  na_offsets : NoAttr K (He.ga K "Candidates") "_offsets"
  g_BottleObserver : mg "BottleObserver" = some (.ref (He.ga K "BottleObserver"))
  k_BottleObserver : Cls K (He.ga K "BottleObserver")
  na_offer : NoAttr K (He.ga K "BottleObserver") "_offer"
  na_possible : NoAttr K (He.ga K "BottleObserver") "_possible"
  na_observations : NoAttr K (He.ga K "BottleObserver") "_observations"
  c_MAX_NUMBER : ∃ t, mg "MAX_NUMBER" = some (.int (1000000000000000000) t)
  c_MAX_LABEL_LENGTH : ∃ t, mg "MAX_LABEL_LENGTH" = some (.int (8) t)
  c_DRINK : ∃ t, mg "DRINK" = some (.str "drink" t)
  c_MAX_LEFT : ∃ t, mg "MAX_LEFT" = some (.int (12) t)
  c_MAX_LOOKED_AT : ∃ t, mg "MAX_LOOKED_AT" = some (.int (10000) t)
  n_len : mg "len" = none
  n_sum : mg "sum" = none
  n_max : mg "max" = none
  n_min : mg "min" = none
  n_all : mg "all" = none
  n_any : mg "any" = none
  n_isinstance : mg "isinstance" = none
  n_range : mg "range" = none
  n_enumerate : mg "enumerate" = none
  n_zip : mg "zip" = none
  n_list : mg "list" = none
  n_tuple : mg "tuple" = none
  n_int : mg "int" = none
  n_bool : mg "bool" = none
  n_str : mg "str" = none
  n_dict : mg "dict" = none
  n_divmod : mg "divmod" = none
  g_TradeError : mg "TradeError" = some (.ref (He.ga K "TradeError"))
  x_TradeError : ExcN K "TradeError" (He.ga K "TradeError")
  g_InvalidOffer : mg "InvalidOffer" = some (.ref (He.ga K "InvalidOffer"))
  x_InvalidOffer : ExcI K "InvalidOffer" (He.ga K "InvalidOffer")
  g_TooGenerous : mg "TooGenerous" = some (.ref (He.ga K "TooGenerous"))
  x_TooGenerous : ExcN K "TooGenerous" (He.ga K "TooGenerous")
  g_InvalidNumber : mg "InvalidNumber" = some (.ref (He.ga K "InvalidNumber"))
  x_InvalidNumber : ExcN K "InvalidNumber" (He.ga K "InvalidNumber")
  g_UnknownKind : mg "UnknownKind" = some (.ref (He.ga K "UnknownKind"))
  x_UnknownKind : ExcN K "UnknownKind" (He.ga K "UnknownKind")
  g_InvalidStep : mg "InvalidStep" = some (.ref (He.ga K "InvalidStep"))
  x_InvalidStep : ExcI K "InvalidStep" (He.ga K "InvalidStep")
  g_Contradiction : mg "Contradiction" = some (.ref (He.ga K "Contradiction"))
  x_Contradiction : ExcN K "Contradiction" (He.ga K "Contradiction")
  l_TradeError : ExcC K (He.ga K "TradeError") ∧ XfC K (He.ga K "TradeError")
  l_InvalidOffer : ExcC K (He.ga K "InvalidOffer") ∧ XfC K (He.ga K "InvalidOffer")
  sf_Offer : PySem.W.selfFirst K (He.ga K "Offer") = true
  fi_Offer_getitem : PySem.W.fnIn K (a_Offer_getitem K) = true
  n_super : mg "super" = none
  n_ValueError : mg "ValueError" = none
  b_gcd : mg "gcd" = some (.builtin "math.gcd")
  b_lcm : mg "lcm" = some (.builtin "math.lcm")
def fas : List He.Fa := [.glo "is_integer",
  .glo "is_number",
  .glo "check_number",
  .glo "is_label",
  .glo "is_kind",
  .glo "cost_of",
  .glo "drinks_of_period",
  .glo "tops_of",
  .glo "firsts_of",
  .glo "gaps_of",
  .glo "value_at",
  .glo "_is_trade",
  .glo "_check_trades",
  .glo "_check_generosity",
  .mkr "Offer",
  .meth "Offer" "_drinks_for",
  .meth "Offer" "_most_within",
  .meth "Offer" "trades_made",
  .meth "Offer" "left_over",
  .meth "Offer" "rounds",
  .meth "Offer" "credit",
  .meth "Offer" "fewest_bottles",
  .meth "Offer" "missing",
  .meth "Offer" "count_missing",
  .meth "Offer" "nth_missing",
  .meth "Offer" "pooled",
  .meth "Offer" "__add__",
  .meth "Offer" "__sub__",
  .meth "Offer" "__getitem__",
  .meth "Offer" "__iter__",
  .meth "Offer" "__bool__",
  .meth "Offer" "__contains__",
  .meth "Offer" "__le__",
  .meth "Offer" "__lt__",
  .meth "Offer" "__ge__",
  .meth "Offer" "__gt__",
  .glo "_slack",
  .glo "_repetition",
  .glo "_never_more",
  .glo "first_difference",
  .mkr "Candidates",
  .meth "Candidates" "narrowed",
  .meth "Candidates" "many_within",
  .meth "Candidates" "candidate",
  .mkr "BottleObserver",
  .meth "BottleObserver" "_accept",
  .meth "BottleObserver" "see_left",
  .meth "BottleObserver" "nth_possible",
  .glo "_is_possible",
  .glo "play",
  .glo "greedy_steps",
  .glo "_law_mix",
  .glo "_law_next",
  .glo "_law_alike",
  .glo "_law_trades",
  .glo "_law_offer",
  .glo "_law_buys",
  .glo "_law_all",
  .glo "law",
  .glo "Offer",
  .cls "Offer",
  .noat "Offer" "_trades",
  .noat "Offer" "_period",
  .noat "Offer" "_tops",
  .noat "Offer" "_firsts",
  .noat "Offer" "_gaps",
  .glo "Candidates",
  .cls "Candidates",
  .noat "Candidates" "_start",
  .noat "Candidates" "_early",
  .noat "Candidates" "_span",
  .noat "Candidates" "_offsets",
  .glo "BottleObserver",
  .cls "BottleObserver",
  .noat "BottleObserver" "_offer",
  .noat "BottleObserver" "_possible",
  .noat "BottleObserver" "_observations",
  .int "MAX_NUMBER" (1000000000000000000),
  .int "MAX_LABEL_LENGTH" (8),
  .str "DRINK" "drink",
  .int "MAX_LEFT" (12),
  .int "MAX_LOOKED_AT" (10000),
  .free "len",
  .free "sum",
  .free "max",
  .free "min",
  .free "all",
  .free "any",
  .free "isinstance",
  .free "range",
  .free "enumerate",
  .free "zip",
  .free "list",
  .free "tuple",
  .free "int",
  .free "bool",
  .free "str",
  .free "dict",
  .free "divmod",
  .glo "TradeError",
  .glo "InvalidOffer",
  .glo "TooGenerous",
  .glo "InvalidNumber",
  .glo "UnknownKind",
  .glo "InvalidStep",
  .glo "Contradiction",
  .free "super",
  .free "ValueError"]
def mores : List (PySem.W.Frag → Bool) := [fun K => okSup K "InvalidOffer" "/claim/cut.py" (a_InvalidOffer_init K),
  fun K => okProp K "Offer" "trades",
  fun K => okProp K "Offer" "kinds",
  fun K => okProp K "Offer" "period",
  fun K => okProp K "Offer" "steady_from",
  fun K => okCallO K "Offer",
  fun K => okProp K "BottleObserver" "records",
  fun K => okRead K "Offer",
  fun K => okCVal K "Offer" "MAX_TRADES" (.int 3),
  fun K => okCVal K "Offer" "MAX_NEEDED" (.int 12),
  fun K => okExc K "TradeError",
  fun K => okExcI K "InvalidOffer",
  fun K => okExc K "TooGenerous",
  fun K => okExc K "InvalidNumber",
  fun K => okExc K "UnknownKind",
  fun K => okExcI K "InvalidStep",
  fun K => okExc K "Contradiction",
  fun K => okExcC K (He.ga K "TradeError"),
  fun K => okExcC K (He.ga K "InvalidOffer"),
  fun K => PySem.W.selfFirst K (He.ga K "Offer"),
  fun K => PySem.W.fnIn K (a_Offer_getitem K),
  fun K => okBlt K "gcd" "math.gcd",
  fun K => okBlt K "lcm" "math.lcm"]
def moreB (K : PySem.W.Frag) : Bool := mores.all fun f => f K
def dds : List DD := [d_InvalidOffer_init, d_is_integer, d_is_number, d_check_number, d_is_label, d_is_kind, d_cost_of, d_drinks_of_period, d_tops_of, d_firsts_of, d_gaps_of, d_value_at, d_is_trade, d_check_trades, d_check_generosity, d_Offer_init, d_Offer_trades, d_Offer_kinds, d_Offer_period, d_Offer_steady_from, d_Offer_drinks_for, d_Offer_most_within, d_Offer_call, d_Offer_trades_made, d_Offer_left_over, d_Offer_rounds, d_Offer_credit, d_Offer_fewest_bottles, d_Offer_missing, d_Offer_count_missing, d_Offer_nth_missing, d_Offer_pooled, d_Offer_add, d_Offer_sub, d_Offer_getitem, d_Offer_iter, d_Offer_bool, d_Offer_contains, d_Offer_le, d_Offer_lt, d_Offer_ge, d_Offer_gt, d_slack, d_repetition, d_never_more, d_first_difference, d_Candidates_init, d_Candidates_narrowed, d_Candidates_many_within, d_Candidates_candidate, d_BottleObserver_init, d_BottleObserver_records, d_BottleObserver_accept, d_BottleObserver_see_left, d_BottleObserver_nth_possible, d_is_possible, d_play, d_greedy_steps, d_law_mix, d_law_next, d_law_alike, d_law_trades, d_law_offer, d_law_buys, d_law_all, d_law]
theorem more_at {K : PySem.W.Frag} (h : moreB K = true) (i : Nat) {f : PySem.W.Frag → Bool} (e : mores[i]? = some f := by rfl) : f K = true := List.all_eq_true.mp h f (List.mem_of_getElem? e)
theorem tx_of {K : PySem.W.Frag} {h : Heap} {mg : Str → Option Value} (X : K.In h) (G : h.Ns mainGlobals mg) (c : Says fas moreB dds K) : Nonempty (Tx K mg) := by
  obtain ⟨fd_is_integer, F_is_integer⟩ := c.fn 1 (d := d_is_integer) rfl
  obtain ⟨fd_is_number, F_is_number⟩ := c.fn 2 (d := d_is_number) rfl
  obtain ⟨fd_check_number, F_check_number⟩ := c.fn 3 (d := d_check_number) rfl
  obtain ⟨fd_is_label, F_is_label⟩ := c.fn 4 (d := d_is_label) rfl
  obtain ⟨fd_is_kind, F_is_kind⟩ := c.fn 5 (d := d_is_kind) rfl
  obtain ⟨fd_cost_of, F_cost_of⟩ := c.fn 6 (d := d_cost_of) rfl
  obtain ⟨fd_drinks_of_period, F_drinks_of_period⟩ := c.fn 7 (d := d_drinks_of_period) rfl
  obtain ⟨fd_tops_of, F_tops_of⟩ := c.fn 8 (d := d_tops_of) rfl
  obtain ⟨fd_firsts_of, F_firsts_of⟩ := c.fn 9 (d := d_firsts_of) rfl
  obtain ⟨fd_gaps_of, F_gaps_of⟩ := c.fn 10 (d := d_gaps_of) rfl
  obtain ⟨fd_value_at, F_value_at⟩ := c.fn 11 (d := d_value_at) rfl
  obtain ⟨fd_is_trade, F_is_trade⟩ := c.fn 12 (d := d_is_trade) rfl
  obtain ⟨fd_check_trades, F_check_trades⟩ := c.fn 13 (d := d_check_trades) rfl
  obtain ⟨fd_check_generosity, F_check_generosity⟩ := c.fn 14 (d := d_check_generosity) rfl
  obtain ⟨fd_Offer_init, F_Offer_init⟩ := c.fn 15 (d := d_Offer_init) rfl
  obtain ⟨fd_Offer_trades, F_Offer_trades⟩ := c.fn 16 (d := d_Offer_trades) rfl
  obtain ⟨fd_Offer_kinds, F_Offer_kinds⟩ := c.fn 17 (d := d_Offer_kinds) rfl
  obtain ⟨fd_Offer_period, F_Offer_period⟩ := c.fn 18 (d := d_Offer_period) rfl
  obtain ⟨fd_Offer_steady_from, F_Offer_steady_from⟩ := c.fn 19 (d := d_Offer_steady_from) rfl
  obtain ⟨fd_Offer_drinks_for, F_Offer_drinks_for⟩ := c.fn 20 (d := d_Offer_drinks_for) rfl
  obtain ⟨fd_Offer_most_within, F_Offer_most_within⟩ := c.fn 21 (d := d_Offer_most_within) rfl
  obtain ⟨fd_Offer_call, F_Offer_call⟩ := c.fn 22 (d := d_Offer_call) rfl
  obtain ⟨fd_Offer_trades_made, F_Offer_trades_made⟩ := c.fn 23 (d := d_Offer_trades_made) rfl
  obtain ⟨fd_Offer_left_over, F_Offer_left_over⟩ := c.fn 24 (d := d_Offer_left_over) rfl
  obtain ⟨fd_Offer_rounds, F_Offer_rounds⟩ := c.fn 25 (d := d_Offer_rounds) rfl
  obtain ⟨fd_Offer_credit, F_Offer_credit⟩ := c.fn 26 (d := d_Offer_credit) rfl
  obtain ⟨fd_Offer_fewest_bottles, F_Offer_fewest_bottles⟩ := c.fn 27 (d := d_Offer_fewest_bottles) rfl
  obtain ⟨fd_Offer_missing, F_Offer_missing⟩ := c.fn 28 (d := d_Offer_missing) rfl
  obtain ⟨fd_Offer_count_missing, F_Offer_count_missing⟩ := c.fn 29 (d := d_Offer_count_missing) rfl
  obtain ⟨fd_Offer_nth_missing, F_Offer_nth_missing⟩ := c.fn 30 (d := d_Offer_nth_missing) rfl
  obtain ⟨fd_Offer_pooled, F_Offer_pooled⟩ := c.fn 31 (d := d_Offer_pooled) rfl
  obtain ⟨fd_Offer_add, F_Offer_add⟩ := c.fn 32 (d := d_Offer_add) rfl
  obtain ⟨fd_Offer_sub, F_Offer_sub⟩ := c.fn 33 (d := d_Offer_sub) rfl
  obtain ⟨fd_Offer_getitem, F_Offer_getitem⟩ := c.fn 34 (d := d_Offer_getitem) rfl
  obtain ⟨fd_Offer_iter, F_Offer_iter⟩ := c.fn 35 (d := d_Offer_iter) rfl
  obtain ⟨fd_Offer_bool, F_Offer_bool⟩ := c.fn 36 (d := d_Offer_bool) rfl
  obtain ⟨fd_Offer_contains, F_Offer_contains⟩ := c.fn 37 (d := d_Offer_contains) rfl
  obtain ⟨fd_Offer_le, F_Offer_le⟩ := c.fn 38 (d := d_Offer_le) rfl
  obtain ⟨fd_Offer_lt, F_Offer_lt⟩ := c.fn 39 (d := d_Offer_lt) rfl
  obtain ⟨fd_Offer_ge, F_Offer_ge⟩ := c.fn 40 (d := d_Offer_ge) rfl
  obtain ⟨fd_Offer_gt, F_Offer_gt⟩ := c.fn 41 (d := d_Offer_gt) rfl
  obtain ⟨fd_slack, F_slack⟩ := c.fn 42 (d := d_slack) rfl
  obtain ⟨fd_repetition, F_repetition⟩ := c.fn 43 (d := d_repetition) rfl
  obtain ⟨fd_never_more, F_never_more⟩ := c.fn 44 (d := d_never_more) rfl
  obtain ⟨fd_first_difference, F_first_difference⟩ := c.fn 45 (d := d_first_difference) rfl
  obtain ⟨fd_Candidates_init, F_Candidates_init⟩ := c.fn 46 (d := d_Candidates_init) rfl
  obtain ⟨fd_Candidates_narrowed, F_Candidates_narrowed⟩ := c.fn 47 (d := d_Candidates_narrowed) rfl
  obtain ⟨fd_Candidates_many_within, F_Candidates_many_within⟩ := c.fn 48 (d := d_Candidates_many_within) rfl
  obtain ⟨fd_Candidates_candidate, F_Candidates_candidate⟩ := c.fn 49 (d := d_Candidates_candidate) rfl
  obtain ⟨fd_BottleObserver_init, F_BottleObserver_init⟩ := c.fn 50 (d := d_BottleObserver_init) rfl
  obtain ⟨fd_BottleObserver_records, F_BottleObserver_records⟩ := c.fn 51 (d := d_BottleObserver_records) rfl
  obtain ⟨fd_BottleObserver_accept, F_BottleObserver_accept⟩ := c.fn 52 (d := d_BottleObserver_accept) rfl
  obtain ⟨fd_BottleObserver_see_left, F_BottleObserver_see_left⟩ := c.fn 53 (d := d_BottleObserver_see_left) rfl
  obtain ⟨fd_BottleObserver_nth_possible, F_BottleObserver_nth_possible⟩ := c.fn 54 (d := d_BottleObserver_nth_possible) rfl
  obtain ⟨fd_is_possible, F_is_possible⟩ := c.fn 55 (d := d_is_possible) rfl
  obtain ⟨fd_play, F_play⟩ := c.fn 56 (d := d_play) rfl
  obtain ⟨fd_greedy_steps, F_greedy_steps⟩ := c.fn 57 (d := d_greedy_steps) rfl
  obtain ⟨fd_law_mix, F_law_mix⟩ := c.fn 58 (d := d_law_mix) rfl
  obtain ⟨fd_law_next, F_law_next⟩ := c.fn 59 (d := d_law_next) rfl
  obtain ⟨fd_law_alike, F_law_alike⟩ := c.fn 60 (d := d_law_alike) rfl
  obtain ⟨fd_law_trades, F_law_trades⟩ := c.fn 61 (d := d_law_trades) rfl
  obtain ⟨fd_law_offer, F_law_offer⟩ := c.fn 62 (d := d_law_offer) rfl
  obtain ⟨fd_law_buys, F_law_buys⟩ := c.fn 63 (d := d_law_buys) rfl
  obtain ⟨fd_law_all, F_law_all⟩ := c.fn 64 (d := d_law_all) rfl
  obtain ⟨fd_law, F_law⟩ := c.fn 65 (d := d_law) rfl
  have cm := c.bools.2.1
  exact ⟨⟨DD.funS (d := d_InvalidOffer_init) rfl rfl rfl (c.fn0 0 (d := d_InvalidOffer_init) rfl).1 (c.fn0 0 (d := d_InvalidOffer_init) rfl).2 (okSup_of (more_at cm 0 (f := fun K => okSup K "InvalidOffer" "/claim/cut.py" (a_InvalidOffer_init K)) rfl)) (by decide +kernel) (by decide +kernel) (He.free_ok X G (c.fact 106 (f := .free "super") rfl)) rfl rfl,
    fd_is_integer,
    F_is_integer,
    He.glo_ok X G (c.fact 0 (f := .glo "is_integer") rfl),
    fd_is_number,
    F_is_number,
    He.glo_ok X G (c.fact 1 (f := .glo "is_number") rfl),
    fd_check_number,
    F_check_number,
    He.glo_ok X G (c.fact 2 (f := .glo "check_number") rfl),
    fd_is_label,
    F_is_label,
    He.glo_ok X G (c.fact 3 (f := .glo "is_label") rfl),
    fd_is_kind,
    F_is_kind,
    He.glo_ok X G (c.fact 4 (f := .glo "is_kind") rfl),
    fd_cost_of,
    F_cost_of,
    He.glo_ok X G (c.fact 5 (f := .glo "cost_of") rfl),
    fd_drinks_of_period,
    F_drinks_of_period,
    He.glo_ok X G (c.fact 6 (f := .glo "drinks_of_period") rfl),
    fd_tops_of,
    F_tops_of,
    He.glo_ok X G (c.fact 7 (f := .glo "tops_of") rfl),
    fd_firsts_of,
    F_firsts_of,
    He.glo_ok X G (c.fact 8 (f := .glo "firsts_of") rfl),
    fd_gaps_of,
    F_gaps_of,
    He.glo_ok X G (c.fact 9 (f := .glo "gaps_of") rfl),
    fd_value_at,
    F_value_at,
    He.glo_ok X G (c.fact 10 (f := .glo "value_at") rfl),
    fd_is_trade,
    F_is_trade,
    He.glo_ok X G (c.fact 11 (f := .glo "_is_trade") rfl),
    fd_check_trades,
    F_check_trades,
    He.glo_ok X G (c.fact 12 (f := .glo "_check_trades") rfl),
    fd_check_generosity,
    F_check_generosity,
    He.glo_ok X G (c.fact 13 (f := .glo "_check_generosity") rfl),
    fd_Offer_init,
    F_Offer_init,
    He.mkr_ok (c.fact 14 (f := .mkr "Offer") rfl),
    fd_Offer_trades,
    F_Offer_trades,
    okProp_of (more_at cm 1 (f := fun K => okProp K "Offer" "trades") rfl),
    fd_Offer_kinds,
    F_Offer_kinds,
    okProp_of (more_at cm 2 (f := fun K => okProp K "Offer" "kinds") rfl),
    fd_Offer_period,
    F_Offer_period,
    okProp_of (more_at cm 3 (f := fun K => okProp K "Offer" "period") rfl),
    fd_Offer_steady_from,
    F_Offer_steady_from,
    okProp_of (more_at cm 4 (f := fun K => okProp K "Offer" "steady_from") rfl),
    fd_Offer_drinks_for,
    F_Offer_drinks_for,
    He.meth_ok (c.fact 15 (f := .meth "Offer" "_drinks_for") rfl),
    fd_Offer_most_within,
    F_Offer_most_within,
    He.meth_ok (c.fact 16 (f := .meth "Offer" "_most_within") rfl),
    fd_Offer_call,
    F_Offer_call,
    okCallO_of (more_at cm 5 (f := fun K => okCallO K "Offer") rfl),
    fd_Offer_trades_made,
    F_Offer_trades_made,
    He.meth_ok (c.fact 17 (f := .meth "Offer" "trades_made") rfl),
    fd_Offer_left_over,
    F_Offer_left_over,
    He.meth_ok (c.fact 18 (f := .meth "Offer" "left_over") rfl),
    fd_Offer_rounds,
    F_Offer_rounds,
    He.meth_ok (c.fact 19 (f := .meth "Offer" "rounds") rfl),
    fd_Offer_credit,
    F_Offer_credit,
    He.meth_ok (c.fact 20 (f := .meth "Offer" "credit") rfl),
    fd_Offer_fewest_bottles,
    F_Offer_fewest_bottles,
    He.meth_ok (c.fact 21 (f := .meth "Offer" "fewest_bottles") rfl),
    fd_Offer_missing,
    F_Offer_missing,
    He.meth_ok (c.fact 22 (f := .meth "Offer" "missing") rfl),
    fd_Offer_count_missing,
    F_Offer_count_missing,
    He.meth_ok (c.fact 23 (f := .meth "Offer" "count_missing") rfl),
    fd_Offer_nth_missing,
    F_Offer_nth_missing,
    He.meth_ok (c.fact 24 (f := .meth "Offer" "nth_missing") rfl),
    fd_Offer_pooled,
    F_Offer_pooled,
    He.meth_ok (c.fact 25 (f := .meth "Offer" "pooled") rfl),
    fd_Offer_add,
    F_Offer_add,
    He.meth_ok (c.fact 26 (f := .meth "Offer" "__add__") rfl),
    fd_Offer_sub,
    F_Offer_sub,
    He.meth_ok (c.fact 27 (f := .meth "Offer" "__sub__") rfl),
    fd_Offer_getitem,
    F_Offer_getitem,
    He.meth_ok (c.fact 28 (f := .meth "Offer" "__getitem__") rfl),
    fd_Offer_iter,
    F_Offer_iter,
    He.meth_ok (c.fact 29 (f := .meth "Offer" "__iter__") rfl),
    fd_Offer_bool,
    F_Offer_bool,
    He.meth_ok (c.fact 30 (f := .meth "Offer" "__bool__") rfl),
    fd_Offer_contains,
    F_Offer_contains,
    He.meth_ok (c.fact 31 (f := .meth "Offer" "__contains__") rfl),
    fd_Offer_le,
    F_Offer_le,
    He.meth_ok (c.fact 32 (f := .meth "Offer" "__le__") rfl),
    fd_Offer_lt,
    F_Offer_lt,
    He.meth_ok (c.fact 33 (f := .meth "Offer" "__lt__") rfl),
    fd_Offer_ge,
    F_Offer_ge,
    He.meth_ok (c.fact 34 (f := .meth "Offer" "__ge__") rfl),
    fd_Offer_gt,
    F_Offer_gt,
    He.meth_ok (c.fact 35 (f := .meth "Offer" "__gt__") rfl),
    fd_slack,
    F_slack,
    He.glo_ok X G (c.fact 36 (f := .glo "_slack") rfl),
    fd_repetition,
    F_repetition,
    He.glo_ok X G (c.fact 37 (f := .glo "_repetition") rfl),
    fd_never_more,
    F_never_more,
    He.glo_ok X G (c.fact 38 (f := .glo "_never_more") rfl),
    fd_first_difference,
    F_first_difference,
    He.glo_ok X G (c.fact 39 (f := .glo "first_difference") rfl),
    fd_Candidates_init,
    F_Candidates_init,
    He.mkr_ok (c.fact 40 (f := .mkr "Candidates") rfl),
    fd_Candidates_narrowed,
    F_Candidates_narrowed,
    He.meth_ok (c.fact 41 (f := .meth "Candidates" "narrowed") rfl),
    fd_Candidates_many_within,
    F_Candidates_many_within,
    He.meth_ok (c.fact 42 (f := .meth "Candidates" "many_within") rfl),
    fd_Candidates_candidate,
    F_Candidates_candidate,
    He.meth_ok (c.fact 43 (f := .meth "Candidates" "candidate") rfl),
    fd_BottleObserver_init,
    F_BottleObserver_init,
    He.mkr_ok (c.fact 44 (f := .mkr "BottleObserver") rfl),
    fd_BottleObserver_records,
    F_BottleObserver_records,
    okProp_of (more_at cm 6 (f := fun K => okProp K "BottleObserver" "records") rfl),
    fd_BottleObserver_accept,
    F_BottleObserver_accept,
    He.meth_ok (c.fact 45 (f := .meth "BottleObserver" "_accept") rfl),
    fd_BottleObserver_see_left,
    F_BottleObserver_see_left,
    He.meth_ok (c.fact 46 (f := .meth "BottleObserver" "see_left") rfl),
    fd_BottleObserver_nth_possible,
    F_BottleObserver_nth_possible,
    He.meth_ok (c.fact 47 (f := .meth "BottleObserver" "nth_possible") rfl),
    fd_is_possible,
    F_is_possible,
    He.glo_ok X G (c.fact 48 (f := .glo "_is_possible") rfl),
    fd_play,
    F_play,
    He.glo_ok X G (c.fact 49 (f := .glo "play") rfl),
    fd_greedy_steps,
    F_greedy_steps,
    He.glo_ok X G (c.fact 50 (f := .glo "greedy_steps") rfl),
    fd_law_mix,
    F_law_mix,
    He.glo_ok X G (c.fact 51 (f := .glo "_law_mix") rfl),
    fd_law_next,
    F_law_next,
    He.glo_ok X G (c.fact 52 (f := .glo "_law_next") rfl),
    fd_law_alike,
    F_law_alike,
    He.glo_ok X G (c.fact 53 (f := .glo "_law_alike") rfl),
    fd_law_trades,
    F_law_trades,
    He.glo_ok X G (c.fact 54 (f := .glo "_law_trades") rfl),
    fd_law_offer,
    F_law_offer,
    He.glo_ok X G (c.fact 55 (f := .glo "_law_offer") rfl),
    fd_law_buys,
    F_law_buys,
    He.glo_ok X G (c.fact 56 (f := .glo "_law_buys") rfl),
    fd_law_all,
    F_law_all,
    He.glo_ok X G (c.fact 57 (f := .glo "_law_all") rfl),
    fd_law,
    F_law,
    He.glo_ok X G (c.fact 58 (f := .glo "law") rfl),
    He.glo_ok X G (c.fact 59 (f := .glo "Offer") rfl),
    He.cls_ok (c.fact 60 (f := .cls "Offer") rfl),
    okRead_of (more_at cm 7 (f := fun K => okRead K "Offer") rfl),
    He.noat_ok (c.fact 61 (f := .noat "Offer" "_trades") rfl),
    He.noat_ok (c.fact 62 (f := .noat "Offer" "_period") rfl),
    He.noat_ok (c.fact 63 (f := .noat "Offer" "_tops") rfl),
    He.noat_ok (c.fact 64 (f := .noat "Offer" "_firsts") rfl),
    He.noat_ok (c.fact 65 (f := .noat "Offer" "_gaps") rfl),
    okCVal_of (more_at cm 8 (f := fun K => okCVal K "Offer" "MAX_TRADES" (.int 3)) rfl),
    okCVal_of (more_at cm 9 (f := fun K => okCVal K "Offer" "MAX_NEEDED" (.int 12)) rfl),
    He.glo_ok X G (c.fact 66 (f := .glo "Candidates") rfl),
    He.cls_ok (c.fact 67 (f := .cls "Candidates") rfl),
    He.noat_ok (c.fact 68 (f := .noat "Candidates" "_start") rfl),
    He.noat_ok (c.fact 69 (f := .noat "Candidates" "_early") rfl),
    He.noat_ok (c.fact 70 (f := .noat "Candidates" "_span") rfl),
    He.noat_ok (c.fact 71 (f := .noat "Candidates" "_offsets") rfl),
    He.glo_ok X G (c.fact 72 (f := .glo "BottleObserver") rfl),
    He.cls_ok (c.fact 73 (f := .cls "BottleObserver") rfl),
    He.noat_ok (c.fact 74 (f := .noat "BottleObserver" "_offer") rfl),
    He.noat_ok (c.fact 75 (f := .noat "BottleObserver" "_possible") rfl),
    He.noat_ok (c.fact 76 (f := .noat "BottleObserver" "_observations") rfl),
    He.int_ok X G (c.fact 77 (f := .int "MAX_NUMBER" (1000000000000000000)) rfl),
    He.int_ok X G (c.fact 78 (f := .int "MAX_LABEL_LENGTH" (8)) rfl),
    He.str_ok X G (c.fact 79 (f := .str "DRINK" "drink") rfl),
    He.int_ok X G (c.fact 80 (f := .int "MAX_LEFT" (12)) rfl),
    He.int_ok X G (c.fact 81 (f := .int "MAX_LOOKED_AT" (10000)) rfl),
    He.free_ok X G (c.fact 82 (f := .free "len") rfl),
    He.free_ok X G (c.fact 83 (f := .free "sum") rfl),
    He.free_ok X G (c.fact 84 (f := .free "max") rfl),
    He.free_ok X G (c.fact 85 (f := .free "min") rfl),
    He.free_ok X G (c.fact 86 (f := .free "all") rfl),
    He.free_ok X G (c.fact 87 (f := .free "any") rfl),
    He.free_ok X G (c.fact 88 (f := .free "isinstance") rfl),
    He.free_ok X G (c.fact 89 (f := .free "range") rfl),
    He.free_ok X G (c.fact 90 (f := .free "enumerate") rfl),
    He.free_ok X G (c.fact 91 (f := .free "zip") rfl),
    He.free_ok X G (c.fact 92 (f := .free "list") rfl),
    He.free_ok X G (c.fact 93 (f := .free "tuple") rfl),
    He.free_ok X G (c.fact 94 (f := .free "int") rfl),
    He.free_ok X G (c.fact 95 (f := .free "bool") rfl),
    He.free_ok X G (c.fact 96 (f := .free "str") rfl),
    He.free_ok X G (c.fact 97 (f := .free "dict") rfl),
    He.free_ok X G (c.fact 98 (f := .free "divmod") rfl),
    He.glo_ok X G (c.fact 99 (f := .glo "TradeError") rfl),
    okExc_of (more_at cm 10 (f := fun K => okExc K "TradeError") rfl),
    He.glo_ok X G (c.fact 100 (f := .glo "InvalidOffer") rfl),
    okExcI_of (more_at cm 11 (f := fun K => okExcI K "InvalidOffer") rfl),
    He.glo_ok X G (c.fact 101 (f := .glo "TooGenerous") rfl),
    okExc_of (more_at cm 12 (f := fun K => okExc K "TooGenerous") rfl),
    He.glo_ok X G (c.fact 102 (f := .glo "InvalidNumber") rfl),
    okExc_of (more_at cm 13 (f := fun K => okExc K "InvalidNumber") rfl),
    He.glo_ok X G (c.fact 103 (f := .glo "UnknownKind") rfl),
    okExc_of (more_at cm 14 (f := fun K => okExc K "UnknownKind") rfl),
    He.glo_ok X G (c.fact 104 (f := .glo "InvalidStep") rfl),
    okExcI_of (more_at cm 15 (f := fun K => okExcI K "InvalidStep") rfl),
    He.glo_ok X G (c.fact 105 (f := .glo "Contradiction") rfl),
    okExc_of (more_at cm 16 (f := fun K => okExc K "Contradiction") rfl),
    okExcC_of (more_at cm 17 (f := fun K => okExcC K (He.ga K "TradeError")) rfl),
    okExcC_of (more_at cm 18 (f := fun K => okExcC K (He.ga K "InvalidOffer")) rfl),
    id (more_at cm 19 (f := fun K => PySem.W.selfFirst K (He.ga K "Offer")) rfl),
    id (more_at cm 20 (f := fun K => PySem.W.fnIn K (a_Offer_getitem K)) rfl),
    He.free_ok X G (c.fact 106 (f := .free "super") rfl),
    He.free_ok X G (c.fact 107 (f := .free "ValueError") rfl),
    okBlt_of X G (more_at cm 21 (f := fun K => okBlt K "gcd" "math.gcd") rfl),
    okBlt_of X G (more_at cm 22 (f := fun K => okBlt K "lcm" "math.lcm") rfl)⟩⟩
end EB

namespace EB
open PySem PySem.Spec PyProof.Rows L2
abbrev R : PySem.W.OpenRow := PySem.W.OpenLaw.row PySem.Challenge.rw_emptiesback_k14_repeated_calls
abbrev hk : PySem.W.Hook := hook 5 fas moreB dds
def ob (s : PySem.W.SharedT) : Seen := seen fas moreB dds (He.frG (HandSHeadRun.getT s) (cStatics :: He.asD (HandSHeadRun.getT s) 5))
theorem ob_eq (s : PySem.W.SharedT) : ob s = hk.obs s.abs := by
  have e : HandSHeadRun.getT s = s.abs.heap.get? := funext (HandSHeadRun.getT_eq s)
  unfold ob
  rw [e] <;> rfl
def loose0 : List Str := ["_wall", "__name__", "TradeError", "InvalidOffer", "TooGenerous", "UnknownKind", "InvalidNumber", "InvalidStep", "Contradiction", "MAX_NUMBER", "MAX_LABEL_LENGTH", "DRINK", "is_integer", "is_number", "check_number", "is_label", "is_kind", "cost_of", "drinks_of_period", "tops_of"]
def loose1 : List Str := ["firsts_of", "gaps_of", "value_at", "MAX_LEFT", "MAX_LOOKED_AT", "_is_trade", "_check_trades", "_check_generosity", "Offer", "_slack", "_repetition", "_never_more", "first_difference", "Candidates", "BottleObserver", "_is_possible", "play", "greedy_steps", "_law_mix", "_law_next"]
def loose2 : List Str := ["_law_alike", "_law_trades", "_law_offer", "_law_buys", "_law_all"]
def loose : List Str := loose0 ++ loose1 ++ loose2
theorem run (w : World) : HandSHeadRun.RunEqI R (PySem.W.view R.prog [0, 53]) hk ob 12000 loose w := by
  unfold HandSHeadRun.RunEqI
  kernel_rfl
end EB

namespace EB
open PySem PySem.Spec PyProof.Rows L2
/-! ### data -/
/-- one trade -/
structure Tr where
  k : Str
  l : Int
  n : Int
def Tr.vs (t : Tr) : List V := [.str t.k, .int t.l, .int t.n]
def Tr.ok (t : Tr) : Prop := 0 ≤ t.l ∧ t.l ≤ 12 ∧ 1 ≤ t.n ∧ t.n ≤ 12
structure TrAt (K : PySem.W.Frag) (H : Hp) (a : Addr) (ts : List Tr) : Prop where
  ex : ∃ ps : List Addr, SqT K H a (ps.map V.ref) ∧ ps.length = ts.length ∧ ∀ (i : Nat) (p : Addr) (t : Tr), ps[i]? = some p → ts[i]? = some t → SqT K H p t.vs
theorem TrAt.mono {K : PySem.W.Frag} {H H' : Hp} {a : Addr} {ts : List Tr} (s : Same H H') (h : TrAt K H a ts) : TrAt K H' a ts := by
  obtain ⟨ps, h1, h2, h3⟩ := h.ex
  exact ⟨ps, Same.tup s h1, h2, fun i p t a b => Same.tup s (h3 i p t a b)⟩
theorem TrAt.at_ {K : PySem.W.Frag} {H : Hp} {ts : List Tr} {ps : List Addr} {i : Nat} {x : V} (h2 : ps.length = ts.length) (h3 : ∀ (i : Nat) (p : Addr) (t : Tr), ps[i]? = some p → ts[i]? = some t → SqT K H p t.vs)
    (hx : (ps.map V.ref)[i]? = some x) : ∃ (p : Addr) (t : Tr), x = .ref p ∧ ps[i]? = some p ∧ ts[i]? = some t ∧ t ∈ ts ∧ i < ts.length ∧ SqT K H p t.vs := by
  rw [List.getElem?_map] at hx
  cases ep : ps[i]? with
  | none =>
    rw [ep] at hx
    cases hx
  | some p =>
    rw [ep] at hx
    cases hx
    have li : i < ts.length := by
      rw [← h2]
      exact (List.getElem?_eq_some_iff.mp ep).1
    have et : ts[i]? = some ts[i] := List.getElem?_eq_getElem li
    exact ⟨p, ts[i], rfl, rfl, et, List.getElem_mem li, li, h3 i p _ ep et⟩
def buys (ts : List Tr) (d : Int) : Int := (ts.map fun t => t.l * d / t.n).sum
def cost (ts : List Tr) (d : Int) : Int := d - buys ts d
def gds (ts : List Tr) : Prop := ts.length ≤ 3 ∧ ∀ t ∈ ts, t.ok
theorem small3 {n : Nat} (h : n ≤ 100000) : n < sizeLine := Nat.lt_of_le_of_lt h (by decide)
theorem int_at {ns : List Int} {i : Nat} {x : V} (h : (ns.map V.int)[i]? = some x) : ∃ c, ns[i]? = some c ∧ x = .int c := by
  rw [List.getElem?_map] at h
  cases e : ns[i]? with
  | none =>
    rw [e] at h
    cases h
  | some c =>
    rw [e] at h
    exact ⟨c, rfl, (Option.some.inj h).symm⟩
theorem lt_of_at {α : Type} {l : List α} {i : Nat} {x : α} (h : l[i]? = some x) : i < l.length := (List.getElem?_eq_some_iff.mp h).1
theorem take_at {α : Type} {l : List α} {i : Nat} {x : α} (h : l[i]? = some x) : l.take (i + 1) = l.take i ++ [x] := by
  rw [List.take_add_one, h]
  rfl
section
variable {P : Program} {w : World} {K : PySem.W.Frag} {mg : Str → Option Value} {base : Heap}
/-- a def that lets nothing out -/
theorem fnK0 {d : DD} {fd : FuncData} {N ps : List Str} {k : Nat} {sp : Sp} (F : FnP K d fd) (S : FnScope N ps (defScope d.st)) (len : ∀ vs H Q E, sp vs H Q E → vs.length = ps.length)
    (hbody : ∀ (cdv : Value) (A : Around) (outer : List Env) (s : Shared) (H : Hp) (vs : List V) (Q : VK) (E : XK), Room k (A.deeper (envOfC d.ql (defScope d.st) s.heap.objs.size (d.adr K) cdv)) → sp vs H Q E →
      ∃ t, PSs (cxOf CX0 P w K mg base N d.ql (defScope d.st) (d.adr K) cdv A outer s H E).nox (defBody d.st) t ∧ t { nx := fun _ H' => Q .non H', rt := Q } (start N vs) H) :
    FnOk P w K mg base CX0 (k + 1) (d.adr K) fd ps sp := FunD.ok F S len fun cdv A outer s H vs Q E hr h => by
  obtain ⟨t, h1, h2⟩ := hbody cdv A outer s H vs Q E hr h
  exact ⟨t, h1.nox, h2⟩
/-- .. without defaults -/
theorem fnR0 {d : DD} {fd : FuncData} {N ps : List Str} {k : Nat} {sp : Sp} (F : FnP K d fd) (S : FnScope N ps (defScope d.st)) (e : d.df = [])
    (b : ∀ (kV doc pm : Value) (an : Option Addr) (cdv ct : Value) (us : List Value), us.length = ps.length → bindArgs (PySem.W.fnOf d.nm d.ql (defArgs d.st) (defBody d.st) (defScope d.st) .none kV doc pm an cdv ct) ⟨us, []⟩ = pure (ps.zip us))
    (len : ∀ vs H Q E, sp vs H Q E → vs.length = ps.length)
    (hbody : ∀ (cdv : Value) (A : Around) (outer : List Env) (s : Shared) (H : Hp) (vs : List V) (Q : VK) (E : XK), Room k (A.deeper (envOfC d.ql (defScope d.st) s.heap.objs.size (d.adr K) cdv)) → sp vs H Q E →
      ∃ t, PSs (cxOf CX0 P w K mg base N d.ql (defScope d.st) (d.adr K) cdv A outer s H E).nox (defBody d.st) t ∧ t { nx := fun _ H' => Q .non H', rt := Q } (start N vs) H) :
    FnR P w K mg base CX0 (k + 1) (d.adr K) sp := by
  have F1 : FnOk P w K mg base CX0 (k + 1) (d.adr K) fd ps sp := FunD.ok F S len fun cdv A outer s H vs Q E hr h => by
    obtain ⟨t, h1, h2⟩ := hbody cdv A outer s H vs Q E hr h
    exact ⟨t, h1.nox, h2⟩
  have F2 : FunD K d.nm d.ql (defArgs d.st) (defBody d.st) (defScope d.st) [] [] (d.adr K) fd := by
    have z : FnP K d fd := F
    unfold FnP at z
    rw [e] at z
    exact z
  refine (F1.raw (F2.bindsN b) .nil).imp fun vs H Q E h => ?_
  rw [List.append_nil]
  exact h
end
def perS (d : Nat) (t : Tr) : Nat := d.lcm (t.n / ((t.l.natAbs.gcd t.n.natAbs : Nat) : Int)).natAbs
def per (ts : List Tr) : Nat := ts.foldl perS 1
theorem gcd_pos' {t : Tr} (ht : t.ok) : 0 < ((t.l.natAbs.gcd t.n.natAbs : Nat) : Int) ∧ ((t.l.natAbs.gcd t.n.natAbs : Nat) : Int) ≤ 12 := by
  obtain ⟨_, _, h3, h4⟩ := ht
  have h5 : 0 < t.n.natAbs := by omega
  have h6 : 0 < t.l.natAbs.gcd t.n.natAbs := Nat.gcd_pos_of_pos_right _ h5
  have h7 : t.l.natAbs.gcd t.n.natAbs ≤ t.n.natAbs := Nat.gcd_le_right _ h5
  omega
theorem quo_le {t : Tr} (ht : t.ok) : (t.n / ((t.l.natAbs.gcd t.n.natAbs : Nat) : Int)).natAbs ≤ 12 := by
  have h1 := gcd_pos' ht
  have h2 := ht.2.2.1
  have h3 := ht.2.2.2
  have h4 : 0 ≤ t.n / ((t.l.natAbs.gcd t.n.natAbs : Nat) : Int) := Int.ediv_nonneg (by omega) (by omega)
  have h5 : t.n / ((t.l.natAbs.gcd t.n.natAbs : Nat) : Int) ≤ t.n := Int.ediv_le_self _ (by omega)
  omega
theorem per_le : ∀ (ts : List Tr) (d : Nat), (∀ t ∈ ts, t.ok) → ts.foldl perS d ≤ d * 12 ^ ts.length
  | [], d, _ => by simp
  | t :: ts, d, h => by
    have h1 := per_le ts (perS d t) fun u hu => h u (List.mem_cons_of_mem _ hu)
    have h2 : perS d t ≤ d * 12 := Nat.le_trans (PySem.W.mc_lcm_le _ _) (Nat.mul_le_mul_left _ (quo_le (h t (List.mem_cons_self ..))))
    have h3 : perS d t * 12 ^ ts.length ≤ d * 12 * 12 ^ ts.length := Nat.mul_le_mul_right _ h2
    rw [List.foldl_cons, List.length_cons, Nat.pow_succ]
    rw [Nat.mul_assoc, Nat.mul_comm 12] at h3
    omega
theorem per_most {ts : List Tr} (h : gds ts) (i : Nat) : (ts.take i).foldl perS 1 ≤ 1728 := by
  have h1 := per_le (ts.take i) 1 fun t ht => h.2 t (List.mem_of_mem_take ht)
  have h2 : (ts.take i).length ≤ 3 := by
    rw [List.length_take]
    have := h.1
    omega
  have h3 : 12 ^ (ts.take i).length ≤ 12 ^ 3 := Nat.pow_le_pow_right (by omega) h2
  omega
section
variable {P : Program} {w : World} {K : PySem.W.Frag} {mg : Str → Option Value} {base : Heap} (T : Tx K mg)
include T
/-! ### patterns -/
def spCost (K : PySem.W.Frag) : Sp := fun vs H Q _ => ∃ (a : Addr) (ts : List Tr) (d : Int), vs = [.ref a, .int d] ∧ TrAt K H a ts ∧ gds ts ∧ ∀ H', Same H H' → Q (.int (cost ts d)) H'
theorem ok_cost_of : FnR P w K mg base CX0 1 (a_cost_of K) (spCost K) := by
  refine fnR0 (d := d_cost_of) T.F_cost_of sc_cost_of rfl (fun _ _ _ _ _ _ us hl => match us, hl with | [_, _], _ => rfl) (fun vs H Q E h => ?_) (fun cdv A outer s H vs Q E hr h => ?_)
  · obtain ⟨a, ts, d, rfl, _⟩ := h
    rfl
  obtain ⟨a, ts, d, rfl, hT, ⟨hlen, hok⟩, k⟩ := h
  obtain ⟨ps, h1, h2, h3⟩ := hT.ex
  refine ⟨_, (pss_one (ps_ret (pe_op op_sub (pv 1) (pe_callB (cr_sum rfl) (by rfl) T.n_sum (by decide +kernel) (pa_cons (pe_lc (own := [("_", 2), ("left", 3), ("needed", 4)]) rfl sc_cost_of.nd (pi_tup (pv 0)) (blkOk_by (own := [("_", 2), ("left", 3), ("needed", 4)]) (N := N_cost_of) (sc := defScope s_cost_of) (by decide +kernel)) (fun _ _ _ _ _ => (pg_tupB (n := 3) (pgs_cons (pg_name (i := 2) sc_cost_of.nd rfl (Or.inl rfl) (.inr rfl)) (pgs_cons (pg_name (i := 3) sc_cost_of.nd rfl (Or.inl rfl) (.inr rfl)) (pgs_cons (pg_name (i := 4) sc_cost_of.nd rfl (Or.inl rfl) (.inr rfl)) pgs_nil))))) (fun _ _ _ _ _ => pts_nil) (fun _ _ _ _ _ => (pe_op op_fdiv (pe_op op_mul (pv 3) (pv 1)) (pv 4)))) pa_nil))))), ?_⟩
  refine ⟨_, rfl, _, rfl, a, rfl, ⟨_, h1⟩, fun D hD => ?_⟩
  refine lc_tup (xs := ps.map V.ref) (fun i H1 => Same H H1 ∧ H D = none ∧ H1 D = some (.lst ((ts.take i).map fun t => V.int (t.l * d / t.n)))) ⟨same_new hD, hD, upd_same⟩ (fun i H1 _ q => Same.tup q.1 h1) ?_ ?_
  · rintro i x H1 hx ⟨s1, n1, e1⟩
    obtain ⟨p, t, rfl, ep, et, hm, li, hp⟩ := TrAt.at_ h2 h3 hx
    have ht := hok _ hm
    refine ⟨p, _, rfl, Same.tup s1 hp, rfl, _, _, rfl, _, _, rfl, _, _, rfl, rfl, rfl, ?_⟩
    refine ⟨_, rfl, _, rfl, _, _, rfl, rfl, .inl ⟨by have := ht.1; omega, by have := ht.2.1; omega⟩, _, rfl, _, _, rfl, rfl, ⟨by have := ht.2.2.1; omega, by have := ht.2.2.2; omega⟩, ?_⟩
    refine ⟨_, e1, small3 ?_, same_mut s1 n1, n1, ?_⟩
    · rw [List.length_map, List.length_take]
      omega
    · rw [upd_same, take_at et, List.map_append]
      rfl
  · rintro H1 ⟨s1, n1, e1⟩
    refine ⟨D, ts.map fun t => t.l * d / t.n, rfl, SqL.of ?_, ?_⟩
    · rw [e1, List.length_map, h2, List.take_length, List.map_map]
      rfl
    · exact ⟨_, _, rfl, rfl, k _ s1⟩
def spPer (K : PySem.W.Frag) : Sp := fun vs H Q _ => ∃ (a : Addr) (ts : List Tr), vs = [.ref a] ∧ TrAt K H a ts ∧ gds ts ∧ ∀ H', Same H H' → Q (.int (per ts : Nat)) H'
theorem ok_drinks_of_period : FnR P w K mg base CX0 1 (a_drinks_of_period K) (spPer K) := by
  refine fnR0 (d := d_drinks_of_period) T.F_drinks_of_period sc_drinks_of_period rfl (fun _ _ _ _ _ _ us hl => match us, hl with | [_], _ => rfl) (fun vs H Q E h => ?_) (fun cdv A outer s H vs Q E hr h => ?_)
  · obtain ⟨a, ts, rfl, _⟩ := h
    rfl
  obtain ⟨a, ts, rfl, hT, hg, k⟩ := h
  obtain ⟨ps, h1, h2, h3⟩ := hT.ex
  refine ⟨_, (pss_cons (ps_set (i := 1) sc_drinks_of_period.nd rfl (Or.inl rfl) pe_int) (pss_cons (ps_for PassesOwn.never rfl (pi_tup (pv 0)) (pg_tup rfl (pgs_cons (pg_name (i := 2) sc_drinks_of_period.nd rfl (Or.inl rfl)) (pgs_cons (pg_name (i := 3) sc_drinks_of_period.nd rfl (Or.inl rfl)) (pgs_cons (pg_name (i := 4) sc_drinks_of_period.nd rfl (Or.inl rfl)) pgs_nil)))) (pss_one (ps_set (i := 1) sc_drinks_of_period.nd rfl (Or.inl rfl) (pe_callBfun cr_lcm (by rfl) T.b_lcm (pa_cons (pv 1) (pa_cons (pe_op op_fdiv (pv 4) (pe_callBfun cr_gcd (by rfl) T.b_gcd (pa_cons (pv 3) (pa_cons (pv 4) pa_nil)))) pa_nil)))))) (pss_one (ps_ret (pv 1))))), ?_⟩
  refine ⟨_, rfl, a, rfl, ⟨_, h1⟩, for_tup (xs := ps.map V.ref) (fun i σ H1 => H1 = H ∧ ∃ x2 x3 x4, σ = [some (.ref a), some (.int (((ts.take i).foldl perS 1 : Nat) : Int)), x2, x3, x4]) ⟨rfl, _, _, _, rfl⟩ (fun i σ H1 _ q => by rw [q.1]; exact h1) ?_ ?_⟩
  · rintro i x σ H1 hx ⟨rfl, x2, x3, x4, rfl⟩
    obtain ⟨p, t, rfl, ep, et, hm, li, hp⟩ := TrAt.at_ h2 h3 hx
    have ht := hg.2 _ hm
    have hq := gcd_pos' ht
    refine ⟨p, _, rfl, hp, rfl, _, _, rfl, _, _, rfl, _, _, rfl, rfl, ?_⟩
    refine ⟨_, rfl, _, rfl, _, rfl, _, rfl, _, _, rfl, _, _, rfl, rfl, ⟨hq.1, by omega⟩, _, _, rfl, ?_, ?_, rfl, some (.str t.k), some (.int t.l), some (.int t.n), ?_⟩
    · have := per_most hg i
      exact Nat.lt_of_le_of_lt (by omega : _ ≤ 1728) (by decide)
    · exact Nat.lt_of_le_of_lt (quo_le ht) (by decide)
    · rw [take_at et, List.foldl_append]
      rfl
  · rintro σ H1 ⟨rfl, x2, x3, x4, rfl⟩
    refine ⟨_, rfl, ?_⟩
    have e : (ts.take (ps.map V.ref).length).foldl perS 1 = per ts := by
      rw [List.length_map, h2, List.take_length]
      rfl
    rw [e]
    exact k _ (Same.refl _)
end
end EB

namespace EB
open PySem PySem.Spec PyProof.Rows L2
/-! ### tables -/
def topsF : Int → List Int → List Int
  | _, [] => []
  | m, c :: cs => (if m < c then c else m) :: topsF (if m < c then c else m) cs
def topsM (m : Int) (cs : List Int) : Int := cs.foldl (fun m c => if m < c then c else m) m
theorem topsF_length : ∀ (m : Int) (cs : List Int), (topsF m cs).length = cs.length
  | _, [] => rfl
  | m, c :: cs => by
    show (topsF _ cs).length + 1 = _
    rw [topsF_length]
    rfl
theorem topsF_snoc : ∀ (m : Int) (cs : List Int) (c : Int), topsF m (cs ++ [c]) = topsF m cs ++ [topsM m (cs ++ [c])]
  | m, [], c => rfl
  | m, x :: cs, c => by
    show _ :: topsF _ (cs ++ [c]) = _ :: (topsF _ cs ++ _)
    rw [topsF_snoc]
    rfl
theorem topsM_snoc (m : Int) (cs : List Int) (c : Int) : topsM m (cs ++ [c]) = if topsM m cs < c then c else topsM m cs := by
  unfold topsM
  rw [List.foldl_append]
  rfl
/-- the first place of each value that a table reaches: what is there, what is still to be gone through from place i on -/
def firstsF : Nat → List Int → List Int → List Int
  | _, acc, [] => acc
  | i, acc, t :: ts => firstsF (i + 1) (if t = (acc.length : Int) then acc ++ [(i : Int)] else acc) ts
theorem firstsF_snoc : ∀ (i : Nat) (acc ts : List Int) (t : Int), firstsF i acc (ts ++ [t]) = if t = ((firstsF i acc ts).length : Int) then firstsF i acc ts ++ [((i + ts.length : Nat) : Int)] else firstsF i acc ts
  | i, acc, [], t => rfl
  | i, acc, x :: ts, t => by
    show firstsF (i + 1) _ (ts ++ [t]) = _
    rw [firstsF_snoc]
    have e : i + 1 + ts.length = i + (x :: ts).length := by
      rw [List.length_cons]
      omega
    rw [e]
    rfl
theorem firstsF_length : ∀ (i : Nat) (acc ts : List Int), (firstsF i acc ts).length ≤ acc.length + ts.length
  | _, acc, [] => Nat.le_refl _
  | i, acc, t :: ts => by
    have h := firstsF_length (i + 1) (if t = (acc.length : Int) then acc ++ [(i : Int)] else acc) ts
    have h2 : (if t = (acc.length : Int) then acc ++ [(i : Int)] else acc).length ≤ acc.length + 1 := by
      split
      · rw [List.length_append, List.length_singleton]
        exact Nat.le_refl _
      · exact Nat.le_succ _
    rw [List.length_cons]
    show (firstsF (i + 1) (if t = (acc.length : Int) then acc ++ [(i : Int)] else acc) ts).length ≤ _
    omega
def valueAt (xs : List Int) (at_ span rise : Int) : Int :=
  if at_ < xs.length then xs.getD at_.toNat 0 else xs.getD (at_ - ((at_ - xs.length) / span + 1) * span).toNat 0 + ((at_ - xs.length) / span + 1) * rise
theorem getD_at {xs : List Int} {i : Int} (h0 : 0 ≤ i) (h1 : i < xs.length) : atI (xs.map V.int) i = some (.int (xs.getD i.toNat 0)) := by
  have hi : i.toNat < xs.length := by omega
  refine at_of (j := i.toNat) (by omega) ?_
  rw [List.getElem?_map, List.getElem?_eq_getElem hi, List.getD_eq_getElem?_getD, List.getElem?_eq_getElem hi]
  rfl
/-- the places at which a table of first places does not lead back -/
def gapsF (fs : List Int) : Nat → List Int → List Int
  | _, [] => []
  | i, t :: ts => (if fs.getD t.toNat 0 = (i : Int) then [] else [(i : Int)]) ++ gapsF fs (i + 1) ts
theorem gapsF_snoc (fs : List Int) : ∀ (i : Nat) (ts : List Int) (t : Int), gapsF fs i (ts ++ [t]) = gapsF fs i ts ++ (if fs.getD t.toNat 0 = ((i + ts.length : Nat) : Int) then [] else [((i + ts.length : Nat) : Int)])
  | i, [], t => by
    show (if _ then _ else _) ++ [] = [] ++ _
    rw [List.append_nil, List.nil_append]
    rfl
  | i, x :: ts, t => by
    show _ ++ gapsF fs (i + 1) (ts ++ [t]) = _ ++ gapsF fs (i + 1) ts ++ _
    rw [gapsF_snoc, List.append_assoc]
    have e : i + 1 + ts.length = i + (x :: ts).length := by
      rw [List.length_cons]
      omega
    rw [e]
theorem gapsF_length (fs : List Int) : ∀ (i : Nat) (ts : List Int), (gapsF fs i ts).length ≤ ts.length
  | _, [] => Nat.le_refl _
  | i, t :: ts => by
    show ((if _ then _ else _) ++ gapsF fs (i + 1) ts).length ≤ ts.length + 1
    have := gapsF_length fs (i + 1) ts
    rw [List.length_append]
    split
    · simp only [List.length_nil]
      omega
    · simp only [List.length_singleton]
      omega
section
variable {P : Program} {w : World} {K : PySem.W.Frag} {mg : Str → Option Value} {base : Heap} (T : Tx K mg)
include T
def spTops (K : PySem.W.Frag) : Sp := fun vs H Q _ => ∃ (a : Addr) (cs : List Int), vs = [.ref a] ∧ SqL K H a (cs.map V.int) ∧ cs.length ≤ 10000 ∧ ∀ H' p, Same H H' → H p = none → H' p = some (.lst ((topsF 0 cs).map V.int)) → Q (.ref p) H'
theorem ok_tops_of : FnR P w K mg base CX0 1 (a_tops_of K) (spTops K) := by
  refine fnR0 (d := d_tops_of) T.F_tops_of sc_tops_of rfl (fun _ _ _ _ _ _ us hl => match us, hl with | [_], _ => rfl) (fun vs H Q E h => ?_) (fun cdv A outer s H vs Q E hr h => ?_)
  · obtain ⟨a, cs, rfl, _⟩ := h
    rfl
  obtain ⟨a, cs, rfl, hS, hl, k⟩ := h
  refine ⟨_, (pss_cons (ps_set (i := 1) sc_tops_of.nd rfl (Or.inl rfl) (pe_lst pa_nil)) (pss_cons (ps_set (i := 2) sc_tops_of.nd rfl (Or.inl rfl) pe_int) (pss_cons (ps_for PassesOwn.never rfl (pi_list (pv 0)) (pg_name (i := 3) sc_tops_of.nd rfl (Or.inl rfl)) (pss_cons (ps_if (pt_cmpR op_gt (pv 3) (pv 2) (nomark _)) (pss_one (ps_set (i := 2) sc_tops_of.nd rfl (Or.inl rfl) (pv 3))) pss_nil) (pss_one (ps_expr (pe_bm PySem.F.plainAttrs_list PySem.F.slot_list_append PySem.F.type_list_append mt_append (pv 1) (pa_cons (pv 2) pa_nil)))))) (pss_one (ps_ret (pv 1)))))), ?_⟩
  refine ⟨Nat.zero_le _, fun p hp => ?_⟩
  refine ⟨_, rfl, a, rfl, ⟨_, (same_new hp).seq hS⟩, for_list (K := K) (a := a) (xs := cs.map V.int) (fun i σ H1 => Same H H1 ∧ H1 p = some (.lst ((topsF 0 (cs.take i)).map V.int)) ∧ ∃ x, σ = [some (.ref a), some (.ref p), some (.int (topsM 0 (cs.take i))), x])
    ⟨same_new hp, upd_same, _, rfl⟩ (fun i σ H1 _ q => q.1.seq hS) ?_ ?_⟩
  · rintro i x σ H1 hx ⟨s1, e1, x3, rfl⟩
    obtain ⟨c, ec, rfl⟩ := int_at hx
    have hi := lt_of_at ec
    have e2 : topsM 0 (cs.take (i + 1)) = if topsM 0 (cs.take i) < c then c else topsM 0 (cs.take i) := by rw [take_at ec, topsM_snoc]
    have e3 : topsF 0 (cs.take (i + 1)) = topsF 0 (cs.take i) ++ [topsM 0 (cs.take (i + 1))] := by rw [take_at ec, topsF_snoc]
    have hz : ((topsF 0 (cs.take i)).map V.int).length < sizeLine := small3 (by rw [List.length_map, topsF_length, List.length_take]; omega)
    refine ⟨_, rfl, _, rfl, _, _, rfl, rfl, _, rfl, ite2 (fun hd => ?_) (fun hd => ?_)⟩
    · have hd : topsM 0 (cs.take i) < c := of_decide_eq_true hd
      rw [if_pos hd] at e2
      refine ⟨_, rfl, ?_⟩
      refine ⟨_, rfl, .inl ⟨rfl, _, SqL.of e1⟩, _, rfl, p, _, _, rfl, rfl, e1, hz, same_mut s1 hp, ?_, some (.int c), ?_⟩
      · rw [upd_same, e3, e2, List.map_append]
        rfl
      · rw [e2]
        rfl
    · have hd : ¬ topsM 0 (cs.take i) < c := fun z => hd (decide_eq_true z)
      rw [if_neg hd] at e2
      refine ⟨_, rfl, .inl ⟨rfl, _, SqL.of e1⟩, _, rfl, p, _, _, rfl, rfl, e1, hz, same_mut s1 hp, ?_, some (.int c), ?_⟩
      · rw [upd_same, e3, e2, List.map_append]
        rfl
      · rw [e2]
        rfl
  · rintro σ H1 ⟨s1, e1, x, rfl⟩
    refine ⟨_, rfl, k _ _ s1 hp ?_⟩
    rw [e1, List.length_map, List.take_length]
def spFirsts (K : PySem.W.Frag) : Sp := fun vs H Q _ => ∃ (a : Addr) (ts : List Int), vs = [.ref a] ∧ SqL K H a (ts.map V.int) ∧ ts.length ≤ 10000 ∧ ∀ H' p, Same H H' → H p = none → H' p = some (.lst ((firstsF 0 [] ts).map V.int)) → Q (.ref p) H'
theorem ok_firsts_of : FnR P w K mg base CX0 1 (a_firsts_of K) (spFirsts K) := by
  refine fnR0 (d := d_firsts_of) T.F_firsts_of sc_firsts_of rfl (fun _ _ _ _ _ _ us hl => match us, hl with | [_], _ => rfl) (fun vs H Q E h => ?_) (fun cdv A outer s H vs Q E hr h => ?_)
  · obtain ⟨a, cs, rfl, _⟩ := h
    rfl
  obtain ⟨a, ts, rfl, hS, hl, k⟩ := h
  refine ⟨_, (pss_cons (ps_set (i := 1) sc_firsts_of.nd rfl (Or.inl rfl) (pe_lst pa_nil)) (pss_cons (ps_for PassesOwn.never rfl (pi_enum (by rfl) T.n_enumerate (pa_cons (pv 0) pa_nil)) (pg_tup rfl (pgs_cons (pg_name (i := 2) sc_firsts_of.nd rfl (Or.inl rfl)) (pgs_cons (pg_name (i := 3) sc_firsts_of.nd rfl (Or.inl rfl)) pgs_nil))) (pss_one (ps_if (pt_cmpR op_eq (pv 3) (pe_callB call_len_seq (by rfl) T.n_len PySem.boot_len (pa_cons (pv 1) pa_nil)) (nomark _)) (pss_one (ps_expr (pe_bm PySem.F.plainAttrs_list PySem.F.slot_list_append PySem.F.type_list_append mt_append (pv 1) (pa_cons (pv 2) pa_nil)))) pss_nil))) (pss_one (ps_ret (pv 1))))), ?_⟩
  refine ⟨Nat.zero_le _, fun p hp => ?_⟩
  refine ⟨_, rfl, a, _, rfl, (same_new hp).seq hS, for_it (walk_enum (K := K) (a := a) (xs := ts.map V.int)) (fun i σ H1 => Same H H1 ∧ H1 p = some (.lst ((firstsF 0 [] (ts.take i)).map V.int)) ∧ ∃ x y, σ = [some (.ref a), some (.ref p), x, y])
    ⟨same_new hp, upd_same, _, _, rfl⟩ (fun i σ H1 _ q => q.1.seq hS) ?_ ?_⟩
  · rintro i x σ H1 H2 hi ⟨s1, e1, x2, x3, rfl⟩ ⟨q, u, v, rfl, nq, rfl, eu, ev⟩
    cases eu
    obtain ⟨c, ec, rfl⟩ := int_at ev
    have li := lt_of_at ec
    have hz : (firstsF 0 [] (ts.take i)).length ≤ 10000 := by
      have := firstsF_length 0 [] (ts.take i)
      rw [List.length_take] at this
      simp only [List.length_nil] at this
      omega
    have e3 := firstsF_snoc 0 [] (ts.take i) c
    rw [← take_at ec, List.length_take, Nat.min_eq_left (Nat.le_of_lt li), Nat.zero_add] at e3
    have e1' := upd_old (u := .tup [.int (i : Nat), .int c]) e1 nq
    refine ⟨q, _, rfl, SqT.of upd_same, rfl, _, _, rfl, _, _, rfl, rfl, ?_⟩
    refine ⟨_, rfl, _, rfl, p, _, rfl, .inl (SqL.of e1'), rfl, _, rfl, ?_⟩
    refine ite2 (fun hd => ?_) (fun hd => ?_)
    · have hd2 : c = ((firstsF 0 [] (ts.take i)).length : Int) := by
        have z := of_decide_eq_true hd
        rw [List.length_map] at z
        exact V.int.inj z
      rw [if_pos hd2] at e3
      refine ⟨_, rfl, .inl ⟨rfl, _, SqL.of e1'⟩, _, rfl, p, _, _, rfl, rfl, e1', small3 (by rw [List.length_map]; omega), same_mut (s1.trans (same_new nq)) hp, ?_, _, _, rfl⟩
      rw [upd_same, e3, List.map_append]
      rfl
    · have hd2 : ¬ c = ((firstsF 0 [] (ts.take i)).length : Int) := fun z => hd (decide_eq_true (by rw [List.length_map, z]))
      rw [if_neg hd2] at e3
      exact ⟨s1.trans (same_new nq), by rw [e1', e3], _, _, rfl⟩
  · rintro σ H1 ⟨s1, e1, x, y, rfl⟩
    refine ⟨_, rfl, k _ _ s1 hp ?_⟩
    rw [e1, List.length_map, List.take_length]
def spValue (K : PySem.W.Frag) : Sp := fun vs H Q _ => ∃ (a : Addr) (xs : List Int) (i span rise : Int), vs = [.ref a, .int i, .int span, .int rise] ∧ SqL K H a (xs.map V.int) ∧ 0 ≤ i ∧ 0 < span ∧ span < 10000 ∧ -(10000) < rise ∧ rise < 10000 ∧ span ≤ xs.length ∧
  Q (.int (valueAt xs i span rise)) H
theorem ok_value_at : FnR P w K mg base CX0 1 (a_value_at K) (spValue K) := by
  refine fnR0 (d := d_value_at) T.F_value_at sc_value_at rfl (fun _ _ _ _ _ _ us hl => match us, hl with | [_, _, _, _], _ => rfl) (fun vs H Q E h => ?_) (fun cdv A outer s H vs Q E hr h => ?_)
  · obtain ⟨a, xs, i, span, rise, rfl, _⟩ := h
    rfl
  obtain ⟨a, xs, i, span, rise, rfl, hS, h0, h1, h2, h3, h4, h5, k⟩ := h
  refine ⟨_, (pss_cons (ps_if (pt_cmpR op_lt (pv 1) (pe_callB call_len_seq (by rfl) T.n_len PySem.boot_len (pa_cons (pv 0) pa_nil)) (nomark _)) (pss_one (ps_ret (pe_ix ix_list (pv 0) (pv 1) (fun _ _ => rfl)))) pss_nil) (pss_cons (ps_set (i := 4) sc_value_at.nd rfl (Or.inl rfl) (pe_op op_add (pe_op op_fdiv (pe_op op_sub (pv 1) (pe_callB call_len_seq (by rfl) T.n_len PySem.boot_len (pa_cons (pv 0) pa_nil))) (pv 2)) pe_int)) (pss_one (ps_ret (pe_op op_add (pe_ix ix_list (pv 0) (pe_op op_sub (pv 1) (pe_op op_mul (pv 4) (pv 2))) (fun _ _ => rfl)) (pe_op op_mul (pv 4) (pv 3))))))), ?_⟩
  refine ⟨_, rfl, _, rfl, a, _, rfl, .inl hS, _, _, rfl, rfl, _, rfl, ite2 (fun hd => ?_) (fun hd => ?_)⟩
  · have hd : i < (xs.length : Int) := by
      have z := of_decide_eq_true hd
      rw [List.length_map] at z
      exact z
    refine ⟨_, rfl, _, rfl, a, _, _, _, rfl, rfl, hS, getD_at h0 hd, ?_⟩
    unfold valueAt at k
    rw [if_pos hd] at k
    exact k
  · have hd : ¬ i < (xs.length : Int) := fun z => hd (decide_eq_true (by rw [List.length_map]; exact z))
    unfold valueAt at k
    rw [if_neg hd] at k
    refine ⟨_, rfl, _, rfl, a, _, rfl, .inl hS, _, _, rfl, rfl, _, rfl, _, _, rfl, rfl, ⟨h1, by omega⟩, _, _, rfl, rfl, ?_⟩
    have em : i % span = i - i / span * span := by
      have := Int.emod_add_mul_ediv i span
      rw [Int.mul_comm] at this
      omega
    have f1 : (i - xs.length) / span * span ≤ i - xs.length := by
      have := Int.emod_add_mul_ediv (i - xs.length) span
      have := Int.emod_nonneg (i - xs.length) (show span ≠ 0 by omega)
      rw [Int.mul_comm]
      omega
    have f2 : i - xs.length < (i - xs.length) / span * span + span := by
      have := Int.emod_add_mul_ediv (i - xs.length) span
      have := Int.emod_lt_of_pos (i - xs.length) h1
      rw [Int.mul_comm]
      omega
    have f3 : ((i - xs.length) / span + 1) * span = (i - xs.length) / span * span + span := by rw [Int.add_mul, Int.one_mul]
    refine ⟨_, rfl, _, rfl, _, rfl, _, rfl, _, _, rfl, rfl, .inr ⟨by omega, by omega⟩, _, _, rfl, rfl, a, _, _, .int (xs.getD (i - ((i - (xs.length : Int)) / span + 1) * span).toNat 0), rfl, rfl, hS, ?_, ?_⟩
    · show atI (xs.map V.int) (i - ((i - ((xs.map V.int).length : Int)) / span + 1) * span) = _
      rw [List.length_map]
      refine getD_at ?_ ?_
      · omega
      · omega
    · refine ⟨_, rfl, _, rfl, _, _, rfl, rfl, .inr ⟨by omega, by omega⟩, _, _, rfl, rfl, ?_⟩
      rw [List.length_map]
      exact k
def spGaps (K : PySem.W.Frag) : Sp := fun vs H Q _ => ∃ (a b : Addr) (ts fs : List Int), vs = [.ref a, .ref b] ∧ SqL K H a (ts.map V.int) ∧ SqL K H b (fs.map V.int) ∧ ts.length ≤ 10000 ∧ (∀ t ∈ ts, 0 ≤ t ∧ t < fs.length) ∧
  ∀ H' p, Same H H' → H p = none → H' p = some (.lst ((gapsF fs 0 ts).map V.int)) → Q (.ref p) H'
theorem ok_gaps_of : FnR P w K mg base CX0 1 (a_gaps_of K) (spGaps K) := by
  refine fnR0 (d := d_gaps_of) T.F_gaps_of sc_gaps_of rfl (fun _ _ _ _ _ _ us hl => match us, hl with | [_, _], _ => rfl) (fun vs H Q E h => ?_) (fun cdv A outer s H vs Q E hr h => ?_)
  · obtain ⟨a, b, ts, fs, rfl, _⟩ := h
    rfl
  obtain ⟨a, b, ts, fs, rfl, hS, hF, hl, hb, k⟩ := h
  refine ⟨_, (pss_one (ps_ret (pe_lc (own := [("drinks", 2), ("top", 3)]) rfl sc_gaps_of.nd (pi_enum (by rfl) T.n_enumerate (pa_cons (pv 0) pa_nil)) (blkOk_by (own := [("drinks", 2), ("top", 3)]) (N := N_gaps_of) (sc := defScope s_gaps_of) (by decide +kernel)) (fun _ _ _ _ _ => (pg_tupB (n := 2) (pgs_cons (pg_name (i := 2) sc_gaps_of.nd rfl (Or.inl rfl) (.inr rfl)) (pgs_cons (pg_name (i := 3) sc_gaps_of.nd rfl (Or.inl rfl) (.inr rfl)) pgs_nil)))) (fun _ _ _ _ _ => (pts_one (pt_cmpR op_ne (pe_ix (ix_listK (K := K) rfl) (pv 1) (pv 3) (fun _ _ => rfl)) (pv 2) (nomark _)))) (fun _ _ _ _ _ => (pv 2))))), ?_⟩
  refine ⟨_, rfl, a, _, rfl, hS, fun D hD => ?_⟩
  refine lc_it (walk_enum (K := K) (a := a) (xs := ts.map V.int)) (fun i H1 => Same H H1 ∧ H1 D = some (.lst ((gapsF fs 0 (ts.take i)).map V.int))) ⟨same_new hD, upd_same⟩ (fun i H1 _ q => q.1.seq hS) ?_ ?_
  · rintro i x H1 H2 hi ⟨s1, e1⟩ ⟨q, u, v, rfl, nq, rfl, eu, ev⟩
    cases eu
    obtain ⟨c, ec, rfl⟩ := int_at ev
    have li := lt_of_at ec
    have hc := hb c (List.mem_of_getElem? ec)
    have e1' := upd_old (u := .tup [.int (i : Nat), .int c]) e1 nq
    have e3 := gapsF_snoc fs 0 (ts.take i) c
    rw [← take_at ec, List.length_take, Nat.min_eq_left (Nat.le_of_lt li), Nat.zero_add] at e3
    have hz : (gapsF fs 0 (ts.take i)).length ≤ 10000 := by
      have := gapsF_length fs 0 (ts.take i)
      rw [List.length_take] at this
      omega
    refine ⟨q, _, rfl, SqT.of upd_same, rfl, _, _, rfl, _, _, rfl, rfl, rfl, ?_⟩
    refine ⟨_, rfl, _, rfl, b, _, _, _, rfl, rfl, (s1.trans (same_new nq)).seq hF, getD_at hc.1 hc.2, _, rfl, rfl, _, rfl, ?_⟩
    refine ite2 (fun hd => ?_) (fun hd => ?_)
    · have hd2 : ¬ fs.getD c.toNat 0 = (i : Int) := fun z => by
        rw [z, decide_eq_true rfl] at hd
        cases hd
      rw [if_neg hd2] at e3
      refine ⟨_, rfl, _, e1', small3 (by rw [List.length_map]; omega), same_mut (s1.trans (same_new nq)) hD, ?_⟩
      rw [upd_same, e3, List.map_append]
      rfl
    · have hd2 : fs.getD c.toNat 0 = (i : Int) := by
        apply Classical.byContradiction
        intro z
        apply hd
        rw [decide_eq_false (fun y => z (V.int.inj y))]
        rfl
      rw [if_pos hd2, List.append_nil] at e3
      exact ⟨s1.trans (same_new nq), by rw [e1', e3]⟩
  · rintro H1 ⟨s1, e1⟩
    refine k _ _ s1 hD ?_
    rw [e1, List.length_map, List.take_length]
end
end EB

namespace EB
open PySem PySem.Spec PyProof.Rows L2
/-! ### checks -/
def signOk (c : Nat) : Bool := if (!decide ((⟨#[c]⟩ : Str).cps.toList < ("a" : Str).cps.toList)) = true then (!decide (("z" : Str).cps.toList < (⟨#[c]⟩ : Str).cps.toList)) else false
def labelOk (z : Str) : Bool := if (!(if decide ((1 : Int) ≤ z.length) = true then decide ((z.length : Int) ≤ 8) else false)) = true then false else (z.cps.toList.map signOk).all id
def kindOk (z : Str) : Bool := if labelOk z = true then !decide (z = "drink") else false
def numOk (i lo hi : Int) : Bool := if decide (lo ≤ i) = true then decide (i ≤ hi) else false
def trOk (t : Tr) : Bool := if kindOk t.k = true then (if numOk t.l 0 12 = true then numOk t.n 1 12 else false) else false
theorem numOk_iff {i lo hi : Int} : numOk i lo hi = true ↔ lo ≤ i ∧ i ≤ hi := by
  unfold numOk
  by_cases h : lo ≤ i
  · rw [decide_eq_true h, if_pos rfl]
    exact ⟨fun z => ⟨h, of_decide_eq_true z⟩, fun z => decide_eq_true z.2⟩
  · rw [decide_eq_false h, if_neg Bool.false_ne_true]
    exact ⟨fun z => absurd z Bool.false_ne_true, fun z => absurd z.1 h⟩
theorem trOk_of {t : Tr} (h : t.ok) (k : kindOk t.k = true) : trOk t = true := by
  unfold trOk
  rw [if_pos k, if_pos (numOk_iff.mpr ⟨h.1, h.2.1⟩)]
  exact numOk_iff.mpr ⟨h.2.2.1, h.2.2.2⟩
section
variable {P : Program} {w : World} {K : PySem.W.Frag} {mg : Str → Option Value} {base : Heap} (T : Tx K mg)
include T
def spIsInt : Sp := fun vs H Q _ => ∃ i : Int, vs = [.int i] ∧ Q (.bl true) H
theorem ok_is_integer : FnR P w K mg base CX0 1 (a_is_integer K) spIsInt := by
  refine fnR0 (d := d_is_integer) T.F_is_integer sc_is_integer rfl (fun _ _ _ _ _ _ us hl => match us, hl with | [_], _ => rfl) (fun vs H Q E h => ?_) (fun cdv A outer s H vs Q E hr h => ?_)
  · obtain ⟨i, rfl, _⟩ := h
    rfl
  obtain ⟨i, rfl, k⟩ := h
  refine ⟨_, (pss_one (ps_ret (pe_and (pe_callB call_isi (by rfl) T.n_isinstance (by decide +kernel) (pa_cons (pv 0) (pa_cons (pe_bltn (v := .ty "int") (u := .type "int") rfl T.n_int (by decide +kernel) rfl) pa_nil))) (pe_one (pe_not (pe_callB call_isi (by rfl) T.n_isinstance (by decide +kernel) (pa_cons (pv 0) (pa_cons (pe_bltn (v := .ty "bool") (u := .type "bool") rfl T.n_bool (by decide +kernel) rfl) pa_nil)))))))), ?_⟩
  refine ⟨_, rfl, .int i, .ty "int", _, _, true, rfl, ClsV.ty "int", .base (.int i), kit_ty (by decide +kernel), true, rfl, iteT ?_⟩
  exact ⟨_, rfl, .int i, .ty "bool", _, _, false, rfl, ClsV.ty "bool", .base (.int i), kit_ty (by decide +kernel), false, rfl, k⟩
def spIsNum : Sp := fun vs H Q _ => ∃ i lo hi : Int, vs = [.int i, .int lo, .int hi] ∧ Q (.bl (numOk i lo hi)) H
theorem ok_is_number : FnR P w K mg base CX0 2 (a_is_number K) spIsNum := by
  refine fnR0 (d := d_is_number) T.F_is_number sc_is_number rfl (fun _ _ _ _ _ _ us hl => match us, hl with | [_, _, _], _ => rfl) (fun vs H Q E h => ?_) (fun cdv A outer s H vs Q E hr h => ?_)
  · obtain ⟨i, lo, hi, rfl, _⟩ := h
    rfl
  obtain ⟨i, lo, hi, rfl, k⟩ := h
  refine ⟨_, (pss_one (ps_ret (pe_and (pe_cR (ok_is_integer T) (hr.mono (by decide)) T.F_is_integer.kp T.g_is_integer pass0 (pa_cons (pv 0) pa_nil)) (pe_one (pe_chain op_le op_le (pv 1) (pv 0) (pv 2)))))), ?_⟩
  refine ⟨_, rfl, i, rfl, true, rfl, iteT ?_⟩
  refine ⟨_, rfl, _, rfl, _, _, rfl, rfl, _, rfl, ?_⟩
  unfold numOk at k
  refine ite2 (fun hd => ?_) (fun hd => ?_)
  · rw [if_pos hd] at k
    exact ⟨_, rfl, _, _, rfl, rfl, k⟩
  · rw [if_neg hd] at k
    exact k
def spIsLabel : Sp := fun vs H Q _ => ∃ z : Str, vs = [.str z] ∧ z.length ≤ 1000 ∧ ∀ H', Same H H' → Q (.bl (labelOk z)) H'
theorem ok_is_label : FnR P w K mg base CX0 1 (a_is_label K) spIsLabel := by
  refine fnR0 (d := d_is_label) T.F_is_label sc_is_label rfl (fun _ _ _ _ _ _ us hl => match us, hl with | [_], _ => rfl) (fun vs H Q E h => ?_) (fun cdv A outer s H vs Q E hr h => ?_)
  · obtain ⟨z, rfl, _⟩ := h
    rfl
  obtain ⟨z, rfl, hz, k⟩ := h
  have hz2 : z.length ≤ sizeLine := Nat.le_trans hz (by decide)
  refine ⟨_, (pss_cons (ps_if (PW.pt (pw_or (pt_not (pt_val (pe_callB call_isi (by rfl) T.n_isinstance (by decide +kernel) (pa_cons (pv 0) (pa_cons (pe_bltn (v := .ty "str") (u := .type "str") rfl T.n_str (by decide +kernel) rfl) pa_nil))))) (pw_or1 (pt_not (pt_chain op_le op_le pe_int (pe_callB call_len_str (by rfl) T.n_len PySem.boot_len (pa_cons (pv 0) pa_nil)) (pe_cI T.c_MAX_LABEL_LENGTH)))))) (pss_one (ps_ret pe_bl)) pss_nil) (pss_one (ps_ret (pe_callB (cr_all rfl) (by rfl) T.n_all (by decide +kernel) (pa_cons (pe_lc (own := [("letter", 1)]) rfl sc_is_label.nd (pi_str (pv 0)) (blkOk_by (own := [("letter", 1)]) (N := N_is_label) (sc := defScope s_is_label) (by decide +kernel)) (fun _ _ _ _ _ => (pg_name (i := 1) sc_is_label.nd rfl (Or.inl rfl) (.inr rfl))) (fun _ _ _ _ _ => pts_nil) (fun _ _ _ _ _ => (pe_chain op_le_str op_le_str pe_str (pv 1) pe_str))) pa_nil))))), ?_⟩
  refine ⟨_, rfl, .str z, .ty "str", _, _, true, rfl, ClsV.ty "str", .base (.str z), kit_ty (by decide +kernel), true, rfl, ?_⟩
  show (if false = true then _ else _)
  refine iteF ?_
  have hlast : ∀ (c : Bool), (if decide ((1 : Int) ≤ z.length) = true then decide ((z.length : Int) ≤ 8) else false) = c → labelOk z = if (!c) = true then false else (z.cps.toList.map signOk).all id := by
    rintro c rfl
    rfl
  refine ⟨_, rfl, z, rfl, hz2, _, _, rfl, rfl, _, rfl, ?_⟩
  refine ite2 (fun h1 => ?_) (fun h1 => ?_)
  · rw [if_pos h1] at hlast
    refine ⟨_, _, rfl, rfl, _, rfl, ?_⟩
    by_cases h2 : (z.length : Int) ≤ 8
    · rw [decide_eq_true h2]
      rw [hlast true (decide_eq_true h2)] at k
      refine iteF ?_
      refine ⟨_, rfl, z, rfl, fun D hD => ?_⟩
      refine lc_it (walk_str (z := z)) (fun i H1 => Same H H1 ∧ H1 D = some (.lst ((z.cps.toList.take i).map fun c => V.bl (signOk c)))) ⟨same_new hD, upd_same⟩ (fun _ _ _ _ => True.intro) ?_ ?_
      · rintro i x H1 H2 hi ⟨s1, e1⟩ ⟨rfl, c, ec, rfl⟩
        have ec2 : z.cps.toList[i]? = some c := by
          rw [Array.getElem?_toList]
          exact ec
        have hz3 : ((z.cps.toList.take i).map fun c => V.bl (signOk c)).length < sizeLine := by
          rw [List.length_map, List.length_take]
          refine small3 ?_
          have h3 : i < z.cps.size := hi
          have h4 : z.cps.size = z.length := rfl
          omega
        refine ⟨rfl, _, rfl, _, _, rfl, rfl, _, rfl, ?_⟩
        have hs : signOk c = if (!decide ((⟨#[c]⟩ : Str).cps.toList < ("a" : Str).cps.toList)) = true then (!decide (("z" : Str).cps.toList < (⟨#[c]⟩ : Str).cps.toList)) else false := rfl
        refine ite2 (fun h5 => ?_) (fun h5 => ?_)
        · rw [if_pos h5] at hs
          refine ⟨_, _, rfl, rfl, _, e1, hz3, same_mut s1 hD, ?_⟩
          rw [upd_same, take_at ec2, List.map_append, ← hs]
          rfl
        · rw [if_neg h5] at hs
          refine ⟨_, e1, hz3, same_mut s1 hD, ?_⟩
          rw [upd_same, take_at ec2, List.map_append, ← hs]
          rfl
      · rintro H1 ⟨s1, e1⟩
        refine ⟨D, z.cps.toList.map signOk, rfl, SqL.of ?_, k _ s1⟩
        rw [e1, ← Array.length_toList, List.take_length, List.map_map]
        rfl
    · rw [decide_eq_false h2]
      rw [hlast false (decide_eq_false h2)] at k
      exact iteT (k _ (Same.refl _))
  · rw [if_neg h1] at hlast
    rw [hlast false rfl] at k
    exact ⟨false, rfl, iteT (k _ (Same.refl _))⟩
def spIsKind : Sp := fun vs H Q _ => ∃ z : Str, vs = [.str z] ∧ z.length ≤ 1000 ∧ ∀ H', Same H H' → Q (.bl (kindOk z)) H'
theorem ok_is_kind : FnR P w K mg base CX0 2 (a_is_kind K) spIsKind := by
  refine fnR0 (d := d_is_kind) T.F_is_kind sc_is_kind rfl (fun _ _ _ _ _ _ us hl => match us, hl with | [_], _ => rfl) (fun vs H Q E h => ?_) (fun cdv A outer s H vs Q E hr h => ?_)
  · obtain ⟨z, rfl, _⟩ := h
    rfl
  obtain ⟨z, rfl, hz, k⟩ := h
  refine ⟨_, (pss_one (ps_ret (pe_and (pe_cR (ok_is_label T) (hr.mono (by decide)) T.F_is_label.kp T.g_is_label pass0 (pa_cons (pv 0) pa_nil)) (pe_one (pe_cmpR op_ne (pv 0) (pe_cS T.c_DRINK) (nomark _)))))), ?_⟩
  refine ⟨_, rfl, z, rfl, hz, fun H1 s1 => ⟨_, rfl, ?_⟩⟩
  unfold kindOk at k
  refine ite2 (fun h1 => ?_) (fun h1 => ?_)
  · rw [if_pos h1] at k
    refine ⟨_, rfl, rfl, ?_⟩
    have e : decide (V.str z = V.str "drink") = decide (z = "drink") := decide_eq_decide.mpr ⟨V.str.inj, fun y => by rw [y]⟩
    show Q (V.bl !decide (V.str z = V.str "drink")) H1
    rw [e]
    exact k _ s1
  · rw [if_neg h1] at k
    exact k _ s1
def spIsTrade : Sp := fun vs H Q _ => ∃ t : Tr, vs = t.vs ∧ t.k.length ≤ 1000 ∧ ∀ H', Same H H' → Q (.bl (trOk t)) H'
theorem ok_is_trade : FnR P w K mg base CX0 3 (a_is_trade K) spIsTrade := by
  refine fnR0 (d := d_is_trade) T.F_is_trade sc_is_trade rfl (fun _ _ _ _ _ _ us hl => match us, hl with | [_, _, _], _ => rfl) (fun vs H Q E h => ?_) (fun cdv A outer s H vs Q E hr h => ?_)
  · obtain ⟨t, rfl, _⟩ := h
    rfl
  obtain ⟨t, rfl, hz, k⟩ := h
  obtain ⟨uE, hE⟩ := T.v_Offer_MAX_NEEDED
  refine ⟨_, (pss_one (ps_ret (pe_and (pe_cR (ok_is_kind T) (hr.mono (by decide)) T.F_is_kind.kp T.g_is_kind pass0 (pa_cons (pv 0) pa_nil)) (pe_and (pe_cR (ok_is_number T) (hr.mono (by decide)) T.F_is_number.kp T.g_is_number pass0 (pa_cons (pv 1) (pa_cons pe_int (pa_cons (pe_cI T.c_MAX_LEFT) pa_nil)))) (pe_one (pe_cR (ok_is_number T) (hr.mono (by decide)) T.F_is_number.kp T.g_is_number pass0 (pa_cons (pv 2) (pa_cons pe_int (pa_cons (ClX.pe_cval (pe_cC T.g_Offer)) pa_nil))))))))), ?_⟩
  refine ⟨_, rfl, t.k, rfl, hz, fun H1 s1 => ⟨_, rfl, ?_⟩⟩
  unfold trOk at k
  refine ite2 (fun h1 => ?_) (fun h1 => ?_)
  · rw [if_pos h1] at k
    refine ⟨_, rfl, t.l, 0, 12, rfl, _, rfl, ite2 (fun h2 => ?_) (fun h2 => ?_)⟩
    · rw [if_pos h2] at k
      exact ⟨_, rfl, He.ga K "Offer", _, _, _, rfl, T.r_Offer, hE, t.n, 1, 12, rfl, k _ s1⟩
    · rw [if_neg h2] at k
      exact k _ s1
  · rw [if_neg h1] at k
    exact k _ s1
end
end EB

namespace EB
open PySem PySem.Spec PyProof.Rows L2
/-! ### the mathematics of offers -/
abbrev cN (ts : List Tr) : Nat → Int := fun d => cost ts (d : Int)
def worth (ts : List Tr) : Int := (ts.map fun t => 27720 / t.n * t.l).sum
/-- a good offer: at most three trades in range, together not too generous -/
structure Fair (ts : List Tr) : Prop where
  g : gds ts
  w : 10 * worth ts ≤ 9 * 27720
theorem dvd_big {n : Int} (h1 : 1 ≤ n) (h2 : n ≤ 12) : n ∣ 27720 := by
  have h : n = 1 ∨ n = 2 ∨ n = 3 ∨ n = 4 ∨ n = 5 ∨ n = 6 ∨ n = 7 ∨ n = 8 ∨ n = 9 ∨ n = 10 ∨ n = 11 ∨ n = 12 := by omega
  rcases h with rfl | rfl | rfl | rfl | rfl | rfl | rfl | rfl | rfl | rfl | rfl | rfl <;> decide
theorem sum_map_le {α : Type} {f g : α → Int} : ∀ {l : List α}, (∀ x ∈ l, f x ≤ g x) → (l.map f).sum ≤ (l.map g).sum
  | [], _ => Int.le_refl _
  | a :: l, h => by
    have h1 := h a (List.mem_cons_self ..)
    have h2 := sum_map_le (l := l) fun x hx => h x (List.mem_cons_of_mem _ hx)
    rw [List.map_cons, List.map_cons, List.sum_cons, List.sum_cons]
    omega
theorem sum_map_eq {α : Type} {f g : α → Int} : ∀ {l : List α}, (∀ x ∈ l, f x = g x) → (l.map f).sum = (l.map g).sum
  | [], _ => rfl
  | a :: l, h => by
    rw [List.map_cons, List.map_cons, List.sum_cons, List.sum_cons, h a (List.mem_cons_self ..), sum_map_eq (l := l) fun x hx => h x (List.mem_cons_of_mem _ hx)]
theorem sum_map_add {α : Type} {f g : α → Int} : ∀ {l : List α}, (l.map fun x => f x + g x).sum = (l.map f).sum + (l.map g).sum
  | [] => rfl
  | a :: l => by
    rw [List.map_cons, List.map_cons, List.map_cons, List.sum_cons, List.sum_cons, List.sum_cons, sum_map_add (l := l)]
    omega
theorem sum_map_mul {α : Type} {f : α → Int} {k : Int} : ∀ {l : List α}, (l.map fun x => f x * k).sum = (l.map f).sum * k
  | [] => by simp
  | a :: l => by
    rw [List.map_cons, List.map_cons, List.sum_cons, List.sum_cons, sum_map_mul (l := l), Int.add_mul]
theorem fl_mono {l n x y : Int} (hl : 0 ≤ l) (hn : 0 < n) (h : x ≤ y) : l * x / n ≤ l * y / n := Int.ediv_le_ediv hn (Int.mul_le_mul_of_nonneg_left h hl)
theorem fl_super {l n x y : Int} (hn : 0 < n) : l * x / n + l * y / n ≤ l * (x + y) / n := by
  rw [Int.mul_add]
  have h1 := Int.ediv_mul_le (l * x) (Int.ne_of_gt hn)
  have h2 := Int.ediv_mul_le (l * y) (Int.ne_of_gt hn)
  refine Int.le_ediv_of_mul_le hn ?_
  rw [Int.add_mul]
  omega
theorem tr_pos {t : Tr} (h : t.ok) : 0 < t.n := by
  have := h.2.2.1
  omega
/-! periods -/
theorem quo_dvd {t : Tr} (h : t.ok) {d : Nat} : (t.n / ((t.l.natAbs.gcd t.n.natAbs : Nat) : Int)).natAbs ∣ d ↔ t.n ∣ t.l * (d : Int) := by
  obtain ⟨l, hl⟩ := Int.eq_ofNat_of_zero_le h.1
  obtain ⟨n, hn⟩ := Int.eq_ofNat_of_zero_le (Int.le_of_lt (tr_pos h))
  have hp := tr_pos h
  rw [hl, hn]
  rw [hn] at hp
  have hp2 : 0 < n := by omega
  simp only [Int.natAbs_natCast]
  have hg : 0 < l.gcd n := Nat.gcd_pos_of_pos_right _ hp2
  rw [← Int.natCast_ediv, Int.natAbs_natCast]
  have e1 : ((n : Int) ∣ (l : Int) * (d : Int)) ↔ n ∣ l * d := by
    rw [← Int.natCast_mul]
    exact Int.natCast_dvd_natCast
  rw [e1]
  have hn2 : n = n / l.gcd n * l.gcd n := (Nat.div_mul_cancel (Nat.gcd_dvd_right l n)).symm
  have hl2 : l = l / l.gcd n * l.gcd n := (Nat.div_mul_cancel (Nat.gcd_dvd_left l n)).symm
  have co : Nat.Coprime (n / l.gcd n) (l / l.gcd n) := (Nat.coprime_div_gcd_div_gcd hg).symm
  constructor
  · rintro ⟨k, rfl⟩
    refine ⟨l / l.gcd n * k, ?_⟩
    have : l * (n / l.gcd n * k) = (l / l.gcd n * l.gcd n) * (n / l.gcd n * k) := by rw [← hl2]
    rw [this]
    have : n * (l / l.gcd n * k) = (n / l.gcd n * l.gcd n) * (l / l.gcd n * k) := by rw [← hn2]
    rw [this]
    simp only [Nat.mul_comm, Nat.mul_left_comm, Nat.mul_assoc]
  · rintro ⟨k, hk⟩
    refine co.dvd_of_dvd_mul_left (⟨k, ?_⟩ : n / l.gcd n ∣ l / l.gcd n * d)
    refine Nat.eq_of_mul_eq_mul_right hg ?_
    have e2 : l / l.gcd n * d * l.gcd n = l / l.gcd n * l.gcd n * d := by simp only [Nat.mul_comm, Nat.mul_left_comm]
    have e3 : n / l.gcd n * k * l.gcd n = n / l.gcd n * l.gcd n * k := by simp only [Nat.mul_comm, Nat.mul_left_comm]
    rw [e2, e3, ← hl2, ← hn2]
    exact hk
theorem perF_dvd : ∀ (ts : List Tr) (p d : Nat), (∀ t ∈ ts, t.ok) → (ts.foldl perS p ∣ d ↔ p ∣ d ∧ ∀ t ∈ ts, t.n ∣ t.l * (d : Int))
  | [], p, d, _ => by simp
  | t :: ts, p, d, h => by
    rw [List.foldl_cons, perF_dvd ts (perS p t) d fun u hu => h u (List.mem_cons_of_mem _ hu)]
    have e : perS p t ∣ d ↔ p ∣ d ∧ t.n ∣ t.l * (d : Int) := by
      unfold perS
      rw [Nat.lcm_dvd_iff, quo_dvd (h t (List.mem_cons_self ..))]
    rw [e]
    constructor
    · rintro ⟨⟨a, b⟩, c⟩
      refine ⟨a, fun u hu => ?_⟩
      rcases List.mem_cons.mp hu with rfl | hu
      · exact b
      · exact c u hu
    · rintro ⟨a, b⟩
      exact ⟨⟨a, b t (List.mem_cons_self ..)⟩, fun u hu => b u (List.mem_cons_of_mem _ hu)⟩
/-- the period divides just the numbers of drinks that leave whole trades -/
theorem per_dvd {ts : List Tr} (h : gds ts) {d : Nat} : per ts ∣ d ↔ ∀ t ∈ ts, t.n ∣ t.l * (d : Int) := by
  unfold per
  rw [perF_dvd ts 1 d h.2]
  exact ⟨fun z => z.2, fun z => ⟨Nat.one_dvd d, z⟩⟩
theorem perF_pos : ∀ (ts : List Tr) (p : Nat), 0 < p → (∀ t ∈ ts, t.ok) → 0 < ts.foldl perS p
  | [], p, hp, _ => hp
  | t :: ts, p, hp, h => by
    rw [List.foldl_cons]
    refine perF_pos ts _ ?_ fun u hu => h u (List.mem_cons_of_mem _ hu)
    have ht := h t (List.mem_cons_self ..)
    refine Nat.lcm_pos hp ?_
    have h1 := gcd_pos' ht
    have hn := tr_pos ht
    have h3 : ((t.l.natAbs.gcd t.n.natAbs : Nat) : Int) ≤ t.n := by
      have := Nat.gcd_le_right t.l.natAbs (show 0 < t.n.natAbs by omega)
      omega
    have h4 : 0 < t.n / ((t.l.natAbs.gcd t.n.natAbs : Nat) : Int) := Int.ediv_pos_of_pos_of_dvd hn (by omega) (by
      have : t.l.natAbs.gcd t.n.natAbs ∣ t.n.natAbs := Nat.gcd_dvd_right _ _
      exact Int.dvd_natAbs.mp (Int.natCast_dvd_natCast.mpr this))
    omega
theorem per_pos {ts : List Tr} (h : gds ts) : 0 < per ts := perF_pos ts 1 (by omega) h.2
/-! costs -/
theorem ten_buys {ts : List Tr} (f : Fair ts) (d : Nat) : 10 * buys ts d ≤ 9 * (d : Int) := by
  have h1 : buys ts d * 27720 ≤ worth ts * d := by
    unfold buys worth
    rw [← sum_map_mul, ← sum_map_mul]
    refine sum_map_le fun t ht => ?_
    have hn := tr_pos (f.g.2 t ht)
    obtain ⟨q, hq⟩ := dvd_big (f.g.2 t ht).2.2.1 (f.g.2 t ht).2.2.2
    have e1 : 27720 / t.n = q := by
      rw [hq]
      exact Int.mul_ediv_cancel_left _ (Int.ne_of_gt hn)
    have hq0 : 0 ≤ q := by
      rw [← e1]
      exact Int.ediv_nonneg (by omega) (by omega)
    rw [e1, hq]
    have h2 := Int.ediv_mul_le (t.l * (d : Int)) (Int.ne_of_gt hn)
    have h3 := Int.mul_le_mul_of_nonneg_right h2 hq0
    have e2 : t.l * (d : Int) / t.n * (t.n * q) = t.l * (d : Int) / t.n * t.n * q := by rw [Int.mul_assoc]
    have e3 : q * t.l * (d : Int) = t.l * (d : Int) * q := by rw [Int.mul_assoc, Int.mul_comm]
    rw [e2, e3]
    exact h3
  have h2 : worth ts * d ≤ 24948 * (d : Int) := Int.mul_le_mul_of_nonneg_right (by have := f.w; omega) (by omega)
  omega
theorem buys_nonneg {ts : List Tr} (f : gds ts) (d : Nat) : 0 ≤ buys ts d := by
  have h : ((ts.map fun _ => (0 : Int))).sum ≤ buys ts d := sum_map_le fun t ht => Int.ediv_nonneg (Int.mul_nonneg (f.2 t ht).1 (by omega)) (Int.le_of_lt (tr_pos (f.2 t ht)))
  have e : ((ts.map fun _ => (0 : Int))).sum = 0 := by
    have : ∀ l : List Tr, ((l.map fun _ => (0 : Int))).sum = 0 := by
      intro l
      induction l with
      | nil => rfl
      | cons a l ih => rw [List.map_cons, List.sum_cons, ih]; rfl
    exact this ts
  omega
/-- the bottles of a period -/
def perB (ts : List Tr) : Nat := (cN ts (per ts)).toNat
theorem cf {ts : List Tr} (f : Fair ts) : CF (cN ts) (per ts) (perB ts) where
  zero := by
    show (0 : Int) - buys ts 0 = 0
    have : buys ts 0 = 0 := by
      unfold buys
      have e : (ts.map fun t => t.l * 0 / t.n).sum = ((ts.map fun _ => (0 : Int) * 0)).sum := sum_map_eq fun t _ => by rw [Int.mul_zero, Int.zero_ediv]; rfl
      rw [e, sum_map_mul, Int.mul_zero]
    omega
  step := fun d => by
    show ((d + 1 : Nat) : Int) - buys ts ((d + 1 : Nat) : Int) ≤ (d : Int) - buys ts d + 1
    have h : buys ts d ≤ buys ts ((d + 1 : Nat) : Int) := sum_map_le fun t ht => fl_mono (f.g.2 t ht).1 (tr_pos (f.g.2 t ht)) (by omega)
    omega
  per := fun d => by
    have e : buys ts ((d + per ts : Nat) : Int) = buys ts d + buys ts (per ts) := by
      unfold buys
      rw [← sum_map_add]
      refine sum_map_eq fun t ht => ?_
      have hd := (per_dvd f.g (d := per ts)).mp (Nat.dvd_refl _) t ht
      rw [Int.natCast_add, Int.mul_add]
      exact Int.add_ediv_of_dvd_right hd
    have h10 := ten_buys f (per ts)
    have hB : ((perB ts : Nat) : Int) = (per ts : Int) - buys ts (per ts) := by
      unfold perB cN cost
      omega
    show ((d + per ts : Nat) : Int) - buys ts ((d + per ts : Nat) : Int) = (d : Int) - buys ts d + (perB ts : Int)
    rw [e, hB]
    omega
  ppos := per_pos f.g
  ten := fun d => by
    have := ten_buys f d
    show (d : Int) ≤ 10 * ((d : Int) - buys ts d)
    omega
  sub := fun x y => by
    have e : buys ts x + buys ts y ≤ buys ts ((x + y : Nat) : Int) := by
      unfold buys
      rw [← sum_map_add]
      refine sum_map_le fun t ht => ?_
      rw [Int.natCast_add]
      exact fl_super (tr_pos (f.g.2 t ht))
    show ((x + y : Nat) : Int) - buys ts ((x + y : Nat) : Int) ≤ (x : Int) - buys ts x + ((y : Int) - buys ts y)
    omega
theorem perB_eq {ts : List Tr} (f : Fair ts) : ((perB ts : Nat) : Int) = cost ts (per ts) := by
  have h := (cf f).nonneg (per ts)
  unfold perB
  exact Int.toNat_of_nonneg h
theorem perB_le {ts : List Tr} (f : Fair ts) : perB ts ≤ per ts := by
  have h : cost ts (per ts) ≤ (per ts : Int) := (cf f).le_self (per ts)
  have e := perB_eq f
  omega
/-! tables -/
theorem tops_eq {c : Nat → Int} (h0 : c 0 = 0) : ∀ n : Nat, topsF 0 ((List.range (n + 1)).map c) = (List.range (n + 1)).map (T c) ∧ topsM 0 ((List.range (n + 1)).map c) = T c n
  | 0 => by
    constructor
    · show [if (0 : Int) < c 0 then c 0 else 0] = [c 0]
      rw [h0]
      rfl
    · show (if (0 : Int) < c 0 then c 0 else 0) = c 0
      rw [h0]
      rfl
  | n + 1 => by
    obtain ⟨h1, h2⟩ := tops_eq h0 n
    have e : topsM 0 ((List.range (n + 1 + 1)).map c) = T c (n + 1) := by
      rw [List.range_succ, List.map_append, List.map_singleton, topsM_snoc, h2]
      rfl
    refine ⟨?_, e⟩
    rw [List.range_succ, List.map_append, List.map_append, List.map_singleton, List.map_singleton, topsF_snoc, h1, ← e]
    rw [List.range_succ (n := n + 1), List.map_append, List.map_singleton]
theorem firsts_eq {c : Nat → Int} {P B : Nat} (h : CF c P B) : ∀ n : Nat, firstsF 0 [] ((List.range (n + 1)).map (T c)) = (List.range ((T c n).toNat + 1)).map fun k => ((D c k : Nat) : Int)
  | 0 => by
    have e : T c 0 = 0 := h.zero
    show (if T c 0 = ((([] : List Int)).length : Int) then [] ++ [((0 : Nat) : Int)] else []) = _
    rw [e]
    show [((0 : Nat) : Int)] = [((D c 0 : Nat) : Int)]
    rw [h.D_zero]
  | n + 1 => by
    have ih := firsts_eq h n
    have hs := h.T_step n
    have hm := CF.T_mono c (Nat.le_add_right n 1)
    have hn := h.T_nonneg n
    rw [List.range_succ, List.map_append, List.map_singleton, firstsF_snoc, ih]
    simp only [List.length_map, List.length_range, Nat.zero_add]
    by_cases q : T c (n + 1) = (((T c n).toNat + 1 : Nat) : Int)
    · rw [if_pos q]
      have e1 : (T c (n + 1)).toNat = (T c n).toNat + 1 := by omega
      rw [e1, List.range_succ (n := (T c n).toNat + 1), List.map_append, List.map_singleton]
      have e2 : D c ((T c n).toNat + 1) = n + 1 := by
        refine h.D_eq ⟨?_, fun j hj => ?_⟩
        · obtain ⟨j, hj, ej⟩ := CF.T_at c (n + 1)
          rcases Nat.lt_or_eq_of_le hj with z | z
          · have := CF.T_ge c (d := n) (j := j) (by omega)
            omega
          · rw [z] at ej
            omega
        · have := CF.T_ge c (d := n) (j := j) (by omega)
          push_cast
          omega
      rw [e2]
    · rw [if_neg q]
      have e1 : (T c (n + 1)).toNat = (T c n).toNat := by
        push_cast at q
        omega
      rw [e1]
theorem getD_map {f : Nat → Int} {n i : Nat} (h : i < n) : ((List.range n).map f).getD i 0 = f i := by
  rw [List.getD_eq_getElem?_getD, List.getElem?_map, List.getElem?_range h]
  rfl
/-- behind its end the table of the greatest costs goes on as it is said -/
theorem value_tops {c : Nat → Int} {P B : Nat} (h : CF c P B) (d : Nat) : valueAt ((List.range (2 * P)).map (T c)) d P B = T c d := by
  have hp := h.ppos
  unfold valueAt
  simp only [List.length_map, List.length_range]
  by_cases q : (d : Int) < ((2 * P : Nat) : Int)
  · rw [if_pos q, Int.toNat_natCast, getD_map (by omega)]
  · rw [if_neg q]
    obtain ⟨e, he⟩ : ∃ e, d = 2 * P + e := ⟨d - 2 * P, by omega⟩
    have e1 : (d : Int) - ((2 * P : Nat) : Int) = (e : Int) := by omega
    rw [e1, ← Int.natCast_ediv]
    have h1 := Nat.div_add_mod e P
    have h2 := Nat.mod_lt e hp
    have h3 : (e / P + 1) * P = P * (e / P) + P := by rw [Nat.add_mul, Nat.one_mul, Nat.mul_comm]
    have e2 : (d : Int) - (((e / P : Nat) : Int) + 1) * (P : Int) = ((P + e % P : Nat) : Int) := by
      have : (((e / P : Nat) : Int) + 1) * (P : Int) = (((e / P + 1) * P : Nat) : Int) := by push_cast; rfl
      rw [this]
      omega
    rw [e2, Int.toNat_natCast, getD_map (by omega)]
    have e3 : d = P + e % P + (e / P + 1) * P := by omega
    have h5 := h.T_perk (d := P + e % P) (by omega) (e / P + 1)
    rw [← e3] at h5
    rw [h5]
    push_cast
    rfl
theorem value_firsts {c : Nat → Int} {P B : Nat} (h : CF c P B) (n : Nat) : valueAt ((List.range ((T c (2 * P - 1)).toNat + 1)).map fun k => ((D c k : Nat) : Int)) n B P = ((D c n : Nat) : Int) := by
  have hp := h.ppos
  have hb := h.bpos
  have ht : T c (2 * P - 1) = T c (P - 1) + B := by
    have := h.T_per (d := P - 1) (by omega)
    rw [show P - 1 + P = 2 * P - 1 by omega] at this
    exact this
  have h0 := h.T_nonneg (P - 1)
  generalize hL : (T c (2 * P - 1)).toNat + 1 = L
  unfold valueAt
  simp only [List.length_map, List.length_range]
  by_cases q : (n : Int) < (L : Int)
  · rw [if_pos q, Int.toNat_natCast, getD_map (by omega)]
  · rw [if_neg q]
    obtain ⟨e, he⟩ : ∃ e, n = L + e := ⟨n - L, by omega⟩
    have e1 : (n : Int) - (L : Int) = (e : Int) := by omega
    rw [e1, ← Int.natCast_ediv]
    have h1 := Nat.div_add_mod e B
    have h2 := Nat.mod_lt e hb
    have h3 : (e / B + 1) * B = B * (e / B) + B := by rw [Nat.add_mul, Nat.one_mul, Nat.mul_comm]
    obtain ⟨g, hg⟩ : ∃ g, L = B + g := ⟨L - B, by omega⟩
    have e2 : (n : Int) - (((e / B : Nat) : Int) + 1) * (B : Int) = ((g + e % B : Nat) : Int) := by
      have : (((e / B : Nat) : Int) + 1) * (B : Int) = (((e / B + 1) * B : Nat) : Int) := by push_cast; rfl
      rw [this]
      omega
    rw [e2, Int.toNat_natCast, getD_map (by omega)]
    have e3 : n = g + e % B + (e / B + 1) * B := by omega
    have h5 := h.D_perk (n := g + e % B) (by omega) (e / B + 1)
    rw [← e3] at h5
    rw [h5]
    push_cast
    rfl
end EB

namespace EB
open PySem PySem.Spec PyProof.Rows L2
/-! ### what an offer is -/
def nmOk (ts : List Tr) : Prop := (ts.map Tr.k).Nodup ∧ ∀ t ∈ ts, kindOk t.k = true ∧ t.k.length ≤ 1000
def wholeS (d : Nat) (t : Tr) : Nat := d.lcm t.n.natAbs
def wholeF (ts : List Tr) : Nat := ts.foldl wholeS 1
theorem wholeF_le : ∀ (ts : List Tr) (d : Nat), (∀ t ∈ ts, t.ok) → ts.foldl wholeS d ≤ d * 12 ^ ts.length
  | [], d, _ => by simp
  | t :: ts, d, h => by
    have h1 := wholeF_le ts (wholeS d t) fun u hu => h u (List.mem_cons_of_mem _ hu)
    have ht := h t (List.mem_cons_self ..)
    have h2 : wholeS d t ≤ d * 12 := Nat.le_trans (PySem.W.mc_lcm_le _ _) (Nat.mul_le_mul_left _ (by have := ht.2.2.1; have := ht.2.2.2; omega))
    have h3 : wholeS d t * 12 ^ ts.length ≤ d * 12 * 12 ^ ts.length := Nat.mul_le_mul_right _ h2
    rw [List.foldl_cons, List.length_cons, Nat.pow_succ]
    rw [Nat.mul_assoc, Nat.mul_comm 12] at h3
    omega
theorem wholeF_most {ts : List Tr} (h : gds ts) (i : Nat) : (ts.take i).foldl wholeS 1 ≤ 1728 := by
  have h1 := wholeF_le (ts.take i) 1 fun t ht => h.2 t (List.mem_of_mem_take ht)
  have h2 : (ts.take i).length ≤ 3 := by
    rw [List.length_take]
    have := h.1
    omega
  have h3 : 12 ^ (ts.take i).length ≤ 12 ^ 3 := Nat.pow_le_pow_right (by omega) h2
  omega
theorem wholeF_dvd : ∀ (ts : List Tr) (d m : Nat), (ts.foldl wholeS d ∣ m ↔ d ∣ m ∧ ∀ t ∈ ts, t.n.natAbs ∣ m)
  | [], d, m => by simp
  | t :: ts, d, m => by
    rw [List.foldl_cons, wholeF_dvd ts (wholeS d t) m]
    unfold wholeS
    rw [Nat.lcm_dvd_iff]
    constructor
    · rintro ⟨⟨a, b⟩, c⟩
      refine ⟨a, fun u hu => ?_⟩
      rcases List.mem_cons.mp hu with rfl | hu
      · exact b
      · exact c u hu
    · rintro ⟨a, b⟩
      exact ⟨⟨a, b t (List.mem_cons_self ..)⟩, fun u hu => b u (List.mem_cons_of_mem _ hu)⟩
def parts (ts : List Tr) : Int := (ts.map fun t => (wholeF ts : Int) / t.n * t.l).sum
theorem parts_fair {ts : List Tr} (g : gds ts) : 10 * parts ts ≤ 9 * (wholeF ts : Int) ↔ 10 * worth ts ≤ 9 * 27720 := by
  have hd : wholeF ts ∣ 27720 := by
    refine (wholeF_dvd ts 1 27720).mpr ⟨Nat.one_dvd _, fun t ht => ?_⟩
    have := dvd_big (g.2 t ht).2.2.1 (g.2 t ht).2.2.2
    exact Int.natAbs_dvd_natAbs.mpr this
  obtain ⟨k, hk⟩ := hd
  have hk0 : 0 < k := by
    rcases Nat.eq_zero_or_pos k with z | z
    · rw [z] at hk
      omega
    · exact z
  have hw : worth ts = parts ts * k := by
    unfold worth parts
    rw [← sum_map_mul]
    refine sum_map_eq fun t ht => ?_
    have hn := tr_pos (g.2 t ht)
    have h1 : t.n.natAbs ∣ wholeF ts := ((wholeF_dvd ts 1 (wholeF ts)).mp (Nat.dvd_refl _)).2 t ht
    obtain ⟨q, hq⟩ := h1
    have hq2 : (wholeF ts : Int) = t.n * (q : Int) := by
      rw [hq]
      push_cast
      rw [Int.natAbs_of_nonneg (Int.le_of_lt hn)]
    have e1 : (wholeF ts : Int) / t.n = q := by
      rw [hq2]
      exact Int.mul_ediv_cancel_left _ (Int.ne_of_gt hn)
    have e2 : (27720 : Int) / t.n = (q : Int) * k := by
      have : (27720 : Int) = t.n * ((q : Int) * k) := by
        have z : (27720 : Int) = ((wholeF ts * k : Nat) : Int) := by rw [← hk]; rfl
        rw [z]
        push_cast
        rw [hq2, Int.mul_assoc]
      rw [this]
      exact Int.mul_ediv_cancel_left _ (Int.ne_of_gt hn)
    rw [e1, e2, Int.mul_assoc, Int.mul_assoc, Int.mul_comm (k : Int)]
  have hz : (27720 : Int) = (wholeF ts : Int) * k := by
    have z : (27720 : Int) = ((wholeF ts * k : Nat) : Int) := by rw [← hk]; rfl
    rw [z]
    push_cast
    rfl
  have hk1 : (0 : Int) < k := by omega
  rw [hw, hz]
  constructor
  · intro h
    have := Int.mul_le_mul_of_nonneg_right h (Int.le_of_lt hk1)
    rw [Int.mul_assoc, Int.mul_assoc] at this
    exact this
  · intro h
    refine Int.le_of_mul_le_mul_right ?_ hk1
    rw [Int.mul_assoc, Int.mul_assoc]
    exact h
/-- the tables of an offer -/
abbrev topsL (ts : List Tr) : List Int := (List.range (2 * per ts)).map (T (cN ts))
noncomputable abbrev firstsL (ts : List Tr) : List Int := (List.range ((T (cN ts) (2 * per ts - 1)).toNat + 1)).map fun k => ((D (cN ts) k : Nat) : Int)
noncomputable abbrev gapsL (ts : List Tr) : List Int := gapsF (firstsL ts) 0 (topsL ts)
def ofs (t p o f g : Addr) : List (Str × V) := [("_trades", .ref t), ("_period", .ref p), ("_tops", .ref o), ("_firsts", .ref f), ("_gaps", .ref g)]
/-- at a an offer of these trades -/
structure OfAt (K : PySem.W.Frag) (H : Hp) (a : Addr) (ts : List Tr) : Prop where
  ex : ∃ dx t p o f g, H a = some (.ins (He.ga K "Offer") dx (ofs t p o f g)) ∧ TrAt K H t ts ∧ SqT K H p [.int (perB ts : Nat), .int (per ts : Nat)] ∧ SqL K H o ((topsL ts).map V.int) ∧ SqL K H f ((firstsL ts).map V.int) ∧ SqL K H g ((gapsL ts).map V.int)
theorem OfAt.mono {K : PySem.W.Frag} {H H' : Hp} {a : Addr} {ts : List Tr} (s : Same H H') (h : OfAt K H a ts) : OfAt K H' a ts := by
  obtain ⟨dx, t, p, o, f, g, h1, h2, h3, h4, h5, h6⟩ := h.ex
  exact ⟨dx, t, p, o, f, g, s _ _ h1, h2.mono s, Same.tup s h3, s.seq h4, s.seq h5, s.seq h6⟩
section
variable {P : Program} {w : World} {K : PySem.W.Frag} {mg : Str → Option Value} {base : Heap} (T' : Tx K mg)
theorem inV_str {z : Str} {l : List Str} (h : z ∉ l) : inV (.str z) (l.map V.str) = false := by
  unfold inV
  rw [List.any_eq_false]
  intro y hy
  obtain ⟨x, hx, rfl⟩ := List.mem_map.mp hy
  show ¬ ((x == z) = true)
  intro e
  exact h (eq_of_beq e ▸ hx)
theorem flat_str (l : List Str) : (l.map V.str).all flatV = true := by
  rw [List.all_eq_true]
  intro y hy
  obtain ⟨x, hx, rfl⟩ := List.mem_map.mp hy
  rfl
end
section
variable {P : Program} {w : World} {K : PySem.W.Frag} {mg : Str → Option Value} {base : Heap} (T : Tx K mg)
include T
def spChkTr (K : PySem.W.Frag) : Sp := fun vs H Q _ => ∃ (a : Addr) (ts : List Tr), vs = [.ref a] ∧ TrAt K H a ts ∧ gds ts ∧ ts ≠ [] ∧ nmOk ts ∧ ∀ H', Same H H' → Q .non H'
theorem ok_check_trades : FnR P w K mg base CX0 4 (a_check_trades K) (spChkTr K) := by
  refine fnR0 (d := d_check_trades) T.F_check_trades sc_check_trades rfl (fun _ _ _ _ _ _ us hl => match us, hl with | [_], _ => rfl) (fun vs H Q E h => ?_) (fun cdv A outer s H vs Q E hr h => ?_)
  · obtain ⟨a, ts, rfl, _⟩ := h
    rfl
  obtain ⟨a, ts, rfl, hT, hg, hne, hnm, k⟩ := h
  obtain ⟨ps, h1, h2, h3⟩ := hT.ex
  obtain ⟨uE, hE⟩ := T.v_Offer_MAX_TRADES
  refine ⟨_, (pss_cons (ps_if (pt_not (pt_truth (pv 0) (by intro _; rfl))) (pss_one ps_never) pss_nil) (pss_cons (ps_set (i := 1) sc_check_trades.nd rfl (Or.inl rfl) (pe_lst pa_nil)) (pss_one (ps_for PassesOwn.never rfl (pi_enumT (by rfl) T.n_enumerate (pa_cons (pv 0) pa_nil)) (pg_tup rfl (pgs_cons (pg_name (i := 2) sc_check_trades.nd rfl (Or.inl rfl)) (pgs_cons (pg_tup rfl (pgs_cons (pg_name (i := 3) sc_check_trades.nd rfl (Or.inl rfl)) (pgs_cons (pg_name (i := 4) sc_check_trades.nd rfl (Or.inl rfl)) (pgs_cons (pg_name (i := 5) sc_check_trades.nd rfl (Or.inl rfl)) pgs_nil)))) pgs_nil))) (pss_cons (ps_if (PW.pt (pw_or (pt_cmpR op_eq (pv 2) (ClX.pe_cval (pe_cC T.g_Offer)) (nomark _)) (pw_or (pt_cmpR op_in_seq (pv 3) (pv 1) rfl) (pw_or1 (pt_not (pt_val (pe_cR (ok_is_trade T) (hr.mono (by decide)) T.F_is_trade.kp T.g_is_trade pass0 (pa_cons (pv 3) (pa_cons (pv 4) (pa_cons (pv 5) pa_nil)))))))))) (pss_one ps_never) pss_nil) (pss_one (ps_expr (pe_bm PySem.F.plainAttrs_list PySem.F.slot_list_append PySem.F.type_list_append mt_append (pv 1) (pa_cons (pv 3) pa_nil))))))))), ?_⟩
  have hps : (ps.map V.ref).isEmpty = false := by
    cases ps with
    | nil =>
      cases ts with
      | nil => exact absurd rfl hne
      | cons _ _ => cases h2
    | cons _ _ => rfl
  refine ⟨_, rfl, true, .inr (.inl ⟨_, h1, by rw [hps]; rfl⟩), iteF ?_⟩
  refine ⟨Nat.zero_le _, fun p hp => ?_⟩
  refine ⟨_, rfl, a, _, rfl, Same.tup (same_new hp) h1, for_it (walk_enumT (K := K) (a := a) (xs := ps.map V.ref)) (fun i σ H1 => Same H H1 ∧ H1 p = some (.lst (((ts.take i).map Tr.k).map V.str)) ∧ ∃ x2 x3 x4 x5, σ = [some (.ref a), some (.ref p), x2, x3, x4, x5])
    ⟨same_new hp, upd_same, _, _, _, _, rfl⟩ (fun i σ H1 _ q => Same.tup q.1 h1) ?_ ?_⟩
  · rintro i x σ H1 H2 hi ⟨s1, e1, x2, x3, x4, x5, rfl⟩ ⟨q, u, v, rfl, nq, rfl, eu, ev⟩
    cases eu
    obtain ⟨pt, t, rfl, ep, et, hm, li, hpt⟩ := TrAt.at_ h2 h3 ev
    have s2 : Same H (upd H1 q (.tup [.int (i : Nat), .ref pt])) := s1.trans (same_new nq)
    have e2 := upd_old (u := .tup [.int (i : Nat), .ref pt]) e1 nq
    have ht := hg.2 _ hm
    have hk := hnm.2 _ hm
    refine ⟨q, _, rfl, SqT.of upd_same, rfl, _, _, rfl, _, _, rfl, ⟨pt, _, rfl, Same.tup s2 hpt, rfl, _, _, rfl, _, _, rfl, _, _, rfl, rfl, rfl, ?_⟩⟩
    refine ⟨_, rfl, He.ga K "Offer", _, _, _, rfl, T.r_Offer, hE, rfl, _, rfl, ite2 (fun hd => ?_) (fun _ => ?_)⟩
    · have hd := V.int.inj (of_decide_eq_true hd)
      have := hg.1
      omega
    have hnotin : t.k ∉ (ts.take i).map Tr.k := by
      intro hin
      have hnd : ((ts.take (i + 1)).map Tr.k).Nodup := (hnm.1.sublist ((List.take_sublist _ _).map _))
      rw [take_at et, List.map_append, List.nodup_append] at hnd
      exact hnd.2.2 _ hin _ (List.mem_singleton.mpr rfl) rfl
    refine ⟨_, rfl, _, rfl, p, _, rfl, .inl (SqL.of e2), rfl, flat_str _, _, rfl, ite2 (fun hd => ?_) (fun _ => ?_)⟩
    · rw [if_neg Bool.false_ne_true, inV_str hnotin] at hd
      cases hd
    refine ⟨_, rfl, _, rfl, _, rfl, t, rfl, hk.2, fun H3 s3 => ⟨_, rfl, ?_⟩⟩
    rw [trOk_of ht hk.1]
    refine iteF ?_
    have e3 := s3 _ _ e2
    refine ⟨_, rfl, .inl ⟨rfl, _, SqL.of e3⟩, _, rfl, p, _, _, rfl, rfl, e3, small3 ?_, same_mut (s2.trans s3) hp, ?_, _, _, _, _, rfl⟩
    · rw [List.length_map, List.length_map, List.length_take]
      have := hg.1
      omega
    · rw [upd_same, take_at et, List.map_append, List.map_append]
      rfl
  · rintro σ H1 ⟨s1, e1, x2, x3, x4, x5, rfl⟩
    exact k _ s1
def spChkGen (K : PySem.W.Frag) : Sp := fun vs H Q _ => ∃ (a : Addr) (ts : List Tr), vs = [.ref a] ∧ TrAt K H a ts ∧ Fair ts ∧ ∀ H', Same H H' → Q .non H'
theorem ok_check_generosity : FnR P w K mg base CX0 1 (a_check_generosity K) (spChkGen K) := by
  refine fnR0 (d := d_check_generosity) T.F_check_generosity sc_check_generosity rfl (fun _ _ _ _ _ _ us hl => match us, hl with | [_], _ => rfl) (fun vs H Q E h => ?_) (fun cdv A outer s H vs Q E hr h => ?_)
  · obtain ⟨a, ts, rfl, _⟩ := h
    rfl
  obtain ⟨a, ts, rfl, hT, hf, k⟩ := h
  obtain ⟨ps, h1, h2, h3⟩ := hT.ex
  refine ⟨_, (pss_cons (ps_set (i := 1) sc_check_generosity.nd rfl (Or.inr rfl) pe_int) (pss_cons (ps_for PassesOwn.never rfl (pi_tup (pv 0)) (pg_tup rfl (pgs_cons (pg_name (i := 2) sc_check_generosity.nd rfl (Or.inl rfl)) (pgs_cons (pg_name (i := 2) sc_check_generosity.nd rfl (Or.inl rfl)) (pgs_cons (pg_name (i := 3) sc_check_generosity.nd rfl (Or.inl rfl)) pgs_nil)))) (pss_one (ps_set (i := 1) sc_check_generosity.nd rfl (Or.inr rfl) (pe_callBfun cr_lcm (by rfl) T.b_lcm (pa_cons (pv 1) (pa_cons (pv 3) pa_nil)))))) (pss_cons (ps_set (i := 4) sc_check_generosity.nd rfl (Or.inl rfl) (pe_callB (cr_sum rfl) (by rfl) T.n_sum (by decide +kernel) (pa_cons (pe_lc (own := [("_", 2), ("left", 5), ("needed", 3)]) rfl sc_check_generosity.nd (pi_tup (pv 0)) (blkOk_by (own := [("_", 2), ("left", 5), ("needed", 3)]) (N := N_check_generosity) (sc := defScope s_check_generosity) (by decide +kernel)) (fun _ _ _ _ _ => (pg_tupB (n := 3) (pgs_cons (pg_name (i := 2) sc_check_generosity.nd rfl (Or.inl rfl) (.inr rfl)) (pgs_cons (pg_name (i := 5) sc_check_generosity.nd rfl (Or.inl rfl) (.inr rfl)) (pgs_cons (pg_name (i := 3) sc_check_generosity.nd rfl (Or.inl rfl) (.inr rfl)) pgs_nil))))) (fun _ _ _ _ _ => pts_nil) (fun _ _ _ _ _ => (pe_op op_mul (pe_op op_fdiv (pv 1) (pv 3)) (pv 5)))) pa_nil))) (pss_one (ps_if (pt_cmpR op_gt (pe_op op_mul pe_int (pv 4)) (pe_op op_mul pe_int (pv 1)) (nomark _)) (pss_one ps_never) pss_nil))))), ?_⟩
  refine ⟨_, rfl, a, rfl, ⟨_, h1⟩, for_tup (xs := ps.map V.ref) (fun i σ H1 => H1 = H ∧ ∃ x2 x3 x4 x5, σ = [some (.ref a), some (.int (((ts.take i).foldl wholeS 1 : Nat) : Int)), x2, x3, x4, x5]) ⟨rfl, _, _, _, _, rfl⟩ (fun i σ H1 _ q => by rw [q.1]; exact h1) ?_ ?_⟩
  · rintro i x σ H1 hx ⟨rfl, x2, x3, x4, x5, rfl⟩
    obtain ⟨p, t, rfl, ep, et, hm, li, hp⟩ := TrAt.at_ h2 h3 hx
    have ht := hf.g.2 _ hm
    refine ⟨p, _, rfl, hp, rfl, _, _, rfl, _, _, rfl, _, _, rfl, rfl, ?_⟩
    refine ⟨_, rfl, _, rfl, _, _, rfl, ?_, ?_, rfl, some (.int t.l), some (.int t.n), x4, x5, ?_⟩
    · have := wholeF_most hf.g i
      exact Nat.lt_of_le_of_lt (by omega : _ ≤ 1728) (by decide)
    · have := ht.2.2.1
      have := ht.2.2.2
      exact Nat.lt_of_le_of_lt (by omega : _ ≤ 12) (by decide)
    · rw [take_at et, List.foldl_append]
      rfl
  · rintro σ H1 ⟨rfl, x2, x3, x4, x5, rfl⟩
    have ew : (ts.take (ps.map V.ref).length).foldl wholeS 1 = wholeF ts := by
      rw [List.length_map, h2, List.take_length]
      rfl
    rw [ew]
    have hw : wholeF ts ≤ 1728 := by
      have := wholeF_most hf.g ts.length
      rw [List.take_length] at this
      exact this
    refine ⟨_, rfl, a, rfl, ⟨_, h1⟩, fun D hD => ?_⟩
    refine lc_tup (xs := ps.map V.ref) (fun i H2 => Same H1 H2 ∧ H1 D = none ∧ H2 D = some (.lst ((ts.take i).map fun t => V.int ((wholeF ts : Int) / t.n * t.l)))) ⟨same_new hD, hD, upd_same⟩ (fun i H2 _ q => Same.tup q.1 h1) ?_ ?_
    · rintro i x H2 hx ⟨s1, n1, e1⟩
      obtain ⟨p, t, rfl, ep, et, hm, li, hp⟩ := TrAt.at_ h2 h3 hx
      have ht := hf.g.2 _ hm
      refine ⟨p, _, rfl, Same.tup s1 hp, rfl, _, _, rfl, _, _, rfl, _, _, rfl, rfl, rfl, ?_⟩
      refine ⟨_, rfl, _, rfl, _, _, rfl, rfl, ⟨by have := ht.2.2.1; omega, by have := ht.2.2.2; omega⟩, _, rfl, _, _, rfl, rfl, .inr ⟨by have := ht.1; omega, by have := ht.2.1; omega⟩, ?_⟩
      refine ⟨_, e1, small3 ?_, same_mut s1 n1, n1, ?_⟩
      · rw [List.length_map, List.length_take]
        have := hf.g.1
        omega
      · rw [upd_same, take_at et, List.map_append]
        rfl
    · rintro H2 ⟨s1, n1, e1⟩
      refine ⟨D, ts.map fun t => (wholeF ts : Int) / t.n * t.l, rfl, SqL.of ?_, ?_⟩
      · rw [e1, List.length_map, h2, List.take_length, List.map_map]
        rfl
      · refine ⟨_, rfl, _, _, rfl, rfl, .inl ⟨by decide, by decide⟩, _, rfl, _, _, rfl, rfl, .inl ⟨by decide, by decide⟩, _, _, rfl, rfl, _, rfl, ite2 (fun hd => ?_) (fun _ => k _ s1)⟩
        have hd : 9 * (wholeF ts : Int) < 10 * parts ts := of_decide_eq_true hd
        have := (parts_fair hf.g).mpr hf.w
        omega
end
end EB

namespace EB
open PySem PySem.Spec PyProof.Rows L2
/-! ### a heap with one object left out -/
def hid (H : Hp) (x : Addr) : Hp := fun b => if b = x then none else H b
theorem hid_x {H : Hp} {x : Addr} : hid H x x = none := if_pos rfl
theorem hid_ne {H : Hp} {x b : Addr} (h : b ≠ x) : hid H x b = H b := if_neg h
theorem hid_same {H : Hp} {x : Addr} : Same (hid H x) H := fun b o e => by
  by_cases h : b = x
  · rw [h, hid_x] at e
    cases e
  · rw [hid_ne h] at e
    exact e
theorem same_hid {H0 H : Hp} {x : Addr} (s : Same H0 H) (h : H0 x = none) : Same H0 (hid H x) := fun b o e => by
  rw [hid_ne (ne_of_none e h)]
  exact s b o e
theorem hid_old {H : Hp} {x b : Addr} {o u : HO} (h : H b = some o) (hx : H x = some u) (d : o ≠ u) : hid H x b = some o := by
  rw [hid_ne (ne_of h hx d)]
  exact h
theorem hid_upd {H : Hp} {x : Addr} {o : HO} : hid (upd H x o) x = hid H x := funext fun b => by
  by_cases h : b = x
  · rw [h, hid_x, hid_x]
  · rw [hid_ne h, hid_ne h, upd_ne h]
theorem putF_ne {f g : Str} {v x : V} {r : List (Str × V)} (h : ¬ g = f) : putF f v ((g, x) :: r) = (g, x) :: putF f v r := by
  show (if g = f then _ else _) = _
  rw [if_neg h]
theorem put1 {a : V} : putF "_trades" a [] = ([("_trades", a)] : List (Str × V)) := rfl
theorem put2 {a b : V} : putF "_period" b ([("_trades", a)] : List (Str × V)) = ([("_trades", a), ("_period", b)] : List (Str × V)) := by
  rw [putF_ne (by decide +kernel)]
  rfl
theorem put3 {a b c : V} : putF "_tops" c ([("_trades", a), ("_period", b)] : List (Str × V)) = ([("_trades", a), ("_period", b), ("_tops", c)] : List (Str × V)) := by
  rw [putF_ne (by decide +kernel), putF_ne (by decide +kernel)]
  rfl
theorem put4 {a b c d : V} : putF "_firsts" d ([("_trades", a), ("_period", b), ("_tops", c)] : List (Str × V)) = ([("_trades", a), ("_period", b), ("_tops", c), ("_firsts", d)] : List (Str × V)) := by
  rw [putF_ne (by decide +kernel), putF_ne (by decide +kernel), putF_ne (by decide +kernel)]
  rfl
theorem put5 {a b c d e : V} : putF "_gaps" e ([("_trades", a), ("_period", b), ("_tops", c), ("_firsts", d)] : List (Str × V)) = ([("_trades", a), ("_period", b), ("_tops", c), ("_firsts", d), ("_gaps", e)] : List (Str × V)) := by
  rw [putF_ne (by decide +kernel), putF_ne (by decide +kernel), putF_ne (by decide +kernel), putF_ne (by decide +kernel)]
  rfl
theorem lkN {k g : Str} {v : V} {r : List (Str × V)} (h : (k == g) = false) : ((g, v) :: r).lookup k = r.lookup k := by rw [List.lookup_cons, h]
theorem lkY {k : Str} {v : V} {r : List (Str × V)} : ((k, v) :: r).lookup k = some v := by rw [List.lookup_cons, beq_self_eq_true]
theorem lk_tops {a b c : V} {r : List (Str × V)} : (("_trades", a) :: ("_period", b) :: ("_tops", c) :: r : List (Str × V)).lookup ("_tops" : Str) = some c := by
  rw [lkN (by decide +kernel), lkN (by decide +kernel), lkY]
theorem lk_firsts {a b c d : V} {r : List (Str × V)} : (("_trades", a) :: ("_period", b) :: ("_tops", c) :: ("_firsts", d) :: r : List (Str × V)).lookup ("_firsts" : Str) = some d := by
  rw [lkN (by decide +kernel), lkN (by decide +kernel), lkN (by decide +kernel), lkY]
theorem lk_gaps {a b c d e : V} {r : List (Str × V)} : (("_trades", a) :: ("_period", b) :: ("_tops", c) :: ("_firsts", d) :: ("_gaps", e) :: r : List (Str × V)).lookup ("_gaps" : Str) = some e := by
  rw [lkN (by decide +kernel), lkN (by decide +kernel), lkN (by decide +kernel), lkN (by decide +kernel), lkY]
theorem lk_period {a b : V} {r : List (Str × V)} : (("_trades", a) :: ("_period", b) :: r : List (Str × V)).lookup ("_period" : Str) = some b := by
  rw [lkN (by decide +kernel), lkY]
theorem lk_trades {a : V} {r : List (Str × V)} : (("_trades", a) :: r : List (Str × V)).lookup ("_trades" : Str) = some a := lkY
theorem lk_no {t p o f g : Addr} {m : Str} (h : ((m == "_trades") || ((m == "_period") || ((m == "_tops") || ((m == "_firsts") || (m == "_gaps"))))) = false) : (ofs t p o f g).lookup m = none := by
  obtain ⟨h1, h⟩ := Bool.or_eq_false_iff.mp h
  obtain ⟨h2, h⟩ := Bool.or_eq_false_iff.mp h
  obtain ⟨h3, h⟩ := Bool.or_eq_false_iff.mp h
  obtain ⟨h4, h5⟩ := Bool.or_eq_false_iff.mp h
  unfold ofs
  rw [lkN h1, lkN h2, lkN h3, lkN h4, lkN h5]
  rfl
theorem per_le' {ts : List Tr} (g : gds ts) : per ts ≤ 1728 := by
  have := per_most g ts.length
  rw [List.take_length] at this
  exact this
theorem tops_in {ts : List Tr} (f : Fair ts) : ∀ t ∈ topsL ts, 0 ≤ t ∧ t < (firstsL ts).length := by
  intro t ht
  obtain ⟨d, hd, rfl⟩ := List.mem_map.mp ht
  have h1 := List.mem_range.mp hd
  have h2 := (cf f).T_nonneg d
  have h3 := CF.T_mono (cN ts) (show d ≤ 2 * per ts - 1 by omega)
  refine ⟨h2, ?_⟩
  rw [List.length_map, List.length_range]
  omega
/-- an offer at a whose tables were not there ahead of it -/
structure OfNew (K : PySem.W.Frag) (H0 H : Hp) (a : Addr) (ts : List Tr) : Prop where
  ex : ∃ dx t p o f g, H a = some (.ins (He.ga K "Offer") dx (ofs t p o f g)) ∧ TrAt K H t ts ∧ SqT K H p [.int (perB ts : Nat), .int (per ts : Nat)] ∧ SqL K H o ((topsL ts).map V.int) ∧ SqL K H f ((firstsL ts).map V.int) ∧ SqL K H g ((gapsL ts).map V.int) ∧
    H0 o = none ∧ H0 f = none ∧ H0 g = none
section
variable {P : Program} {w : World} {K : PySem.W.Frag} {mg : Str → Option Value} {base : Heap}
/-- a def whose last parameter takes what is left over -/
theorem fnRS {d : DD} {fd : FuncData} {N ps : List Str} {pv : Str} {k : Nat} {sp : Sp} (F : FnP K d fd) (S : FnScope N (ps ++ [pv]) (defScope d.st)) (e : d.df = [])
    (b : ∀ (kV doc pm : Value) (an : Option Addr) (cdv ct : Value) (us rest : List Value), us.length = ps.length → bindArgs (PySem.W.fnOf d.nm d.ql (defArgs d.st) (defBody d.st) (defScope d.st) .none kV doc pm an cdv ct) ⟨us ++ rest, []⟩ = (newTuple rest >>= fun t => pure (ps.zip us ++ [(pv, t)])))
    (hbody : ∀ (cdv : Value) (A : Around) (outer : List Env) (s : Shared) (H : Hp) (vs : List V) (Q : VK) (E : XK), Room k (A.deeper (envOfC d.ql (defScope d.st) s.heap.objs.size (d.adr K) cdv)) → sp vs H Q E →
      ∃ t, PSs (cxOf CX0 P w K mg base N d.ql (defScope d.st) (d.adr K) cdv A outer s H E).nox (defBody d.st) t ∧ t { nx := fun _ H' => Q .non H', rt := Q } (start N vs) H) :
    FnR P w K mg base CX0 (k + 1) (d.adr K) (fun vs H Q E => ∃ ws rest, vs = ws ++ rest ∧ ws.length = ps.length ∧ rest.length ≤ sizeLine ∧ ∀ p, H p = none → sp (ws ++ [V.ref p]) (upd H p (.tup rest)) Q E) := by
  have z : FnP K d fd := F
  unfold FnP at z
  rw [e] at z
  obtain ⟨oc, od, dV, kV, doc, pm, an, cdv, ct, osl, rfl, lk, hcd, hD, hK⟩ := z.ex
  have hdV : dV = .none := by
    rcases hD with ⟨_, h⟩ | ⟨h, _⟩
    · exact h
    · exact absurd rfl h
  subst hdV
  exact StX.fn_star lk hcd S StX.cxUp_none (fun us rest hl => b kV doc pm an cdv ct us rest hl) fun A outer s H vs Q E hr h => by
    obtain ⟨t, h1, h2⟩ := hbody cdv A outer s H vs Q E hr h
    exact ⟨t, h1.nox, h2⟩
/-- a def called with its first values, the others filled up by its defaults -/
theorem fnRD {d : DD} {fd : FuncData} {N ps : List Str} {k : Nat} {sp : Sp} (F : FnP K d fd) (S : FnScope N ps (defScope d.st)) (n j : Nat) (hd : d.df.map (He.Dv.v K) ≠ []) (hn : n + ((d.df.map (He.Dv.v K)).length - j) = ps.length)
    (b : ∀ (Tt : Addr) (kV doc pm : Value) (an : Option Addr) (cdv ct : Value) (us its : List Value), us.length = n → its.length = (d.df.map (He.Dv.v K)).length →
      ∃ k, bindArgs (PySem.W.fnOf d.nm d.ql (defArgs d.st) (defBody d.st) (defScope d.st) (.ref Tt) kV doc pm an cdv ct) ⟨us, []⟩ = seqItems? (.ref Tt) >>= k ∧ k (some its.toArray) = pure (ps.zip (us ++ its.drop j)))
    (len : ∀ vs H Q E, sp vs H Q E → vs.length = ps.length)
    (hbody : ∀ (cdv : Value) (A : Around) (outer : List Env) (s : Shared) (H : Hp) (vs : List V) (Q : VK) (E : XK), Room k (A.deeper (envOfC d.ql (defScope d.st) s.heap.objs.size (d.adr K) cdv)) → sp vs H Q E →
      ∃ t, PSs (cxOf CX0 P w K mg base N d.ql (defScope d.st) (d.adr K) cdv A outer s H E).nox (defBody d.st) t ∧ t { nx := fun _ H' => Q .non H', rt := Q } (start N vs) H) :
    FnR P w K mg base CX0 (k + 1) (d.adr K) (fun vs H Q E => sp (vs ++ (d.df.map (He.Dv.v K)).drop j) H Q E) := by
  have F1 : FnOk P w K mg base CX0 (k + 1) (d.adr K) fd ps sp := FunD.ok F S len fun cdv A outer s H vs Q E hr h => by
    obtain ⟨t, h1, h2⟩ := hbody cdv A outer s H vs Q E hr h
    exact ⟨t, h1.nox, h2⟩
  obtain ⟨ds, h1, h2⟩ := FunD.binds1 F n j hd hn b
  exact F1.raw h2 h1
end
section
variable {P : Program} {w : World} {K : PySem.W.Frag} {mg : Str → Option Value} {base : Heap} (T : Tx K mg)
include T
def spChkNum : Sp := fun vs H Q _ => ∃ i lo hi : Int, vs = [.int i, .int lo, .int hi] ∧ lo ≤ i ∧ i ≤ hi ∧ Q .non H
def spChkNum1 : Sp := fun vs H Q _ => ∃ i : Int, vs = [.int i] ∧ 0 ≤ i ∧ i ≤ 1000000000000000000 ∧ Q .non H
theorem ok_check_number : FnR P w K mg base CX0 3 (a_check_number K) spChkNum1 := by
  refine (fnRD (d := d_check_number) (sp := spChkNum) (k := 2) (ps := ["value", "least", "most"]) T.F_check_number sc_check_number 1 0 (fun z => nomatch z) rfl (fun _ _ _ _ _ _ _ us its hl hi => match us, its, hl, hi with | [_], [_, _], _, _ => ⟨_, rfl, rfl⟩) (fun vs H Q E h => ?_) (fun cdv A outer s H vs Q E hr h => ?_)).imp fun vs H Q E h => ?_
  · obtain ⟨i, lo, hi, rfl, _⟩ := h
    rfl
  · obtain ⟨i, lo, hi, rfl, h1, h2, k⟩ := h
    refine ⟨_, (pss_one (ps_if (pt_not (pt_val (pe_cR (ok_is_number T) (hr.mono (by decide)) T.F_is_number.kp T.g_is_number pass0 (pa_cons (pv 0) (pa_cons (pv 1) (pa_cons (pv 2) pa_nil)))))) (pss_one ps_never) pss_nil)), ?_⟩
    refine ⟨_, rfl, _, rfl, _, rfl, i, lo, hi, rfl, _, rfl, ?_⟩
    rw [numOk_iff.mpr ⟨h1, h2⟩]
    exact iteF k
  · obtain ⟨i, rfl, h1, h2, k⟩ := h
    exact ⟨i, 0, 1000000000000000000, rfl, h1, h2, k⟩
def spInit (K : PySem.W.Frag) : Sp := fun vs H Q _ => ∃ (x p : Addr) (H0 : Hp) (dx : Addr) (ts : List Tr), vs = [.ref x, .ref p] ∧ Same H0 H ∧ H0 x = none ∧ H x = some (.ins (He.ga K "Offer") dx []) ∧ TrAt K H0 p ts ∧ Fair ts ∧ ts ≠ [] ∧ nmOk ts ∧
  ∀ H', Same H0 H' → OfNew K H0 H' x ts → Q .non H'
theorem ok_Offer_init : FnR P w K mg base CX0 5 (a_Offer_init K) (fun vs H Q E => ∃ ws rest, vs = ws ++ rest ∧ ws.length = 1 ∧ rest.length ≤ sizeLine ∧ ∀ p, H p = none → spInit K (ws ++ [V.ref p]) (upd H p (.tup rest)) Q E) := by
  refine fnRS (d := d_Offer_init) (ps := ["self"]) T.F_Offer_init sc_Offer_init rfl (fun kV doc pm an cdv ct => StX.bind_star1 (B := fun us => bindArgs (PySem.W.fnOf d_Offer_init.nm d_Offer_init.ql (defArgs d_Offer_init.st) (defBody d_Offer_init.st) (defScope d_Offer_init.st) .none kV doc pm an cdv ct) ⟨us, []⟩) (fun _ => rfl) (fun _ _ _ => rfl)) (fun cdv A outer s H vs Q E hr h => ?_)
  obtain ⟨x, p, H0, dx, ts, rfl, s0, n0, hx, hT0, hf, hne, hnm, k⟩ := h
  refine ⟨_, (pss_cons (ps_expr (pe_cR (ok_check_trades T) (hr.mono (by decide)) T.F_check_trades.kp T.g_check_trades pass0 (pa_cons (pv 1) pa_nil))) (pss_cons (ps_expr (pe_cR (ok_check_generosity T) (hr.mono (by decide)) T.F_check_generosity.kp T.g_check_generosity pass0 (pa_cons (pv 1) pa_nil))) (pss_cons (ps_fld (pv 0) (pe_callTy call_tuple_of (by rfl) T.n_tuple (by decide +kernel) (pa_cons (pe_lc (own := [("kind", 3), ("left", 4), ("needed", 5)]) rfl sc_Offer_init.nd (pi_tup (pv 1)) (blkOk_by (own := [("kind", 3), ("left", 4), ("needed", 5)]) (N := N_Offer_init) (sc := defScope s_Offer_init) (by decide +kernel)) (fun _ _ _ _ _ => (pg_tupB (n := 3) (pgs_cons (pg_name (i := 3) sc_Offer_init.nd rfl (Or.inl rfl) (.inr rfl)) (pgs_cons (pg_name (i := 4) sc_Offer_init.nd rfl (Or.inl rfl) (.inr rfl)) (pgs_cons (pg_name (i := 5) sc_Offer_init.nd rfl (Or.inl rfl) (.inr rfl)) pgs_nil))))) (fun _ _ _ _ _ => pts_nil) (fun _ _ _ _ _ => (pe_tup (pa_cons (pv 3) (pa_cons (pv 4) (pa_cons (pv 5) pa_nil)))))) pa_nil)) rfl) (pss_cons (ps_set (i := 2) sc_Offer_init.nd rfl (Or.inl rfl) (pe_cR (ok_drinks_of_period T) (hr.mono (by decide)) T.F_drinks_of_period.kp T.g_drinks_of_period pass0 (pa_cons (pv 1) pa_nil))) (pss_cons (ps_fld (pv 0) (pe_tup (pa_cons (pe_cR (ok_cost_of T) (hr.mono (by decide)) T.F_cost_of.kp T.g_cost_of pass0 (pa_cons (pv 1) (pa_cons (pv 2) pa_nil))) (pa_cons (pv 2) pa_nil))) rfl) (pss_cons (ps_fld (pv 0) (pe_cR (ok_tops_of T) (hr.mono (by decide)) T.F_tops_of.kp T.g_tops_of pass0 (pa_cons (pe_lc (own := [("count", 6)]) rfl sc_Offer_init.nd (pi_range1 rfl T.n_range (pa_cons (pe_op op_mul pe_int (pv 2)) pa_nil)) (blkOk_by (own := [("count", 6)]) (N := N_Offer_init) (sc := defScope s_Offer_init) (by decide +kernel)) (fun _ _ _ _ _ => (pg_name (i := 6) sc_Offer_init.nd rfl (Or.inl rfl) (.inr rfl))) (fun _ _ _ _ _ => pts_nil) (fun _ _ _ _ _ => (pe_cR (ok_cost_of T) (hr.mono (by decide)) T.F_cost_of.kp T.g_cost_of pass0 (pa_cons (pv 1) (pa_cons (pv 6) pa_nil))))) pa_nil)) rfl) (pss_cons (ps_fld (pv 0) (pe_cR (ok_firsts_of T) (hr.mono (by decide)) T.F_firsts_of.kp T.g_firsts_of pass0 (pa_cons (pe_fld (pv 0) rfl) pa_nil)) rfl) (pss_one (ps_fld (pv 0) (pe_cR (ok_gaps_of T) (hr.mono (by decide)) T.F_gaps_of.kp T.g_gaps_of pass0 (pa_cons (pe_fld (pv 0) rfl) (pa_cons (pe_fld (pv 0) rfl) pa_nil))) rfl))))))))), ?_⟩
  -- the checks
  refine ⟨_, rfl, p, ts, rfl, hT0.mono s0, hf.g, hne, hnm, fun H1 s1 => ?_⟩
  refine ⟨_, rfl, p, ts, rfl, hT0.mono (s0.trans s1), hf, fun H2 s2 => ?_⟩
  have s02 : Same H0 H2 := s0.trans (s1.trans s2)
  have hx2 : H2 x = some (.ins (He.ga K "Offer") dx []) := s2 _ _ (s1 _ _ hx)
  obtain ⟨ps, h1, h2, h3⟩ := (hT0.mono s02).ex
  -- the trades
  refine ⟨_, rfl, p, rfl, ⟨_, h1⟩, fun D hD => ?_⟩
  refine lc_tup (xs := ps.map V.ref) (fun i H3 => Same H2 H3 ∧ ∃ qs : List Addr, qs.length = i ∧ H3 D = some (.lst (qs.map V.ref)) ∧ ∀ (j : Nat) (q : Addr) (t : Tr), qs[j]? = some q → ts[j]? = some t → H3 q = some (.tup t.vs))
    ⟨same_new hD, [], rfl, upd_same, fun j q t hq => by cases hq⟩ (fun i H3 _ q => Same.tup q.1 h1) ?_ ?_
  · rintro i y H3 hy ⟨s3, qs, hq1, e3, hq2⟩
    obtain ⟨pt, t, rfl, ep, et, hm, li, hpt⟩ := TrAt.at_ h2 h3 hy
    refine ⟨pt, _, rfl, Same.tup s3 hpt, rfl, _, _, rfl, _, _, rfl, _, _, rfl, rfl, rfl, ?_⟩
    refine ⟨_, rfl, _, rfl, _, rfl, by show 3 ≤ sizeLine; decide, fun q nq => ?_⟩
    have nD : D ≠ q := ne_of_none e3 nq
    refine ⟨_, upd_old e3 nq, small3 (by rw [List.length_map, hq1]; have := hf.g.1; omega), same_mut (s3.trans (same_new nq)) hD, qs ++ [q], by rw [List.length_append, hq1]; rfl, by rw [upd_same, List.map_append]; rfl, fun j q' t' hj ht' => ?_⟩
    rcases Nat.lt_or_ge j qs.length with z | z
    · rw [List.getElem?_append_left z] at hj
      have e4 := upd_old (u := .tup t.vs) (hq2 j q' t' hj ht') nq
      rw [upd_ne (ne_of (upd_old (u := .tup t.vs) (hq2 j q' t' hj ht') nq) (upd_old (u := .tup t.vs) e3 nq) (by intro z; cases z))]
      exact e4
    · rw [List.getElem?_append_right z] at hj
      have ej : j = qs.length := by
        have := lt_of_at hj
        simp only [List.length_singleton] at this
        omega
      rw [ej, Nat.sub_self] at hj
      have eq : q = q' := Option.some.inj hj
      subst eq
      rw [ej, hq1, et] at ht'
      have ett : t = t' := Option.some.inj ht'
      subst ett
      rw [upd_ne nD.symm]
      exact upd_same
  rintro H3 ⟨s3, qs, hq1, e3, hq2⟩
  rw [List.length_map] at hq1
  refine ⟨D, _, rfl, .inl ⟨SqL.of e3, fun l hl => ?_⟩⟩
  have hx3 : H3 x = some (.ins (He.ga K "Offer") dx []) := s3 _ _ hx2
  have hx4 := upd_old (u := .tup (qs.map V.ref)) hx3 hl
  have s04 : Same H0 (upd H3 l (.tup (qs.map V.ref))) := s02.trans (s3.trans (same_new hl))
  refine ⟨_, rfl, x, _, dx, [], rfl, hx4, T.k_Offer, T.na_trades, by show 0 < 1000; decide, ?_⟩
  -- the period
  generalize hH4 : upd H3 l (.tup (qs.map V.ref)) = H4 at hx4 s04
  have e4 : H4 l = some (.tup (qs.map V.ref)) := by rw [← hH4]; exact upd_same
  have q4 : ∀ (j : Nat) (q : Addr) (t : Tr), qs[j]? = some q → ts[j]? = some t → H4 q = some (.tup t.vs) := fun j q t a b => by
    rw [← hH4]
    exact upd_old (hq2 j q t a b) hl
  -- B4: all but the offer itself
  have sB4 : Same H0 (hid H4 x) := same_hid s04 n0
  have tB4 : TrAt K (hid H4 x) l ts := by
    refine ⟨qs, SqT.of (hid_old e4 hx4 (by intro z; cases z)), by rw [hq1, h2], fun j q t a b => SqT.of (hid_old (q4 j q t a b) hx4 (by intro z; cases z))⟩
  have pB4 : TrAt K (hid H4 x) p ts := hT0.mono sB4
  generalize hB4 : hid H4 x = B4 at sB4 tB4 pB4
  have nB4 : B4 x = none := by rw [← hB4]; exact hid_x
  rw [put1]
  have sb5 : Same B4 (upd H4 x (.ins (He.ga K "Offer") dx [("_trades", .ref l)])) := by
    rw [← hB4]
    exact same_mut hid_same hid_x
  generalize hH5 : upd H4 x (.ins (He.ga K "Offer") dx [("_trades", .ref l)]) = H5 at sb5
  have hx5 : H5 x = some (.ins (He.ga K "Offer") dx [("_trades", .ref l)]) := by rw [← hH5]; exact upd_same
  refine ⟨_, rfl, p, ts, rfl, pB4.mono sb5, hf.g, fun H6 s6 => ?_⟩
  refine ⟨_, rfl, _, rfl, p, ts, _, rfl, pB4.mono (sb5.trans s6), hf.g, fun H7 s7 => ⟨_, rfl, by show 2 ≤ sizeLine; decide, fun pp hpp => ?_⟩⟩
  have hx8 := upd_old (u := .tup [.int (cost ts (per ts : Nat)), .int (per ts : Nat)]) (s7 _ _ (s6 _ _ hx5)) hpp
  have sb8 : Same B4 (upd H7 pp (.tup [.int (cost ts (per ts : Nat)), .int (per ts : Nat)])) := sb5.trans (s6.trans (s7.trans (same_new hpp)))
  refine ⟨_, rfl, x, _, dx, _, rfl, hx8, T.k_Offer, T.na_period, by show 1 < 1000; decide, ?_⟩
  rw [put2]
  generalize hH8 : upd H7 pp (.tup [.int (cost ts (per ts : Nat)), .int (per ts : Nat)]) = H8 at hx8 sb8
  have e8 : H8 pp = some (.tup [.int (perB ts : Nat), .int (per ts : Nat)]) := by rw [← hH8, upd_same, perB_eq hf]
  have sB8 : Same B4 (hid H8 x) := same_hid sb8 nB4
  have eB8 : hid H8 x pp = some (.tup [.int (perB ts : Nat), .int (per ts : Nat)]) := hid_old e8 hx8 (by intro z; cases z)
  generalize hB8 : hid H8 x = B8 at sB8 eB8
  have nB8 : B8 x = none := by rw [← hB8]; exact hid_x
  have sb9 : Same B8 (upd H8 x (.ins (He.ga K "Offer") dx [("_trades", .ref l), ("_period", .ref pp)])) := by
    rw [← hB8]
    exact same_mut hid_same hid_x
  generalize hH9 : upd H8 x (.ins (He.ga K "Offer") dx [("_trades", .ref l), ("_period", .ref pp)]) = H9 at sb9
  have hx9 : H9 x = some (.ins (He.ga K "Offer") dx [("_trades", .ref l), ("_period", .ref pp)]) := by rw [← hH9]; exact upd_same
  have hp := per_le' hf.g
  have pB8 : TrAt K B8 p ts := pB4.mono sB8
  -- the tops
  refine ⟨_, rfl, _, _, rfl, rfl, .inl ⟨by decide, by decide⟩, _, rfl, ?_, ?_, fun D2 hD2 => ?_⟩
  · omega
  · omega
  refine lc_range (lo := 0) (n := (2 * (per ts : Int)).toNat) (fun i H10 => Same H9 H10 ∧ H10 D2 = some (.lst (((List.range i).map (cN ts)).map V.int))) ⟨same_new hD2, upd_same⟩ ?_ ?_
  · rintro i H10 hi ⟨s10, e10⟩
    refine ⟨rfl, _, rfl, _, rfl, p, ts, _, rfl, pB8.mono (sb9.trans s10), hf.g, fun H11 s11 => ⟨_, s11 _ _ e10, small3 ?_, same_mut (s10.trans s11) hD2, ?_⟩⟩
    · rw [List.length_map, List.length_map, List.length_range]
      omega
    · rw [upd_same, List.range_succ, List.map_append, List.map_append]
      show _ = some (HO.lst (_ ++ [V.int (cost ts (i : Int))]))
      rw [Int.zero_add]
  rintro H10 ⟨s10, e10⟩
  have en : (2 * (per ts : Int)).toNat = 2 * per ts := by omega
  rw [en] at e10
  obtain ⟨m, hm⟩ : ∃ m, 2 * per ts = m + 1 := ⟨2 * per ts - 1, by have := per_pos hf.g; omega⟩
  have etops : topsF 0 ((List.range (2 * per ts)).map (cN ts)) = topsL ts := by
    unfold topsL
    rw [hm]
    exact (tops_eq (cf hf).zero m).1
  refine ⟨D2, _, rfl, SqL.of e10, by rw [List.length_map, List.length_range]; omega, fun H11 o s11 no e11 => ?_⟩
  rw [etops] at e11
  have hx11 : H11 x = some (.ins (He.ga K "Offer") dx [("_trades", .ref l), ("_period", .ref pp)]) := s11 _ _ (s10 _ _ hx9)
  have sb11 : Same B8 H11 := sb9.trans (s10.trans s11)
  refine ⟨_, rfl, x, _, dx, _, rfl, hx11, T.k_Offer, T.na_tops, by show 2 < 1000; decide, ?_⟩
  rw [put3]
  have sB11 : Same B8 (hid H11 x) := same_hid sb11 nB8
  have eB11 : hid H11 x o = some (.lst ((topsL ts).map V.int)) := hid_old e11 hx11 (by intro z; cases z)
  generalize hB11 : hid H11 x = B11 at sB11 eB11
  have nB11 : B11 x = none := by rw [← hB11]; exact hid_x
  have sb12 : Same B11 (upd H11 x (.ins (He.ga K "Offer") dx [("_trades", .ref l), ("_period", .ref pp), ("_tops", .ref o)])) := by
    rw [← hB11]
    exact same_mut hid_same hid_x
  generalize hH12 : upd H11 x (.ins (He.ga K "Offer") dx [("_trades", .ref l), ("_period", .ref pp), ("_tops", .ref o)]) = H12 at sb12
  have hx12 : H12 x = some (.ins (He.ga K "Offer") dx [("_trades", .ref l), ("_period", .ref pp), ("_tops", .ref o)]) := by rw [← hH12]; exact upd_same
  -- the firsts
  have efirsts : firstsF 0 [] (topsL ts) = firstsL ts := by
    show firstsF 0 [] ((List.range (2 * per ts)).map (EB.T (cN ts))) = (List.range ((EB.T (cN ts) (2 * per ts - 1)).toNat + 1)).map _
    rw [hm]
    exact firsts_eq (cf hf) m
  have ltop : (topsL ts).length ≤ 10000 := by
    rw [List.length_map, List.length_range]
    omega
  refine ⟨_, rfl, x, _, dx, _, _, rfl, hx12, T.k_Offer, T.na_tops, lk_tops, o, topsL ts, rfl, SqL.of (sb12 _ _ eB11), ltop, fun H13 f s13 nf e13 => ?_⟩
  rw [efirsts] at e13
  have hx13 := s13 _ _ hx12
  refine ⟨_, rfl, x, _, dx, _, rfl, hx13, T.k_Offer, T.na_firsts, by show 3 < 1000; decide, ?_⟩
  rw [put4]
  have sB13 : Same B11 (hid H13 x) := same_hid (sb12.trans s13) nB11
  have eB13 : hid H13 x f = some (.lst ((firstsL ts).map V.int)) := hid_old e13 hx13 (by intro z; cases z)
  generalize hB13 : hid H13 x = B13 at sB13 eB13
  have nB13 : B13 x = none := by rw [← hB13]; exact hid_x
  have sb14 : Same B13 (upd H13 x (.ins (He.ga K "Offer") dx [("_trades", .ref l), ("_period", .ref pp), ("_tops", .ref o), ("_firsts", .ref f)])) := by
    rw [← hB13]
    exact same_mut hid_same hid_x
  generalize hH14 : upd H13 x (.ins (He.ga K "Offer") dx [("_trades", .ref l), ("_period", .ref pp), ("_tops", .ref o), ("_firsts", .ref f)]) = H14 at sb14
  have hx14 : H14 x = some (.ins (He.ga K "Offer") dx [("_trades", .ref l), ("_period", .ref pp), ("_tops", .ref o), ("_firsts", .ref f)]) := by rw [← hH14]; exact upd_same
  -- the gaps
  refine ⟨_, rfl, x, _, dx, _, _, rfl, hx14, T.k_Offer, T.na_tops, lk_tops, _, rfl, x, _, dx, _, _, rfl, hx14, T.k_Offer, T.na_firsts, lk_firsts, o, f, topsL ts, firstsL ts, rfl, SqL.of (sb14 _ _ (sB13 _ _ eB11)), SqL.of (sb14 _ _ eB13), ltop, tops_in hf, fun H15 g s15 ng e15 => ?_⟩
  have hx15 := s15 _ _ hx14
  refine ⟨_, rfl, x, _, dx, _, rfl, hx15, T.k_Offer, T.na_gaps, by show 4 < 1000; decide, ?_⟩
  rw [put5]
  have s16 : Same B13 (upd H15 x (.ins (He.ga K "Offer") dx (ofs l pp o f g))) := same_mut (sb14.trans s15) nB13
  have s017 : Same H0 B13 := sB4.trans (sB8.trans (sB11.trans sB13))
  refine k _ (s017.trans s16) ⟨dx, l, pp, o, f, g, upd_same, tB4.mono (sB8.trans (sB11.trans (sB13.trans s16))), SqT.of (s16 _ _ (sB13 _ _ (sB11 _ _ eB8))), SqL.of (s16 _ _ (sB13 _ _ eB11)), SqL.of (s16 _ _ eB13), SqL.of ?_, Same.free (sB4.trans (sB8.trans (sb9.trans s10))) no, Same.free (sB4.trans (sB8.trans (sB11.trans sb12))) nf, Same.free (s017.trans sb14) ng⟩
  rw [upd_ne (ne_of e15 hx15 (by intro z; cases z))]
  exact e15
end
end EB

namespace EB
open PySem PySem.Spec PyProof.Rows L2
/-! ### the source of draws: a list at h, its cells at l -/
def hid2 (H : Hp) (h l : Addr) : Hp := fun b => if b = h ∨ b = l then none else H b
theorem hid2_h {H : Hp} {h l : Addr} : hid2 H h l h = none := if_pos (.inl rfl)
theorem hid2_l {H : Hp} {h l : Addr} : hid2 H h l l = none := if_pos (.inr rfl)
theorem hid2_ne {H : Hp} {h l b : Addr} (h1 : b ≠ h) (h2 : b ≠ l) : hid2 H h l b = H b := if_neg fun z => z.elim h1 h2
theorem hid2_same {H : Hp} {h l : Addr} : Same (hid2 H h l) H := fun b o e => by
  by_cases q : b = h ∨ b = l
  · unfold hid2 at e
    rw [if_pos q] at e
    cases e
  · unfold hid2 at e
    rw [if_neg q] at e
    exact e
theorem same_hid2 {H0 H : Hp} {h l : Addr} (s : Same H0 H) (n1 : H0 h = none) (n2 : H0 l = none) : Same H0 (hid2 H h l) := fun b o e => by
  rw [hid2_ne (ne_of_none e n1) (ne_of_none e n2)]
  exact s b o e
/-- the state of the draws; H0 knows nothing of it -/
structure HS (H0 H : Hp) (h l : Addr) : Prop where
  same : Same H0 H
  nh : H0 h = none
  nl : H0 l = none
  ne : h ≠ l
  ex : ∃ (m i : Int) (ns : List Int), H h = some (.lst [.int m, .ref l, .int i]) ∧ H l = some (.lst (ns.map V.int)) ∧ 0 ≤ m ∧ m < 2147483647 ∧ 0 ≤ i ∧ ns.length ≤ 63
theorem HS.grow {H0 H H' : Hp} {h l : Addr} (x : HS H0 H h l) (s : Same H H') : HS H0 H' h l := by
  obtain ⟨m, i, ns, e1, e2, r⟩ := x.ex
  exact ⟨x.same.trans s, x.nh, x.nl, x.ne, m, i, ns, s _ _ e1, s _ _ e2, r⟩
theorem HS.re {H0 H : Hp} {h l : Addr} (x : HS H0 H h l) : HS (hid2 H h l) H h l := ⟨hid2_same, hid2_h, hid2_l, x.ne, x.ex⟩
theorem HS.sub {H0 H : Hp} {h l : Addr} (x : HS H0 H h l) : Same H0 (hid2 H h l) := same_hid2 x.same x.nh x.nl
theorem HS.tup {K : PySem.W.Frag} {H0 H : Hp} {h l a : Addr} {xs : List V} (x : HS H0 H h l) (t : SqT K H a xs) : SqT K (hid2 H h l) a xs := by
  obtain ⟨m, i, ns, e1, e2, _⟩ := x.ex
  rcases t with (t | ⟨o, t⟩) | t
  · exact .inl (.inl (by rw [hid2_ne (ne_of t e1 (by intro z; cases z)) (ne_of t e2 (by intro z; cases z))]; exact t))
  · exact .inl (.inr ⟨o, by rw [hid2_ne (ne_of t e1 (by intro z; cases z)) (ne_of t e2 (by intro z; cases z))]; exact t⟩)
  · exact .inr t
theorem HS.tr {K : PySem.W.Frag} {H0 H : Hp} {h l a : Addr} {ts : List Tr} (x : HS H0 H h l) (t : TrAt K H a ts) : TrAt K (hid2 H h l) a ts := by
  obtain ⟨ps, h1, h2, h3⟩ := t.ex
  exact ⟨ps, x.tup h1, h2, fun i p t a b => x.tup (h3 i p t a b)⟩
theorem HS.lst {K : PySem.W.Frag} {H0 H : Hp} {h l a : Addr} {xs : List V} (x : HS H0 H h l) (t : SqL K H a xs) (n1 : a ≠ h) (n2 : a ≠ l) : SqL K (hid2 H h l) a xs := by
  rcases t with (t | ⟨o, t⟩) | t
  · exact .inl (.inl (by rw [hid2_ne n1 n2]; exact t))
  · exact .inl (.inr ⟨o, by rw [hid2_ne n1 n2]; exact t⟩)
  · exact .inr t
theorem HS.of_ {K : PySem.W.Frag} {H0 H H1 : Hp} {h l a : Addr} {ts : List Tr} (x : HS H0 H h l) (s : Same H H1) (t : OfNew K H H1 a ts) : OfAt K (hid2 H1 h l) a ts := by
  obtain ⟨dx, t, p, o, f, g, h1, h2, h3, h4, h5, h6, n1, n2, n3⟩ := t.ex
  have y := x.grow s
  obtain ⟨m, i, ns, e1, e2, _⟩ := x.ex
  have q : ∀ b, H b = none → b ≠ h ∧ b ≠ l := fun b n => ⟨(ne_of_none e1 n).symm, (ne_of_none e2 n).symm⟩
  refine ⟨dx, t, p, o, f, g, ?_, y.tr h2, y.tup h3, y.lst h4 (q o n1).1 (q o n1).2, y.lst h5 (q f n2).1 (q f n2).2, y.lst h6 (q g n3).1 (q g n3).2⟩
  rw [hid2_ne (ne_of h1 (s _ _ e1) (by intro z; cases z)) (ne_of h1 (s _ _ e2) (by intro z; cases z))]
  exact h1
theorem ixN_int {n : Nat} {i : Int} (h0 : 0 ≤ i) (h1 : i < n) : ixN n i = some i.toNat := by
  unfold ixN
  rw [if_pos h0, if_pos h1]
section
variable {P : Program} {w : World} {K : PySem.W.Frag} {mg : Str → Option Value} {base : Heap} (T : Tx K mg)
include T
def spMix (K : PySem.W.Frag) : Sp := fun vs H Q _ => ∃ (a : Addr) (ns : List Int) (seed : Int), vs = [.ref a, .int seed] ∧ SqL K H a (ns.map V.int) ∧ ns.length ≤ 63 ∧ 0 ≤ seed ∧ seed < 2147483647 ∧ ∀ H' h l, HS H H' h l → Q (.ref h) H'
theorem ok_law_mix : FnR P w K mg base CX0 1 (a_law_mix K) (spMix K) := by
  refine fnR0 (d := d_law_mix) T.F_law_mix sc_law_mix rfl (fun _ _ _ _ _ _ us hl => match us, hl with | [_, _], _ => rfl) (fun vs H Q E h => ?_) (fun cdv A outer s H vs Q E hr h => ?_)
  · obtain ⟨a, ns, seed, rfl, _⟩ := h
    rfl
  obtain ⟨a, ns, seed, rfl, hS, hl, h0, h1, k⟩ := h
  refine ⟨_, (pss_cons (ps_set (i := 2) sc_law_mix.nd rfl (Or.inl rfl) (pv 1)) (pss_cons (ps_for PassesOwn.never rfl (pi_list (pv 0)) (pg_name (i := 3) sc_law_mix.nd rfl (Or.inl rfl)) (pss_one (ps_set (i := 2) sc_law_mix.nd rfl (Or.inl rfl) (pe_op op_mod (pe_op op_add (pe_op op_add (pe_op op_mul (pv 2) pe_int) (pe_op op_mod (pv 3) pe_int)) pe_int) pe_int)))) (pss_one (ps_ret (pe_lst (pa_cons (pv 2) (pa_cons (pe_callTy call_list_of (by rfl) T.n_list (by decide +kernel) (pa_cons (pv 0) pa_nil)) (pa_cons pe_int pa_nil)))))))), ?_⟩
  refine ⟨_, rfl, _, rfl, a, rfl, ⟨_, hS⟩, for_list (K := K) (a := a) (xs := ns.map V.int) (fun i σ H1 => H1 = H ∧ ∃ (m : Int) (x : Option V), 0 ≤ m ∧ m < 2147483647 ∧ σ = [some (.ref a), some (.int seed), some (.int m), x]) ⟨rfl, seed, none, h0, h1, rfl⟩ (fun i σ H1 _ q => by rw [q.1]; exact hS) ?_ ?_⟩
  · rintro i x σ H1 hx ⟨rfl, m, x3, m0, m1, rfl⟩
    obtain ⟨c, ec, rfl⟩ := int_at hx
    refine ⟨_, rfl, _, _, rfl, rfl, .inr ⟨by decide, by decide⟩, _, rfl, _, _, rfl, rfl, by show (0 : Int) < 2147483629; decide, _, _, rfl, rfl, _, _, rfl, rfl, _, _, rfl, rfl, by show (0 : Int) < 2147483647; decide, rfl, _, some (.int c), ?_, ?_, rfl⟩
    · exact Int.emod_nonneg _ (by decide)
    · exact Int.emod_lt_of_pos _ (by decide)
  · rintro σ H1 ⟨rfl, m, x3, m0, m1, rfl⟩
    refine ⟨_, rfl, _, rfl, a, _, rfl, .inl hS, fun l hl1 => ⟨by show 3 ≤ sizeLine; decide, fun h hh => ?_⟩⟩
    have nh : h ≠ l := fun z => by
      rw [z, upd_same] at hh
      cases hh
    have hh2 : H1 h = none := by
      rw [upd_ne nh] at hh
      exact hh
    refine k _ h l ⟨(same_new hl1).trans (same_new hh), hh2, hl1, nh, m, 0, ns, upd_same, ?_, m0, m1, Int.le_refl _, hl⟩
    rw [upd_ne nh.symm]
    exact upd_same
def spNext : Sp := fun vs H Q _ => ∃ (h l : Addr) (lim : Int) (H0 : Hp), vs = [.ref h, .int lim] ∧ 0 < lim ∧ lim ≤ 2000000000000000000 ∧ HS H0 H h l ∧ ∀ H' r, HS H0 H' h l → 0 ≤ r → r < lim → Q (.int r) H'
theorem ok_law_next : FnR P w K mg base CX0 1 (a_law_next K) spNext := by
  refine fnR0 (d := d_law_next) T.F_law_next sc_law_next rfl (fun _ _ _ _ _ _ us hl => match us, hl with | [_, _], _ => rfl) (fun vs H Q E h => ?_) (fun cdv A outer s H vs Q E hr h => ?_)
  · obtain ⟨h, l, lim, H0, rfl, _⟩ := h
    rfl
  obtain ⟨h, l, lim, H0, rfl, l0, l1, hs, k⟩ := h
  obtain ⟨s0, nh, nl, hne, m, i, ns, eh, el, m0, m1, i0, hl⟩ := hs
  refine ⟨_, (pss_cons (ps_set (i := 2) sc_law_next.nd rfl (Or.inl rfl) (pe_ix ix_list (pe_op op_cat (pe_ix ix_list (pv 0) pe_int (fun _ _ => rfl)) (pe_lst (pa_cons pe_int pa_nil))) (pe_op op_mod (pe_ix ix_list (pv 0) pe_int (fun _ _ => rfl)) (pe_callB (call_max2 rfl) (by rfl) T.n_max (by decide +kernel) (pa_cons pe_int (pa_cons (pe_callB call_len_seq (by rfl) T.n_len PySem.boot_len (pa_cons (pe_ix ix_list (pv 0) pe_int (fun _ _ => rfl)) pa_nil)) pa_nil)))) (fun _ _ => rfl))) (pss_cons (ps_if (pt_cmpR op_ge (pv 2) (pe_op op_pow pe_int pe_int) (nomark _)) (pss_cons (ps_asg (pe_op op_fdivW (pv 2) (pv 1)) (pg_sub (pe_ix ix_list (pv 0) pe_int (fun _ _ => rfl)) (pe_op op_mod (pe_ix ix_list (pv 0) pe_int (fun _ _ => rfl)) (pe_callB call_len_seq (by rfl) T.n_len PySem.boot_len (pa_cons (pe_ix ix_list (pv 0) pe_int (fun _ _ => rfl)) pa_nil))) set_list)) (pss_one (ps_ret (pe_op op_mod (pv 2) (pv 1))))) pss_nil) (pss_cons (ps_asg (pe_op op_mod (pe_op op_add (pe_op op_add (pe_op op_mul (pe_ix ix_list (pv 0) pe_int (fun _ _ => rfl)) pe_int) (pe_op op_mul (pv 2) pe_int)) pe_int) pe_int) (pg_sub (pv 0) pe_int set_list)) (pss_cons (ps_asg (pe_op op_add (pe_ix ix_list (pv 0) pe_int (fun _ _ => rfl)) pe_int) (pg_sub (pv 0) pe_int set_list)) (pss_one (ps_ret (pe_op op_mod (pe_op op_fdiv (pe_ix ix_list (pv 0) pe_int (fun _ _ => rfl)) pe_int) (pv 1)))))))), ?_⟩
  refine ⟨_, rfl, h, _, 1, _, rfl, rfl, SqL.of eh, rfl, by show 1 ≤ sizeLine; decide, fun z hz => ?_⟩
  refine ⟨l, z, _, _, rfl, rfl, upd_old el hz, upd_same, by rw [List.length_map]; exact Nat.le_trans (Nat.succ_le_succ hl) (by decide), fun y hy => ?_⟩
  have eh2 := upd_old (u := .lst (ns.map V.int ++ [.int 0])) (upd_old (u := .lst [.int 0]) eh hz) hy
  have el2 := upd_old (u := .lst (ns.map V.int ++ [.int 0])) (upd_old (u := .lst [.int 0]) el hz) hy
  have s2 : Same H (upd (upd H z (.lst [.int 0])) y (.lst (ns.map V.int ++ [.int 0]))) := (same_new hz).trans (same_new hy)
  have ey : (upd (upd H z (.lst [.int 0])) y (.lst (ns.map V.int ++ [.int 0]))) y = some (.lst (ns.map V.int ++ [.int 0])) := upd_same
  generalize upd (upd H z (.lst [.int 0])) y (.lst (ns.map V.int ++ [.int 0])) = H2 at eh2 el2 s2 ey
  refine ⟨_, rfl, h, _, 2, _, rfl, rfl, SqL.of eh2, rfl, _, rfl, h, _, 1, _, rfl, rfl, SqL.of eh2, rfl, l, _, rfl, .inl (SqL.of el2), 1, _, rfl, ?_⟩
  have hlen : ((ns.map V.int).length : Int) = (ns.length : Int) := by rw [List.length_map]
  rw [hlen]
  have hj : 0 < (if (ns.length : Int) > 1 then (ns.length : Int) else 1) := by split <;> omega
  have hjm : (if (ns.length : Int) > 1 then (ns.length : Int) else 1) ≤ ns.length + 1 := by split <;> omega
  have hj2 : ns ≠ [] → (if (ns.length : Int) > 1 then (ns.length : Int) else 1) = ns.length := fun hn => by
    have : 0 < ns.length := List.length_pos_iff.mpr hn
    split <;> omega
  generalize (if (ns.length : Int) > 1 then (ns.length : Int) else 1) = j at hj hjm hj2
  refine ⟨_, _, rfl, rfl, hj, ?_⟩
  have r0 := Int.emod_nonneg i (Int.ne_of_gt hj)
  have r1 := Int.emod_lt_of_pos i hj
  -- the cell that is read
  obtain ⟨c, hc, hc2⟩ : ∃ c : Int, (ns.map V.int ++ [V.int 0])[(i % j).toNat]? = some (.int c) ∧ (0 < c → ns ≠ []) := by
    by_cases hn : ns = []
    · subst hn
      have : (i % j).toNat = 0 := by
        simp only [List.length_nil] at hjm
        omega
      rw [this]
      exact ⟨0, rfl, fun z => absurd z (by decide)⟩
    · have ej := hj2 hn
      have lt : (i % j).toNat < ns.length := by omega
      refine ⟨ns[(i % j).toNat], ?_, fun _ => hn⟩
      rw [List.getElem?_append_left (by rw [List.length_map]; exact lt), List.getElem?_map, List.getElem?_eq_getElem lt]
      rfl
  refine ⟨y, _, _, .int c, rfl, rfl, SqL.of ey, at_of (j := (i % j).toNat) (by omega) hc, ?_⟩
  refine ⟨_, rfl, _, _, rfl, rfl, ⟨by decide, by decide, by decide⟩, _, _, rfl, rfl, _, rfl, ite2 (fun hd => ?_) (fun hd => ?_)⟩
  · -- a great cell: a digit of it
    have hd : (10 : Int) ^ (18 : Int).toNat ≤ c := of_decide_eq_true hd
    have hc0 : 0 < c := Int.lt_of_lt_of_le (by decide) hd
    have hn := hc2 hc0
    have ej := hj2 hn
    have hp : 0 < ns.length := List.length_pos_iff.mpr hn
    refine ⟨_, rfl, _, rfl, _, _, rfl, rfl, wide_div l0 (b := 64) ?_ (by decide) (by decide), ?_⟩
    · have : lim.natAbs ≤ 2000000000000000000 := by omega
      exact Nat.lt_of_le_of_lt this (by decide)
    refine ⟨_, rfl, h, _, 1, _, rfl, rfl, SqL.of eh2, rfl, _, rfl, h, _, 2, _, rfl, rfl, SqL.of eh2, rfl, _, rfl, h, _, 1, _, rfl, rfl, SqL.of eh2, rfl, l, _, rfl, .inl (SqL.of el2), _, _, rfl, rfl, ?_, ?_⟩
    · show (0 : Int) < ((ns.map V.int).length : Int)
      rw [hlen]
      omega
    rw [hlen]
    have q0 := Int.emod_nonneg i (show (ns.length : Int) ≠ 0 by omega)
    have q1 := Int.emod_lt_of_pos i (show (0 : Int) < ns.length by omega)
    refine ⟨l, _, _, _, rfl, rfl, el2, ixN_int q0 (by rw [List.length_map]; exact q1), ?_⟩
    refine ⟨_, rfl, _, rfl, _, _, rfl, rfl, l0, ?_⟩
    refine k _ _ ⟨same_mut (s0.trans s2) nl, nh, nl, hne, m, i, ns.set (i % (ns.length : Int)).toNat (c / lim), ?_, ?_, m0, m1, i0, by rw [List.length_set]; exact hl⟩ (Int.emod_nonneg _ (Int.ne_of_gt l0)) (Int.emod_lt_of_pos _ l0)
    · rw [upd_ne hne]
      exact eh2
    · rw [upd_same, List.map_set]
  · -- mixed with the cell
    refine ⟨_, rfl, h, _, 0, _, rfl, rfl, SqL.of eh2, rfl, _, _, rfl, rfl, .inr ⟨by decide, by decide⟩, _, rfl, _, _, rfl, rfl, .inr ⟨by decide, by decide⟩, _, _, rfl, rfl, _, _, rfl, rfl, _, _, rfl, rfl, by show (0 : Int) < 2147483647; decide, ?_⟩
    refine ⟨_, rfl, h, _, 0, 0, rfl, rfl, eh2, rfl, ?_⟩
    have b0 : 0 ≤ (m * 48271 + c * 69621 + 11) % 2147483647 := Int.emod_nonneg _ (by decide)
    have b1 : (m * 48271 + c * 69621 + 11) % 2147483647 < 2147483647 := Int.emod_lt_of_pos _ (by decide)
    have e3 : upd H2 h (.lst ([V.int m, .ref l, .int i].set 0 (.int ((m * 48271 + c * 69621 + 11) % 2147483647)))) h = some (.lst [V.int ((m * 48271 + c * 69621 + 11) % 2147483647), .ref l, .int i]) := upd_same
    refine ⟨_, rfl, h, _, 2, _, rfl, rfl, SqL.of e3, rfl, _, _, rfl, rfl, _, rfl, h, _, 2, 2, rfl, rfl, e3, rfl, ?_⟩
    rw [upd_upd]
    have e4 : upd H2 h (.lst ([V.int ((m * 48271 + c * 69621 + 11) % 2147483647), .ref l, .int i].set 2 (.int (i + 1)))) h = some (.lst [V.int ((m * 48271 + c * 69621 + 11) % 2147483647), .ref l, .int (i + 1)]) := upd_same
    refine ⟨_, rfl, h, _, 0, _, rfl, rfl, SqL.of e4, rfl, _, _, rfl, rfl, ⟨by decide, by decide⟩, _, rfl, _, _, rfl, rfl, l0, ?_⟩
    refine k _ _ ⟨same_mut (s0.trans s2) nh, nh, nl, hne, (m * 48271 + c * 69621 + 11) % 2147483647, i + 1, ns, e4, ?_, b0, b1, by omega, hl⟩ (Int.emod_nonneg _ (Int.ne_of_gt l0)) (Int.emod_lt_of_pos _ l0)
    rw [upd_ne hne.symm]
    exact el2
def spBuys (K : PySem.W.Frag) : Sp := fun vs H Q _ => ∃ (a : Addr) (ts : List Tr) (d : Int), vs = [.ref a, .int d] ∧ TrAt K H a ts ∧ gds ts ∧ ∀ H', Same H H' → Q (.int (buys ts d)) H'
theorem ok_law_buys : FnR P w K mg base CX0 1 (a_law_buys K) (spBuys K) := by
  refine fnR0 (d := d_law_buys) T.F_law_buys sc_law_buys rfl (fun _ _ _ _ _ _ us hl => match us, hl with | [_, _], _ => rfl) (fun vs H Q E h => ?_) (fun cdv A outer s H vs Q E hr h => ?_)
  · obtain ⟨a, ts, d, rfl, _⟩ := h
    rfl
  obtain ⟨a, ts, d, rfl, hT, ⟨hlen, hok⟩, k⟩ := h
  obtain ⟨ps, h1, h2, h3⟩ := hT.ex
  refine ⟨_, (pss_one (ps_ret (pe_callB (cr_sum rfl) (by rfl) T.n_sum (by decide +kernel) (pa_cons (pe_lc (own := [("_law_kind", 2), ("_law_left", 3), ("_law_needed", 4)]) rfl sc_law_buys.nd (pi_tup (pv 0)) (blkOk_by (own := [("_law_kind", 2), ("_law_left", 3), ("_law_needed", 4)]) (N := N_law_buys) (sc := defScope s_law_buys) (by decide +kernel)) (fun _ _ _ _ _ => (pg_tupB (n := 3) (pgs_cons (pg_name (i := 2) sc_law_buys.nd rfl (Or.inl rfl) (.inr rfl)) (pgs_cons (pg_name (i := 3) sc_law_buys.nd rfl (Or.inl rfl) (.inr rfl)) (pgs_cons (pg_name (i := 4) sc_law_buys.nd rfl (Or.inl rfl) (.inr rfl)) pgs_nil))))) (fun _ _ _ _ _ => pts_nil) (fun _ _ _ _ _ => (pe_op op_fdiv (pe_op op_mul (pv 3) (pv 1)) (pv 4)))) pa_nil)))), ?_⟩
  refine ⟨_, rfl, a, rfl, ⟨_, h1⟩, fun D hD => ?_⟩
  refine lc_tup (xs := ps.map V.ref) (fun i H1 => Same H H1 ∧ H D = none ∧ H1 D = some (.lst ((ts.take i).map fun t => V.int (t.l * d / t.n)))) ⟨same_new hD, hD, upd_same⟩ (fun i H1 _ q => Same.tup q.1 h1) ?_ ?_
  · rintro i x H1 hx ⟨s1, n1, e1⟩
    obtain ⟨p, t, rfl, ep, et, hm, li, hp⟩ := TrAt.at_ h2 h3 hx
    have ht := hok _ hm
    refine ⟨p, _, rfl, Same.tup s1 hp, rfl, _, _, rfl, _, _, rfl, _, _, rfl, rfl, rfl, ?_⟩
    refine ⟨_, rfl, _, rfl, _, _, rfl, rfl, .inl ⟨by have := ht.1; omega, by have := ht.2.1; omega⟩, _, rfl, _, _, rfl, rfl, ⟨by have := ht.2.2.1; omega, by have := ht.2.2.2; omega⟩, ?_⟩
    refine ⟨_, e1, small3 ?_, same_mut s1 n1, n1, ?_⟩
    · rw [List.length_map, List.length_take]
      omega
    · rw [upd_same, take_at et, List.map_append]
      rfl
  · rintro H1 ⟨s1, n1, e1⟩
    refine ⟨D, ts.map fun t => t.l * d / t.n, rfl, SqL.of ?_, ?_⟩
    · rw [e1, List.length_map, h2, List.take_length, List.map_map]
      rfl
    · exact k _ s1
end
end EB

namespace EB
open PySem PySem.Spec PyProof.Rows L2
theorem HS.keep {H0 H : Hp} {h l b : Addr} {o : HO} (e : H b = some o) (n1 : b ≠ h) (n2 : b ≠ l) : hid2 H h l b = some o := by
  rw [hid2_ne n1 n2]
  exact e
theorem HS.new {H0 H : Hp} {h l b : Addr} (x : HS H0 H h l) (n : H b = none) : b ≠ h ∧ b ≠ l := by
  obtain ⟨m, i, ns, e1, e2, _⟩ := x.ex
  exact ⟨(ne_of_none e1 n).symm, (ne_of_none e2 n).symm⟩
theorem HS.mut {H0 H : Hp} {h l b : Addr} {o : HO} (x : HS H0 H h l) (n : H0 b = none) (n1 : b ≠ h) (n2 : b ≠ l) : HS H0 (upd H b o) h l := by
  obtain ⟨m, i, ns, e1, e2, r⟩ := x.ex
  exact ⟨same_mut x.same n, x.nh, x.nl, x.ne, m, i, ns, by rw [upd_ne n1.symm]; exact e1, by rw [upd_ne n2.symm]; exact e2, r⟩
theorem HS.down {H0 H H' : Hp} {h l : Addr} (x : HS H0 H h l) (y : HS (hid2 H h l) H' h l) : HS H0 H' h l := ⟨x.sub.trans y.same, x.nh, x.nl, x.ne, y.ex⟩
def kinds3 : List Str := ["empty", "cap", "label"]
/-- trades as the law draws them -/
structure Drawn (ts : List Tr) (most largest : Int) : Prop where
  ks : ts.map Tr.k = kinds3.take ts.length
  len : (ts.length : Int) ≤ most
  len3 : ts.length ≤ 3
  each : ∀ t ∈ ts, t.ok ∧ t.n ≤ largest ∧ t.l ≤ t.n
  w : 10 * worth ts ≤ 9 * 27720
theorem Drawn.fair {ts : List Tr} {a b : Int} (d : Drawn ts a b) : Fair ts := ⟨⟨d.len3, fun t ht => (d.each t ht).1⟩, d.w⟩
theorem Drawn.nm {ts : List Tr} {a b : Int} (d : Drawn ts a b) : nmOk ts := by
  have hk : ∀ k ∈ kinds3, kindOk k = true ∧ k.length ≤ 1000 := by decide +kernel
  have hn : kinds3.Nodup := by decide +kernel
  refine ⟨by rw [d.ks]; exact hn.sublist (List.take_sublist _ _), fun t ht => ?_⟩
  have : t.k ∈ ts.map Tr.k := List.mem_map.mpr ⟨t, ht, rfl⟩
  rw [d.ks] at this
  exact hk _ (List.mem_of_mem_take this)
theorem worth_snoc (ts : List Tr) (t : Tr) : worth (ts ++ [t]) = worth ts + 27720 / t.n * t.l := by
  unfold worth
  rw [List.map_append, List.sum_append]
  simp
/-- new tuples, one for each trade -/
def NewTr (H : Hp) (qs : List Addr) (ts : List Tr) : Prop := qs.length = ts.length ∧ ∀ (j : Nat) (q : Addr) (t : Tr), qs[j]? = some q → ts[j]? = some t → H q = some (.tup t.vs)
theorem NewTr.at_ {K : PySem.W.Frag} {H : Hp} {qs : List Addr} {ts : List Tr} {p : Addr} (n : NewTr H qs ts) (h : SqT K H p (qs.map V.ref)) : TrAt K H p ts := ⟨qs, h, n.1, fun i q t a b => SqT.of (n.2 i q t a b)⟩
theorem NewTr.mono {H H' : Hp} {qs : List Addr} {ts : List Tr} (n : NewTr H qs ts) (h : ∀ q xs, H q = some (.tup xs) → H' q = some (.tup xs)) : NewTr H' qs ts := ⟨n.1, fun j q t a b => h _ _ (n.2 j q t a b)⟩
theorem NewTr.snoc {H : Hp} {qs : List Addr} {ts : List Tr} {q : Addr} {t : Tr} (n : NewTr H qs ts) (h : H q = some (.tup t.vs)) : NewTr H (qs ++ [q]) (ts ++ [t]) := by
  refine ⟨by rw [List.length_append, List.length_append, n.1]; rfl, fun j q' t' hj ht' => ?_⟩
  rcases Nat.lt_or_ge j qs.length with z | z
  · rw [List.getElem?_append_left z] at hj
    rw [List.getElem?_append_left (by rw [← n.1]; exact z)] at ht'
    exact n.2 j q' t' hj ht'
  · rw [List.getElem?_append_right z] at hj
    rw [List.getElem?_append_right (by rw [← n.1]; exact z)] at ht'
    have ej : j - qs.length = 0 := by
      have := lt_of_at hj
      simp only [List.length_singleton] at this
      omega
    rw [ej] at hj
    rw [← n.1, ej] at ht'
    cases Option.some.inj hj
    cases Option.some.inj ht'
    exact h
theorem HS.keepT {H : Hp} {h l q : Addr} {xs : List V} {H0 : Hp} (x : HS H0 H h l) (e : H q = some (.tup xs)) : hid2 H h l q = some (.tup xs) := by
  obtain ⟨m, i, ns, e1, e2, _⟩ := x.ex
  exact HS.keep (H0 := H0) e (ne_of e e1 (by intro z; cases z)) (ne_of e e2 (by intro z; cases z))
section
variable {P : Program} {w : World} {K : PySem.W.Frag} {mg : Str → Option Value} {base : Heap} (T : Tx K mg)
include T
def spTrades (K : PySem.W.Frag) : Sp := fun vs H Q _ => ∃ (h l : Addr) (most largest : Int) (H0 : Hp), vs = [.ref h, .int most, .int largest] ∧ 1 ≤ most ∧ most ≤ 3 ∧ 1 ≤ largest ∧ largest ≤ 12 ∧ HS H0 H h l ∧
  ∀ H' p ts, HS H0 H' h l → TrAt K H' p ts → ts ≠ [] → Drawn ts most largest → Q (.ref p) H'
theorem ok_law_trades : FnR P w K mg base CX0 2 (a_law_trades K) (spTrades K) := by
  refine fnR0 (d := d_law_trades) T.F_law_trades sc_law_trades rfl (fun _ _ _ _ _ _ us hl => match us, hl with | [_, _, _], _ => rfl) (fun vs H Q E h => ?_) (fun cdv A outer s H vs Q E hr h => ?_)
  · obtain ⟨h, l, most, largest, H0, rfl, _⟩ := h
    rfl
  obtain ⟨h, l, most, largest, H0, rfl, m1, m3, g1, g12, hs, k⟩ := h
  refine ⟨_, (pss_cons (ps_par (i := 3) (j := 4) (by rfl) sc_law_trades.nd rfl rfl (by decide) rfl rfl (pa_cons (pe_lst pa_nil) (pa_cons pe_int pa_nil)) (by rfl)) (pss_cons (ps_for PassesOwn.never rfl (pi_list (pe_slice sl_list (pe_lst (pa_cons pe_str (pa_cons pe_str (pa_cons pe_str pa_nil)))) po_none (po_some (pe_op op_add pe_int (pe_cR (ok_law_next T) (hr.mono (by decide)) T.F_law_next.kp T.g_law_next pass0 (pa_cons (pv 0) (pa_cons (pv 1) pa_nil))))))) (pg_name (i := 5) sc_law_trades.nd rfl (Or.inl rfl)) (pss_cons (ps_set (i := 6) sc_law_trades.nd rfl (Or.inl rfl) (pe_op op_add pe_int (pe_cR (ok_law_next T) (hr.mono (by decide)) T.F_law_next.kp T.g_law_next pass0 (pa_cons (pv 0) (pa_cons (pv 2) pa_nil))))) (pss_cons (ps_set (i := 7) sc_law_trades.nd rfl (Or.inl rfl) (pe_cR (ok_law_next T) (hr.mono (by decide)) T.F_law_next.kp T.g_law_next pass0 (pa_cons (pv 0) (pa_cons (pe_op op_add (pv 6) pe_int) pa_nil)))) (pss_cons (ps_while PassesOwn.never (pt_cmpR op_gt (pe_op op_mul pe_int (pe_op op_add (pe_op op_mul (pv 4) (pv 6)) (pe_op op_mul (pv 7) pe_int))) (pe_op op_mul (pe_op op_mul pe_int pe_int) (pv 6)) (nomark _)) (pss_one (ps_set (i := 7) sc_law_trades.nd rfl (Or.inl rfl) (pe_op op_sub (pv 7) pe_int)))) (pss_cons (ps_set (i := 4) sc_law_trades.nd rfl (Or.inl rfl) (pe_op op_add (pv 4) (pe_op op_fdiv (pe_op op_mul (pv 7) pe_int) (pv 6)))) (pss_one (ps_expr (pe_bm PySem.F.plainAttrs_list PySem.F.slot_list_append PySem.F.type_list_append mt_append (pv 3) (pa_cons (pe_tup (pa_cons (pv 5) (pa_cons (pv 7) (pa_cons (pv 6) pa_nil)))) pa_nil))))))))) (pss_one (ps_ret (pe_callTy call_tuple_of (by rfl) T.n_tuple (by decide +kernel) (pa_cons (pv 3) pa_nil)))))), ?_⟩
  refine ⟨Nat.zero_le _, fun F hF => ⟨_, _, rfl, ?_⟩⟩
  have nF := hs.new hF
  have n0F : H0 F = none := hs.same.free hF
  have hsA := hs.grow (same_new (u := .lst []) hF)
  refine ⟨by show 3 ≤ sizeLine; decide, fun L hL => ?_⟩
  have nL := hsA.new hL
  have nFL : F ≠ L := ne_of_none upd_same hL
  have hsB := hsA.grow (same_new (u := .lst [.str "empty", .str "cap", .str "label"]) hL)
  have eF : upd (upd H F (.lst [])) L (.lst [.str "empty", .str "cap", .str "label"]) F = some (.lst []) := by
    rw [upd_ne nFL]
    exact upd_same
  have eL : upd (upd H F (.lst [])) L (.lst [.str "empty", .str "cap", .str "label"]) L = some (.lst (kinds3.map V.str)) := upd_same
  have n0L : H0 L = none := hsA.same.free hL
  generalize upd (upd H F (.lst [])) L (.lst [.str "empty", .str "cap", .str "label"]) = HB at hsB eF eL
  refine ⟨_, rfl, _, rfl, h, l, most, hid2 HB h l, rfl, by omega, by omega, hsB.re, fun HC r hsC r0 r1 => ⟨_, _, rfl, rfl, _, rfl, L, _, rfl, SqL.of (hsC.same _ _ (HS.keep (H0 := H0) eL nL.1 nL.2)), fun p hp => ?_⟩⟩
  have eFC : HC F = some (.lst []) := hsC.same _ _ (HS.keep (H0 := H0) eF nF.1 nF.2)
  have hsC' : HS H0 HC h l := hsB.down hsC
  have np := hsC'.new hp
  have n0p : H0 p = none := hsC'.same.free hp
  have npF : p ≠ F := (ne_of_none eFC hp).symm
  -- the kinds that are gone through
  obtain ⟨n, hn, hn1, hn3⟩ : ∃ n : Nat, (1 + r) = (n : Int) ∧ 1 ≤ n ∧ n ≤ 3 := ⟨(1 + r).toNat, by omega, by omega, by omega⟩
  have hnm : (n : Int) ≤ most := by omega
  have ecut : cutV (kinds3.map V.str) none (some (1 + r)) = (kinds3.take n).map V.str := by
    rw [hn]
    unfold cutV
    rw [HT.sIx_none, HT.sIx_nat]
    have hl3 : (kinds3.map V.str).length = 3 := rfl
    rw [hl3, Nat.min_eq_left hn3, Nat.sub_zero, List.drop_zero, List.map_take]
  rw [ecut]
  have hsD := hsC'.grow (same_new (u := .lst ((kinds3.take n).map V.str)) hp)
  have eFD : upd HC p (.lst ((kinds3.take n).map V.str)) F = some (.lst []) := by
    rw [upd_ne npF.symm]
    exact eFC
  have epD : upd HC p (.lst ((kinds3.take n).map V.str)) p = some (.lst ((kinds3.take n).map V.str)) := upd_same
  generalize upd HC p (.lst ((kinds3.take n).map V.str)) = HD at hsD eFD epD
  refine ⟨p, rfl, ⟨_, SqL.of epD⟩, for_list (K := K) (a := p) (xs := (kinds3.take n).map V.str) (fun i σ H1 => HS H0 H1 h l ∧ H1 p = some (.lst ((kinds3.take n).map V.str)) ∧ ∃ (ts : List Tr) (qs : List Addr) (x5 x6 x7 : Option V),
      ts.length = i ∧ H1 F = some (.lst (qs.map V.ref)) ∧ NewTr H1 qs ts ∧ (i ≤ n → ts.map Tr.k = kinds3.take i) ∧ (∀ t ∈ ts, t.ok ∧ t.n ≤ largest ∧ t.l ≤ t.n) ∧ 10 * worth ts ≤ 9 * 27720 ∧ 0 ≤ worth ts ∧
      σ = [some (.ref h), some (.int most), some (.int largest), some (.ref F), some (.int (worth ts)), x5, x6, x7])
    ⟨hsD, epD, [], [], none, none, none, rfl, eFD, ⟨rfl, fun j q t a => (by cases a)⟩, fun _ => rfl, fun t ht => (by cases ht), by decide, by decide, rfl⟩ (fun i σ H1 _ q => SqL.of q.2.1) ?_ ?_⟩
  · rintro i x σ H1 hx ⟨hs1, ep1, ts, qs, x5, x6, x7, hti, eF1, hnt, hks, hall, hw, hw0, rfl⟩
    have hin : i < n := by
      have := lt_of_at hx
      rw [List.length_map, List.length_take] at this
      omega
    obtain ⟨kd, ekd, rfl⟩ : ∃ kd, (kinds3.take n)[i]? = some kd ∧ x = .str kd := by
      rw [List.getElem?_map] at hx
      cases e : (kinds3.take n)[i]? with
      | none =>
        rw [e] at hx
        cases hx
      | some kd =>
        rw [e] at hx
        exact ⟨kd, rfl, (Option.some.inj hx).symm⟩
    have ekd2 : kinds3[i]? = some kd := by
      rw [List.getElem?_take] at ekd
      rw [if_pos hin] at ekd
      exact ekd
    -- needed
    refine ⟨_, rfl, _, rfl, h, l, largest, hid2 H1 h l, rfl, by omega, by omega, hs1.re, fun H2 r2 hs2 r20 r21 => ⟨_, _, rfl, rfl, ?_⟩⟩
    have hs2' := hs1.down hs2
    have ep2 := hs2.same _ _ (HS.keep (H0 := H0) ep1 np.1 np.2)
    have eF2 := hs2.same _ _ (HS.keep (H0 := H0) eF1 nF.1 nF.2)
    have hnt2 := hnt.mono fun q xs e => hs2.same _ _ (hs1.keepT e)
    -- left
    refine ⟨_, rfl, _, rfl, _, _, rfl, rfl, h, l, (1 + r2) + 1, hid2 H2 h l, rfl, by omega, by omega, hs2'.re, fun H3 r3 hs3 r30 r31 => ?_⟩
    have hs3' := hs2'.down hs3
    have ep3 := hs3.same _ _ (HS.keep (H0 := H0) ep2 np.1 np.2)
    have eF3 := hs3.same _ _ (HS.keep (H0 := H0) eF2 nF.1 nF.2)
    have hnt3 := hnt2.mono fun q xs e => hs3.same _ _ (hs2'.keepT e)
    obtain ⟨nd, hnd⟩ : ∃ nd : Int, nd = 1 + r2 := ⟨_, rfl⟩
    have nd1 : 1 ≤ nd := by omega
    have nd2 : nd ≤ 12 := by omega
    have e27 : (9 : Int) * 27720 * nd = 249480 * nd := rfl
    refine ⟨fun m σ H => H = H3 ∧ ∃ lf : Int, 0 ≤ lf ∧ lf ≤ r3 ∧ m = lf.toNat ∧ σ = [some (.ref h), some (.int most), some (.int largest), some (.ref F), some (.int (worth ts)), some (.str kd), some (.int nd), some (.int lf)], ⟨r3.toNat, rfl, r3, r30, Int.le_refl _, rfl, (by rw [hnd]; rfl)⟩, ?_⟩
    rintro m σ H4 ⟨rfl, lf, lf0, lf1, hm, rfl⟩
    have hwn : 10 * (worth ts * nd) ≤ 249480 * nd := by
      have := Int.mul_le_mul_of_nonneg_right hw (show 0 ≤ nd by omega)
      rw [Int.mul_assoc] at this
      exact this
    have hww : worth ts ≤ 24948 := by omega
    refine ⟨_, rfl, _, rfl, _, _, rfl, rfl, .inr ⟨by omega, by omega⟩, _, rfl, _, _, rfl, rfl, .inr ⟨by decide, by decide⟩, _, _, rfl, rfl, _, _, rfl, rfl, .inl ⟨by decide, by decide⟩, _, _, rfl, rfl, .inl ⟨by decide, by decide⟩, _, rfl, _, _, rfl, rfl, .inr ⟨by omega, by omega⟩, _, _, rfl, rfl, _, rfl, ite2 (fun hd => ?_) (fun hd => ?_)⟩
    · have hd : 9 * 27720 * nd < 10 * (worth ts * nd + lf * 27720) := of_decide_eq_true hd
      refine ⟨fun σ' H' => ∃ m', m' < m ∧ (H' = H4 ∧ ∃ lf : Int, 0 ≤ lf ∧ lf ≤ r3 ∧ m' = lf.toNat ∧ σ' = [some (.ref h), some (.int most), some (.int largest), some (.ref F), some (.int (worth ts)), some (.str kd), some (.int nd), some (.int lf)]), fun _ _ z => z, ?_⟩
      exact ⟨_, rfl, _, _, rfl, rfl, (lf - 1).toNat, by omega, rfl, lf - 1, by omega, by omega, rfl, rfl⟩
    · have hd : ¬ 9 * 27720 * nd < 10 * (worth ts * nd + lf * 27720) := fun z => hd (decide_eq_true z)
      obtain ⟨q0, hq0⟩ := dvd_big nd1 nd2
      have eq1 : lf * 27720 / nd = q0 * lf := by
        rw [hq0, show lf * (nd * q0) = nd * (q0 * lf) by rw [Int.mul_left_comm, Int.mul_comm lf q0]]
        exact Int.mul_ediv_cancel_left _ (by omega)
      have eq2 : (27720 : Int) / nd = q0 := by
        rw [hq0]
        exact Int.mul_ediv_cancel_left _ (by omega)
      have hle : 10 * (worth ts + q0 * lf) ≤ 9 * 27720 := by
        have h1 : 10 * (worth ts + q0 * lf) * nd ≤ 9 * 27720 * nd := by
          have h2 : lf * 27720 = q0 * lf * nd := by
            rw [hq0, Int.mul_comm (q0 * lf) nd, Int.mul_left_comm, Int.mul_comm lf q0]
          have h3 : 10 * (worth ts + q0 * lf) * nd = 10 * (worth ts * nd + q0 * lf * nd) := by
            rw [Int.mul_assoc, Int.add_mul]
          rw [h3, ← h2]
          omega
        exact Int.le_of_mul_le_mul_right h1 (by omega)
      have hq00 : 0 ≤ q0 := by
        rw [← eq2]
        exact Int.ediv_nonneg (by decide) (by omega)
      have hql : 0 ≤ q0 * lf := Int.mul_nonneg hq00 lf0
      have ewt : worth (ts ++ [⟨kd, lf, nd⟩]) = worth ts + lf * 27720 / nd := by
        rw [worth_snoc, eq1]
        show worth ts + 27720 / nd * lf = _
        rw [eq2]
      -- worth, and the trade
      refine ⟨_, rfl, _, rfl, _, _, rfl, rfl, .inr ⟨by decide, by decide⟩, _, rfl, _, _, rfl, rfl, ⟨by omega, by omega⟩, _, _, rfl, rfl, ?_⟩
      refine ⟨_, rfl, .inl ⟨rfl, _, SqL.of eF3⟩, _, rfl, _, rfl, _, rfl, by show 3 ≤ sizeLine; decide, fun q hq => ?_⟩
      have eF5 := upd_old (u := .tup [.str kd, .int lf, .int nd]) eF3 hq
      have nq := hs3'.new hq
      have npq : p ≠ q := ne_of_none ep3 hq
      have nFq : F ≠ q := ne_of_none eF3 hq
      refine ⟨F, _, _, rfl, rfl, eF5, small3 ?_, ?_⟩
      · rw [List.length_map, hnt3.1]
        omega
      refine ⟨(hs3'.grow (same_new hq)).mut n0F nF.1 nF.2, ?_, ts ++ [⟨kd, lf, nd⟩], qs ++ [q], some (.str kd), some (.int nd), some (.int lf), ?_, ?_, ?_, fun hi => ?_, fun t ht => ?_, ?_, ?_, ?_⟩
      · rw [upd_ne npF]
        exact upd_old ep3 hq
      · rw [List.length_append, hti]
        rfl
      · rw [upd_same, List.map_append]
        rfl
      · refine NewTr.snoc (hnt3.mono fun q' xs e => ?_) ?_
        · rw [upd_ne (ne_of e eF3 (by intro z; cases z))]
          exact upd_old e hq
        · rw [upd_ne nFq.symm]
          exact upd_same
      · rw [List.map_append, hks (by omega), take_at ekd2]
        rfl
      · rcases List.mem_append.mp ht with ht | ht
        · exact hall t ht
        · cases List.mem_singleton.mp ht
          exact ⟨⟨lf0, by show lf ≤ 12; omega, nd1, nd2⟩, by show nd ≤ largest; omega, by show lf ≤ nd; omega⟩
      · rw [ewt, eq1]
        exact hle
      · rw [ewt, eq1]
        omega
      · rw [ewt]
        rfl
  · rintro σ H1 ⟨hs1, ep1, ts, qs, x5, x6, x7, hti, eF1, hnt, hks, hall, hw, hw0, rfl⟩
    have hlen : ((kinds3.take n).map V.str).length = n := by
      rw [List.length_map, List.length_take]
      exact Nat.min_eq_left hn3
    rw [hlen] at hti
    refine ⟨_, rfl, F, _, rfl, .inl ⟨SqL.of eF1, fun p' hp' => ?_⟩⟩
    refine k _ p' ts (hs1.grow (same_new hp')) ((hnt.mono fun q xs e => upd_old e hp').at_ (SqT.of upd_same)) (fun z => by rw [z] at hti; simp only [List.length_nil] at hti; omega) ⟨?_, by omega, by omega, hall, hw⟩
    rw [hlen] at hks
    rw [hks (Nat.le_refl _), hti]
end
end EB

namespace EB
open PySem PySem.Spec PyProof.Rows L2
theorem upd_none {H : Hp} {a b : Addr} {o : HO} (h : upd H a o b = none) : b ≠ a ∧ H b = none := by
  have n : b ≠ a := fun z => by
    rw [z, upd_same] at h
    cases h
  rw [upd_ne n] at h
  exact ⟨n, h⟩
/-- what a new offer asks, its trades handed on one by one -/
theorem make_ok {K : PySem.W.Frag} {H : Hp} {ts : List Tr} {ps : List Addr} {Q : VK} {E : XK} {x dx : Addr} (h2 : ps.length = ts.length) (h3 : ∀ (i : Nat) (p : Addr) (t : Tr), ps[i]? = some p → ts[i]? = some t → SqT K H p t.vs)
    (hf : Fair ts) (hne : ts ≠ []) (hnm : nmOk ts) (nx : H x = none) (nd : H dx = none) (ned : dx ≠ x) (k : ∀ H', Same H H' → OfNew K H H' x ts → Q (.ref x) H') :
    ∃ ws rest, (V.ref x :: ps.map V.ref) = ws ++ rest ∧ ws.length = 1 ∧ rest.length ≤ sizeLine ∧ ∀ p, (upd (upd H dx (.own x)) x (.ins (He.ga K "Offer") dx [])) p = none →
      spInit K (ws ++ [V.ref p]) (upd (upd (upd H dx (.own x)) x (.ins (He.ga K "Offer") dx [])) p (.tup rest)) (fun v H2 => v = .non ∧ Q (.ref x) H2) E := by
  refine ⟨[.ref x], ps.map V.ref, rfl, rfl, ?_, fun p hp => ?_⟩
  · rw [List.length_map, h2]
    exact Nat.le_trans hf.g.1 (by decide)
  obtain ⟨npx, hp1⟩ := upd_none hp
  obtain ⟨npd, hp2⟩ := upd_none hp1
  have sH : Same H (upd H p (.tup (ps.map V.ref))) := same_new hp2
  refine ⟨x, p, upd H p (.tup (ps.map V.ref)), dx, ts, rfl, fun b o e => ?_, by rw [upd_ne npx.symm]; exact nx, by rw [upd_ne npx.symm]; exact upd_same, ⟨ps, SqT.of upd_same, h2, fun i q t a b => Same.tup sH (h3 i q t a b)⟩, hf, hne, hnm, fun H' s' o' => ⟨rfl, ?_⟩⟩
  · by_cases z : b = p
    · rw [z, upd_same] at e
      rw [z, upd_same]
      exact e
    · rw [upd_ne z] at e
      rw [upd_ne z, upd_ne (ne_of_none e nx), upd_ne (ne_of_none e nd)]
      exact e
  · obtain ⟨d, t, q, o, f, g, e1, e2, e3, e4, e5, e6, n1, n2, n3⟩ := o'.ex
    exact k _ (sH.trans s') ⟨d, t, q, o, f, g, e1, e2, e3, e4, e5, e6, (upd_none n1).2, (upd_none n2).2, (upd_none n3).2⟩
section
variable {P : Program} {w : World} {K : PySem.W.Frag} {mg : Str → Option Value} {base : Heap} (T : Tx K mg)
include T
def spOffer (K : PySem.W.Frag) : Sp := fun vs H Q _ => ∃ (p : Addr) (ts : List Tr), vs = [.ref p] ∧ TrAt K H p ts ∧ Fair ts ∧ ts ≠ [] ∧ nmOk ts ∧ ∀ H' x, Same H H' → OfNew K H H' x ts → Q (.ref x) H'
theorem ok_law_offer : FnR P w K mg base CX0 7 (a_law_offer K) (spOffer K) := by
  refine fnR0 (d := d_law_offer) T.F_law_offer sc_law_offer rfl (fun _ _ _ _ _ _ us hl => match us, hl with | [_], _ => rfl) (fun vs H Q E h => ?_) (fun cdv A outer s H vs Q E hr h => ?_)
  · obtain ⟨p, ts, rfl, _⟩ := h
    rfl
  obtain ⟨p, ts, rfl, hT, hf, hne, hnm, k⟩ := h
  obtain ⟨ps, h1, h2, h3⟩ := hT.ex
  refine ⟨_, (pss_cons (ps_if (pt_cmpR op_eq (pe_callB call_len_seq (by rfl) T.n_len PySem.boot_len (pa_cons (pv 0) pa_nil)) pe_int (nomark _)) (pss_one (ps_ret (StX.pe_makeR T.mk_Offer (ok_Offer_init T) (hr.mono (by decide)) (by rfl) T.g_Offer pass0 (pa_cons (pe_ix ix_tup (pv 0) pe_int (fun _ _ => rfl)) pa_nil)))) pss_nil) (pss_one (ps_ret (pe_ifExp (pt_cmpR op_eq (pe_callB call_len_seq (by rfl) T.n_len PySem.boot_len (pa_cons (pv 0) pa_nil)) pe_int (nomark _)) (StX.pe_makeR T.mk_Offer (ok_Offer_init T) (hr.mono (by decide)) (by rfl) T.g_Offer pass0 (pa_cons (pe_ix ix_tup (pv 0) pe_int (fun _ _ => rfl)) (pa_cons (pe_ix ix_tup (pv 0) pe_int (fun _ _ => rfl)) pa_nil))) (StX.pe_makeR T.mk_Offer (ok_Offer_init T) (hr.mono (by decide)) (by rfl) T.g_Offer pass0 (pa_cons (pe_ix ix_tup (pv 0) pe_int (fun _ _ => rfl)) (pa_cons (pe_ix ix_tup (pv 0) pe_int (fun _ _ => rfl)) (pa_cons (pe_ix ix_tup (pv 0) pe_int (fun _ _ => rfl)) pa_nil)))))))), ?_⟩
  refine ⟨_, rfl, p, _, rfl, .inr h1, rfl, _, rfl, ite2 (fun hd => ?_) (fun hd => ?_)⟩
  · have hd : ((ps.map V.ref).length : Int) = 1 := V.int.inj (of_decide_eq_true hd)
    match ps, hd, h1, h2, h3 with
    | [a], _, h1, h2, h3 =>
      refine ⟨_, rfl, p, _, 0, _, rfl, rfl, h1, rfl, fun x dx nx nd ned => ?_⟩
      exact make_ok h2 h3 hf hne hnm nx nd ned fun H' s' o' => k H' x s' o'
    | [], hd, _, _, _ => exact absurd hd (by decide)
    | a :: b :: r, hd, _, _, _ =>
      simp only [List.map_cons, List.length_cons] at hd
      omega
  · have hd : ¬ ((ps.map V.ref).length : Int) = 1 := fun z => hd (decide_eq_true (by rw [z]))
    refine ⟨_, rfl, p, _, rfl, .inr h1, rfl, _, rfl, ite2 (fun hd2 => ?_) (fun hd2 => ?_)⟩
    · have hd2 : ((ps.map V.ref).length : Int) = 2 := V.int.inj (of_decide_eq_true hd2)
      match ps, hd2, h1, h2, h3 with
      | [a, b], _, h1, h2, h3 =>
        refine ⟨_, rfl, p, _, 0, _, rfl, rfl, h1, rfl, _, rfl, p, _, 1, _, rfl, rfl, h1, rfl, fun x dx nx nd ned => ?_⟩
        exact make_ok h2 h3 hf hne hnm nx nd ned fun H' s' o' => k H' x s' o'
      | [], hd, _, _, _ => exact absurd hd (by decide)
      | [_], hd, _, _, _ => exact absurd hd (by simp)
      | a :: b :: c :: r, hd, _, _, _ =>
        simp only [List.map_cons, List.length_cons] at hd
        omega
    · have hd2 : ¬ ((ps.map V.ref).length : Int) = 2 := fun z => hd2 (decide_eq_true (by rw [z]))
      have hl := hf.g.1
      match ps, hd, hd2, h1, h2, h3 with
      | [a, b, c], _, _, h1, h2, h3 =>
        refine ⟨_, rfl, p, _, 0, _, rfl, rfl, h1, rfl, _, rfl, p, _, 1, _, rfl, rfl, h1, rfl, _, rfl, p, _, 2, _, rfl, rfl, h1, rfl, fun x dx nx nd ned => ?_⟩
        exact make_ok h2 h3 hf hne hnm nx nd ned fun H' s' o' => k H' x s' o'
      | [], _, _, _, h2, _ =>
        cases ts with
        | nil => exact absurd rfl hne
        | cons _ _ => cases h2
      | [_], hd, _, _, _, _ => exact absurd rfl hd
      | [_, _], _, hd, _, _, _ => exact absurd rfl hd
      | a :: b :: c :: d :: r, _, _, _, h2, _ =>
        simp only [List.length_cons] at h2
        omega
/-! ### an offer's methods -/
def spDF (K : PySem.W.Frag) : Sp := fun vs H Q _ => ∃ (a : Addr) (ts : List Tr) (n : Nat), vs = [.ref a, .int (n : Nat)] ∧ OfAt K H a ts ∧ Fair ts ∧ Q (.int (D (cN ts) n : Nat)) H
theorem ok_Offer_drinks_for : FnR P w K mg base CX0 2 (a_Offer_drinks_for K) (spDF K) := by
  refine fnR0 (d := d_Offer_drinks_for) T.F_Offer_drinks_for sc_Offer_drinks_for rfl (fun _ _ _ _ _ _ us hl => match us, hl with | [_, _], _ => rfl) (fun vs H Q E h => ?_) (fun cdv A outer s H vs Q E hr h => ?_)
  · obtain ⟨a, ts, n, rfl, _⟩ := h
    rfl
  obtain ⟨a, ts, n, rfl, ho, hf, k⟩ := h
  obtain ⟨dx, t, p, o, f, g, e1, e2, e3, e4, e5, e6⟩ := ho.ex
  refine ⟨_, (pss_cons (ps_asg (pe_fld (pv 0) rfl) (pg_tup rfl (pgs_cons (pg_name (i := 2) sc_Offer_drinks_for.nd rfl (Or.inl rfl)) (pgs_cons (pg_name (i := 3) sc_Offer_drinks_for.nd rfl (Or.inl rfl)) pgs_nil)))) (pss_one (ps_ret (pe_cR (ok_value_at T) (hr.mono (by decide)) T.F_value_at.kp T.g_value_at pass0 (pa_cons (pe_fld (pv 0) rfl) (pa_cons (pv 1) (pa_cons (pv 2) (pa_cons (pv 3) pa_nil)))))))), ?_⟩
  refine ⟨_, rfl, a, _, dx, _, _, rfl, e1, T.k_Offer, T.na_period, lk_period, p, _, rfl, e3, rfl, _, _, rfl, _, _, rfl, rfl, ?_⟩
  refine ⟨_, rfl, a, _, dx, _, _, rfl, e1, T.k_Offer, T.na_firsts, lk_firsts, _, rfl, _, rfl, _, rfl, f, firstsL ts, n, perB ts, per ts, rfl, e5, by omega, ?_, ?_, ?_, ?_, ?_, ?_⟩
  all_goals have hp := per_le' hf.g
  all_goals have hb := (cf hf).bpos
  all_goals have hB := perB_le hf
  · omega
  · omega
  · omega
  · omega
  · have ht := (cf hf).T_per (d := per ts - 1) (by have := per_pos hf.g; omega)
    have h0 := (cf hf).T_nonneg (per ts - 1)
    have e : per ts - 1 + per ts = 2 * per ts - 1 := by have := per_pos hf.g; omega
    rw [e] at ht
    rw [List.length_map, List.length_range]
    omega
  · rw [value_firsts (cf hf)]
    exact k
def spCall (K : PySem.W.Frag) : Sp := fun vs H Q _ => ∃ (a : Addr) (ts : List Tr) (n : Nat), vs = [.ref a, .int (n : Nat)] ∧ OfAt K H a ts ∧ Fair ts ∧ n ≤ 1000000000000000000 ∧ Q (.int (D (cN ts) n : Nat)) H
theorem ok_Offer_call : FnR P w K mg base CX0 4 (a_Offer_call K) (spCall K) := by
  refine fnR0 (d := d_Offer_call) T.F_Offer_call sc_Offer_call rfl (fun _ _ _ _ _ _ us hl => match us, hl with | [_, _], _ => rfl) (fun vs H Q E h => ?_) (fun cdv A outer s H vs Q E hr h => ?_)
  · obtain ⟨a, ts, n, rfl, _⟩ := h
    rfl
  obtain ⟨a, ts, n, rfl, ho, hf, hn, k⟩ := h
  obtain ⟨dx, t, p, o, f, g, e1, e2, e3, e4, e5, e6⟩ := ho.ex
  refine ⟨_, (pss_cons (ps_expr (pe_cR (ok_check_number T) (hr.mono (by decide)) T.F_check_number.kp T.g_check_number pass0 (pa_cons (pv 1) pa_nil))) (pss_one (ps_ret (pe_methR (pv 0) T.k_Offer T.m_Offer_drinks_for (ok_Offer_drinks_for T) (hr.mono (by decide)) pass0 (pa_cons (pv 1) pa_nil))))), ?_⟩
  refine ⟨_, rfl, n, rfl, by omega, by omega, ?_⟩
  exact ⟨_, rfl, a, dx, _, rfl, e1, lk_no (by decide +kernel), _, rfl, a, ts, n, rfl, ho, hf, k⟩
end
end EB

namespace EB
theorem fl_sub1 {l n x y : Int} (hn : 0 < n) : l * (x + y) / n ≤ l * x / n + l * y / n + 1 := by
  rw [Int.mul_add]
  have h1 := Int.mul_ediv_add_emod (l * x) n
  have h2 := Int.mul_ediv_add_emod (l * y) n
  have h3 := Int.mul_ediv_add_emod (l * x + l * y) n
  have b1 := Int.emod_lt_of_pos (l * x) hn
  have b2 := Int.emod_lt_of_pos (l * y) hn
  have b3 := Int.emod_nonneg (l * x + l * y) (show n ≠ 0 by omega)
  generalize l * x / n = p at *
  generalize l * y / n = q at *
  generalize (l * x + l * y) / n = r at *
  generalize l * x % n = u at *
  generalize l * y % n = v at *
  generalize (l * x + l * y) % n = z at *
  have : n * r < n * (p + q + 2) := by
    rw [Int.mul_add, Int.mul_add]
    omega
  have := Int.lt_of_mul_lt_mul_left this (by omega)
  omega
theorem buys_sub : ∀ {ts : List Tr} (h : ∀ t ∈ ts, t.ok) (x y : Int), buys ts (x + y) ≤ buys ts x + buys ts y + ts.length
  | [], _, _, _ => by
    show (0 : Int) ≤ 0 + 0 + ((0 : Nat) : Int)
    omega
  | t :: ts, h, x, y => by
    have h1 := buys_sub (ts := ts) (fun t m => h t (List.mem_cons_of_mem _ m)) x y
    have h2 := fl_sub1 (l := t.l) (x := x) (y := y) (tr_pos (h t (List.mem_cons_self ..)))
    show t.l * (x + y) / t.n + buys ts (x + y) ≤ (t.l * x / t.n + buys ts x) + (t.l * y / t.n + buys ts y) + ((ts.length + 1 : Nat) : Int)
    push_cast
    omega
theorem T_three {ts : List Tr} (f : Fair ts) : T (cN ts) (per ts - 1) ≤ perB ts + 2 := by
  have C := cf f
  obtain ⟨j, hj, e⟩ := CF.T_at (cN ts) (per ts - 1)
  have hp := per_pos f.g
  rw [e]
  obtain ⟨k, hk⟩ : ∃ k, per ts = j + k := ⟨per ts - j, by omega⟩
  have h1 := buys_sub f.g.2 (j : Int) (k : Int)
  have h2 := C.ten k
  have h3 : cN ts (per ts) = perB ts := by
    have := C.per 0
    rw [Nat.zero_add, C.zero] at this
    omega
  have h4 := f.g.1
  rw [hk] at h3
  have h5 : ((j + k : Nat) : Int) - buys ts ((j + k : Nat) : Int) = perB ts := h3
  have h6 : (k : Int) ≤ 10 * ((k : Int) - buys ts k) := h2
  show (j : Int) - buys ts j ≤ _
  push_cast at h5
  omega
end EB

namespace EB
open PySem PySem.Spec PyProof.Rows L2
/-- what is left of each kind -/
def leftK (ts : List Tr) (d : Nat) : List (Key × V) := ts.foldl (fun kvs t => putK kvs (.inr t.k) (.int (t.l * (d : Nat) % t.n))) []
def KNice (kvs : List (Key × V)) : Prop := (kvs.map (·.1)).Nodup ∧ (∀ p ∈ kvs, ∃ i : Int, p.2 = .int i) ∧ ∀ p ∈ kvs, ∃ z : Str, p.1 = .inr z
theorem KNice.put {kvs : List (Key × V)} (h : KNice kvs) (z : Str) (i : Int) : KNice (putK kvs (.inr z) (.int i)) ∧ (putK kvs (.inr z) (.int i)).length ≤ kvs.length + 1 := by
  obtain ⟨h1, h2, h3⟩ := h
  unfold putK
  by_cases e : (kvs.any fun kv => decide (kv.1 = .inr z)) = true
  · rw [if_pos e]
    refine ⟨⟨?_, ?_, ?_⟩, by rw [List.length_map]; omega⟩
    · rw [List.map_map, show ((fun x : Key × V => x.1) ∘ fun kv => if kv.1 = .inr z then (kv.1, V.int i) else kv) = (fun kv => kv.1) from funext fun kv => by
        show (if kv.1 = .inr z then (kv.1, V.int i) else kv).1 = kv.1
        by_cases q : kv.1 = .inr z
        · rw [if_pos q]
        · rw [if_neg q]]
      exact h1
    · intro p hp
      obtain ⟨kv, m, rfl⟩ := List.mem_map.mp hp
      by_cases q : kv.1 = .inr z
      · rw [if_pos q]
        exact ⟨_, rfl⟩
      · rw [if_neg q]
        exact h2 _ m
    · intro p hp
      obtain ⟨kv, m, rfl⟩ := List.mem_map.mp hp
      by_cases q : kv.1 = .inr z
      · rw [if_pos q]
        exact ⟨z, q⟩
      · rw [if_neg q]
        exact h3 _ m
  · rw [if_neg e]
    refine ⟨⟨?_, ?_, ?_⟩, by rw [List.length_append]; exact Nat.le_refl _⟩
    · rw [List.map_append, List.nodup_append]
      refine ⟨h1, List.nodup_cons.mpr ⟨List.not_mem_nil, List.nodup_nil⟩, fun a ha b hb => ?_⟩
      cases List.mem_singleton.mp hb
      intro y
      subst y
      obtain ⟨p, m, e2⟩ := List.mem_map.mp ha
      exact e (List.any_eq_true.mpr ⟨p, m, decide_eq_true e2⟩)
    · intro p hp
      rcases List.mem_append.mp hp with m | m
      · exact h2 _ m
      · cases List.mem_singleton.mp m
        exact ⟨_, rfl⟩
    · intro p hp
      rcases List.mem_append.mp hp with m | m
      · exact h3 _ m
      · cases List.mem_singleton.mp m
        exact ⟨_, rfl⟩
theorem left_nice : ∀ (ts : List Tr) (d : Nat) (kvs : List (Key × V)), KNice kvs → KNice (ts.foldl (fun kvs t => putK kvs (.inr t.k) (.int (t.l * (d : Nat) % t.n))) kvs) ∧ (ts.foldl (fun kvs t => putK kvs (.inr t.k) (.int (t.l * (d : Nat) % t.n))) kvs).length ≤ kvs.length + ts.length
  | [], d, kvs, h => ⟨h, Nat.le_refl _⟩
  | t :: ts, d, kvs, h => by
    have h1 := h.put t.k (t.l * (d : Nat) % t.n)
    have h2 := left_nice ts d _ h1.1
    refine ⟨h2.1, Nat.le_trans h2.2 ?_⟩
    rw [List.length_cons]
    omega
theorem leftK_nice (ts : List Tr) (d : Nat) : KNice (leftK ts d) ∧ (leftK ts d).length ≤ ts.length := by
  have h := left_nice ts d [] ⟨List.nodup_nil, fun p h => (by cases h), fun p h => (by cases h)⟩
  rw [show ([] : List (Key × V)).length + ts.length = ts.length from Nat.zero_add _] at h
  exact h
theorem KNice.val {kvs : List (Key × V)} (h : KNice kvs) : ∀ p ∈ kvs, valV kvs p.1 = some p.2 ∧ flatB p.2 = true := by
  obtain ⟨h1, h2, h3⟩ := h
  intro p hp
  refine ⟨?_, ?_⟩
  · clear h2 h3
    induction kvs with
    | nil => cases hp
    | cons q r ih =>
      rw [List.map_cons, List.nodup_cons] at h1
      rcases List.mem_cons.mp hp with rfl | m
      · exact valV_pos rfl
      · rw [valV_neg (fun e => h1.1 (e ▸ List.mem_map_of_mem m)), ih h1.2 m]
  · obtain ⟨i, e⟩ := h2 p hp
    rw [e]
    rfl
section
variable {P : Program} {w : World} {K : PySem.W.Frag} {mg : Str → Option Value} {base : Heap} (T : Tx K mg)
include T
def spLeft (K : PySem.W.Frag) : Sp := fun vs H Q _ => ∃ (a : Addr) (ts : List Tr) (n : Nat), vs = [.ref a, .int (n : Nat)] ∧ OfAt K H a ts ∧ Fair ts ∧ n ≤ 1000000000000000000 ∧ ∀ H' p, Same H H' → H' p = some (.dK (leftK ts (D (cN ts) n))) → Q (.ref p) H'
theorem ok_Offer_left_over : FnR P w K mg base CX0 4 (a_Offer_left_over K) (spLeft K) := by
  refine fnR0 (d := d_Offer_left_over) T.F_Offer_left_over sc_Offer_left_over rfl (fun _ _ _ _ _ _ us hl => match us, hl with | [_, _], _ => rfl) (fun vs H Q E h => ?_) (fun cdv A outer s H vs Q E hr h => ?_)
  · obtain ⟨a, ts, n, rfl, _⟩ := h
    rfl
  obtain ⟨a, ts, n, rfl, ho, hf, hn, k⟩ := h
  obtain ⟨dx, t, p, o, f, g, e1, e2, e3, e4, e5, e6⟩ := ho.ex
  refine ⟨_, (pss_cons (ps_expr (pe_cR (ok_check_number T) (hr.mono (by decide)) T.F_check_number.kp T.g_check_number pass0 (pa_cons (pv 1) pa_nil))) (pss_cons (ps_set (i := 2) sc_Offer_left_over.nd rfl (Or.inr rfl) (pe_methR (pv 0) T.k_Offer T.m_Offer_drinks_for (ok_Offer_drinks_for T) (hr.mono (by decide)) pass0 (pa_cons (pv 1) pa_nil))) (pss_one (ps_ret (pe_dc (own := [("kind", 3), ("left", 4), ("needed", 5)]) rfl sc_Offer_left_over.nd (pi_tup (pe_fld (pv 0) rfl)) (blkOk_by (own := [("kind", 3), ("left", 4), ("needed", 5)]) (N := N_Offer_left_over) (sc := defScope s_Offer_left_over) (by decide +kernel)) (fun _ _ _ _ _ => (pg_tupB (n := 3) (pgs_cons (pg_name (i := 3) sc_Offer_left_over.nd rfl (Or.inl rfl) (.inr rfl)) (pgs_cons (pg_name (i := 4) sc_Offer_left_over.nd rfl (Or.inl rfl) (.inr rfl)) (pgs_cons (pg_name (i := 5) sc_Offer_left_over.nd rfl (Or.inl rfl) (.inr rfl)) pgs_nil))))) (fun _ _ _ _ _ => pts_nil) (fun _ _ _ _ _ => (pv 3)) (fun _ _ _ _ _ => (pe_op op_mod (pe_op op_mul (pv 4) (pv 2)) (pv 5)))))))), ?_⟩
  refine ⟨_, rfl, n, rfl, by omega, by omega, ?_⟩
  refine ⟨_, rfl, a, dx, _, rfl, e1, lk_no (by decide +kernel), _, rfl, a, ts, n, rfl, ho, hf, ?_⟩
  obtain ⟨ps, h1, h2, h3⟩ := e2.ex
  have hlen := hf.g.1
  refine ⟨_, rfl, a, _, dx, _, _, rfl, e1, T.k_Offer, T.na_trades, lk_trades, t, rfl, ⟨_, h1⟩, fun W hW => ?_⟩
  refine dc_tup (xs := ps.map V.ref) (fun i H1 => Same H H1 ∧ H1 W = some (.dK (leftK (ts.take i) (D (cN ts) n)))) ⟨same_new hW, upd_same⟩ (fun i H1 _ q => Same.tup q.1 h1) ?_ ?_
  · rintro i x H1 hx ⟨s1, w1⟩
    obtain ⟨p, t, rfl, ep, et, hm, li, hp⟩ := TrAt.at_ h2 h3 hx
    have ht := hf.g.2 _ hm
    refine ⟨p, _, rfl, Same.tup s1 hp, rfl, _, _, rfl, _, _, rfl, _, _, rfl, rfl, rfl, ?_⟩
    have hl := (leftK_nice (ts.take i) (D (cN ts) n)).2
    rw [List.length_take] at hl
    refine ⟨_, rfl, _, rfl, _, rfl, _, _, rfl, rfl, .inl ⟨by have := ht.1; omega, by have := ht.2.1; omega⟩, _, rfl, _, _, rfl, rfl, (show 0 < t.n from by have := ht.2.2.1; omega), ?_⟩
    refine ⟨_, .inr t.k, rfl, w1, small3 (by omega), same_mut s1 hW, ?_⟩
    rw [upd_same, take_at et]
    unfold leftK
    rw [List.foldl_append]
    rfl
  · rintro H1 ⟨s1, w1⟩
    refine k _ _ s1 ?_
    rw [w1, List.length_map, h2, List.take_length]
end
end EB

namespace EB
open PySem PySem.Spec PyProof.Rows L2
/-! ### data of some depth -/
inductive Lev : Nat → PyData → Prop
  | non {n : Nat} : Lev n .none
  | bl {n : Nat} (b : Bool) : Lev n (.bool b)
  | int {n : Nat} (i : Int) : Lev n (.int i)
  | str {n : Nat} (z : Str) : Lev n (.str z)
  | lst {n : Nat} {ds : List PyData} (h : ∀ d ∈ ds, Lev n d) (hl : ds.length ≤ 10000) : Lev (n + 1) (.list ds)
  | tup {n : Nat} {ds : List PyData} (h : ∀ d ∈ ds, Lev n d) (hl : ds.length ≤ 10000) : Lev (n + 1) (.tuple ds)
mutual
theorem dp_mono {K : PySem.W.Frag} {H H' : Hp} (s : Same H H') : ∀ {v : V} {d : PyData}, Dp K H v d → Dp K H' v d
  | _, _, .non => .non
  | _, _, .bl b => .bl b
  | _, _, .int i => .int i
  | _, _, .str z => .str z
  | _, _, .lst h a => .lst (s.seq h) (dps_mono s a)
  | _, _, .tup h a => .tup (Same.tup s h) (dps_mono s a)
theorem dps_mono {K : PySem.W.Frag} {H H' : Hp} (s : Same H H') : ∀ {vs : List V} {ds : List PyData}, DpAll K H vs ds → DpAll K H' vs ds
  | _, _, .nil => .nil
  | _, _, .cons a b => .cons (dp_mono s a) (dps_mono s b)
end
theorem dps_len {K : PySem.W.Frag} {H : Hp} : ∀ {vs : List V} {ds : List PyData}, DpAll K H vs ds → vs.length = ds.length
  | _, _, .nil => rfl
  | _, _, .cons _ b => congrArg Nat.succ (dps_len b)
theorem dps_at {K : PySem.W.Frag} {H : Hp} : ∀ {vs : List V} {ds : List PyData} {i : Nat}, DpAll K H vs ds → i < ds.length → ∃ v d, vs[i]? = some v ∧ d ∈ ds ∧ Dp K H v d ∧ ds[i]? = some d
  | _, _, 0, .cons a b, _ => ⟨_, _, rfl, List.mem_cons_self .., a, rfl⟩
  | _, _, i + 1, .cons a b, h => by
    obtain ⟨v, d, e1, e2, e3, e4⟩ := dps_at (i := i) b (Nat.lt_of_succ_lt_succ h)
    exact ⟨v, d, e1, List.mem_cons_of_mem _ e2, e3, e4⟩
theorem dps_ints {K : PySem.W.Frag} {H : Hp} : ∀ (ns : List Int), DpAll K H (ns.map V.int) (ns.map PyData.int)
  | [] => .nil
  | n :: ns => .cons (.int n) (dps_ints ns)
theorem tyL {K : PySem.W.Frag} {H : Hp} {a : Addr} {xs : List V} (h : SqL K H a xs) : TyX K H (.ref a) (.type "list") := by
  rcases h with (h | ⟨o, h⟩) | ⟨o, its, n, h1, h2, _⟩
  · exact .base (.lst h)
  · exact .base (.frz h)
  · exact .kList h1 h2
theorem tyT {K : PySem.W.Frag} {H : Hp} {a : Addr} {xs : List V} (h : SqT K H a xs) : TyX K H (.ref a) (.type "tuple") := by
  rcases h with (h | ⟨o, h⟩) | ⟨o, its, n, h1, h2, _⟩
  · exact .base (.tup h)
  · exact .fTuple h
  · exact .kTuple h1 h2
theorem isTL {K : PySem.W.Frag} (q : Bool) : PySem.W.kitAny K (.type (if q then "list" else "tuple")) [.type "tuple", .type "list"] = some true := by
  cases q with
  | true => exact kitAny_cons (b := false) (kit_ty (by decide +kernel)) (fun _ => kitAny_cons (b := true) (kit_ty (by decide +kernel)) (fun z => nomatch z) (fun _ => rfl)) (fun z => nomatch z)
  | false => exact kitAny_cons (b := true) (kit_ty (by decide +kernel)) (fun z => nomatch z) (fun _ => rfl)
/-- a list (q) or a tuple -/
def SqQ (K : PySem.W.Frag) (H : Hp) (q : Bool) (a : Addr) (xs : List V) : Prop := if q = true then SqL K H a xs else SqT K H a xs
theorem SqQ.ty {K : PySem.W.Frag} {H : Hp} {q : Bool} {a : Addr} {xs : List V} (h : SqQ K H q a xs) : TyX K H (.ref a) (.type (if q then "list" else "tuple")) := by
  cases q with
  | true => exact tyL h
  | false => exact tyT h
theorem SqQ.or {K : PySem.W.Frag} {H : Hp} {q : Bool} {a : Addr} {xs : List V} (h : SqQ K H q a xs) : SqL K H a xs ∨ SqT K H a xs := by
  cases q with
  | true => exact .inl h
  | false => exact .inr h
theorem SqQ.mono {K : PySem.W.Frag} {H H' : Hp} {q : Bool} {a : Addr} {xs : List V} (s : Same H H') (h : SqQ K H q a xs) : SqQ K H' q a xs := by
  cases q with
  | true => exact s.seq h
  | false => exact Same.tup s h
theorem SqQ.ix {K : PySem.W.Frag} {H : Hp} {q : Bool} {a : Addr} {xs : List V} {i : Int} {v : V} {Q : VK} (h : SqQ K H q a xs) (e : atI xs i = some v) (k : Q v H) : rIx K (.ref a) (.int i) H Q := by
  cases q with
  | true => exact .inl ⟨a, xs, i, v, rfl, rfl, h, e, k⟩
  | false => exact .inr (.inl ⟨a, xs, i, v, rfl, rfl, h, e, k⟩)
theorem kitD (q : Bool) {K : PySem.W.Frag} : PySem.W.kitOne K (.type (if q then "list" else "tuple")) (.type "dict") = some false := by
  cases q with
  | true => exact kit_ty (by decide +kernel)
  | false => exact kit_ty (by decide +kernel)
theorem kitL (q : Bool) {K : PySem.W.Frag} : PySem.W.kitOne K (.type (if q then "list" else "tuple")) (.type "list") = some q := by
  cases q with
  | true => exact kit_ty (by decide +kernel)
  | false => exact kit_ty (by decide +kernel)
theorem shapedN : SeqAt.shaped (PyData.list []) = true := by decide +kernel
theorem alike_low {n : Nat} {d : PyData} (h : Lev n d) : Lev 0 d ∨ ∃ (q : Bool) (ds : List PyData) (m : Nat), n = m + 1 ∧ d = (if q then .list ds else .tuple ds) ∧ (∀ e ∈ ds, Lev m e) ∧ ds.length ≤ 10000 := by
  cases h with
  | non => exact .inl .non
  | bl b => exact .inl (.bl b)
  | int i => exact .inl (.int i)
  | str z => exact .inl (.str z)
  | lst h hl => exact .inr ⟨true, _, _, rfl, rfl, h, hl⟩
  | tup h hl => exact .inr ⟨false, _, _, rfl, rfl, h, hl⟩
theorem dp_seq {K : PySem.W.Frag} {H : Hp} {v : V} {q : Bool} {ds : List PyData} (h : Dp K H v (if q then .list ds else .tuple ds)) : ∃ a xs, v = .ref a ∧ SqQ K H q a xs ∧ DpAll K H xs ds := by
  cases q with
  | true =>
    cases h with
    | lst h a => exact ⟨_, _, rfl, h, a⟩
  | false =>
    cases h with
    | tup h a => exact ⟨_, _, rfl, h, a⟩
section
variable {P : Program} {w : World} {K : PySem.W.Frag} {mg : Str → Option Value} {base : Heap} (T : Tx K mg)
include T
def spAlike (K : PySem.W.Frag) (n : Nat) : Sp := fun vs H Q _ => ∃ (v u : V) (d : PyData), vs = [v, u] ∧ Dp K H v d ∧ Dp K H u d ∧ Lev n d ∧ ∀ H', Same H H' → Q (.bl true) H'
theorem ok_alike0 : FnR P w K mg base CX0 1 (a_law_alike K) (spAlike K 0) := by
  refine fnR0 (d := d_law_alike) T.F_law_alike sc_law_alike rfl (fun _ _ _ _ _ _ us hl => match us, hl with | [_, _], _ => rfl) (fun vs H Q E h => ?_) (fun cdv A outer s H vs Q E hr h => ?_)
  · obtain ⟨i, j, _, rfl, _⟩ := h
    rfl
  obtain ⟨v, u, d, rfl, hv, hu, hd, k⟩ := h
  refine ⟨_, pss_cons (ps_if (pt_val (pe_callB call_isi (by rfl) T.n_isinstance (by decide +kernel) (pa_cons (pv 1) (pa_cons (pe_bltn (v := .ty "dict") (u := .type "dict") rfl T.n_dict (by decide +kernel) rfl) pa_nil)))) pss_never pss_nil) (pss_cons (ps_if (pt_val (pe_callB call_isiT (by rfl) T.n_isinstance (by decide +kernel) (pa_cons (pv 1) (pa_cons (pe_tup (pa_cons (pe_bltn (v := .ty "tuple") (u := .type "tuple") rfl T.n_tuple (by decide +kernel) rfl) (pa_cons (pe_bltn (v := .ty "list") (u := .type "list") rfl T.n_list (by decide +kernel) rfl) pa_nil))) pa_nil)))) pss_never pss_nil) (pss_cons (ps_if (PW.pt (pw_or (pt_cmpR op_isN (pv 1) pe_non (nomark _)) (pw_or1 (pt_val (pe_callB call_isi (by rfl) T.n_isinstance (by decide +kernel) (pa_cons (pv 1) (pa_cons (pe_bltn (v := .ty "str") (u := .type "str") rfl T.n_str (by decide +kernel) rfl) pa_nil))))))) (pss_one (ps_ret (pe_and (pe_cmpR op_eq (pv 0) (pv 1) (nomark _)) (pe_one (pe_cmpR op_eq (pe_callB call_isi (by rfl) T.n_isinstance (by decide +kernel) (pa_cons (pv 0) (pa_cons (pe_bltn (v := .ty "str") (u := .type "str") rfl T.n_str (by decide +kernel) rfl) pa_nil))) (pe_callB call_isi (by rfl) T.n_isinstance (by decide +kernel) (pa_cons (pv 1) (pa_cons (pe_bltn (v := .ty "str") (u := .type "str") rfl T.n_str (by decide +kernel) rfl) pa_nil))) (nomark _)))))) pss_nil) (pss_one (ps_ret (pe_and (pe_callB call_isi (by rfl) T.n_isinstance (by decide +kernel) (pa_cons (pv 0) (pa_cons (pe_bltn (v := .ty "int") (u := .type "int") rfl T.n_int (by decide +kernel) rfl) pa_nil))) (pe_and (pe_cmpR op_eq (pe_callB call_isi (by rfl) T.n_isinstance (by decide +kernel) (pa_cons (pv 0) (pa_cons (pe_bltn (v := .ty "bool") (u := .type "bool") rfl T.n_bool (by decide +kernel) rfl) pa_nil))) (pe_callB call_isi (by rfl) T.n_isinstance (by decide +kernel) (pa_cons (pv 1) (pa_cons (pe_bltn (v := .ty "bool") (u := .type "bool") rfl T.n_bool (by decide +kernel) rfl) pa_nil))) (nomark _)) (pe_one (pe_cmpR op_eq (pv 0) (pv 1) (nomark _))))))))), ?_⟩
  cases hd with
  | non =>
    cases hv
    cases hu
    refine ⟨_, rfl, .non, .ty "dict", _, _, false, rfl, ClsV.ty "dict", .base .non, kit_ty (by decide +kernel), false, rfl, iteF ?_⟩
    refine ⟨_, rfl, by show 2 ≤ sizeLine; decide, fun tp htp => ⟨.non, tp, _, _, _, false, rfl, upd_same, .cons (ClsV.ty "tuple") (.cons (ClsV.ty "list") .nil), .base .non, kitAny_cons (b := false) (kit_ty (by decide +kernel)) (fun _ => kitAny_cons (b := false) (kit_ty (by decide +kernel)) (fun _ => kitAny_nil) (fun z => nomatch z)) (fun z => nomatch z), false, rfl, iteF ?_⟩⟩
    refine ⟨_, rfl, rfl, _, rfl, iteT (iteT ?_)⟩
    refine ⟨_, rfl, _, rfl, rfl, _, rfl, iteT ?_⟩
    exact ⟨_, rfl, .non, .ty "str", _, _, false, rfl, ClsV.ty "str", .base .non, kit_ty (by decide +kernel), _, rfl, .non, .ty "str", _, _, false, rfl, ClsV.ty "str", .base .non, kit_ty (by decide +kernel), rfl, k _ (same_new htp)⟩
  | str z =>
    cases hv
    cases hu
    refine ⟨_, rfl, .str z, .ty "dict", _, _, false, rfl, ClsV.ty "dict", .base (.str z), kit_ty (by decide +kernel), false, rfl, iteF ?_⟩
    refine ⟨_, rfl, by show 2 ≤ sizeLine; decide, fun tp htp => ⟨.str z, tp, _, _, _, false, rfl, upd_same, .cons (ClsV.ty "tuple") (.cons (ClsV.ty "list") .nil), .base (.str z), kitAny_cons (b := false) (kit_ty (by decide +kernel)) (fun _ => kitAny_cons (b := false) (kit_ty (by decide +kernel)) (fun _ => kitAny_nil) (fun z => nomatch z)) (fun z => nomatch z), false, rfl, iteF ?_⟩⟩
    refine ⟨_, rfl, rfl, _, rfl, iteF ?_⟩
    refine ⟨_, rfl, .str z, .ty "str", _, _, true, rfl, ClsV.ty "str", .base (.str z), kit_ty (by decide +kernel), true, rfl, iteT ?_⟩
    refine ⟨_, rfl, _, rfl, rfl, _, rfl, ?_⟩
    rw [decide_eq_true rfl]
    refine iteT ?_
    exact ⟨_, rfl, .str z, .ty "str", _, _, true, rfl, ClsV.ty "str", .base (.str z), kit_ty (by decide +kernel), _, rfl, .str z, .ty "str", _, _, true, rfl, ClsV.ty "str", .base (.str z), kit_ty (by decide +kernel), rfl, k _ (same_new htp)⟩
  | bl z =>
    cases hv
    cases hu
    refine ⟨_, rfl, .bl z, .ty "dict", _, _, false, rfl, ClsV.ty "dict", .base (.bl z), kit_ty (by decide +kernel), false, rfl, iteF ?_⟩
    refine ⟨_, rfl, by show 2 ≤ sizeLine; decide, fun tp htp => ⟨.bl z, tp, _, _, _, false, rfl, upd_same, .cons (ClsV.ty "tuple") (.cons (ClsV.ty "list") .nil), .base (.bl z), kitAny_cons (b := false) (kit_ty (by decide +kernel)) (fun _ => kitAny_cons (b := false) (kit_ty (by decide +kernel)) (fun _ => kitAny_nil) (fun z => nomatch z)) (fun z => nomatch z), false, rfl, iteF ?_⟩⟩
    refine ⟨_, rfl, rfl, _, rfl, iteF ?_⟩
    refine ⟨_, rfl, .bl z, .ty "str", _, _, false, rfl, ClsV.ty "str", .base (.bl z), kit_ty (by decide +kernel), false, rfl, iteF ?_⟩
    refine ⟨_, rfl, .bl z, .ty "int", _, _, true, rfl, ClsV.ty "int", .base (.bl z), kit_ty (by decide +kernel), true, rfl, iteT ?_⟩
    refine ⟨_, rfl, .bl z, .ty "bool", _, _, true, rfl, ClsV.ty "bool", .base (.bl z), kit_ty (by decide +kernel), _, rfl, .bl z, .ty "bool", _, _, true, rfl, ClsV.ty "bool", .base (.bl z), kit_ty (by decide +kernel), rfl, true, rfl, iteT ?_⟩
    refine ⟨_, rfl, _, rfl, rfl, ?_⟩
    rw [decide_eq_true rfl]
    exact k _ (same_new htp)
  | int z =>
    cases hv
    cases hu
    refine ⟨_, rfl, .int z, .ty "dict", _, _, false, rfl, ClsV.ty "dict", .base (.int z), kit_ty (by decide +kernel), false, rfl, iteF ?_⟩
    refine ⟨_, rfl, by show 2 ≤ sizeLine; decide, fun tp htp => ⟨.int z, tp, _, _, _, false, rfl, upd_same, .cons (ClsV.ty "tuple") (.cons (ClsV.ty "list") .nil), .base (.int z), kitAny_cons (b := false) (kit_ty (by decide +kernel)) (fun _ => kitAny_cons (b := false) (kit_ty (by decide +kernel)) (fun _ => kitAny_nil) (fun z => nomatch z)) (fun z => nomatch z), false, rfl, iteF ?_⟩⟩
    refine ⟨_, rfl, rfl, _, rfl, iteF ?_⟩
    refine ⟨_, rfl, .int z, .ty "str", _, _, false, rfl, ClsV.ty "str", .base (.int z), kit_ty (by decide +kernel), false, rfl, iteF ?_⟩
    refine ⟨_, rfl, .int z, .ty "int", _, _, true, rfl, ClsV.ty "int", .base (.int z), kit_ty (by decide +kernel), true, rfl, iteT ?_⟩
    refine ⟨_, rfl, .int z, .ty "bool", _, _, false, rfl, ClsV.ty "bool", .base (.int z), kit_ty (by decide +kernel), _, rfl, .int z, .ty "bool", _, _, false, rfl, ClsV.ty "bool", .base (.int z), kit_ty (by decide +kernel), rfl, true, rfl, iteT ?_⟩
    refine ⟨_, rfl, _, rfl, rfl, ?_⟩
    rw [decide_eq_true rfl]
    exact k _ (same_new htp)
theorem ok_alikeS (n : Nat) (IH : FnR P w K mg base CX0 (n + 1) (a_law_alike K) (spAlike K n)) : FnR P w K mg base CX0 (n + 2) (a_law_alike K) (spAlike K (n + 1)) := by
  have Z := ok_alike0 (P := P) (w := w) (base := base) T
  intro A outer s H us vs Q E hr e0 rv hsp
  obtain ⟨v, u, d, rfl, hv, hu, hd, k⟩ := hsp
  rcases alike_low hd with hd0 | ⟨q, ds, m, en, rfl, hds, hl⟩
  · exact Z A outer s H us _ Q E (hr.mono (by omega)) e0 rv ⟨v, u, d, rfl, hv, hu, hd0, k⟩
  cases en
  obtain ⟨a, xs, rfl, hsa, hda⟩ := dp_seq hv
  obtain ⟨b, ys, rfl, hsb, hdb⟩ := dp_seq hu
  refine (fnR0 (sp := fun vs H Q _ => ∃ (a b : Addr) (xs ys : List V), vs = [.ref a, .ref b] ∧ SqQ K H q a xs ∧ DpAll K H xs ds ∧ SqQ K H q b ys ∧ DpAll K H ys ds ∧ ∀ H', Same H H' → Q (.bl true) H') (d := d_law_alike) T.F_law_alike sc_law_alike rfl (fun _ _ _ _ _ _ us hl => match us, hl with | [_, _], _ => rfl) (fun vs H Q E h => ?_) (fun cdv A outer s H vs Q E hr h => ?_)) A outer s H us _ Q E hr e0 rv ⟨a, b, xs, ys, rfl, hsa, hda, hsb, hdb, k⟩
  · obtain ⟨_, _, _, _, rfl, _⟩ := h
    rfl
  obtain ⟨a, b, xs, ys, rfl, hsa, hda, hsb, hdb, k⟩ := h
  refine ⟨_, pss_cons (ps_if (pt_val (pe_callB call_isi (by rfl) T.n_isinstance (by decide +kernel) (pa_cons (pv 1) (pa_cons (pe_bltn (v := .ty "dict") (u := .type "dict") rfl T.n_dict (by decide +kernel) rfl) pa_nil)))) pss_never pss_nil) (pss_cons (ps_if (pt_val (pe_callB call_isiT (by rfl) T.n_isinstance (by decide +kernel) (pa_cons (pv 1) (pa_cons (pe_tup (pa_cons (pe_bltn (v := .ty "tuple") (u := .type "tuple") rfl T.n_tuple (by decide +kernel) rfl) (pa_cons (pe_bltn (v := .ty "list") (u := .type "list") rfl T.n_list (by decide +kernel) rfl) pa_nil))) pa_nil)))) (pss_cons (ps_if (PW.pt (pw_or (pt_not (pt_val (pe_callB call_isiT (by rfl) T.n_isinstance (by decide +kernel) (pa_cons (pv 0) (pa_cons (pe_tup (pa_cons (pe_bltn (v := .ty "tuple") (u := .type "tuple") rfl T.n_tuple (by decide +kernel) rfl) (pa_cons (pe_bltn (v := .ty "list") (u := .type "list") rfl T.n_list (by decide +kernel) rfl) pa_nil))) pa_nil))))) (pw_or1 (pt_cmpR op_ne (pe_callB call_isi (by rfl) T.n_isinstance (by decide +kernel) (pa_cons (pv 0) (pa_cons (pe_bltn (v := .ty "list") (u := .type "list") rfl T.n_list (by decide +kernel) rfl) pa_nil))) (pe_callB call_isi (by rfl) T.n_isinstance (by decide +kernel) (pa_cons (pv 1) (pa_cons (pe_bltn (v := .ty "list") (u := .type "list") rfl T.n_list (by decide +kernel) rfl) pa_nil))) (nomark _))))) (pss_one (ps_ret pe_bl)) pss_nil) (pss_cons (ps_if (pt_cmpR op_ne (pe_callB call_len_seq (by rfl) T.n_len PySem.boot_len (pa_cons (pv 0) pa_nil)) (pe_callB call_len_seq (by rfl) T.n_len PySem.boot_len (pa_cons (pv 1) pa_nil)) (nomark _)) (pss_one (ps_ret pe_bl)) pss_nil) (pss_one (ps_ret (pe_cmpR (op_eqD hr.units) (pe_lc (own := [("_law_k", 2)]) rfl sc_law_alike.nd (pi_range1 rfl T.n_range (pa_cons (pe_callB call_len_seq (by rfl) T.n_len PySem.boot_len (pa_cons (pv 1) pa_nil)) pa_nil)) (blkOk_by (own := [("_law_k", 2)]) (N := N_law_alike) (sc := defScope s_law_alike) (by decide +kernel)) (fun _ _ _ _ _ => (pg_name (i := 2) sc_law_alike.nd rfl (Or.inl rfl) (.inr rfl))) (fun _ _ _ _ _ => (pts_one (pt_not (pt_val (pe_cR IH hr T.F_law_alike.kp T.g_law_alike pass0 (pa_cons (pe_ix (ix_seqK (K := K) rfl) (pv 0) (pv 2) (fun _ _ => rfl)) (pa_cons (pe_ix (ix_seqK (K := K) rfl) (pv 1) (pv 2) (fun _ _ => rfl)) pa_nil))))))) (fun _ _ _ _ _ => (pv 2))) (pe_lst pa_nil) (nomark _)))))) pss_nil) pss_never), ?_⟩
  have la := dps_len hda
  have lb := dps_len hdb
  refine ⟨_, rfl, .ref b, .ty "dict", _, _, false, rfl, ClsV.ty "dict", hsb.ty, kitD q, false, rfl, iteF ?_⟩
  refine ⟨_, rfl, by show 2 ≤ sizeLine; decide, fun t1 h1 => ⟨.ref b, t1, _, _, _, true, rfl, upd_same, .cons (ClsV.ty "tuple") (.cons (ClsV.ty "list") .nil), (hsb.mono (same_new h1)).ty, isTL q, true, rfl, iteT ?_⟩⟩
  have s1 : Same H (upd H t1 (.tup [.ty "tuple", .ty "list"])) := same_new h1
  generalize upd H t1 (.tup [.ty "tuple", .ty "list"]) = H1 at s1
  refine ⟨_, rfl, by show 2 ≤ sizeLine; decide, fun t2 h2 => ⟨.ref a, t2, _, _, _, true, rfl, upd_same, .cons (ClsV.ty "tuple") (.cons (ClsV.ty "list") .nil), (hsa.mono (s1.trans (same_new h2))).ty, isTL q, true, rfl, iteF ?_⟩⟩
  have s2 : Same H (upd H1 t2 (.tup [.ty "tuple", .ty "list"])) := s1.trans (same_new h2)
  generalize upd H1 t2 (.tup [.ty "tuple", .ty "list"]) = H2 at s2
  refine ⟨_, rfl, .ref a, .ty "list", _, _, q, rfl, ClsV.ty "list", (hsa.mono s2).ty, kitL q, _, rfl, .ref b, .ty "list", _, _, q, rfl, ClsV.ty "list", (hsb.mono s2).ty, kitL q, rfl, _, rfl, ?_⟩
  rw [decide_eq_true rfl]
  refine iteF ?_
  refine ⟨_, rfl, a, _, rfl, (hsa.mono s2).or, _, rfl, b, _, rfl, (hsb.mono s2).or, rfl, _, rfl, ?_⟩
  rw [la, lb, decide_eq_true rfl]
  refine iteF ?_
  -- the items
  refine ⟨_, rfl, b, _, rfl, (hsb.mono s2).or, _, rfl, ?_, ?_, fun D hD => ?_⟩
  · have h62 : (10000 : Int) < 2 ^ 62 := by decide
    rw [lb]
    omega
  · have h62 : (10000 : Int) < 2 ^ 62 := by decide
    rw [lb]
    omega
  refine lc_range (lo := 0) (n := ((ys.length : Nat) : Int).toNat) (fun i H3 => Same H2 H3 ∧ H3 D = some (.lst [])) ⟨same_new hD, upd_same⟩ ?_ ?_
  · rintro i H3 hi ⟨s3, e3⟩
    have hi2 : i < ds.length := by omega
    obtain ⟨v1, d1, ev, _, dv, ed⟩ := dps_at hda hi2
    obtain ⟨v2, d2, eu, hm, du, ed2⟩ := dps_at hdb hi2
    rw [ed] at ed2
    cases ed2
    have s23 := s2.trans s3
    refine ⟨rfl, _, rfl, _, rfl, (hsa.mono s23).ix (at_of (Int.zero_add _) ev) ?_⟩
    refine ⟨_, rfl, _, rfl, (hsb.mono s23).ix (at_of (Int.zero_add _) eu) ?_⟩
    exact ⟨v1, v2, d1, rfl, dp_mono s23 dv, dp_mono s23 du, hds _ hm, fun H4 s4 => ⟨true, rfl, iteF ⟨s3.trans s4, s4 _ _ e3⟩⟩⟩
  rintro H3 ⟨s3, e3⟩
  refine ⟨Nat.zero_le _, fun E2 hE2 => ?_⟩
  exact ⟨.list [], .list [], Dp.lst (SqL.of (upd_old e3 hE2)) .nil, Dp.lst (SqL.of upd_same) .nil, shapedN, shapedN, k _ (s2.trans (s3.trans (same_new hE2)))⟩
theorem ok_law_alike : FnR P w K mg base CX0 5 (a_law_alike K) (spAlike K 4) := ok_alikeS T 3 (ok_alikeS T 2 (ok_alikeS T 1 (ok_alikeS T 0 (ok_alike0 T))))
end
end EB

namespace EB
open PySem PySem.Spec PyProof.Rows L2
def dictK (f : Tr → Int) (ts : List Tr) : List (Key × V) := ts.foldl (fun kvs t => putK kvs (.inr t.k) (.int (f t))) []
def madeK (ts : List Tr) (d : Nat) : List (Key × V) := ts.foldl (fun kvs t => putK kvs (.inr t.k) (.int (t.l * (d : Nat) / t.n))) []
theorem putK_new {kvs : List (Key × V)} {k : Key} {v : V} (h : k ∉ kvs.map (·.1)) : putK kvs k v = kvs ++ [(k, v)] := by
  unfold putK
  rw [if_neg]
  intro z
  obtain ⟨p, hp, e⟩ := List.any_eq_true.mp z
  exact h (List.mem_map.mpr ⟨p, hp, of_decide_eq_true e⟩)
theorem dict_fold (f : Tr → Int) : ∀ (ts : List Tr) (kvs : List (Key × V)), (ts.map Tr.k).Nodup → (∀ t ∈ ts, Sum.inr t.k ∉ kvs.map (·.1)) → ts.foldl (fun kvs t => putK kvs (.inr t.k) (.int (f t))) kvs = kvs ++ ts.map fun t => (Sum.inr t.k, V.int (f t))
  | [], kvs, _, _ => (List.append_nil _).symm
  | t :: ts, kvs, h, hk => by
    rw [List.map_cons, List.nodup_cons] at h
    rw [List.foldl_cons, putK_new (hk t (List.mem_cons_self ..)), dict_fold f ts _ h.2, List.append_assoc]
    · rfl
    · intro u hu z
      rw [List.map_append] at z
      rcases List.mem_append.mp z with z | z
      · exact hk u (List.mem_cons_of_mem _ hu) z
      · have e : (Sum.inr u.k : Key) = Sum.inr t.k := List.mem_singleton.mp z
        exact h.1 (List.mem_map.mpr ⟨u, hu, Sum.inr.inj e⟩)
theorem dict_eq {f : Tr → Int} {ts : List Tr} (h : (ts.map Tr.k).Nodup) : dictK f ts = ts.map fun t => (Sum.inr t.k, V.int (f t)) := by
  unfold dictK
  rw [dict_fold f ts [] h fun t _ z => (nomatch z), List.nil_append]
/-- pairs of kinds and numbers, as data -/
def prD (f : Tr → Int) (ts : List Tr) : PyData := .list (ts.map fun t => .tuple [.str t.k, .int (f t)])
theorem prD_lev {f : Tr → Int} {ts : List Tr} {n : Nat} (h : ts.length ≤ 10000) : Lev (n + 2) (prD f ts) := .lst (fun d hd => by
  obtain ⟨t, _, rfl⟩ := List.mem_map.mp hd
  refine .tup (fun e he => ?_) (by show 2 ≤ 10000; decide)
  rcases List.mem_cons.mp he with rfl | he
  · exact .str _
  · cases List.mem_singleton.mp he
    exact .int _) (by rw [List.length_map]; exact h)
theorem dp_items {K : PySem.W.Frag} {H : Hp} {f : Tr → Int} : ∀ {as : List Addr} {ts : List Tr}, Paired (fun (t : Addr) (q : Key × V) => H t = some (.tup [kV q.1, q.2])) as (ts.map fun t => ((Sum.inr t.k : Key), V.int (f t))) →
    DpAll K H (as.map V.ref) (ts.map fun t => .tuple [.str t.k, .int (f t)])
  | [], [], _ => .nil
  | [], _ :: _, h => nomatch h
  | _ :: _, [], h => nomatch h
  | a :: as, t :: ts, .cons h r => .cons (.tup (SqT.of h) (.cons (.str _) (.cons (.int _) .nil))) (dp_items r)
theorem dp_zip {K : PySem.W.Frag} {H : Hp} {f : Tr → Int} : ∀ {as : List Addr} {ts : List Tr}, as.length = ts.length → (∀ (j : Nat) (a : Addr) (t : Tr), as[j]? = some a → ts[j]? = some t → H a = some (.tup [.str t.k, .int (f t)])) →
    DpAll K H (as.map V.ref) (ts.map fun t => .tuple [.str t.k, .int (f t)])
  | [], [], _, _ => .nil
  | [], _ :: _, h, _ => nomatch h
  | _ :: _, [], h, _ => nomatch h
  | a :: as, t :: ts, h, k => .cons (.tup (SqT.of (k 0 a t rfl rfl)) (.cons (.str _) (.cons (.int _) .nil))) (dp_zip (Nat.succ.inj h) fun j b u e1 e2 => k (j + 1) b u e1 e2)
theorem made_nice : ∀ (ts : List Tr) (d : Nat) (kvs : List (Key × V)), KNice kvs → KNice (ts.foldl (fun kvs t => putK kvs (.inr t.k) (.int (t.l * (d : Nat) / t.n))) kvs) ∧ (ts.foldl (fun kvs t => putK kvs (.inr t.k) (.int (t.l * (d : Nat) / t.n))) kvs).length ≤ kvs.length + ts.length
  | [], d, kvs, h => ⟨h, Nat.le_refl _⟩
  | t :: ts, d, kvs, h => by
    have h1 := h.put t.k (t.l * (d : Nat) / t.n)
    have h2 := made_nice ts d _ h1.1
    refine ⟨h2.1, Nat.le_trans h2.2 ?_⟩
    rw [List.length_cons]
    omega
theorem madeK_nice (ts : List Tr) (d : Nat) : KNice (madeK ts d) ∧ (madeK ts d).length ≤ ts.length := by
  have h := made_nice ts d [] ⟨List.nodup_nil, fun p h => (by cases h), fun p h => (by cases h)⟩
  rw [show ([] : List (Key × V)).length + ts.length = ts.length from Nat.zero_add _] at h
  exact h
section
variable {P : Program} {w : World} {K : PySem.W.Frag} {mg : Str → Option Value} {base : Heap} (T : Tx K mg)
include T
def spMade (K : PySem.W.Frag) : Sp := fun vs H Q _ => ∃ (a : Addr) (ts : List Tr) (n : Nat), vs = [.ref a, .int (n : Nat)] ∧ OfAt K H a ts ∧ Fair ts ∧ n ≤ 1000000000000000000 ∧ ∀ H' p, Same H H' → H' p = some (.dK (madeK ts (D (cN ts) n))) → Q (.ref p) H'
theorem ok_Offer_trades_made : FnR P w K mg base CX0 4 (a_Offer_trades_made K) (spMade K) := by
  refine fnR0 (d := d_Offer_trades_made) T.F_Offer_trades_made sc_Offer_trades_made rfl (fun _ _ _ _ _ _ us hl => match us, hl with | [_, _], _ => rfl) (fun vs H Q E h => ?_) (fun cdv A outer s H vs Q E hr h => ?_)
  · obtain ⟨a, ts, n, rfl, _⟩ := h
    rfl
  obtain ⟨a, ts, n, rfl, ho, hf, hn, k⟩ := h
  obtain ⟨dx, t, p, o, f, g, e1, e2, e3, e4, e5, e6⟩ := ho.ex
  refine ⟨_, (pss_cons (ps_expr (pe_cR (ok_check_number T) (hr.mono (by decide)) T.F_check_number.kp T.g_check_number pass0 (pa_cons (pv 1) pa_nil))) (pss_cons (ps_set (i := 2) sc_Offer_trades_made.nd rfl (Or.inr rfl) (pe_methR (pv 0) T.k_Offer T.m_Offer_drinks_for (ok_Offer_drinks_for T) (hr.mono (by decide)) pass0 (pa_cons (pv 1) pa_nil))) (pss_one (ps_ret (pe_dc (own := [("kind", 3), ("left", 4), ("needed", 5)]) rfl sc_Offer_trades_made.nd (pi_tup (pe_fld (pv 0) rfl)) (blkOk_by (own := [("kind", 3), ("left", 4), ("needed", 5)]) (N := N_Offer_trades_made) (sc := defScope s_Offer_trades_made) (by decide +kernel)) (fun _ _ _ _ _ => (pg_tupB (n := 3) (pgs_cons (pg_name (i := 3) sc_Offer_trades_made.nd rfl (Or.inl rfl) (.inr rfl)) (pgs_cons (pg_name (i := 4) sc_Offer_trades_made.nd rfl (Or.inl rfl) (.inr rfl)) (pgs_cons (pg_name (i := 5) sc_Offer_trades_made.nd rfl (Or.inl rfl) (.inr rfl)) pgs_nil))))) (fun _ _ _ _ _ => pts_nil) (fun _ _ _ _ _ => (pv 3)) (fun _ _ _ _ _ => (pe_op op_fdiv (pe_op op_mul (pv 4) (pv 2)) (pv 5)))))))), ?_⟩
  refine ⟨_, rfl, n, rfl, by omega, by omega, ?_⟩
  refine ⟨_, rfl, a, dx, _, rfl, e1, lk_no (by decide +kernel), _, rfl, a, ts, n, rfl, ho, hf, ?_⟩
  obtain ⟨ps, h1, h2, h3⟩ := e2.ex
  have hlen := hf.g.1
  refine ⟨_, rfl, a, _, dx, _, _, rfl, e1, T.k_Offer, T.na_trades, lk_trades, t, rfl, ⟨_, h1⟩, fun W hW => ?_⟩
  refine dc_tup (xs := ps.map V.ref) (fun i H1 => Same H H1 ∧ H1 W = some (.dK (madeK (ts.take i) (D (cN ts) n)))) ⟨same_new hW, upd_same⟩ (fun i H1 _ q => Same.tup q.1 h1) ?_ ?_
  · rintro i x H1 hx ⟨s1, w1⟩
    obtain ⟨p, t, rfl, ep, et, hm, li, hp⟩ := TrAt.at_ h2 h3 hx
    have ht := hf.g.2 _ hm
    refine ⟨p, _, rfl, Same.tup s1 hp, rfl, _, _, rfl, _, _, rfl, _, _, rfl, rfl, rfl, ?_⟩
    have hl := (madeK_nice (ts.take i) (D (cN ts) n)).2
    rw [List.length_take] at hl
    refine ⟨_, rfl, _, rfl, _, rfl, _, _, rfl, rfl, .inl ⟨by have := ht.1; omega, by have := ht.2.1; omega⟩, _, rfl, _, _, rfl, rfl, ⟨by have := ht.2.2.1; omega, by have := ht.2.2.2; omega⟩, ?_⟩
    refine ⟨_, .inr t.k, rfl, w1, small3 (by omega), same_mut s1 hW, ?_⟩
    rw [upd_same, take_at et]
    unfold madeK
    rw [List.foldl_append]
    rfl
  · rintro H1 ⟨s1, w1⟩
    refine k _ _ s1 ?_
    rw [w1, List.length_map, h2, List.take_length]
end
end EB

namespace EB
/-- the rounds from so many drunk bottles on, with fuel -/
def rnd (c : Nat → Int) (n : Nat) : Nat → Nat → List Int
  | 0, _ => []
  | m + 1, d => if 0 < (n : Int) - c d then ((n : Int) - c d) :: rnd c n m (d + ((n : Int) - c d).toNat) else []
def roundsL (c : Nat → Int) (n : Nat) : List Int := rnd c n (10 * n + 1) 0
namespace CF
variable {c : Nat → Int} {P B : Nat}
/-- so far every number of drinks costs less than there is -/
theorem below (h : CF c P B) {n d : Nat} (q : ∀ j, j < d → c j < n) : d ≤ D c n := by
  apply Nat.le_of_not_lt
  intro z
  have := q _ z
  rw [h.D_cost] at this
  omega
theorem below_next (h : CF c P B) {n d : Nat} (q : ∀ j, j < d → c j < n) (hp : 0 < (n : Int) - c d) : ∀ j, j < d + ((n : Int) - c d).toNat → c j < n := by
  intro j hj
  rcases Nat.lt_or_ge j d with z | z
  · exact q j z
  · have := h.steps d (j - d)
    rw [show d + (j - d) = j from by omega] at this
    omega
/-- bounds behind which so many rounds remain -/
def bnd : Nat → Nat
  | 0 => 60
  | k + 1 => bnd k * 20 / 19
theorem bnd_ge : ∀ k, 60 ≤ bnd k
  | 0 => Nat.le_refl _
  | k + 1 => by
    have := bnd_ge k
    show 60 ≤ bnd k * 20 / 19
    omega
theorem rnd_len (h : CF c P B) {n : Nat} (hlow : ∀ d r, D c n = d + r → (r : Int) ≤ 10 * ((n : Int) - c d) + 30) :
    ∀ (k m d : Nat), (∀ j, j < d → c j < n) → D c n - d ≤ bnd k → (rnd c n m d).length ≤ 61 + k := by
  have tail : ∀ (m d : Nat), (∀ j, j < d → c j < n) → (rnd c n m d).length ≤ D c n - d + 1 := by
    intro m
    induction m with
    | zero => intro d _; exact Nat.zero_le _
    | succ m ih =>
      intro d q
      show (if 0 < (n : Int) - c d then ((n : Int) - c d) :: rnd c n m (d + ((n : Int) - c d).toNat) else []).length ≤ _
      by_cases z : 0 < (n : Int) - c d
      · rw [if_pos z, List.length_cons]
        have q2 := h.below_next q z
        have := ih _ q2
        have := h.below q2
        omega
      · rw [if_neg z]
        exact Nat.zero_le _
  intro k
  induction k with
  | zero =>
    intro m d q hd
    have := tail m d q
    have : bnd 0 = 60 := rfl
    omega
  | succ k ih =>
    intro m d q hd
    cases m with
    | zero => exact Nat.zero_le _
    | succ m =>
      show (if 0 < (n : Int) - c d then ((n : Int) - c d) :: rnd c n m (d + ((n : Int) - c d).toNat) else []).length ≤ _
      by_cases z : 0 < (n : Int) - c d
      · rw [if_pos z, List.length_cons]
        have q2 := h.below_next q z
        have hb := h.below q
        have hb2 := h.below q2
        have h5 := hlow d (D c n - d) (by omega)
        have h6 := bnd_ge k
        have h7 : bnd (k + 1) = bnd k * 20 / 19 := rfl
        have := ih m _ q2 (by omega)
        omega
      · rw [if_neg z]
        exact Nat.zero_le _
theorem bnd_big : 10000000000000000000 ≤ bnd 900 := by decide +kernel
end CF
theorem slow {ts : List Tr} (f : Fair ts) {n d r : Nat} (e : D (cN ts) n = d + r) : (r : Int) ≤ 10 * ((n : Int) - cN ts d) + 30 := by
  have C := cf f
  have h1 := C.D_cost n
  rw [e] at h1
  have h3 : (r : Int) ≤ 10 * ((r : Int) - buys ts r) := C.ten r
  have h2 := buys_sub f.g.2 (d : Int) (r : Int)
  have h4 := f.g.1
  have h5 : ((d + r : Nat) : Int) - buys ts ((d + r : Nat) : Int) = n := h1
  show (r : Int) ≤ 10 * ((n : Int) - ((d : Int) - buys ts d)) + 30
  push_cast at h5
  omega
theorem rounds_len {ts : List Tr} (f : Fair ts) {n : Nat} (hn : n ≤ 1000000000000000000) {m d : Nat} (q : ∀ j, j < d → cN ts j < n) : (rnd (cN ts) n m d).length ≤ 1000 := by
  have C := cf f
  have h1 := C.D_le_ten n
  have := C.rnd_len (n := n) (fun d r e => slow f e) 900 m d q (Nat.le_trans (by omega) CF.bnd_big)
  omega
end EB

namespace EB
open PySem PySem.Spec PyProof.Rows L2
section
variable {P : Program} {w : World} {K : PySem.W.Frag} {mg : Str → Option Value} {base : Heap}
theorem gfnG {d : DD} {fd : FuncData} {N ps : List Str} {k : Nat} {sp : SpG} (F : FnP K d fd) (S : GScope N ps (defScope d.st)) (len : ∀ vs H Q E, sp vs H Q E → vs.length = ps.length)
    (hbody : ∀ (cdv : Value) (A : Around) (outer : List Env) (s : Shared) (H : Hp) (vs : List V) (Q : List V → Hp → Prop) (E : XK) (pn : List (Addr × Obj)), Room k (A.deeper (envOfC d.ql (defScope d.st) s.heap.objs.size (d.adr K) cdv)) → sp vs H Q E →
      ∃ t, GSs (gcxOf P w K mg base N d.ql (defScope d.st) (d.adr K) cdv A outer s H E pn) (defBody d.st) t ∧ t { nx := fun ys _ H' => Q ys H', rt := fun ys v H' => v = .non ∧ Q ys H' } [] (start N vs) H) :
    GFn P w K mg base (k + 1) (d.adr K) fd ps sp := by
  obtain ⟨oc, od, dV, kV, doc, pm, an, cdv, ct, osl, rfl, lk, hcd, _, _⟩ := F.ex
  exact gfn_of lk hcd S len fun A outer s H vs Q E pn hr hsp => hbody cdv A outer s H vs Q E pn hr hsp
theorem bndG {d : DD} {fd : FuncData} {ps : List Str} (F : FnP K d fd) (e : d.df = [])
    (b : ∀ (kV doc pm : Value) (an : Option Addr) (cdv ct : Value) (us : List Value), us.length = ps.length → bindArgs (PySem.W.fnOf d.nm d.ql (defArgs d.st) (defBody d.st) (defScope d.st) .none kV doc pm an cdv ct) ⟨us, []⟩ = pure (ps.zip us)) : Binds K fd ps [] := by
  have F2 : FunD K d.nm d.ql (defArgs d.st) (defBody d.st) (defScope d.st) [] [] (d.adr K) fd := by
    have z : FnP K d fd := F
    unfold FnP at z
    rw [e] at z
    exact z
  exact F2.bindsN b
theorem noStop0 : NoStop K E0 := fun _ _ _ h => False.elim h
theorem passG {X : Cx} : Passes (CX X.prog X.w) X E0 := by
  intro pins σ H s e s' I h
  obtain ⟨a, B, H', cls, d, z1, fl, z2, ub, z3, z4, z5, z6⟩ := h
  first | exact False.elim z1 | exact False.elim z2 | exact False.elim z3 | exact False.elim z4 | exact False.elim z5 | exact False.elim z6
end
end EB

namespace EB
open PySem PySem.Spec PyProof.Rows L2
theorem roundsL_len {ts : List Tr} (f : Fair ts) {n : Nat} (hn : n ≤ 1000000000000000000) : (roundsL (cN ts) n).length ≤ 1000 := rounds_len f hn (fun j q => absurd q (Nat.not_lt_zero _))
/-- how far the rounds have come -/
def RndW (a : Addr) (ts : List Tr) (n : Nat) (H : Hp) : Nat → List V → L2.St → Hp → Prop := fun m ys σ H1 => ∃ (d : Nat) (pre : List Int), Same H H1 ∧ (∀ j, j < d → cN ts j < n) ∧ D (cN ts) n < d + m ∧ ys = pre.map V.int ∧ pre ++ rnd (cN ts) n m d = roundsL (cN ts) n ∧
  σ = [some (.ref a), some (.int (n : Nat)), some (.int (d : Nat)), some (.int ((n : Int) - cN ts d))]
section
variable {P : Program} {w : World} {K : PySem.W.Frag} {mg : Str → Option Value} {base : Heap} (T : Tx K mg)
include T
def spRounds (K : PySem.W.Frag) : SpG := fun vs H Q _ => ∃ (a : Addr) (ts : List Tr) (n : Nat), vs = [.ref a, .int (n : Nat)] ∧ OfAt K H a ts ∧ Fair ts ∧ n ≤ 1000000000000000000 ∧ ∀ H', Same H H' → Q ((roundsL (cN ts) n).map V.int) H'
theorem ok_Offer_rounds : GFn P w K mg base 4 (a_Offer_rounds K) T.fd_Offer_rounds ["self", "bottles"] (spRounds K) := by
  refine gfnG (d := d_Offer_rounds) T.F_Offer_rounds sc_Offer_rounds (fun vs H Q E h => ?_) (fun cdv A outer s H vs Q E pn hr h => ?_)
  · obtain ⟨a, ts, n, rfl, _⟩ := h
    rfl
  obtain ⟨a, ts, n, rfl, ho, hf, hn, k⟩ := h
  obtain ⟨dx, t, p, o, f, g, e1, e2, e3, e4, e5, e6⟩ := ho.ex
  have C := cf hf
  refine ⟨_, (gss_cons (gs_ps (ps_expr (pe_cR (ok_check_number T) (hr.mono (by decide)) T.F_check_number.kp T.g_check_number pass0 (pa_cons (pv 1) pa_nil)))) (gss_cons (gs_ps (ps_set (i := 2) sc_Offer_rounds.nd rfl (Or.inl rfl) pe_int)) (gss_cons (gs_ps (ps_set (i := 3) sc_Offer_rounds.nd rfl (Or.inl rfl) (pv 1))) (gss_cons (gs_while owns_gcx (pt_cmpR op_gt (pv 3) pe_int (nomark _)) (gss_cons (gs_yield (pv 3)) (gss_pss (pss_cons (ps_set (i := 2) sc_Offer_rounds.nd rfl (Or.inl rfl) (pe_op op_add (pv 2) (pv 3))) (pss_one (ps_set (i := 3) sc_Offer_rounds.nd rfl (Or.inl rfl) (pe_op op_sub (pv 1) (pe_cR (ok_cost_of T) (hr.mono (by decide)) T.F_cost_of.kp T.g_cost_of pass0 (pa_cons (pe_fld (pv 0) rfl) (pa_cons (pv 2) pa_nil)))))))))) gss_nil)))), ?_⟩
  refine ⟨_, rfl, n, rfl, by omega, by omega, ?_⟩
  refine ⟨_, rfl, RndW a ts n H, ⟨10 * n + 1, 0, [], Same.refl _, fun j q => absurd q (Nat.not_lt_zero _), by have := C.D_le_ten n; omega, rfl, rfl, ?_⟩, ?_⟩
  · rw [C.zero, Int.sub_zero]
    rfl
  rintro m ys σ H1 ⟨d, pre, s1, hlow, hm, rfl, hpre, rfl⟩
  have hd := C.below hlow
  obtain ⟨m, rfl⟩ : ∃ m', m = m' + 1 := ⟨m - 1, by omega⟩
  have hr2 : rnd (cN ts) n (m + 1) d = if 0 < (n : Int) - cN ts d then ((n : Int) - cN ts d) :: rnd (cN ts) n m (d + ((n : Int) - cN ts d).toNat) else [] := rfl
  refine ⟨_, rfl, _, _, rfl, rfl, _, rfl, ite2 (fun hf0 => ?_) (fun hf0 => ?_)⟩
  · have hf0 : 0 < (n : Int) - cN ts d := of_decide_eq_true hf0
    rw [hr2, if_pos hf0] at hpre
    have hlow2 := C.below_next hlow hf0
    refine ⟨RndW a ts n H m, fun _ _ _ h => ⟨m, Nat.lt_succ_self _, h⟩, ?_, _, rfl, ?_⟩
    · have h1 := roundsL_len hf hn
      rw [← hpre, List.length_append] at h1
      rw [List.length_map]
      exact small3 (by omega)
    refine ⟨_, rfl, _, rfl, _, _, rfl, rfl, ?_⟩
    refine ⟨_, rfl, _, rfl, a, _, dx, _, _, rfl, s1 _ _ e1, T.k_Offer, T.na_trades, lk_trades, ?_⟩
    have ed : (d : Int) + ((n : Int) - cN ts d) = ((d + ((n : Int) - cN ts d).toNat : Nat) : Int) := by omega
    refine ⟨_, rfl, t, ts, _, rfl, e2.mono s1, hf.g, fun H2 s2 => ⟨_, _, rfl, rfl, ?_⟩⟩
    refine ⟨d + ((n : Int) - cN ts d).toNat, pre ++ [(n : Int) - cN ts d], s1.trans s2, hlow2, by omega, by rw [List.map_append]; rfl, by rw [List.append_assoc]; exact hpre, ?_⟩
    show [some (V.ref a), some (V.int (n : Nat)), some (V.int ((d : Int) + ((n : Int) - cN ts d))), some (V.int ((n : Int) - cost ts ((d : Int) + ((n : Int) - cN ts d))))] = _
    rw [ed]
  · have hf0 : ¬ 0 < (n : Int) - cN ts d := fun z => hf0 (decide_eq_true z)
    rw [hr2, if_neg hf0, List.append_nil] at hpre
    rw [hpre]
    exact k _ s1
theorem b_Offer_rounds : Binds K T.fd_Offer_rounds ["self", "bottles"] [] := bndG T.F_Offer_rounds rfl (fun _ _ _ _ _ _ us hl => match us, hl with | [_, _], _ => rfl)
end
end EB

namespace EB
open PySem PySem.Spec PyProof.Rows L2
section
variable {P : Program} {w : World} {K : PySem.W.Frag} {mg : Str → Option Value} {base : Heap} (T : Tx K mg)
theorem bnd0 {d : DD} {fd : FuncData} {N ps : List Str} (F : FnP K d fd) (S : FnScope N ps (defScope d.st)) (e : d.df = [])
    (b : ∀ (kV doc pm : Value) (an : Option Addr) (cdv ct : Value) (us : List Value), us.length = ps.length → bindArgs (PySem.W.fnOf d.nm d.ql (defArgs d.st) (defBody d.st) (defScope d.st) .none kV doc pm an cdv ct) ⟨us, []⟩ = pure (ps.zip us)) : Binds K fd ps [] := by
  have F2 : FunD K d.nm d.ql (defArgs d.st) (defBody d.st) (defScope d.st) [] [] (d.adr K) fd := by
    have z : FnP K d fd := F
    unfold FnP at z
    rw [e] at z
    exact z
  exact F2.bindsN b
include T
theorem b_Offer_period : Binds K T.fd_Offer_period ["self"] [] := bnd0 T.F_Offer_period sc_Offer_period rfl (fun _ _ _ _ _ _ us hl => match us, hl with | [_], _ => rfl)
def spPeriod (K : PySem.W.Frag) : Sp := fun vs H Q _ => ∃ (a : Addr) (ts : List Tr), vs = [.ref a] ∧ OfAt K H a ts ∧ ∀ p, SqT K H p [.int (perB ts : Nat), .int (per ts : Nat)] → Q (.ref p) H
theorem ok_Offer_period : FnOk P w K mg base CX0 1 (a_Offer_period K) T.fd_Offer_period ["self"] (spPeriod K) := by
  refine fnK0 (d := d_Offer_period) T.F_Offer_period sc_Offer_period (fun vs H Q E h => ?_) (fun cdv A outer s H vs Q E hr h => ?_)
  · obtain ⟨a, ts, rfl, _⟩ := h
    rfl
  obtain ⟨a, ts, rfl, ho, k⟩ := h
  obtain ⟨dx, t, p, o, f, g, e1, e2, e3, e4, e5, e6⟩ := ho.ex
  refine ⟨_, (pss_one (ps_ret (pe_fld (pv 0) rfl))), ?_⟩
  exact ⟨_, rfl, a, _, dx, _, _, rfl, e1, T.k_Offer, T.na_period, lk_period, k _ e3⟩
end
end EB

namespace EB
open PySem PySem.Spec PyProof.Rows L2
section
variable {P : Program} {w : World} {K : PySem.W.Frag} {mg : Str → Option Value} {base : Heap} (T : Tx K mg)
include T
theorem b_Offer_trades : Binds K T.fd_Offer_trades ["self"] [] := bnd0 T.F_Offer_trades sc_Offer_trades rfl (fun _ _ _ _ _ _ us hl => match us, hl with | [_], _ => rfl)
/-- the property trades: the offer's own tuple -/
def spOwn (K : PySem.W.Frag) : Sp := fun vs H Q _ => ∃ (a : Addr) (ts : List Tr), vs = [.ref a] ∧ OfAt K H a ts ∧ ∀ p, TrAt K H p ts → Q (.ref p) H
theorem ok_Offer_trades : FnOk P w K mg base CX0 1 (a_Offer_trades K) T.fd_Offer_trades ["self"] (spOwn K) := by
  refine fnK0 (d := d_Offer_trades) T.F_Offer_trades sc_Offer_trades (fun vs H Q E h => ?_) (fun cdv A outer s H vs Q E hr h => ?_)
  · obtain ⟨a, ts, rfl, _⟩ := h
    rfl
  obtain ⟨a, ts, rfl, ho, k⟩ := h
  obtain ⟨dx, t, p, o, f, g, e1, e2, e3, e4, e5, e6⟩ := ho.ex
  refine ⟨_, (pss_one (ps_ret (pe_fld (pv 0) rfl))), ?_⟩
  exact ⟨_, rfl, a, _, dx, _, _, rfl, e1, T.k_Offer, T.na_trades, lk_trades, k _ e2⟩
theorem b_Offer_kinds : Binds K T.fd_Offer_kinds ["self"] [] := bnd0 T.F_Offer_kinds sc_Offer_kinds rfl (fun _ _ _ _ _ _ us hl => match us, hl with | [_], _ => rfl)
/-- the property kinds: a new tuple -/
def spKinds (K : PySem.W.Frag) : Sp := fun vs H Q _ => ∃ (a : Addr) (ts : List Tr), vs = [.ref a] ∧ OfAt K H a ts ∧ ts.length ≤ 3 ∧ ∀ H' p, Same H H' → SqT K H' p ((ts.map Tr.k).map V.str) → Q (.ref p) H'
theorem ok_Offer_kinds : FnOk P w K mg base CX0 1 (a_Offer_kinds K) T.fd_Offer_kinds ["self"] (spKinds K) := by
  refine fnK0 (d := d_Offer_kinds) T.F_Offer_kinds sc_Offer_kinds (fun vs H Q E h => ?_) (fun cdv A outer s H vs Q E hr h => ?_)
  · obtain ⟨a, ts, rfl, _⟩ := h
    rfl
  obtain ⟨a, ts, rfl, ho, hl, k⟩ := h
  obtain ⟨dx, t, p, o, f, g, e1, e2, e3, e4, e5, e6⟩ := ho.ex
  obtain ⟨ps, h1, h2, h3⟩ := e2.ex
  refine ⟨_, (pss_one (ps_ret (pe_callTy call_tuple_of (by rfl) T.n_tuple (by decide +kernel) (pa_cons (pe_lc (own := [("kind", 1), ("_", 2)]) rfl sc_Offer_kinds.nd (pi_tup (pe_fld (pv 0) rfl)) (blkOk_by (own := [("kind", 1), ("_", 2)]) (N := N_Offer_kinds) (sc := defScope s_Offer_kinds) (by decide +kernel)) (fun _ _ _ _ _ => (pg_tupB (n := 3) (pgs_cons (pg_name (i := 1) sc_Offer_kinds.nd rfl (Or.inl rfl) (.inr rfl)) (pgs_cons (pg_name (i := 2) sc_Offer_kinds.nd rfl (Or.inl rfl) (.inr rfl)) (pgs_cons (pg_name (i := 2) sc_Offer_kinds.nd rfl (Or.inl rfl) (.inr rfl)) pgs_nil))))) (fun _ _ _ _ _ => pts_nil) (fun _ _ _ _ _ => (pv 1))) pa_nil)))), ?_⟩
  refine ⟨_, rfl, a, _, dx, _, _, rfl, e1, T.k_Offer, T.na_trades, lk_trades, t, rfl, ⟨_, h1⟩, fun D hD => ?_⟩
  refine lc_tup (xs := ps.map V.ref) (fun i H2 => Same H H2 ∧ H2 D = some (.lst (((ts.take i).map Tr.k).map V.str))) ⟨same_new hD, upd_same⟩ (fun i H2 _ q => Same.tup q.1 h1) ?_ ?_
  · rintro i x H2 hx ⟨s1, e7⟩
    obtain ⟨pt, u, rfl, ep, et, hm, li, hpt⟩ := TrAt.at_ h2 h3 hx
    refine ⟨pt, _, rfl, Same.tup s1 hpt, rfl, _, _, rfl, _, _, rfl, _, _, rfl, rfl, rfl, ?_⟩
    refine ⟨_, rfl, _, e7, small3 ?_, same_mut s1 hD, ?_⟩
    · rw [List.length_map, List.length_map, List.length_take]
      omega
    · rw [upd_same, take_at et, List.map_append, List.map_append]
      rfl
  · rintro H2 ⟨s1, e7⟩
    rw [List.length_map, h2, List.take_length] at e7
    exact ⟨D, _, rfl, .inl ⟨SqL.of e7, fun q hq => k _ q (s1.trans (same_new hq)) (SqT.of upd_same)⟩⟩
end
end EB

/-! rounds, by segments; trades, keeping the table of generators. -/
namespace EB
open PySem PySem.Spec PyProof.Rows L2 EBG
theorem kv {X : Cx} (i : Nat) {x : Str} {pos : Pos} (hN : X.N[i]? = some x := by rfl) (hv : Vis X.env.scope x := by first | exact Or.inl rfl | exact Or.inr (Or.inl rfl) | exact Or.inr (Or.inr rfl)) (hd : (x == ("__debug__" : Str)) = false := by decide)
    (hcd : (x == ("__classdict__" : Str)) = false := by decide) : KE X (.Name x pos) (tVar i) := k_var hN hv hd hcd
theorem sqT_fz {K : PySem.W.Frag} {H : Hp} {a : Addr} {xs : List V} (h : SqT K H a xs) : SqT K (fz H) a xs := by
  rcases h with (h | ⟨o, h⟩) | h
  · exact .inl (.inl (fz_to h rfl))
  · exact .inl (.inr ⟨o, fz_to h rfl⟩)
  · exact .inr h
theorem TrAt.fz {K : PySem.W.Frag} {H : Hp} {a : Addr} {ts : List Tr} (h : TrAt K H a ts) : TrAt K (fz H) a ts := by
  obtain ⟨ps, h1, h2, h3⟩ := h.ex
  exact ⟨ps, sqT_fz h1, h2, fun i p t a b => sqT_fz (h3 i p t a b)⟩
section
variable {P : Program} {w : World} {K : PySem.W.Frag} {mg : Str → Option Value} {base : Heap}
theorem gfn1G {d : DD} {fd : FuncData} {N ps : List Str} {k : Nat} {sp : SP1} (F : FnP K d fd) (S : GScope N ps (defScope d.st)) (hnc : ∀ n, cellsFrom n (defScope d.st).names [] = []) (len : ∀ vs F Yp Fin E, sp vs F Yp Fin E → vs.length = ps.length)
    (hbody : ∀ (cdv : Value) (A : Around) (outer : List Env) (s : Shared) (F : Hp) (vs : List V) (Yp : List V → V → Hp → Prop) (Fin : List V → Prop) (E : XK) (pn : List (Addr × Obj)), Room k (A.deeper (envOfC d.ql (defScope d.st) s.heap.objs.size (d.adr K) cdv)) → sp vs F Yp Fin E →
      ∃ t, YSs (gx P w K mg base N d.ql (defScope d.st) (d.adr K) cdv outer s F E pn A) (xeG (gx P w K mg base N d.ql (defScope d.st) (d.adr K) cdv outer s F E pn A) E) ⟨F, Yp, Fin, excG (gx P w K mg base N d.ql (defScope d.st) (d.adr K) cdv outer s F E pn A) E⟩ (defBody d.st) t ∧
        t (s, F) { nx := fun ys _ H' => Same F H' ∧ Fin ys, rt := fun ys v H' => v = .non ∧ Same F H' ∧ Fin ys } [] (start N vs) F) : GFn1 P w K mg base (k + 1) (d.adr K) fd ps sp := by
  obtain ⟨oc, od, dV, kV, doc, pm, an, cdv, ct, osl, rfl, lk, hcd, _, _⟩ := F.ex
  exact gfn1_of lk hcd S hnc len fun A outer s H vs Yp Fin E pn hr hsp => hbody cdv A outer s H vs Yp Fin E pn hr hsp
theorem fnKG {d : DD} {fd : FuncData} {N ps : List Str} {k : Nat} {sp : Sp} (F : FnP K d fd) (S : FnScope N ps (defScope d.st)) (len : ∀ vs H Q E, sp vs H Q E → vs.length = ps.length)
    (hbody : ∀ (cdv : Value) (A : Around) (outer : List Env) (s : Shared) (H : Hp) (vs : List V) (Q : VK), Room k (A.deeper (envOfC d.ql (defScope d.st) s.heap.objs.size (d.adr K) cdv)) → sp vs H Q E0 →
      ∃ t, KSs (cxOf CX0 P w K mg base N d.ql (defScope d.st) (d.adr K) cdv A outer s H E0) (defBody d.st) t ∧ t { nx := fun _ H' => Q .non H', rt := Q } (start N vs) H) : FnKp P w K mg base (k + 1) (d.adr K) fd ps sp := by
  obtain ⟨oc, od, dV, kV, doc, pm, an, cdv, ct, osl, rfl, lk, hcd, _, _⟩ := F.ex
  exact fnk_of lk hcd S len fun A outer s H vs Q hr hsp => hbody cdv A outer s H vs Q hr hsp
end
section
variable {P : Program} {w : World} {K : PySem.W.Frag} {mg : Str → Option Value} {base : Heap} (T : Tx K mg)
include T
/-- the offer's own tuple, read while a generator sleeps -/
def spTrK (K : PySem.W.Frag) : Sp := fun vs H Q _ => ∃ (a dx t : Addr) (fs : List (Str × V)), vs = [.ref a] ∧ H a = some (.ins (He.ga K "Offer") dx fs) ∧ fs.lookup ("_trades" : Str) = some (.ref t) ∧ Q (.ref t) H
theorem okK_Offer_trades : FnKp P w K mg base 1 (a_Offer_trades K) T.fd_Offer_trades ["self"] (spTrK K) := by
  refine fnKG (d := d_Offer_trades) T.F_Offer_trades sc_Offer_trades (fun vs H Q E h => ?_) (fun cdv A outer s H vs Q hr h => ?_)
  · obtain ⟨a, dx, t, fs, rfl, _⟩ := h
    rfl
  obtain ⟨a, dx, t, fs, rfl, e1, e2, k⟩ := h
  exact ⟨_, kss_cons (ks_ret (k_fld (kv 0))) kss_nil, _, rfl, a, _, dx, _, _, rfl, e1, T.k_Offer, T.na_trades, e2, k⟩
def RndY (F : Hp) (a : Addr) (ts : List Tr) (n : Nat) : Nat → List V → L2.St → Hp → Prop := fun m ys σ H1 => ∃ (d : Nat) (pre : List Int), Same F H1 ∧ (∀ j, j < d → cN ts j < n) ∧ D (cN ts) n < d + m ∧ ys = pre.map V.int ∧ pre ++ rnd (cN ts) n m d = roundsL (cN ts) n ∧
  σ = [some (.ref a), some (.int (n : Nat)), some (.int (d : Nat)), some (.int ((n : Int) - cN ts d))]
def sp1Rounds (K : PySem.W.Frag) : SP1 := fun vs F Yp Fin _ => ∃ (a dx t : Addr) (fs : List (Str × V)) (ts : List Tr) (n : Nat), vs = [.ref a, .int (n : Nat)] ∧ F a = some (.ins (He.ga K "Offer") dx fs) ∧ fs.lookup ("_trades" : Str) = some (.ref t) ∧ TrAt K F t ts ∧ Fair ts ∧ n ≤ 1000000000000000000 ∧
  (∀ pre (d : Int) post, pre ++ d :: post = roundsL (cN ts) n → ∀ H', Yp (pre.map V.int) (.int d) H') ∧ Fin ((roundsL (cN ts) n).map V.int)
theorem ok1_Offer_rounds : GFn1 P w K mg base 4 (a_Offer_rounds K) T.fd_Offer_rounds ["self", "bottles"] (sp1Rounds K) := by
  refine gfn1G (d := d_Offer_rounds) T.F_Offer_rounds sc_Offer_rounds (fun _ => rfl) (fun vs F Yp Fin E h => ?_) (fun cdv A outer s F vs Yp Fin E pn hr h => ?_)
  · obtain ⟨_, _, _, _, _, _, rfl, _⟩ := h
    rfl
  obtain ⟨a, dx, t, fs, ts, n, rfl, e1, el, e2, hf, hn, hy, hfin⟩ := h
  have C := cf hf
  refine ⟨_, (yss_cons (ys_ps fun a => ps_expr (pe_cR (ok_check_number T) (hr.mono (by decide)) T.F_check_number.kp T.g_check_number pass0 (pa_cons (pv 1) pa_nil))) (yss_cons (ys_ps fun a => ps_set (i := 2) sc_Offer_rounds.nd rfl (Or.inl rfl) pe_int) (yss_cons (ys_ps fun a => ps_set (i := 3) sc_Offer_rounds.nd rfl (Or.inl rfl) (pv 1))
    (yss_cons (ys_while (fun a => ownsG rfl) (fun a => pt_cmpR op_gt (pv 3) pe_int (nomark _)) (yss_cons (ys_yield fun a => pv 3) (yss_pss fun a => pss_cons (ps_set (i := 2) sc_Offer_rounds.nd rfl (Or.inl rfl) (pe_op op_add (pv 2) (pv 3)))
      (pss_one (ps_set (i := 3) sc_Offer_rounds.nd rfl (Or.inl rfl) (pe_op op_sub (pv 1) (pe_cR (ok_cost_of T) (hr.mono (by decide)) T.F_cost_of.kp T.g_cost_of pass0 (pa_cons (pe_fld (pv 0) rfl) (pa_cons (pv 2) pa_nil))))))))) yss_nil)))), ?_⟩
  refine ⟨_, rfl, n, rfl, by omega, by omega, ?_⟩
  refine ⟨_, rfl, RndY F a ts n, ⟨10 * n + 1, 0, [], Same.refl _, fun j q => absurd q (Nat.not_lt_zero _), by have := C.D_le_ten n; omega, rfl, rfl, ?_⟩, ?_⟩
  · rw [C.zero, Int.sub_zero]
    rfl
  rintro m ys σ H1 ⟨d, pre, s1, hlow, hm, rfl, hpre, rfl⟩
  have hd := C.below hlow
  obtain ⟨m, rfl⟩ : ∃ m', m = m' + 1 := ⟨m - 1, by omega⟩
  have hr2 : rnd (cN ts) n (m + 1) d = if 0 < (n : Int) - cN ts d then ((n : Int) - cN ts d) :: rnd (cN ts) n m (d + ((n : Int) - cN ts d).toNat) else [] := rfl
  refine ⟨_, rfl, _, _, rfl, rfl, _, rfl, ite2 (fun hf0 => ?_) (fun hf0 => ?_)⟩
  · have hf0 : 0 < (n : Int) - cN ts d := of_decide_eq_true hf0
    rw [hr2, if_pos hf0] at hpre
    have hlow2 := C.below_next hlow hf0
    refine ⟨RndY F a ts n m, fun _ _ _ h => ⟨m, Nat.lt_succ_self _, h⟩, ?_, _, rfl, s1, hy _ _ _ hpre _, ?_⟩
    · have h1 := roundsL_len hf hn
      rw [← hpre, List.length_append] at h1
      rw [List.length_map]
      exact small3 (by omega)
    have s2 := kg_same s.heap.objs.size F H1
    refine ⟨_, rfl, _, rfl, _, _, rfl, rfl, ?_⟩
    refine ⟨_, rfl, _, rfl, a, _, dx, _, _, rfl, s2 _ _ e1, T.k_Offer, T.na_trades, el, ?_⟩
    have ed : (d : Int) + ((n : Int) - cN ts d) = ((d + ((n : Int) - cN ts d).toNat : Nat) : Int) := by omega
    refine ⟨_, rfl, t, ts, _, rfl, e2.mono s2, hf.g, fun H2 s3 => ⟨_, _, rfl, rfl, ?_⟩⟩
    refine ⟨d + ((n : Int) - cN ts d).toNat, pre ++ [(n : Int) - cN ts d], s2.trans s3, hlow2, by omega, by rw [List.map_append]; rfl, by rw [List.append_assoc]; exact hpre, ?_⟩
    show [some (V.ref a), some (V.int (n : Nat)), some (V.int ((d : Int) + ((n : Int) - cN ts d))), some (V.int ((n : Int) - cost ts ((d : Int) + ((n : Int) - cN ts d))))] = _
    rw [ed]
  · have hf0 : ¬ 0 < (n : Int) - cN ts d := fun z => hf0 (decide_eq_true z)
    rw [hr2, if_neg hf0, List.append_nil] at hpre
    rw [hpre]
    exact ⟨s1, hfin⟩
end
end EB

/-! greedy_steps. -/
namespace EB
open PySem PySem.Spec PyProof.Rows L2 EBG
theorem room_u {k : Nat} {A : Around} (hr : Room k A) : A.units + 1 < cLine := by
  have := hr.un
  omega
theorem k_cS {X : Cx} {x z : Str} {pos : Pos} (hm : ∃ t, X.mg x = some (.str z t)) (hg : Gl X x := by rfl) (hd : (x == ("__debug__" : Str)) = false := by decide) : KE X (.Name x pos) (tC (.str z)) := by
  obtain ⟨t, h⟩ := hm
  exact k_glob hg h ⟨t, rfl⟩ hd
/-! ### the steps, by counting -/
def gCount (t : Tr) (D d : Int) : Int := (t.l * D % t.n + t.l * d) / t.n
def gOne (D d : Int) (t : Tr) : List (Str × Int) := if 0 < gCount t D d then [(t.k, gCount t D d)] else []
def gRound (ts : List Tr) (D d : Int) : List (Str × Int) := ("drink", d) :: ts.flatMap (gOne D d)
def gAll (ts : List Tr) : Int → List Int → List (Str × Int)
  | _, [] => []
  | D, d :: r => gRound ts D d ++ gAll ts (D + d) r
theorem gAll_snoc (ts : List Tr) (d : Int) : ∀ (r : List Int) (D : Int), gAll ts D (r ++ [d]) = gAll ts D r ++ gRound ts (D + r.sum) d
  | [], D => by
    show gRound ts D d ++ [] = [] ++ gRound ts (D + 0) d
    rw [List.append_nil, Int.add_zero]
    rfl
  | e :: r, D => by
    show gRound ts D e ++ gAll ts (D + e) (r ++ [d]) = gRound ts D e ++ gAll ts (D + e) r ++ gRound ts (D + (e :: r).sum) d
    rw [gAll_snoc ts d r (D + e), List.append_assoc, List.sum_cons, Int.add_assoc]
theorem gOne_len (D d : Int) (t : Tr) : (gOne D d t).length ≤ 1 := by
  unfold gOne
  split
  · exact Nat.le_refl _
  · exact Nat.zero_le _
theorem gFlat_len (D d : Int) : ∀ ts : List Tr, (ts.flatMap (gOne D d)).length ≤ ts.length
  | [] => Nat.le_refl _
  | t :: ts => by
    rw [List.flatMap_cons, List.length_append, List.length_cons]
    have h1 := gOne_len D d t
    have h2 := gFlat_len D d ts
    omega
theorem gAll_len {ts : List Tr} (h : ts.length ≤ 3) : ∀ (r : List Int) (D : Int), (gAll ts D r).length ≤ 4 * r.length
  | [], _ => Nat.le_refl _
  | d :: r, D => by
    have h1 := gAll_len h r (D + d)
    have h2 := gFlat_len D d ts
    show (gRound ts D d ++ gAll ts (D + d) r).length ≤ _
    unfold gRound
    rw [List.length_append, List.length_cons, List.length_cons]
    omega
/-! ### the dict of the pieces -/
def PM (f : Str → Int) (ts : List Tr) : List (Key × V) := ts.map fun t => (.inr t.k, .int (f t.k))
theorem PM_val {f : Str → Int} {t : Tr} : ∀ {ts : List Tr}, t ∈ ts → valV (PM f ts) (.inr t.k) = some (.int (f t.k))
  | u :: ts, h => by
    show valV ((Sum.inr u.k, V.int (f u.k)) :: PM f ts) _ = _
    by_cases e : u.k = t.k
    · rw [valV_pos (by rw [e]), e]
    · rw [valV_neg (fun z => e (Sum.inr.inj z))]
      rcases List.mem_cons.mp h with rfl | m
      · exact absurd rfl e
      · exact PM_val m
theorem PM_put {f : Str → Int} {t : Tr} {ts : List Tr} (h : t ∈ ts) (v : Int) : putK (PM f ts) (.inr t.k) (.int v) = PM (fun k => if k = t.k then v else f k) ts := by
  unfold putK
  rw [valV_any, PM_val h, if_pos (by rfl)]
  unfold PM
  rw [List.map_map]
  refine List.map_congr_left fun u _ => ?_
  show (if Sum.inr u.k = Sum.inr t.k then (Sum.inr u.k, V.int v) else (Sum.inr u.k, V.int (f u.k))) = (Sum.inr u.k, V.int (if u.k = t.k then v else f u.k))
  by_cases e : u.k = t.k
  · rw [if_pos (by rw [e]), if_pos e]
  · rw [if_neg (fun z => e (Sum.inr.inj z)), if_neg e]
theorem PM_congr {f g : Str → Int} {ts : List Tr} (h : ∀ t ∈ ts, f t.k = g t.k) : PM f ts = PM g ts := List.map_congr_left fun t m => by rw [h t m]
theorem PM_new {ts : List Tr} (hn : (ts.map Tr.k).Nodup) {i : Nat} {t : Tr} (e : ts[i]? = some t) (f : Str → Int) : putK (PM f (ts.take i)) (.inr t.k) (.int (f t.k)) = PM f (ts.take (i + 1)) := by
  have hnot : valV (PM f (ts.take i)) (.inr t.k) = none := by
    cases q : valV (PM f (ts.take i)) (.inr t.k) with
    | none => rfl
    | some v =>
      exfalso
      have q2 := valV_any (Sum.inr t.k) (PM f (ts.take i))
      rw [q] at q2
      obtain ⟨p, m, e2⟩ := List.any_eq_true.mp (show _ = true from q2)
      obtain ⟨u, mu, rfl⟩ := List.mem_map.mp m
      have ek : u.k = t.k := Sum.inr.inj (of_decide_eq_true e2)
      obtain ⟨j, hj⟩ := List.mem_iff_getElem?.mp mu
      have hji : j < i := by
        have := lt_of_at hj
        rw [List.length_take] at this
        omega
      rw [List.getElem?_take_of_lt hji] at hj
      have h1 : (ts.map Tr.k)[j]? = some t.k := by rw [List.getElem?_map, hj, ← ek]; rfl
      have h2 : (ts.map Tr.k)[i]? = some t.k := by rw [List.getElem?_map, e]; rfl
      have := L2.nodup_ix hn h1 h2
      omega
  unfold putK
  rw [valV_any, hnot, if_neg (by decide), take_at e]
  unfold PM
  rw [List.map_append]
  rfl
/-! ### the list of the steps -/
def StP (H : Hp) (ps : List Addr) (L : List (Str × Int)) : Prop := Paired (fun (q : Addr) (x : Str × Int) => H q = some (.tup [.str x.1, .int x.2])) ps L
structure StA (H : Hp) (S : Addr) (L : List (Str × Int)) : Prop where
  ex : ∃ ps : List Addr, H S = some (.lst (ps.map V.ref)) ∧ StP H ps L
theorem StP.mono {H H' : Hp} {ps : List Addr} {L : List (Str × Int)} (h : StP H ps L) (k : ∀ q xs, H q = some (.tup xs) → H' q = some (.tup xs)) : StP H' ps L := Paired.mapP h fun _ _ e => k _ _ e
theorem StP.snoc {H : Hp} {q : Addr} {x : Str × Int} (e : H q = some (.tup [.str x.1, .int x.2])) : ∀ {ps : List Addr} {L : List (Str × Int)}, StP H ps L → StP H (ps ++ [q]) (L ++ [x])
  | _, _, .nil => .cons e .nil
  | _, _, .cons r t => .cons r (StP.snoc e t)
theorem StA.mono {H H' : Hp} {S : Addr} {L : List (Str × Int)} (s : Same H H') (h : StA H S L) : StA H' S L :=
  let ⟨ps, h1, h2⟩ := h.ex
  ⟨ps, s _ _ h1, h2.mono fun q xs e => s _ _ e⟩
theorem fz_free {H1 H : Hp} {q : Addr} (g : Grow H1 H) (h : H q = none) : fz H1 q = none := g.same.free h
theorem fz_lst {H : Hp} {q : Addr} {xs : List V} (h : H q = some (.lst xs)) : fz H q = none := by
  unfold fz
  rw [h]
  rfl
theorem fz_dK {H : Hp} {q : Addr} {xs : List (Key × V)} (h : H q = some (.dK xs)) : fz H q = none := by
  unfold fz
  rw [h]
  rfl
/-- one step appended -/
theorem ap_step {H0 H3 Hm : Hp} {S q P : Addr} {ps : List Addr} {L : List (Str × Int)} {z : Str} {c : Int} {kvs : List (Key × V)} (hS : H0 S = none) (fS : fz H3 S = none) (s : Same H0 Hm) (g : Grow H3 Hm) (eP : Hm P = some (.dK kvs)) (h1 : Hm S = some (.lst (ps.map V.ref))) (h2 : StP Hm ps L) (hq : Hm q = none) :
    Same H0 (upd (upd Hm q (.tup [.str z, .int c])) S (.lst (ps.map V.ref ++ [V.ref q]))) ∧ Grow H3 (upd (upd Hm q (.tup [.str z, .int c])) S (.lst (ps.map V.ref ++ [V.ref q]))) ∧ upd (upd Hm q (.tup [.str z, .int c])) S (.lst (ps.map V.ref ++ [V.ref q])) P = some (.dK kvs) ∧
      StA (upd (upd Hm q (.tup [.str z, .int c])) S (.lst (ps.map V.ref ++ [V.ref q]))) S (L ++ [(z, c)]) := by
  have nPS : P ≠ S := ne_of eP h1 (by intro z; cases z)
  have nqS : q ≠ S := fun e => by
    rw [e, h1] at hq
    cases hq
  refine ⟨same_mut (s.trans (same_new hq)) hS, (g.upd (fz_free g hq) rfl).upd fS rfl, ?_, ps ++ [q], ?_, StP.snoc ?_ (h2.mono fun r xs e => ?_)⟩
  · rw [upd_ne nPS]
    exact upd_old eP hq
  · rw [upd_same, List.map_append]
    rfl
  · rw [upd_ne nqS, upd_same]
  · rw [upd_ne (ne_of e h1 (by intro z; cases z))]
    exact upd_old e hq
theorem map_int_inj {a b : List Int} (h : a.map V.int = b.map V.int) : a = b := by
  induction a generalizing b with
  | nil =>
    cases b with
    | nil => rfl
    | cons _ _ => cases h
  | cons x a ih =>
    cases b with
    | nil => cases h
    | cons y b =>
      rw [List.map_cons, List.map_cons] at h
      injection h with h1 h2
      injection h1 with h1
      rw [h1, ih h2]
end EB

namespace EB
open PySem PySem.Spec PyProof.Rows L2 EBG
section
variable {P : Program} {w : World} {K : PySem.W.Frag} {mg : Str → Option Value} {base : Heap} (T : Tx K mg)
include T
def spGreedy (K : PySem.W.Frag) : Sp := fun vs H Q _ => ∃ (a : Addr) (ts : List Tr) (n : Nat), vs = [.ref a, .int (n : Nat)] ∧ OfAt K H a ts ∧ Fair ts ∧ nmOk ts ∧ n ≤ 1000000000000000000 ∧
  ∀ H' p, Same H H' → StA H' p (gAll ts 0 (roundsL (cN ts) n)) → Q (.ref p) H'
theorem ok_greedy_steps : FnR P w K mg base CX0 7 (a_greedy_steps K) (spGreedy K) := by
  refine fnR0 (d := d_greedy_steps) T.F_greedy_steps sc_greedy_steps rfl (fun _ _ _ _ _ _ us hl => match us, hl with | [_, _], _ => rfl) (fun vs H Q E h => ?_) (fun cdv A outer s H vs Q E hr h => ?_)
  · obtain ⟨a, ts, n, rfl, _⟩ := h
    rfl
  obtain ⟨a, ts, n, rfl, ho, hf, hnm, hn, k⟩ := h
  obtain ⟨dx, t, p, o, f, g, e1, e2, e3, e4, e5, e6⟩ := ho.ex
  obtain ⟨ps, h1, h2, h3⟩ := e2.ex
  have C := cf hf
  refine ⟨_, (pss_cons (ps_set (i := 2) sc_greedy_steps.nd rfl (Or.inl rfl) (pe_lst pa_nil)) (pss_cons (ps_setDc (i := 4) (own := [("kind", 3)]) rfl sc_greedy_steps.nd rfl rfl (sw_trueD rfl rfl rfl (by decide +kernel)) (pi_tup (pe_prop (pv 0) T.k_Offer T.p_Offer_kinds (ok_Offer_kinds T) (hr.mono (by decide)) (b_Offer_kinds T) .nil pass0 rfl)) (blkOk_by (own := [("kind", 3)]) (N := N_greedy_steps) (sc := defScope s_greedy_steps) (by decide +kernel)) (fun _ _ _ _ _ => (pg_name (i := 3) sc_greedy_steps.nd rfl (Or.inl rfl) (.inr rfl))) (fun _ _ _ _ _ => pts_nil) (fun _ _ _ _ _ => (pv 3)) (fun _ _ _ _ _ => pe_int)) (pss_cons (ps_forG PassesOwn.never rfl (hr.mono (by decide)) (pgen1_meth (pv 0) T.k_Offer T.m_Offer_rounds (ok1_Offer_rounds T) (hr.mono (by decide)) (b_Offer_rounds T) .nil (pa_cons (pv 1) pa_nil)) (kg_name (i := 5) sc_greedy_steps.nd rfl rfl) (kss_cons (ks_expr (k_append (kv 2) (k_tup (ka_cons (k_cS T.c_DRINK) (ka_cons (kv 5) ka_nil))))) (kss_cons (ks_forT PassesOwn.never rfl (k_prop (kv 0) T.k_Offer T.p_Offer_trades (okK_Offer_trades T) (hr.mono (by decide)) (b_Offer_trades T) .nil) (kg_tup (n := 3) rfl (kgs_cons (kg_name (i := 3) sc_greedy_steps.nd rfl rfl) (kgs_cons (kg_name (i := 6) sc_greedy_steps.nd rfl rfl) (kgs_cons (kg_name (i := 7) sc_greedy_steps.nd rfl rfl) kgs_nil)))) (kss_cons (ks_asg (k_divmod (by rfl) T.n_divmod (by decide +kernel) (ka_cons (k_op ko_add (k_dget (room_u hr) (kv 4) (kv 3) (fun _ _ => rfl)) (k_op ko_mul (kv 6) (kv 5))) (ka_cons (kv 7) ka_nil))) (kg_tup (n := 2) rfl (kgs_cons (kg_name (i := 8) sc_greedy_steps.nd rfl rfl) (kgs_cons (kg_dset (room_u hr) (kv 4) (kv 3)) kgs_nil)))) (kss_cons (ks_if (kt_cmp ko_gt (kv 8) k_int (nomark _)) (kss_cons (ks_expr (k_append (kv 2) (k_tup (ka_cons (kv 3) (ka_cons (kv 8) ka_nil))))) kss_nil) kss_nil) kss_nil))) kss_nil))) (pss_one (ps_ret (pv 2)))))), ?_⟩
  refine ⟨Nat.zero_le _, fun S hS => ?_⟩
  have sS : Same H (upd H S (.lst [])) := same_new hS
  refine ⟨_, rfl, a, dx, _, rfl, sS _ _ e1, ⟨a, ts, rfl, ho.mono sS, hf.g.1, fun H2 kp s2 hk => ⟨kp, rfl, ⟨_, hk⟩, fun P hP => ?_⟩⟩⟩
  have sH2 : Same H H2 := sS.trans s2
  have eS2 : H2 S = some (.lst []) := s2 _ _ upd_same
  have nPS : S ≠ P := ne_of_none eS2 hP
  refine dc_tup (xs := (ts.map Tr.k).map V.str) (fun i H3 => Same H2 H3 ∧ H3 P = some (.dK (PM (fun _ => 0) (ts.take i)))) ⟨same_new hP, upd_same⟩ (fun i H3 _ q => Same.tup q.1 hk) ?_ ?_
  · rintro i x H3 hx ⟨s3, q1⟩
    obtain ⟨u, et, rfl⟩ : ∃ u, ts[i]? = some u ∧ x = .str u.k := by
      rw [List.getElem?_map, List.getElem?_map] at hx
      cases e : ts[i]? with
      | none =>
        rw [e] at hx
        cases hx
      | some u =>
        rw [e] at hx
        exact ⟨u, rfl, (Option.some.inj hx).symm⟩
    have hl : (PM (fun _ => 0) (ts.take i)).length ≤ 3 := by
      unfold PM
      rw [List.length_map, List.length_take]
      have := hf.g.1
      omega
    refine ⟨rfl, _, rfl, _, .inr u.k, rfl, q1, small3 (by omega), same_mut s3 hP, ?_⟩
    rw [upd_same, PM_new hnm.1 et (fun _ => 0)]
  rintro H3 ⟨s3, q1⟩
  rw [List.length_map, List.length_map, List.take_length] at q1
  have eS3 : H3 S = some (.lst []) := s3 _ _ eS2
  have fS : fz H3 S = none := fz_lst eS3
  have fP : fz H3 P = none := fz_dK q1
  have hPH : H P = none := sH2.free hP
  have s03 : Same H H3 := sH2.trans s3
  refine ⟨_, rfl, a, dx, _, rfl, s03 _ _ e1, lk_no (by decide +kernel), _, rfl, (fun ys x _ => ∃ (pre : List Int) (d : Int) (post : List Int), ys = pre.map V.int ∧ x = .int d ∧ pre ++ d :: post = roundsL (cN ts) n), (fun ys => ys = (roundsL (cN ts) n).map V.int),
    ⟨a, dx, t, _, ts, n, rfl, fz_to (s03 _ _ e1) rfl, lk_trades, (e2.mono s03).fz, hf, hn, fun pre d post h _ => ⟨pre, d, post, rfl, rfl, h⟩, rfl⟩,
    (fun ys σ' H' => ∃ (pre post : List Int) (f : Str → Int) (x3 x5 x6 x7 x8 : Option V), ys = pre.map V.int ∧ pre ++ post = roundsL (cN ts) n ∧ Same H H' ∧ Grow H3 H' ∧ H' P = some (.dK (PM f ts)) ∧ (∀ t ∈ ts, f t.k = t.l * pre.sum % t.n) ∧ StA H' S (gAll ts 0 pre) ∧
      σ' = [some (.ref a), some (.int (n : Nat)), some (.ref S), x3, some (.ref P), x5, x6, x7, x8]),
    ⟨[], _, fun _ => 0, none, none, none, none, none, rfl, rfl, s03, Grow.refl _, q1, fun t _ => by rw [List.sum_nil, Int.mul_zero, Int.zero_emod], ⟨[], eS3, .nil⟩, rfl⟩, ?_⟩
  rintro ys σ' H' ⟨pre, post, f, x3, x5, x6, x7, x8, rfl, hpre, s', g', eP', hfv, hst, rfl⟩
  refine ⟨g', fun hfin => ?_, fun x Hx hy => ?_⟩
  · have ep := map_int_inj hfin
    rw [ep] at hst
    exact ⟨_, rfl, k _ _ s' hst⟩
  obtain ⟨pre', d, post', ey, rfl, hpre'⟩ := hy
  cases map_int_inj ey
  have sm := mrg_same H' Hx
  have gm : Grow H3 (mrg H' Hx) := g'.mrg
  have hst := hst.mono sm
  have eP' := sm _ _ eP'
  have s' := s'.trans sm
  generalize mrg H' Hx = Hm at sm gm hst eP' s'
  clear sm g'
  have hlr : pre.length ≤ 1000 := by
    have := roundsL_len hf hn
    rw [← hpre', List.length_append] at this
    omega
  have hgl := gAll_len hf.g.1 pre 0
  obtain ⟨qs, hq1, hq2⟩ := hst.ex
  have lqs : qs.length = (gAll ts 0 pre).length := Paired.length hq2
  refine ⟨_, rfl, .inl ⟨rfl, _, SqL.of hq1⟩, _, rfl, by show 2 ≤ sizeLine; decide, fun q hq => ⟨S, _, _, rfl, rfl, upd_old hq1 hq, by rw [List.length_map]; exact small3 (by omega), ?_⟩⟩
  obtain ⟨sa, ga, ea, sta⟩ := ap_step (z := "drink") (c := d) hS fS s' gm eP' hq1 hq2 hq
  generalize upd (upd Hm q (.tup [.str "drink", .int d])) S (.lst (qs.map V.ref ++ [V.ref q])) = Ha at sa ga ea sta
  refine ⟨_, rfl, a, dx, _, rfl, sa _ _ e1, ⟨a, dx, t, _, rfl, sa _ _ e1, lk_trades, t, rfl, ⟨_, Same.tup sa h1⟩, ?_⟩⟩
  refine for_tup (xs := ps.map V.ref) (fun i σ' H' => ∃ (f' : Str → Int) (x3 x6 x7 x8 : Option V), Same H H' ∧ Grow H3 H' ∧ H' P = some (.dK (PM f' ts)) ∧ (∀ (j : Nat) (u : Tr), ts[j]? = some u → f' u.k = if j < i then u.l * (pre.sum + d) % u.n else u.l * pre.sum % u.n) ∧
    StA H' S (gAll ts 0 pre ++ [(("drink" : Str), d)] ++ (ts.take i).flatMap (gOne pre.sum d)) ∧ σ' = [some (.ref a), some (.int (n : Nat)), some (.ref S), x3, some (.ref P), some (.int d), x6, x7, x8]) ?_ ?_ ?_ ?_
  · exact ⟨f, x3, x6, x7, x8, sa, ga, ea, fun j u e => by rw [if_neg (Nat.not_lt_zero _)]; exact hfv u (List.mem_of_getElem? e), by rw [List.take_zero, List.flatMap_nil, List.append_nil]; exact sta, rfl⟩
  · rintro i σ' H' _ ⟨_, _, _, _, _, s1, _⟩
    exact Same.tup s1 h1
  · rintro i x σ' H' hx ⟨f', y3, y6, y7, y8, s1, g1, eP1, hf1, hst1, rfl⟩
    obtain ⟨p, u, rfl, ep, et, hm, li, hp⟩ := TrAt.at_ h2 h3 hx
    have hu := hf.g.2 _ hm
    have hval : f' u.k = u.l * pre.sum % u.n := by
      rw [hf1 i u et, if_neg (Nat.lt_irrefl _)]
    have hlen : (PM f' ts).length ≤ 3 := by
      unfold PM
      rw [List.length_map]
      exact hf.g.1
    refine ⟨p, _, rfl, Same.tup s1 hp, rfl, _, _, rfl, _, _, rfl, _, _, rfl, rfl, ?_⟩
    refine ⟨_, rfl, _, rfl, P, _, rfl, .inl ⟨_, .inr u.k, .inl eP1, rfl, (PM_val hm).symm⟩, _, rfl, _, rfl, _, _, rfl, rfl, .inl ⟨by have := hu.1; omega, by have := hu.2.1; omega⟩, _, _, rfl, rfl, _, rfl, _, _, rfl, ⟨by have := hu.2.2.1; omega, by have := hu.2.2.2; omega⟩, fun q hq => ?_⟩
    rw [hval, show (u.l * pre.sum % u.n + u.l * d) / u.n = gCount u pre.sum d from rfl, Int.emod_add_emod, ← Int.mul_add]
    have nqP : P ≠ q := ne_of_none eP1 hq
    refine ⟨q, _, rfl, SqT.of upd_same, rfl, _, _, rfl, _, _, rfl, _, rfl, _, rfl, P, _, .inr u.k, rfl, upd_old eP1 hq, rfl, small3 (by omega), rfl, ?_⟩
    rw [PM_put hm]
    have hf2 : ∀ (j : Nat) (t' : Tr), ts[j]? = some t' → (if t'.k = u.k then u.l * (pre.sum + d) % u.n else f' t'.k) = if j < i + 1 then t'.l * (pre.sum + d) % t'.n else t'.l * pre.sum % t'.n := fun j t' e => by
      by_cases ek : t'.k = u.k
      · have ej : j = i := L2.nodup_ix hnm.1 (x := u.k) (by rw [List.getElem?_map, e, ← ek]; rfl) (by rw [List.getElem?_map, et]; rfl)
        subst ej
        rw [et] at e
        cases e
        rw [if_pos rfl, if_pos (Nat.lt_succ_self _)]
      · have ej : j ≠ i := fun z => by
          subst z
          rw [et] at e
          cases e
          exact ek rfl
        rw [if_neg ek, hf1 j t' e]
        by_cases hj : j < i
        · rw [if_pos hj, if_pos (by omega)]
        · rw [if_neg hj, if_neg (by omega)]
    have sb : Same H (upd (upd H' q (.tup [.int (gCount u pre.sum d), .int (u.l * (pre.sum + d) % u.n)])) P (.dK (PM (fun k => if k = u.k then u.l * (pre.sum + d) % u.n else f' k) ts))) := same_mut (s1.trans (same_new hq)) hPH
    have gb : Grow H3 (upd (upd H' q (.tup [.int (gCount u pre.sum d), .int (u.l * (pre.sum + d) % u.n)])) P (.dK (PM (fun k => if k = u.k then u.l * (pre.sum + d) % u.n else f' k) ts))) := (g1.upd (fz_free g1 hq) rfl).upd fP rfl
    have eb : (upd (upd H' q (.tup [.int (gCount u pre.sum d), .int (u.l * (pre.sum + d) % u.n)])) P (.dK (PM (fun k => if k = u.k then u.l * (pre.sum + d) % u.n else f' k) ts))) P = some (.dK (PM (fun k => if k = u.k then u.l * (pre.sum + d) % u.n else f' k) ts)) := upd_same
    obtain ⟨rs, r1, r2⟩ := hst1.ex
    have rb1 : (upd (upd H' q (.tup [.int (gCount u pre.sum d), .int (u.l * (pre.sum + d) % u.n)])) P (.dK (PM (fun k => if k = u.k then u.l * (pre.sum + d) % u.n else f' k) ts))) S = some (.lst (rs.map V.ref)) := by
      rw [upd_ne (ne_of r1 eP1 (by intro z; cases z))]
      exact upd_old r1 hq
    have rb2 : StP (upd (upd H' q (.tup [.int (gCount u pre.sum d), .int (u.l * (pre.sum + d) % u.n)])) P (.dK (PM (fun k => if k = u.k then u.l * (pre.sum + d) % u.n else f' k) ts))) rs _ := r2.mono fun r xs e => by
      rw [upd_ne (ne_of e eP1 (by intro z; cases z))]
      exact upd_old e hq
    generalize upd (upd H' q (.tup [.int (gCount u pre.sum d), .int (u.l * (pre.sum + d) % u.n)])) P (.dK (PM (fun k => if k = u.k then u.l * (pre.sum + d) % u.n else f' k) ts)) = Hb at sb gb eb rb1 rb2
    have fl : (ts.take (i + 1)).flatMap (gOne pre.sum d) = (ts.take i).flatMap (gOne pre.sum d) ++ gOne pre.sum d u := by
      rw [take_at et, List.flatMap_append, List.flatMap_cons, List.flatMap_nil, List.append_nil]
    have lrs : rs.length ≤ 5000 := by
      rw [Paired.length r2, List.length_append, List.length_append, List.length_singleton]
      have h1 := gFlat_len pre.sum d (ts.take i)
      rw [List.length_take] at h1
      have := hf.g.1
      omega
    refine ⟨_, rfl, _, _, rfl, rfl, _, rfl, ite2 (fun hc => ?_) (fun hc => ?_)⟩
    · have hc : 0 < gCount u pre.sum d := of_decide_eq_true hc
      refine ⟨_, rfl, .inl ⟨rfl, _, SqL.of rb1⟩, _, rfl, _, rfl, by show 2 ≤ sizeLine; decide, fun q2 hq2 => ⟨S, _, _, rfl, rfl, upd_old rb1 hq2, by rw [List.length_map]; exact small3 (by omega), ?_⟩⟩
      obtain ⟨sc, gc, ec, stc⟩ := ap_step (z := u.k) (c := gCount u pre.sum d) hS fS sb gb eb rb1 rb2 hq2
      refine ⟨_, _, _, _, _, sc, gc, ec, hf2, ?_, rfl⟩
      rw [fl, show gOne pre.sum d u = [(u.k, gCount u pre.sum d)] from if_pos hc, ← List.append_assoc]
      exact stc
    · have hc : ¬ 0 < gCount u pre.sum d := fun z => hc (decide_eq_true z)
      refine ⟨_, _, _, _, _, sb, gb, eb, hf2, ?_, rfl⟩
      rw [fl, show gOne pre.sum d u = [] from if_neg hc, List.append_nil]
      exact ⟨rs, rb1, rb2⟩
  · rintro σ' H' ⟨f', y3, y6, y7, y8, s1, g1, eP1, hf1, hst1, rfl⟩
    rw [List.length_map, h2] at hf1 hst1
    rw [List.take_length] at hst1
    refine ⟨pre ++ [d], post', f', y3, _, y6, y7, y8, by rw [List.map_append]; rfl, by rw [List.append_assoc]; exact hpre', s1, g1, eP1, fun u hu => ?_, ?_, rfl⟩
    · obtain ⟨j, hj⟩ := List.mem_iff_getElem?.mp hu
      rw [hf1 j u hj, if_pos (lt_of_at hj), List.sum_append, List.sum_cons, List.sum_nil, Int.add_zero]
    · rw [gAll_snoc, Int.zero_add]
      unfold gRound
      rw [List.append_assoc] at hst1
      exact hst1
end
end EB

namespace EB
open PySem PySem.Spec PyProof.Rows L2 EBG
/-! Methods that return a new dict, a new list: what they return was not there before. -/
section
variable {P : Program} {w : World} {K : PySem.W.Frag} {mg : Str → Option Value} {base : Heap} (T : Tx K mg)
include T
def spMadeF (K : PySem.W.Frag) : Sp := fun vs H Q _ => ∃ (a : Addr) (ts : List Tr) (n : Nat), vs = [.ref a, .int (n : Nat)] ∧ OfAt K H a ts ∧ Fair ts ∧ n ≤ 1000000000000000000 ∧ ∀ H' p, Same H H' → H p = none → H' p = some (.dK (madeK ts (D (cN ts) n))) → Q (.ref p) H'
theorem okF_Offer_trades_made : FnR P w K mg base CX0 4 (a_Offer_trades_made K) (spMadeF K) := by
  refine fnR0 (d := d_Offer_trades_made) T.F_Offer_trades_made sc_Offer_trades_made rfl (fun _ _ _ _ _ _ us hl => match us, hl with | [_, _], _ => rfl) (fun vs H Q E h => ?_) (fun cdv A outer s H vs Q E hr h => ?_)
  · obtain ⟨a, ts, n, rfl, _⟩ := h
    rfl
  obtain ⟨a, ts, n, rfl, ho, hf, hn, k⟩ := h
  obtain ⟨dx, t, p, o, f, g, e1, e2, e3, e4, e5, e6⟩ := ho.ex
  refine ⟨_, (pss_cons (ps_expr (pe_cR (ok_check_number T) (hr.mono (by decide)) T.F_check_number.kp T.g_check_number pass0 (pa_cons (pv 1) pa_nil))) (pss_cons (ps_set (i := 2) sc_Offer_trades_made.nd rfl (Or.inr rfl) (pe_methR (pv 0) T.k_Offer T.m_Offer_drinks_for (ok_Offer_drinks_for T) (hr.mono (by decide)) pass0 (pa_cons (pv 1) pa_nil))) (pss_one (ps_ret (pe_dc (own := [("kind", 3), ("left", 4), ("needed", 5)]) rfl sc_Offer_trades_made.nd (pi_tup (pe_fld (pv 0) rfl)) (blkOk_by (own := [("kind", 3), ("left", 4), ("needed", 5)]) (N := N_Offer_trades_made) (sc := defScope s_Offer_trades_made) (by decide +kernel)) (fun _ _ _ _ _ => (pg_tupB (n := 3) (pgs_cons (pg_name (i := 3) sc_Offer_trades_made.nd rfl (Or.inl rfl) (.inr rfl)) (pgs_cons (pg_name (i := 4) sc_Offer_trades_made.nd rfl (Or.inl rfl) (.inr rfl)) (pgs_cons (pg_name (i := 5) sc_Offer_trades_made.nd rfl (Or.inl rfl) (.inr rfl)) pgs_nil))))) (fun _ _ _ _ _ => pts_nil) (fun _ _ _ _ _ => (pv 3)) (fun _ _ _ _ _ => (pe_op op_fdiv (pe_op op_mul (pv 4) (pv 2)) (pv 5)))))))), ?_⟩
  refine ⟨_, rfl, n, rfl, by omega, by omega, ?_⟩
  refine ⟨_, rfl, a, dx, _, rfl, e1, lk_no (by decide +kernel), _, rfl, a, ts, n, rfl, ho, hf, ?_⟩
  obtain ⟨ps, h1, h2, h3⟩ := e2.ex
  have hlen := hf.g.1
  refine ⟨_, rfl, a, _, dx, _, _, rfl, e1, T.k_Offer, T.na_trades, lk_trades, t, rfl, ⟨_, h1⟩, fun W hW => ?_⟩
  refine dc_tup (xs := ps.map V.ref) (fun i H1 => Same H H1 ∧ H1 W = some (.dK (madeK (ts.take i) (D (cN ts) n)))) ⟨same_new hW, upd_same⟩ (fun i H1 _ q => Same.tup q.1 h1) ?_ ?_
  · rintro i x H1 hx ⟨s1, w1⟩
    obtain ⟨p, t, rfl, ep, et, hm, li, hp⟩ := TrAt.at_ h2 h3 hx
    have ht := hf.g.2 _ hm
    refine ⟨p, _, rfl, Same.tup s1 hp, rfl, _, _, rfl, _, _, rfl, _, _, rfl, rfl, rfl, ?_⟩
    have hl := (madeK_nice (ts.take i) (D (cN ts) n)).2
    rw [List.length_take] at hl
    refine ⟨_, rfl, _, rfl, _, rfl, _, _, rfl, rfl, .inl ⟨by have := ht.1; omega, by have := ht.2.1; omega⟩, _, rfl, _, _, rfl, rfl, ⟨by have := ht.2.2.1; omega, by have := ht.2.2.2; omega⟩, ?_⟩
    refine ⟨_, .inr t.k, rfl, w1, small3 (by omega), same_mut s1 hW, ?_⟩
    rw [upd_same, take_at et]
    unfold madeK
    rw [List.foldl_append]
    rfl
  · rintro H1 ⟨s1, w1⟩
    refine k _ _ s1 hW ?_
    rw [w1, List.length_map, h2, List.take_length]
def spLeftF (K : PySem.W.Frag) : Sp := fun vs H Q _ => ∃ (a : Addr) (ts : List Tr) (n : Nat), vs = [.ref a, .int (n : Nat)] ∧ OfAt K H a ts ∧ Fair ts ∧ n ≤ 1000000000000000000 ∧ ∀ H' p, Same H H' → H p = none → H' p = some (.dK (leftK ts (D (cN ts) n))) → Q (.ref p) H'
theorem okF_Offer_left_over : FnR P w K mg base CX0 4 (a_Offer_left_over K) (spLeftF K) := by
  refine fnR0 (d := d_Offer_left_over) T.F_Offer_left_over sc_Offer_left_over rfl (fun _ _ _ _ _ _ us hl => match us, hl with | [_, _], _ => rfl) (fun vs H Q E h => ?_) (fun cdv A outer s H vs Q E hr h => ?_)
  · obtain ⟨a, ts, n, rfl, _⟩ := h
    rfl
  obtain ⟨a, ts, n, rfl, ho, hf, hn, k⟩ := h
  obtain ⟨dx, t, p, o, f, g, e1, e2, e3, e4, e5, e6⟩ := ho.ex
  refine ⟨_, (pss_cons (ps_expr (pe_cR (ok_check_number T) (hr.mono (by decide)) T.F_check_number.kp T.g_check_number pass0 (pa_cons (pv 1) pa_nil))) (pss_cons (ps_set (i := 2) sc_Offer_left_over.nd rfl (Or.inr rfl) (pe_methR (pv 0) T.k_Offer T.m_Offer_drinks_for (ok_Offer_drinks_for T) (hr.mono (by decide)) pass0 (pa_cons (pv 1) pa_nil))) (pss_one (ps_ret (pe_dc (own := [("kind", 3), ("left", 4), ("needed", 5)]) rfl sc_Offer_left_over.nd (pi_tup (pe_fld (pv 0) rfl)) (blkOk_by (own := [("kind", 3), ("left", 4), ("needed", 5)]) (N := N_Offer_left_over) (sc := defScope s_Offer_left_over) (by decide +kernel)) (fun _ _ _ _ _ => (pg_tupB (n := 3) (pgs_cons (pg_name (i := 3) sc_Offer_left_over.nd rfl (Or.inl rfl) (.inr rfl)) (pgs_cons (pg_name (i := 4) sc_Offer_left_over.nd rfl (Or.inl rfl) (.inr rfl)) (pgs_cons (pg_name (i := 5) sc_Offer_left_over.nd rfl (Or.inl rfl) (.inr rfl)) pgs_nil))))) (fun _ _ _ _ _ => pts_nil) (fun _ _ _ _ _ => (pv 3)) (fun _ _ _ _ _ => (pe_op op_mod (pe_op op_mul (pv 4) (pv 2)) (pv 5)))))))), ?_⟩
  refine ⟨_, rfl, n, rfl, by omega, by omega, ?_⟩
  refine ⟨_, rfl, a, dx, _, rfl, e1, lk_no (by decide +kernel), _, rfl, a, ts, n, rfl, ho, hf, ?_⟩
  obtain ⟨ps, h1, h2, h3⟩ := e2.ex
  have hlen := hf.g.1
  refine ⟨_, rfl, a, _, dx, _, _, rfl, e1, T.k_Offer, T.na_trades, lk_trades, t, rfl, ⟨_, h1⟩, fun W hW => ?_⟩
  refine dc_tup (xs := ps.map V.ref) (fun i H1 => Same H H1 ∧ H1 W = some (.dK (leftK (ts.take i) (D (cN ts) n)))) ⟨same_new hW, upd_same⟩ (fun i H1 _ q => Same.tup q.1 h1) ?_ ?_
  · rintro i x H1 hx ⟨s1, w1⟩
    obtain ⟨p, t, rfl, ep, et, hm, li, hp⟩ := TrAt.at_ h2 h3 hx
    have ht := hf.g.2 _ hm
    refine ⟨p, _, rfl, Same.tup s1 hp, rfl, _, _, rfl, _, _, rfl, _, _, rfl, rfl, rfl, ?_⟩
    have hl := (leftK_nice (ts.take i) (D (cN ts) n)).2
    rw [List.length_take] at hl
    refine ⟨_, rfl, _, rfl, _, rfl, _, _, rfl, rfl, .inl ⟨by have := ht.1; omega, by have := ht.2.1; omega⟩, _, rfl, _, _, rfl, rfl, (show 0 < t.n from by have := ht.2.2.1; omega), ?_⟩
    refine ⟨_, .inr t.k, rfl, w1, small3 (by omega), same_mut s1 hW, ?_⟩
    rw [upd_same, take_at et]
    unfold leftK
    rw [List.foldl_append]
    rfl
  · rintro H1 ⟨s1, w1⟩
    refine k _ _ s1 hW ?_
    rw [w1, List.length_map, h2, List.take_length]
def spGreedyF (K : PySem.W.Frag) : Sp := fun vs H Q _ => ∃ (a : Addr) (ts : List Tr) (n : Nat), vs = [.ref a, .int (n : Nat)] ∧ OfAt K H a ts ∧ Fair ts ∧ nmOk ts ∧ n ≤ 1000000000000000000 ∧
  ∀ H' p, Same H H' → H p = none → StA H' p (gAll ts 0 (roundsL (cN ts) n)) → Q (.ref p) H'
theorem okF_greedy_steps : FnR P w K mg base CX0 7 (a_greedy_steps K) (spGreedyF K) := by
  refine fnR0 (d := d_greedy_steps) T.F_greedy_steps sc_greedy_steps rfl (fun _ _ _ _ _ _ us hl => match us, hl with | [_, _], _ => rfl) (fun vs H Q E h => ?_) (fun cdv A outer s H vs Q E hr h => ?_)
  · obtain ⟨a, ts, n, rfl, _⟩ := h
    rfl
  obtain ⟨a, ts, n, rfl, ho, hf, hnm, hn, k⟩ := h
  obtain ⟨dx, t, p, o, f, g, e1, e2, e3, e4, e5, e6⟩ := ho.ex
  obtain ⟨ps, h1, h2, h3⟩ := e2.ex
  have C := cf hf
  refine ⟨_, (pss_cons (ps_set (i := 2) sc_greedy_steps.nd rfl (Or.inl rfl) (pe_lst pa_nil)) (pss_cons (ps_setDc (i := 4) (own := [("kind", 3)]) rfl sc_greedy_steps.nd rfl rfl (sw_trueD rfl rfl rfl (by decide +kernel)) (pi_tup (pe_prop (pv 0) T.k_Offer T.p_Offer_kinds (ok_Offer_kinds T) (hr.mono (by decide)) (b_Offer_kinds T) .nil pass0 rfl)) (blkOk_by (own := [("kind", 3)]) (N := N_greedy_steps) (sc := defScope s_greedy_steps) (by decide +kernel)) (fun _ _ _ _ _ => (pg_name (i := 3) sc_greedy_steps.nd rfl (Or.inl rfl) (.inr rfl))) (fun _ _ _ _ _ => pts_nil) (fun _ _ _ _ _ => (pv 3)) (fun _ _ _ _ _ => pe_int)) (pss_cons (ps_forG PassesOwn.never rfl (hr.mono (by decide)) (pgen1_meth (pv 0) T.k_Offer T.m_Offer_rounds (ok1_Offer_rounds T) (hr.mono (by decide)) (b_Offer_rounds T) .nil (pa_cons (pv 1) pa_nil)) (kg_name (i := 5) sc_greedy_steps.nd rfl rfl) (kss_cons (ks_expr (k_append (kv 2) (k_tup (ka_cons (k_cS T.c_DRINK) (ka_cons (kv 5) ka_nil))))) (kss_cons (ks_forT PassesOwn.never rfl (k_prop (kv 0) T.k_Offer T.p_Offer_trades (okK_Offer_trades T) (hr.mono (by decide)) (b_Offer_trades T) .nil) (kg_tup (n := 3) rfl (kgs_cons (kg_name (i := 3) sc_greedy_steps.nd rfl rfl) (kgs_cons (kg_name (i := 6) sc_greedy_steps.nd rfl rfl) (kgs_cons (kg_name (i := 7) sc_greedy_steps.nd rfl rfl) kgs_nil)))) (kss_cons (ks_asg (k_divmod (by rfl) T.n_divmod (by decide +kernel) (ka_cons (k_op ko_add (k_dget (room_u hr) (kv 4) (kv 3) (fun _ _ => rfl)) (k_op ko_mul (kv 6) (kv 5))) (ka_cons (kv 7) ka_nil))) (kg_tup (n := 2) rfl (kgs_cons (kg_name (i := 8) sc_greedy_steps.nd rfl rfl) (kgs_cons (kg_dset (room_u hr) (kv 4) (kv 3)) kgs_nil)))) (kss_cons (ks_if (kt_cmp ko_gt (kv 8) k_int (nomark _)) (kss_cons (ks_expr (k_append (kv 2) (k_tup (ka_cons (kv 3) (ka_cons (kv 8) ka_nil))))) kss_nil) kss_nil) kss_nil))) kss_nil))) (pss_one (ps_ret (pv 2)))))), ?_⟩
  refine ⟨Nat.zero_le _, fun S hS => ?_⟩
  have sS : Same H (upd H S (.lst [])) := same_new hS
  refine ⟨_, rfl, a, dx, _, rfl, sS _ _ e1, ⟨a, ts, rfl, ho.mono sS, hf.g.1, fun H2 kp s2 hk => ⟨kp, rfl, ⟨_, hk⟩, fun P hP => ?_⟩⟩⟩
  have sH2 : Same H H2 := sS.trans s2
  have eS2 : H2 S = some (.lst []) := s2 _ _ upd_same
  have nPS : S ≠ P := ne_of_none eS2 hP
  refine dc_tup (xs := (ts.map Tr.k).map V.str) (fun i H3 => Same H2 H3 ∧ H3 P = some (.dK (PM (fun _ => 0) (ts.take i)))) ⟨same_new hP, upd_same⟩ (fun i H3 _ q => Same.tup q.1 hk) ?_ ?_
  · rintro i x H3 hx ⟨s3, q1⟩
    obtain ⟨u, et, rfl⟩ : ∃ u, ts[i]? = some u ∧ x = .str u.k := by
      rw [List.getElem?_map, List.getElem?_map] at hx
      cases e : ts[i]? with
      | none =>
        rw [e] at hx
        cases hx
      | some u =>
        rw [e] at hx
        exact ⟨u, rfl, (Option.some.inj hx).symm⟩
    have hl : (PM (fun _ => 0) (ts.take i)).length ≤ 3 := by
      unfold PM
      rw [List.length_map, List.length_take]
      have := hf.g.1
      omega
    refine ⟨rfl, _, rfl, _, .inr u.k, rfl, q1, small3 (by omega), same_mut s3 hP, ?_⟩
    rw [upd_same, PM_new hnm.1 et (fun _ => 0)]
  rintro H3 ⟨s3, q1⟩
  rw [List.length_map, List.length_map, List.take_length] at q1
  have eS3 : H3 S = some (.lst []) := s3 _ _ eS2
  have fS : fz H3 S = none := fz_lst eS3
  have fP : fz H3 P = none := fz_dK q1
  have hPH : H P = none := sH2.free hP
  have s03 : Same H H3 := sH2.trans s3
  refine ⟨_, rfl, a, dx, _, rfl, s03 _ _ e1, lk_no (by decide +kernel), _, rfl, (fun ys x _ => ∃ (pre : List Int) (d : Int) (post : List Int), ys = pre.map V.int ∧ x = .int d ∧ pre ++ d :: post = roundsL (cN ts) n), (fun ys => ys = (roundsL (cN ts) n).map V.int),
    ⟨a, dx, t, _, ts, n, rfl, fz_to (s03 _ _ e1) rfl, lk_trades, (e2.mono s03).fz, hf, hn, fun pre d post h _ => ⟨pre, d, post, rfl, rfl, h⟩, rfl⟩,
    (fun ys σ' H' => ∃ (pre post : List Int) (f : Str → Int) (x3 x5 x6 x7 x8 : Option V), ys = pre.map V.int ∧ pre ++ post = roundsL (cN ts) n ∧ Same H H' ∧ Grow H3 H' ∧ H' P = some (.dK (PM f ts)) ∧ (∀ t ∈ ts, f t.k = t.l * pre.sum % t.n) ∧ StA H' S (gAll ts 0 pre) ∧
      σ' = [some (.ref a), some (.int (n : Nat)), some (.ref S), x3, some (.ref P), x5, x6, x7, x8]),
    ⟨[], _, fun _ => 0, none, none, none, none, none, rfl, rfl, s03, Grow.refl _, q1, fun t _ => by rw [List.sum_nil, Int.mul_zero, Int.zero_emod], ⟨[], eS3, .nil⟩, rfl⟩, ?_⟩
  rintro ys σ' H' ⟨pre, post, f, x3, x5, x6, x7, x8, rfl, hpre, s', g', eP', hfv, hst, rfl⟩
  refine ⟨g', fun hfin => ?_, fun x Hx hy => ?_⟩
  · have ep := map_int_inj hfin
    rw [ep] at hst
    exact ⟨_, rfl, k _ _ s' hS hst⟩
  obtain ⟨pre', d, post', ey, rfl, hpre'⟩ := hy
  cases map_int_inj ey
  have sm := mrg_same H' Hx
  have gm : Grow H3 (mrg H' Hx) := g'.mrg
  have hst := hst.mono sm
  have eP' := sm _ _ eP'
  have s' := s'.trans sm
  generalize mrg H' Hx = Hm at sm gm hst eP' s'
  clear sm g'
  have hlr : pre.length ≤ 1000 := by
    have := roundsL_len hf hn
    rw [← hpre', List.length_append] at this
    omega
  have hgl := gAll_len hf.g.1 pre 0
  obtain ⟨qs, hq1, hq2⟩ := hst.ex
  have lqs : qs.length = (gAll ts 0 pre).length := Paired.length hq2
  refine ⟨_, rfl, .inl ⟨rfl, _, SqL.of hq1⟩, _, rfl, by show 2 ≤ sizeLine; decide, fun q hq => ⟨S, _, _, rfl, rfl, upd_old hq1 hq, by rw [List.length_map]; exact small3 (by omega), ?_⟩⟩
  obtain ⟨sa, ga, ea, sta⟩ := ap_step (z := "drink") (c := d) hS fS s' gm eP' hq1 hq2 hq
  generalize upd (upd Hm q (.tup [.str "drink", .int d])) S (.lst (qs.map V.ref ++ [V.ref q])) = Ha at sa ga ea sta
  refine ⟨_, rfl, a, dx, _, rfl, sa _ _ e1, ⟨a, dx, t, _, rfl, sa _ _ e1, lk_trades, t, rfl, ⟨_, Same.tup sa h1⟩, ?_⟩⟩
  refine for_tup (xs := ps.map V.ref) (fun i σ' H' => ∃ (f' : Str → Int) (x3 x6 x7 x8 : Option V), Same H H' ∧ Grow H3 H' ∧ H' P = some (.dK (PM f' ts)) ∧ (∀ (j : Nat) (u : Tr), ts[j]? = some u → f' u.k = if j < i then u.l * (pre.sum + d) % u.n else u.l * pre.sum % u.n) ∧
    StA H' S (gAll ts 0 pre ++ [(("drink" : Str), d)] ++ (ts.take i).flatMap (gOne pre.sum d)) ∧ σ' = [some (.ref a), some (.int (n : Nat)), some (.ref S), x3, some (.ref P), some (.int d), x6, x7, x8]) ?_ ?_ ?_ ?_
  · exact ⟨f, x3, x6, x7, x8, sa, ga, ea, fun j u e => by rw [if_neg (Nat.not_lt_zero _)]; exact hfv u (List.mem_of_getElem? e), by rw [List.take_zero, List.flatMap_nil, List.append_nil]; exact sta, rfl⟩
  · rintro i σ' H' _ ⟨_, _, _, _, _, s1, _⟩
    exact Same.tup s1 h1
  · rintro i x σ' H' hx ⟨f', y3, y6, y7, y8, s1, g1, eP1, hf1, hst1, rfl⟩
    obtain ⟨p, u, rfl, ep, et, hm, li, hp⟩ := TrAt.at_ h2 h3 hx
    have hu := hf.g.2 _ hm
    have hval : f' u.k = u.l * pre.sum % u.n := by
      rw [hf1 i u et, if_neg (Nat.lt_irrefl _)]
    have hlen : (PM f' ts).length ≤ 3 := by
      unfold PM
      rw [List.length_map]
      exact hf.g.1
    refine ⟨p, _, rfl, Same.tup s1 hp, rfl, _, _, rfl, _, _, rfl, _, _, rfl, rfl, ?_⟩
    refine ⟨_, rfl, _, rfl, P, _, rfl, .inl ⟨_, .inr u.k, .inl eP1, rfl, (PM_val hm).symm⟩, _, rfl, _, rfl, _, _, rfl, rfl, .inl ⟨by have := hu.1; omega, by have := hu.2.1; omega⟩, _, _, rfl, rfl, _, rfl, _, _, rfl, ⟨by have := hu.2.2.1; omega, by have := hu.2.2.2; omega⟩, fun q hq => ?_⟩
    rw [hval, show (u.l * pre.sum % u.n + u.l * d) / u.n = gCount u pre.sum d from rfl, Int.emod_add_emod, ← Int.mul_add]
    have nqP : P ≠ q := ne_of_none eP1 hq
    refine ⟨q, _, rfl, SqT.of upd_same, rfl, _, _, rfl, _, _, rfl, _, rfl, _, rfl, P, _, .inr u.k, rfl, upd_old eP1 hq, rfl, small3 (by omega), rfl, ?_⟩
    rw [PM_put hm]
    have hf2 : ∀ (j : Nat) (t' : Tr), ts[j]? = some t' → (if t'.k = u.k then u.l * (pre.sum + d) % u.n else f' t'.k) = if j < i + 1 then t'.l * (pre.sum + d) % t'.n else t'.l * pre.sum % t'.n := fun j t' e => by
      by_cases ek : t'.k = u.k
      · have ej : j = i := L2.nodup_ix hnm.1 (x := u.k) (by rw [List.getElem?_map, e, ← ek]; rfl) (by rw [List.getElem?_map, et]; rfl)
        subst ej
        rw [et] at e
        cases e
        rw [if_pos rfl, if_pos (Nat.lt_succ_self _)]
      · have ej : j ≠ i := fun z => by
          subst z
          rw [et] at e
          cases e
          exact ek rfl
        rw [if_neg ek, hf1 j t' e]
        by_cases hj : j < i
        · rw [if_pos hj, if_pos (by omega)]
        · rw [if_neg hj, if_neg (by omega)]
    have sb : Same H (upd (upd H' q (.tup [.int (gCount u pre.sum d), .int (u.l * (pre.sum + d) % u.n)])) P (.dK (PM (fun k => if k = u.k then u.l * (pre.sum + d) % u.n else f' k) ts))) := same_mut (s1.trans (same_new hq)) hPH
    have gb : Grow H3 (upd (upd H' q (.tup [.int (gCount u pre.sum d), .int (u.l * (pre.sum + d) % u.n)])) P (.dK (PM (fun k => if k = u.k then u.l * (pre.sum + d) % u.n else f' k) ts))) := (g1.upd (fz_free g1 hq) rfl).upd fP rfl
    have eb : (upd (upd H' q (.tup [.int (gCount u pre.sum d), .int (u.l * (pre.sum + d) % u.n)])) P (.dK (PM (fun k => if k = u.k then u.l * (pre.sum + d) % u.n else f' k) ts))) P = some (.dK (PM (fun k => if k = u.k then u.l * (pre.sum + d) % u.n else f' k) ts)) := upd_same
    obtain ⟨rs, r1, r2⟩ := hst1.ex
    have rb1 : (upd (upd H' q (.tup [.int (gCount u pre.sum d), .int (u.l * (pre.sum + d) % u.n)])) P (.dK (PM (fun k => if k = u.k then u.l * (pre.sum + d) % u.n else f' k) ts))) S = some (.lst (rs.map V.ref)) := by
      rw [upd_ne (ne_of r1 eP1 (by intro z; cases z))]
      exact upd_old r1 hq
    have rb2 : StP (upd (upd H' q (.tup [.int (gCount u pre.sum d), .int (u.l * (pre.sum + d) % u.n)])) P (.dK (PM (fun k => if k = u.k then u.l * (pre.sum + d) % u.n else f' k) ts))) rs _ := r2.mono fun r xs e => by
      rw [upd_ne (ne_of e eP1 (by intro z; cases z))]
      exact upd_old e hq
    generalize upd (upd H' q (.tup [.int (gCount u pre.sum d), .int (u.l * (pre.sum + d) % u.n)])) P (.dK (PM (fun k => if k = u.k then u.l * (pre.sum + d) % u.n else f' k) ts)) = Hb at sb gb eb rb1 rb2
    have fl : (ts.take (i + 1)).flatMap (gOne pre.sum d) = (ts.take i).flatMap (gOne pre.sum d) ++ gOne pre.sum d u := by
      rw [take_at et, List.flatMap_append, List.flatMap_cons, List.flatMap_nil, List.append_nil]
    have lrs : rs.length ≤ 5000 := by
      rw [Paired.length r2, List.length_append, List.length_append, List.length_singleton]
      have h1 := gFlat_len pre.sum d (ts.take i)
      rw [List.length_take] at h1
      have := hf.g.1
      omega
    refine ⟨_, rfl, _, _, rfl, rfl, _, rfl, ite2 (fun hc => ?_) (fun hc => ?_)⟩
    · have hc : 0 < gCount u pre.sum d := of_decide_eq_true hc
      refine ⟨_, rfl, .inl ⟨rfl, _, SqL.of rb1⟩, _, rfl, _, rfl, by show 2 ≤ sizeLine; decide, fun q2 hq2 => ⟨S, _, _, rfl, rfl, upd_old rb1 hq2, by rw [List.length_map]; exact small3 (by omega), ?_⟩⟩
      obtain ⟨sc, gc, ec, stc⟩ := ap_step (z := u.k) (c := gCount u pre.sum d) hS fS sb gb eb rb1 rb2 hq2
      refine ⟨_, _, _, _, _, sc, gc, ec, hf2, ?_, rfl⟩
      rw [fl, show gOne pre.sum d u = [(u.k, gCount u pre.sum d)] from if_pos hc, ← List.append_assoc]
      exact stc
    · have hc : ¬ 0 < gCount u pre.sum d := fun z => hc (decide_eq_true z)
      refine ⟨_, _, _, _, _, sb, gb, eb, hf2, ?_, rfl⟩
      rw [fl, show gOne pre.sum d u = [] from if_neg hc, List.append_nil]
      exact ⟨rs, rb1, rb2⟩
  · rintro σ' H' ⟨f', y3, y6, y7, y8, s1, g1, eP1, hf1, hst1, rfl⟩
    rw [List.length_map, h2] at hf1 hst1
    rw [List.take_length] at hst1
    refine ⟨pre ++ [d], post', f', y3, _, y6, y7, y8, by rw [List.map_append]; rfl, by rw [List.append_assoc]; exact hpre', s1, g1, eP1, fun u hu => ?_, ?_, rfl⟩
    · obtain ⟨j, hj⟩ := List.mem_iff_getElem?.mp hu
      rw [hf1 j u hj, if_pos (lt_of_at hj), List.sum_append, List.sum_cons, List.sum_nil, Int.add_zero]
    · rw [gAll_snoc, Int.zero_add]
      unfold gRound
      rw [List.append_assoc] at hst1
      exact hst1
end
end EB

namespace EB
open PySem PySem.Spec PyProof.Rows L2
section
variable {w : World} {K : PySem.W.Frag} {mg : Str → Option Value} {base : Heap} (T : Tx K mg)
include T
/-- InvalidOffer(i), its own __init__ -/
def spXI (K : PySem.W.Frag) : Sp := fun vs H Q _ => ∃ (a : Addr) (i : Int), vs = [.ref a, .int i] ∧ 0 ≤ i ∧ i < 4 ∧ H a = some (exo a (He.ga K "InvalidOffer") none) ∧
  ∀ dx, H dx = none → dx ≠ a → Q .non (upd (upd H dx (exd dx [("index", .int i)])) a (exo a (He.ga K "InvalidOffer") (some dx)))
theorem okX_InvalidOffer_init (hK : K.In base) : ∃ fd, FnOk PX w K mg base CX0 1 (a_InvalidOffer_init K) fd ["self", "index"] (spXI K) ∧ Binds K fd ["self", "index"] [] := by
  obtain ⟨fd, F⟩ := T.S_InvalidOffer_init
  refine ⟨fd, ?_, ?_⟩
  · refine FnOk.imp (sup_of (CX := CX0) (P := PX) (w := w) (base := base) (k := 0) (tA := ?tA) (tB := tOst K "index" (tVar 0) (tVar 1)) sc_InvalidOffer_init F ?hc ?hA ?hS) ?im
    case hc =>
      obtain ⟨cl, cld, csl, hc⟩ := F.cell
      exact ⟨_, _, hK _ _ hc, rfl⟩
    case hA =>
      intro A outer s H E
      exact pa_cons (X := supCx CX0 PX w K mg base "index" "InvalidOffer.__init__" (defScope s_InvalidOffer_init) (a_InvalidOffer_init K) (.ref (codeA K (a_InvalidOffer_init K))) (cellA K (a_InvalidOffer_init K)) A outer s H E) (pe_joined (.cons pe_str (.cons (pe_fmt (pv (X := supCx CX0 PX w K mg base "index" "InvalidOffer.__init__" (defScope s_InvalidOffer_init) (a_InvalidOffer_init K) (.ref (codeA K (a_InvalidOffer_init K))) (cellA K (a_InvalidOffer_init K)) A outer s H E) 1)) (.cons pe_str .nil)))) pa_nil
    case hS =>
      intro A outer s H E
      exact pss_one (X := supCx CX0 PX w K mg base "index" "InvalidOffer.__init__" (defScope s_InvalidOffer_init) (a_InvalidOffer_init K) (.ref (codeA K (a_InvalidOffer_init K))) (cellA K (a_InvalidOffer_init K)) A outer s H E) (ps_ost (pv (X := supCx CX0 PX w K mg base "index" "InvalidOffer.__init__" (defScope s_InvalidOffer_init) (a_InvalidOffer_init K) (.ref (codeA K (a_InvalidOffer_init K))) (cellA K (a_InvalidOffer_init K)) A outer s H E) 0) (pv (X := supCx CX0 PX w K mg base "index" "InvalidOffer.__init__" (defScope s_InvalidOffer_init) (a_InvalidOffer_init K) (.ref (codeA K (a_InvalidOffer_init K))) (cellA K (a_InvalidOffer_init K)) A outer s H E) 1))
    case im =>
      rintro vs H Q E ⟨a, i, rfl, i0, i1, ea, k⟩
      refine ⟨a, .int i, rfl, ea, ?_⟩
      have X := T.x_InvalidOffer
      refine ⟨_, rfl, by decide +kernel, _, rfl, .inr ⟨i, rfl, ?_, _, rfl, ?_, _, rfl, ?_, by show 1 ≤ 1000; decide, ea, _, rfl, _, rfl, a, _, rfl, F.oex, X.idx, .inl ⟨ea, k⟩⟩⟩
      all_goals rcases (show i = 0 ∨ i = 1 ∨ i = 2 ∨ i = 3 by omega) with rfl | rfl | rfl | rfl <;> decide +kernel
  · obtain ⟨oc, od, kV, doc, pm, an, ct, osl, rfl, lk⟩ := F.fn
    exact Binds.all fun us hl => match us, hl with | [_, _], _ => rfl
end
section
variable {w : World} {K : PySem.W.Frag} {mg : Str → Option Value} {base : Heap} {P : Program}
theorem fnRX {d : DD} {fd : FuncData} {N ps : List Str} {k : Nat} {sp : Sp} (F : FnP K d fd) (S : FnScope N ps (defScope d.st)) (e : d.df = [])
    (b : ∀ (kV doc pm : Value) (an : Option Addr) (cdv ct : Value) (us : List Value), us.length = ps.length → bindArgs (PySem.W.fnOf d.nm d.ql (defArgs d.st) (defBody d.st) (defScope d.st) .none kV doc pm an cdv ct) ⟨us, []⟩ = pure (ps.zip us))
    (len : ∀ vs H Q E, sp vs H Q E → vs.length = ps.length)
    (hbody : ∀ (cdv : Value) (A : Around) (outer : List Env) (s : Shared) (H : Hp) (vs : List V) (Q : VK) (E : XK), Room k (A.deeper (envOfC d.ql (defScope d.st) s.heap.objs.size (d.adr K) cdv)) → sp vs H Q E →
      ∃ t, PSs (cxOf (L2.CX P w) P w K mg base N d.ql (defScope d.st) (d.adr K) cdv A outer s H E) (defBody d.st) t ∧ t { nx := fun _ H' => Q .non H', rt := Q } (start N vs) H) :
    FnR P w K mg base (L2.CX P w) (k + 1) (d.adr K) sp := by
  have F1 : FnOk P w K mg base (L2.CX P w) (k + 1) (d.adr K) fd ps sp := FunD.ok F S len fun cdv A outer s H vs Q E hr h => hbody cdv A outer s H vs Q E hr h
  have F2 : FunD K d.nm d.ql (defArgs d.st) (defBody d.st) (defScope d.st) [] [] (d.adr K) fd := by
    have z : FnP K d fd := F
    unfold FnP at z
    rw [e] at z
    exact z
  refine (F1.raw (F2.bindsN b) .nil).imp fun vs H Q E h => ?_
  rw [List.append_nil]
  exact h
end
theorem inV_mem {z : Str} {l : List Str} (h : z ∈ l) : inV (.str z) (l.map V.str) = true := by
  unfold inV
  refine List.any_eq_true.mpr ⟨.str z, List.mem_map_of_mem h, ?_⟩
  show (z == z) = true
  exact beq_self_eq_true _
/-- InvalidOffer(i) raised: its dict is new, nothing else changes -/
theorem mkI {K : PySem.W.Frag} {H : Hp} {i : Nat} {Q : XK} {E : XK} (hi : i < 4) (k : ∀ H' d, Same H H' → H d = none → H' d = some (.xd [("index", .int i)]) → Q (.ref (He.ga K "InvalidOffer")) (some d) H') :
    [V.int (i : Nat)].length ≤ 1000 ∧ ∀ a, H a = none → spXI K (.ref a :: ([V.int (i : Nat)] ++ [])) (upd H a (exo a (He.ga K "InvalidOffer") none))
      (fun v H2 => v = .non ∧ ∃ (d : Addr) (fs : List (Str × V)), H2 a = some (exo a (He.ga K "InvalidOffer") (some d)) ∧ H2 d = some (exd d fs) ∧ H d = none ∧ Q (.ref (He.ga K "InvalidOffer")) (some d) (upd (del H2 a) d (.xd fs))) E := by
  refine ⟨by show 1 ≤ 1000; decide, fun a ha => ⟨a, i, rfl, by omega, by omega, upd_same, fun dx hdx hne => ⟨rfl, dx, [("index", .int i)], upd_same, ?_, (upd_none hdx).2, k _ dx (fun b o e => ?_) (upd_none hdx).2 upd_same⟩⟩⟩
  · rw [upd_ne hne]
    exact upd_same
  · have n1 : b ≠ a := ne_of_none e ha
    have n2 : b ≠ dx := ne_of_none e (upd_none hdx).2
    rw [upd_ne n2, del_ne n1, upd_ne n1, upd_ne n2, upd_ne n1]
    exact e
/-- the first trade that is not allowed -/
def badTr (seen : List Str) : Nat → List Tr → Option Nat
  | _, [] => none
  | i, t :: ts => if i = 3 ∨ t.k ∈ seen ∨ trOk t = false then some i else badTr (seen ++ [t.k]) (i + 1) ts
def badOf (ts : List Tr) : Option Nat := if ts = [] then some 0 else badTr [] 0 ts
section
variable {w : World} {K : PySem.W.Frag} {mg : Str → Option Value} {base : Heap} (T : Tx K mg)
include T
/-- trades with one that is not allowed: InvalidOffer with its index -/
def spBadTr (K : PySem.W.Frag) : Sp := fun vs H _ E => ∃ (a : Addr) (ts : List Tr) (i : Nat), vs = [.ref a] ∧ TrAt K H a ts ∧ ts.length ≤ 5 ∧ (∀ t ∈ ts, t.k.length ≤ 1000) ∧ badOf ts = some i ∧
  ∀ H' d, Same H H' → H d = none → H' d = some (.xd [("index", .int i)]) → E (.ref (He.ga K "InvalidOffer")) (some d) H'
theorem okX_check_trades (hK : K.In base) : FnR PX w K mg base (L2.CX PX w) 4 (a_check_trades K) (spBadTr K) := by
  obtain ⟨fdI, F_InvalidOffer, B_InvalidOffer⟩ := okX_InvalidOffer_init (w := w) T hK
  have O_InvalidOffer : OexC K (He.ga K "InvalidOffer") := T.S_InvalidOffer_init.elim fun _ F => F.oex
  refine fnRX (d := d_check_trades) T.F_check_trades sc_check_trades rfl (fun _ _ _ _ _ _ us hl => match us, hl with | [_], _ => rfl) (fun vs H Q E h => ?_) (fun cdv A outer s H vs Q E hr h => ?_)
  · obtain ⟨a, ts, i, rfl, _⟩ := h
    rfl
  obtain ⟨a, ts, n, rfl, hT, hl, hz, hbad, k⟩ := h
  obtain ⟨ps, h1, h2, h3⟩ := hT.ex
  obtain ⟨uE, hE⟩ := T.v_Offer_MAX_TRADES
  refine ⟨_, (pss_cons (ps_if (pt_not (pt_truth (pv 0) (by intro _; rfl))) (pss_one (ps_raise rfl (takes_of rfl rfl rfl rfl) (pmk_oex O_InvalidOffer T.x_InvalidOffer.ini T.x_InvalidOffer.tyi F_InvalidOffer (hr.mono (by decide)) B_InvalidOffer .nil pass0 (by rfl) T.g_InvalidOffer (pa_cons pe_int pa_nil)))) pss_nil) (pss_cons (ps_set (i := 1) sc_check_trades.nd rfl (Or.inl rfl) (pe_lst pa_nil)) (pss_one (ps_for (passes_of rfl) rfl (pi_enumT (by rfl) T.n_enumerate (pa_cons (pv 0) pa_nil)) (pg_tup rfl (pgs_cons (pg_name (i := 2) sc_check_trades.nd rfl (Or.inl rfl)) (pgs_cons (pg_tup rfl (pgs_cons (pg_name (i := 3) sc_check_trades.nd rfl (Or.inl rfl)) (pgs_cons (pg_name (i := 4) sc_check_trades.nd rfl (Or.inl rfl)) (pgs_cons (pg_name (i := 5) sc_check_trades.nd rfl (Or.inl rfl)) pgs_nil)))) pgs_nil))) (pss_cons (ps_if (PW.pt (pw_or (pt_cmpR op_eq (pv 2) (ClX.pe_cval (pe_cC T.g_Offer)) (nomark _)) (pw_or (pt_cmpR op_in_seq (pv 3) (pv 1) rfl) (pw_or1 (pt_not (pt_val (pe_cR (ok_is_trade T) (hr.mono (by decide)) T.F_is_trade.kp T.g_is_trade pass0 (pa_cons (pv 3) (pa_cons (pv 4) (pa_cons (pv 5) pa_nil)))))))))) (pss_one (ps_raise rfl (takes_of rfl rfl rfl rfl) (pmk_oex O_InvalidOffer T.x_InvalidOffer.ini T.x_InvalidOffer.tyi F_InvalidOffer (hr.mono (by decide)) B_InvalidOffer .nil pass0 (by rfl) T.g_InvalidOffer (pa_cons (pv 2) pa_nil)))) pss_nil) (pss_one (ps_expr (pe_bm PySem.F.plainAttrs_list PySem.F.slot_list_append PySem.F.type_list_append mt_append (pv 1) (pa_cons (pv 3) pa_nil))))))))), ?_⟩
  cases hts : ts with
  | nil =>
    subst hts
    have hps : ps = [] := List.length_eq_zero_iff.mp h2
    subst hps
    have hn : n = 0 := (Option.some.inj hbad).symm
    subst hn
    refine ⟨_, rfl, false, .inr (.inl ⟨_, h1, rfl⟩), iteT ?_⟩
    exact mkI (i := 0) (by decide) k
  | cons t0 tr =>
  have hne : ts ≠ [] := fun z => by
    rw [hts] at z
    cases z
  have hps : (ps.map V.ref).isEmpty = false := by
    cases ps with
    | nil =>
      rw [hts] at h2
      cases h2
    | cons _ _ => rfl
  unfold badOf at hbad
  rw [if_neg hne] at hbad
  refine ⟨_, rfl, true, .inr (.inl ⟨_, h1, by rw [hps]; rfl⟩), iteF ?_⟩
  refine ⟨Nat.zero_le _, fun p hp => ?_⟩
  refine ⟨_, rfl, a, _, rfl, Same.tup (same_new hp) h1, for_it (walk_enumT (K := K) (a := a) (xs := ps.map V.ref)) (fun i σ H1 => Same H H1 ∧ H1 p = some (.lst (((ts.take i).map Tr.k).map V.str)) ∧ badTr ((ts.take i).map Tr.k) i (ts.drop i) = some n ∧ i ≤ 3 ∧ ∃ x2 x3 x4 x5, σ = [some (.ref a), some (.ref p), x2, x3, x4, x5])
    ⟨same_new hp, upd_same, hbad, Nat.zero_le _, _, _, _, _, rfl⟩ (fun i σ H1 _ q => Same.tup q.1 h1) ?_ ?_⟩
  · rintro i x σ H1 H2 hi ⟨s1, e1, hb, hi3', x2, x3, x4, x5, rfl⟩ ⟨q, u, v, rfl, nq, rfl, eu, ev⟩
    cases eu
    obtain ⟨pt, t, rfl, ep, et, hm, li, hpt⟩ := TrAt.at_ h2 h3 ev
    have s2 : Same H (upd H1 q (.tup [.int (i : Nat), .ref pt])) := s1.trans (same_new nq)
    have e2 := upd_old (u := .tup [.int (i : Nat), .ref pt]) e1 nq
    have hdrop : ts.drop i = t :: ts.drop (i + 1) := by
      rw [List.drop_eq_getElem_cons li]
      rw [List.getElem?_eq_getElem li] at et
      rw [Option.some.inj et]
    rw [hdrop] at hb
    unfold badTr at hb
    generalize hH2 : upd H1 q (.tup [.int (i : Nat), .ref pt]) = H2 at s2 e2
    have raise : ∀ H3, Same H2 H3 → (i = 3 ∨ t.k ∈ (ts.take i).map Tr.k ∨ trOk t = false) → i < 4 ∧ (∀ H' d, Same H3 H' → H3 d = none → H' d = some (.xd [("index", .int i)]) → E (.ref (He.ga K "InvalidOffer")) (some d) H') := fun H3 s3 hc => by
      rw [if_pos hc] at hb
      have hn : i = n := Option.some.inj hb
      subst hn
      refine ⟨by omega, fun H' d s4 n4 e4 => k H' d (s2.trans (s3.trans s4)) ?_ e4⟩
      exact (s2.trans s3).free n4
    refine ⟨q, _, rfl, SqT.of (by rw [← hH2]; exact upd_same), rfl, _, _, rfl, _, _, rfl, ⟨pt, _, rfl, Same.tup s2 hpt, rfl, _, _, rfl, _, _, rfl, _, _, rfl, rfl, rfl, ?_⟩⟩
    refine ⟨_, rfl, He.ga K "Offer", _, _, _, rfl, T.r_Offer, hE, rfl, _, rfl, ite2 (fun hd => ?_) (fun hd3 => ?_)⟩
    · have hd := V.int.inj (of_decide_eq_true hd)
      obtain ⟨r1, r2⟩ := raise H2 (Same.refl _) (.inl (by omega))
      exact ⟨_, rfl, mkI r1 r2⟩
    have hi3 : i ≠ 3 := fun z => hd3 (decide_eq_true (by rw [z]; rfl))
    refine ⟨_, rfl, _, rfl, p, _, rfl, .inl (SqL.of e2), rfl, flat_str _, _, rfl, ite2 (fun hd => ?_) (fun hdn => ?_)⟩
    · have hin : t.k ∈ (ts.take i).map Tr.k := Classical.byContradiction fun z => by
        rw [if_neg Bool.false_ne_true, inV_str z] at hd
        cases hd
      obtain ⟨r1, r2⟩ := raise H2 (Same.refl _) (.inr (.inl hin))
      exact ⟨_, rfl, mkI r1 r2⟩
    have hni : t.k ∉ (ts.take i).map Tr.k := fun z => hdn (by rw [if_neg Bool.false_ne_true]; exact inV_mem z)
    refine ⟨_, rfl, _, rfl, _, rfl, t, rfl, hz _ hm, fun H3 s3 => ⟨_, rfl, ite2 (fun hd => ?_) (fun hd => ?_)⟩⟩
    · obtain ⟨r1, r2⟩ := raise H3 s3 (.inr (.inr (by simpa using hd)))
      exact ⟨_, rfl, mkI r1 r2⟩
    have hok : trOk t = true := by simpa using hd
    rw [if_neg (by rw [hok]; simp only [hi3, hni, false_or]; exact Bool.noConfusion)] at hb
    have e3 := s3 _ _ e2
    refine ⟨_, rfl, .inl ⟨rfl, _, SqL.of e3⟩, _, rfl, p, _, _, rfl, rfl, e3, small3 ?_, same_mut (s2.trans s3) hp, ?_, ?_, by omega, _, _, _, _, rfl⟩
    · rw [List.length_map, List.length_map, List.length_take]
      omega
    · rw [upd_same, take_at et, List.map_append, List.map_append]
      rfl
    · rw [take_at et, List.map_append]
      exact hb
  · rintro σ H1 ⟨s1, e1, hb, _, x2, x3, x4, x5, rfl⟩
    rw [List.length_map, h2, List.drop_length] at hb
    cases hb
/-- trades that give too much: TooGenerous -/
def spBadGen (K : PySem.W.Frag) : Sp := fun vs H _ E => ∃ (a : Addr) (ts : List Tr), vs = [.ref a] ∧ TrAt K H a ts ∧ gds ts ∧ ¬ 10 * worth ts ≤ 9 * 27720 ∧ ∀ H', Same H H' → E (.ref (He.ga K "TooGenerous")) none H'
theorem okX_check_generosity (hK : K.In base) : FnR PX w K mg base (L2.CX PX w) 2 (a_check_generosity K) (spBadGen K) := by
  refine fnRX (d := d_check_generosity) T.F_check_generosity sc_check_generosity rfl (fun _ _ _ _ _ _ us hl => match us, hl with | [_], _ => rfl) (fun vs H Q E h => ?_) (fun cdv A outer s H vs Q E hr h => ?_)
  · obtain ⟨a, ts, rfl, _⟩ := h
    rfl
  obtain ⟨a, ts, rfl, hT, hg, hw0, k⟩ := h
  obtain ⟨ps, h1, h2, h3⟩ := hT.ex
  refine ⟨_, (pss_cons (ps_set (i := 1) sc_check_generosity.nd rfl (Or.inr rfl) pe_int) (pss_cons (ps_for (passes_of rfl) rfl (pi_tup (pv 0)) (pg_tup rfl (pgs_cons (pg_name (i := 2) sc_check_generosity.nd rfl (Or.inl rfl)) (pgs_cons (pg_name (i := 2) sc_check_generosity.nd rfl (Or.inl rfl)) (pgs_cons (pg_name (i := 3) sc_check_generosity.nd rfl (Or.inl rfl)) pgs_nil)))) (pss_one (ps_set (i := 1) sc_check_generosity.nd rfl (Or.inr rfl) (pe_callBfun cr_lcm (by rfl) T.b_lcm (pa_cons (pv 1) (pa_cons (pv 3) pa_nil)))))) (pss_cons (ps_set (i := 4) sc_check_generosity.nd rfl (Or.inl rfl) (pe_callB (cr_sum rfl) (by rfl) T.n_sum (by decide +kernel) (pa_cons (pe_lc (own := [("_", 2), ("left", 5), ("needed", 3)]) rfl sc_check_generosity.nd (pi_tup (pv 0)) (blkOk_by (own := [("_", 2), ("left", 5), ("needed", 3)]) (N := N_check_generosity) (sc := defScope s_check_generosity) (by decide +kernel)) (fun _ _ _ _ _ => (pg_tupB (n := 3) (pgs_cons (pg_name (i := 2) sc_check_generosity.nd rfl (Or.inl rfl) (.inr rfl)) (pgs_cons (pg_name (i := 5) sc_check_generosity.nd rfl (Or.inl rfl) (.inr rfl)) (pgs_cons (pg_name (i := 3) sc_check_generosity.nd rfl (Or.inl rfl) (.inr rfl)) pgs_nil))))) (fun _ _ _ _ _ => pts_nil) (fun _ _ _ _ _ => (pe_op op_mul (pe_op op_fdiv (pv 1) (pv 3)) (pv 5)))) pa_nil))) (pss_one (ps_if (pt_cmpR op_gt (pe_op op_mul pe_int (pv 4)) (pe_op op_mul pe_int (pv 1)) (nomark _)) (pss_one (ps_raise rfl (takes_of rfl rfl rfl rfl) (pmk_own PySem.F.excBase_ValueError T.x_TooGenerous.own T.g_TooGenerous T.x_TooGenerous.keep (raises_own T.x_TooGenerous.base T.x_TooGenerous.ty) (by rfl)))) pss_nil))))), ?_⟩
  refine ⟨_, rfl, a, rfl, ⟨_, h1⟩, for_tup (xs := ps.map V.ref) (fun i σ H1 => H1 = H ∧ ∃ x2 x3 x4 x5, σ = [some (.ref a), some (.int (((ts.take i).foldl wholeS 1 : Nat) : Int)), x2, x3, x4, x5]) ⟨rfl, _, _, _, _, rfl⟩ (fun i σ H1 _ q => by rw [q.1]; exact h1) ?_ ?_⟩
  · rintro i x σ H1 hx ⟨rfl, x2, x3, x4, x5, rfl⟩
    obtain ⟨p, t, rfl, ep, et, hm, li, hp⟩ := TrAt.at_ h2 h3 hx
    have ht := hg.2 _ hm
    refine ⟨p, _, rfl, hp, rfl, _, _, rfl, _, _, rfl, _, _, rfl, rfl, ?_⟩
    refine ⟨_, rfl, _, rfl, _, _, rfl, ?_, ?_, rfl, some (.int t.l), some (.int t.n), x4, x5, ?_⟩
    · have := wholeF_most hg i
      exact Nat.lt_of_le_of_lt (by omega : _ ≤ 1728) (by decide)
    · have := ht.2.2.1
      have := ht.2.2.2
      exact Nat.lt_of_le_of_lt (by omega : _ ≤ 12) (by decide)
    · rw [take_at et, List.foldl_append]
      rfl
  · rintro σ H1 ⟨rfl, x2, x3, x4, x5, rfl⟩
    have ew : (ts.take (ps.map V.ref).length).foldl wholeS 1 = wholeF ts := by
      rw [List.length_map, h2, List.take_length]
      rfl
    rw [ew]
    have hw : wholeF ts ≤ 1728 := by
      have := wholeF_most hg ts.length
      rw [List.take_length] at this
      exact this
    refine ⟨_, rfl, a, rfl, ⟨_, h1⟩, fun D hD => ?_⟩
    refine lc_tup (xs := ps.map V.ref) (fun i H2 => Same H1 H2 ∧ H1 D = none ∧ H2 D = some (.lst ((ts.take i).map fun t => V.int ((wholeF ts : Int) / t.n * t.l)))) ⟨same_new hD, hD, upd_same⟩ (fun i H2 _ q => Same.tup q.1 h1) ?_ ?_
    · rintro i x H2 hx ⟨s1, n1, e1⟩
      obtain ⟨p, t, rfl, ep, et, hm, li, hp⟩ := TrAt.at_ h2 h3 hx
      have ht := hg.2 _ hm
      refine ⟨p, _, rfl, Same.tup s1 hp, rfl, _, _, rfl, _, _, rfl, _, _, rfl, rfl, rfl, ?_⟩
      refine ⟨_, rfl, _, rfl, _, _, rfl, rfl, ⟨by have := ht.2.2.1; omega, by have := ht.2.2.2; omega⟩, _, rfl, _, _, rfl, rfl, .inr ⟨by have := ht.1; omega, by have := ht.2.1; omega⟩, ?_⟩
      refine ⟨_, e1, small3 ?_, same_mut s1 n1, n1, ?_⟩
      · rw [List.length_map, List.length_take]
        have := hg.1
        omega
      · rw [upd_same, take_at et, List.map_append]
        rfl
    · rintro H2 ⟨s1, n1, e1⟩
      refine ⟨D, ts.map fun t => (wholeF ts : Int) / t.n * t.l, rfl, SqL.of ?_, ?_⟩
      · rw [e1, List.length_map, h2, List.take_length, List.map_map]
        rfl
      · refine ⟨_, rfl, _, _, rfl, rfl, .inl ⟨by decide, by decide⟩, _, rfl, _, _, rfl, rfl, .inl ⟨by decide, by decide⟩, _, _, rfl, rfl, _, rfl, ite2 (fun _ => k _ s1) (fun hd => ?_)⟩
        exfalso
        have hd : ¬ 9 * (wholeF ts : Int) < 10 * parts ts := fun z => hd (decide_eq_true z)
        exact hw0 ((parts_fair hg).mp (by omega))
end
section
variable {w : World} {K : PySem.W.Frag} {mg : Str → Option Value} {base : Heap} {P : Program}
theorem fnRSX {d : DD} {fd : FuncData} {N ps : List Str} {pv : Str} {k : Nat} {sp : Sp} (F : FnP K d fd) (S : FnScope N (ps ++ [pv]) (defScope d.st)) (e : d.df = [])
    (b : ∀ (kV doc pm : Value) (an : Option Addr) (cdv ct : Value) (us rest : List Value), us.length = ps.length → bindArgs (PySem.W.fnOf d.nm d.ql (defArgs d.st) (defBody d.st) (defScope d.st) .none kV doc pm an cdv ct) ⟨us ++ rest, []⟩ = (newTuple rest >>= fun t => pure (ps.zip us ++ [(pv, t)])))
    (hbody : ∀ (cdv : Value) (A : Around) (outer : List Env) (s : Shared) (H : Hp) (vs : List V) (Q : VK) (E : XK), Room k (A.deeper (envOfC d.ql (defScope d.st) s.heap.objs.size (d.adr K) cdv)) → sp vs H Q E →
      ∃ t, PSs (cxOf (L2.CX P w) P w K mg base N d.ql (defScope d.st) (d.adr K) cdv A outer s H E) (defBody d.st) t ∧ t { nx := fun _ H' => Q .non H', rt := Q } (start N vs) H) :
    FnR P w K mg base (L2.CX P w) (k + 1) (d.adr K) (fun vs H Q E => ∃ ws rest, vs = ws ++ rest ∧ ws.length = ps.length ∧ rest.length ≤ sizeLine ∧ ∀ p, H p = none → sp (ws ++ [V.ref p]) (upd H p (.tup rest)) Q E) := by
  have z : FnP K d fd := F
  unfold FnP at z
  rw [e] at z
  obtain ⟨oc, od, dV, kV, doc, pm, an, cdv, ct, osl, rfl, lk, hcd, hD, hK⟩ := z.ex
  have hdV : dV = .none := by
    rcases hD with ⟨_, h⟩ | ⟨h, _⟩
    · exact h
    · exact absurd rfl h
  subst hdV
  exact StX.fn_star lk hcd S StX.cxUp (fun us rest hl => b kV doc pm an cdv ct us rest hl) fun A outer s H vs Q E hr h => hbody cdv A outer s H vs Q E hr h
end
section
variable {w : World} {K : PySem.W.Frag} {mg : Str → Option Value} {base : Heap} (T : Tx K mg)
include T
/-- an offer that is refused -/
def spInitX (K : PySem.W.Frag) : Sp := fun vs H _ E => ∃ (x p : Addr) (H0 : Hp) (ts : List Tr), vs = [.ref x, .ref p] ∧ Same H0 H ∧ TrAt K H0 p ts ∧
  ((ts.length ≤ 5 ∧ (∀ t ∈ ts, t.k.length ≤ 1000) ∧ ∃ i : Nat, badOf ts = some i ∧ ∀ H' d, Same H0 H' → H0 d = none → H' d = some (.xd [("index", .int i)]) → E (.ref (He.ga K "InvalidOffer")) (some d) H') ∨
    (gds ts ∧ ts ≠ [] ∧ nmOk ts ∧ ¬ 10 * worth ts ≤ 9 * 27720 ∧ ∀ H', Same H0 H' → E (.ref (He.ga K "TooGenerous")) none H'))
theorem okX_Offer_init (hK : K.In base) : FnR PX w K mg base (L2.CX PX w) 6 (a_Offer_init K) (fun vs H Q E => ∃ ws rest, vs = ws ++ rest ∧ ws.length = 1 ∧ rest.length ≤ sizeLine ∧ ∀ p, H p = none → spInitX K (ws ++ [V.ref p]) (upd H p (.tup rest)) Q E) := by
  refine fnRSX (d := d_Offer_init) (ps := ["self"]) T.F_Offer_init sc_Offer_init rfl (fun kV doc pm an cdv ct => StX.bind_star1 (B := fun us => bindArgs (PySem.W.fnOf d_Offer_init.nm d_Offer_init.ql (defArgs d_Offer_init.st) (defBody d_Offer_init.st) (defScope d_Offer_init.st) .none kV doc pm an cdv ct) ⟨us, []⟩) (fun _ => rfl) (fun _ _ _ => rfl)) (fun cdv A outer s H vs Q E hr h => ?_)
  obtain ⟨x, p, H0, ts, rfl, s0, hT0, h⟩ := h
  rcases h with ⟨hl, hz, i, hb, k⟩ | ⟨hg, hne, hnm, hw, k⟩
  · refine ⟨_, (pss_cons (ps_expr (pe_cR (okX_check_trades T hK) (hr.mono (by decide)) T.F_check_trades.kp T.g_check_trades (passes_call (takes_of rfl rfl rfl rfl) (fun _ _ _ _ h => h)) (pa_cons (pv 1) pa_nil))) (pss_cons (ps_expr (pe_cR (ok_check_generosity T) (hr.mono (by decide)) T.F_check_generosity.kp T.g_check_generosity pass0 (pa_cons (pv 1) pa_nil))) (pss_cons (ps_fld (pv 0) (pe_callTy call_tuple_of (by rfl) T.n_tuple (by decide +kernel) (pa_cons (pe_lc (own := [("kind", 3), ("left", 4), ("needed", 5)]) rfl sc_Offer_init.nd (pi_tup (pv 1)) (blkOk_by (own := [("kind", 3), ("left", 4), ("needed", 5)]) (N := N_Offer_init) (sc := defScope s_Offer_init) (by decide +kernel)) (fun _ _ _ _ _ => (pg_tupB (n := 3) (pgs_cons (pg_name (i := 3) sc_Offer_init.nd rfl (Or.inl rfl) (.inr rfl)) (pgs_cons (pg_name (i := 4) sc_Offer_init.nd rfl (Or.inl rfl) (.inr rfl)) (pgs_cons (pg_name (i := 5) sc_Offer_init.nd rfl (Or.inl rfl) (.inr rfl)) pgs_nil))))) (fun _ _ _ _ _ => pts_nil) (fun _ _ _ _ _ => (pe_tup (pa_cons (pv 3) (pa_cons (pv 4) (pa_cons (pv 5) pa_nil)))))) pa_nil)) rfl) (pss_cons (ps_set (i := 2) sc_Offer_init.nd rfl (Or.inl rfl) (pe_cR (ok_drinks_of_period T) (hr.mono (by decide)) T.F_drinks_of_period.kp T.g_drinks_of_period pass0 (pa_cons (pv 1) pa_nil))) (pss_cons (ps_fld (pv 0) (pe_tup (pa_cons (pe_cR (ok_cost_of T) (hr.mono (by decide)) T.F_cost_of.kp T.g_cost_of pass0 (pa_cons (pv 1) (pa_cons (pv 2) pa_nil))) (pa_cons (pv 2) pa_nil))) rfl) (pss_cons (ps_fld (pv 0) (pe_cR (ok_tops_of T) (hr.mono (by decide)) T.F_tops_of.kp T.g_tops_of pass0 (pa_cons (pe_lc (own := [("count", 6)]) rfl sc_Offer_init.nd (pi_range1 rfl T.n_range (pa_cons (pe_op op_mul pe_int (pv 2)) pa_nil)) (blkOk_by (own := [("count", 6)]) (N := N_Offer_init) (sc := defScope s_Offer_init) (by decide +kernel)) (fun _ _ _ _ _ => (pg_name (i := 6) sc_Offer_init.nd rfl (Or.inl rfl) (.inr rfl))) (fun _ _ _ _ _ => pts_nil) (fun _ _ _ _ _ => (pe_cR (ok_cost_of T) (hr.mono (by decide)) T.F_cost_of.kp T.g_cost_of pass0 (pa_cons (pv 1) (pa_cons (pv 6) pa_nil))))) pa_nil)) rfl) (pss_cons (ps_fld (pv 0) (pe_cR (ok_firsts_of T) (hr.mono (by decide)) T.F_firsts_of.kp T.g_firsts_of pass0 (pa_cons (pe_fld (pv 0) rfl) pa_nil)) rfl) (pss_one (ps_fld (pv 0) (pe_cR (ok_gaps_of T) (hr.mono (by decide)) T.F_gaps_of.kp T.g_gaps_of pass0 (pa_cons (pe_fld (pv 0) rfl) (pa_cons (pe_fld (pv 0) rfl) pa_nil))) rfl))))))))), ?_⟩
    refine ⟨_, rfl, p, ts, i, rfl, hT0.mono s0, hl, hz, hb, fun H' d s1 n1 e1 => k H' d (s0.trans s1) (s0.free n1) e1⟩
  · refine ⟨_, (pss_cons (ps_expr (pe_cR (ok_check_trades T) (hr.mono (by decide)) T.F_check_trades.kp T.g_check_trades pass0 (pa_cons (pv 1) pa_nil))) (pss_cons (ps_expr (pe_cR (okX_check_generosity T hK) (hr.mono (by decide)) T.F_check_generosity.kp T.g_check_generosity (passes_call (takes_of rfl rfl rfl rfl) (fun _ _ _ _ h => h)) (pa_cons (pv 1) pa_nil))) (pss_cons (ps_fld (pv 0) (pe_callTy call_tuple_of (by rfl) T.n_tuple (by decide +kernel) (pa_cons (pe_lc (own := [("kind", 3), ("left", 4), ("needed", 5)]) rfl sc_Offer_init.nd (pi_tup (pv 1)) (blkOk_by (own := [("kind", 3), ("left", 4), ("needed", 5)]) (N := N_Offer_init) (sc := defScope s_Offer_init) (by decide +kernel)) (fun _ _ _ _ _ => (pg_tupB (n := 3) (pgs_cons (pg_name (i := 3) sc_Offer_init.nd rfl (Or.inl rfl) (.inr rfl)) (pgs_cons (pg_name (i := 4) sc_Offer_init.nd rfl (Or.inl rfl) (.inr rfl)) (pgs_cons (pg_name (i := 5) sc_Offer_init.nd rfl (Or.inl rfl) (.inr rfl)) pgs_nil))))) (fun _ _ _ _ _ => pts_nil) (fun _ _ _ _ _ => (pe_tup (pa_cons (pv 3) (pa_cons (pv 4) (pa_cons (pv 5) pa_nil)))))) pa_nil)) rfl) (pss_cons (ps_set (i := 2) sc_Offer_init.nd rfl (Or.inl rfl) (pe_cR (ok_drinks_of_period T) (hr.mono (by decide)) T.F_drinks_of_period.kp T.g_drinks_of_period pass0 (pa_cons (pv 1) pa_nil))) (pss_cons (ps_fld (pv 0) (pe_tup (pa_cons (pe_cR (ok_cost_of T) (hr.mono (by decide)) T.F_cost_of.kp T.g_cost_of pass0 (pa_cons (pv 1) (pa_cons (pv 2) pa_nil))) (pa_cons (pv 2) pa_nil))) rfl) (pss_cons (ps_fld (pv 0) (pe_cR (ok_tops_of T) (hr.mono (by decide)) T.F_tops_of.kp T.g_tops_of pass0 (pa_cons (pe_lc (own := [("count", 6)]) rfl sc_Offer_init.nd (pi_range1 rfl T.n_range (pa_cons (pe_op op_mul pe_int (pv 2)) pa_nil)) (blkOk_by (own := [("count", 6)]) (N := N_Offer_init) (sc := defScope s_Offer_init) (by decide +kernel)) (fun _ _ _ _ _ => (pg_name (i := 6) sc_Offer_init.nd rfl (Or.inl rfl) (.inr rfl))) (fun _ _ _ _ _ => pts_nil) (fun _ _ _ _ _ => (pe_cR (ok_cost_of T) (hr.mono (by decide)) T.F_cost_of.kp T.g_cost_of pass0 (pa_cons (pv 1) (pa_cons (pv 6) pa_nil))))) pa_nil)) rfl) (pss_cons (ps_fld (pv 0) (pe_cR (ok_firsts_of T) (hr.mono (by decide)) T.F_firsts_of.kp T.g_firsts_of pass0 (pa_cons (pe_fld (pv 0) rfl) pa_nil)) rfl) (pss_one (ps_fld (pv 0) (pe_cR (ok_gaps_of T) (hr.mono (by decide)) T.F_gaps_of.kp T.g_gaps_of pass0 (pa_cons (pe_fld (pv 0) rfl) (pa_cons (pe_fld (pv 0) rfl) pa_nil))) rfl))))))))), ?_⟩
    refine ⟨_, rfl, p, ts, rfl, hT0.mono s0, hg, hne, hnm, fun H1 s1 => ?_⟩
    exact ⟨_, rfl, p, ts, rfl, hT0.mono (s0.trans s1), hg, hw, fun H' s2 => k H' (s0.trans (s1.trans s2))⟩
end
end EB


namespace EB
open PySem PySem.Spec PyProof.Rows L2
section
variable {X : Cx} {CX : CXT} {k : Nat} {C f : Addr} {sp : Sp} {E : XK} {x : PySem.Str} {p pos : Pos}
/-- C(), all that is asked of no argument -/
theorem pe_makeR0 (M : Mk X.K C f) (F : FnR X.prog X.w X.K X.mg X.base CX k f sp) (hr : Room (k + 1) X.A) (hg : Gl X x) (hm : X.mg x = some (.ref C)) (hx : Passes CX X E) (hdb : (x == ("__debug__" : Str)) = false := by decide) :
    PE X (.Call (.Name x p) [] [] pos) (StX.tMakeR C sp E tNil) := by
  refine ⟨fun pins s σ H Q I h => ?_⟩
  refine wpAny_Call_Name_kw (ld_glob I hg hm ?_ hdb)
  exact PySem.W.callWith_K0 I.kIn M.kp (StX.run_makeR (us := []) M F hr hx I .nil h)
end
/-- what becomes of an offer that is refused -/
def Refused (K : PySem.W.Frag) (ts : List Tr) (H : Hp) (E : XK) : Prop :=
  (ts.length ≤ 5 ∧ (∀ t ∈ ts, t.k.length ≤ 1000) ∧ ∃ i : Nat, badOf ts = some i ∧ ∀ H' d, Same H H' → H d = none → H' d = some (.xd [("index", .int i)]) → E (.ref (He.ga K "InvalidOffer")) (some d) H') ∨
    (gds ts ∧ ts ≠ [] ∧ nmOk ts ∧ ¬ 10 * worth ts ≤ 9 * 27720 ∧ ∀ H', Same H H' → E (.ref (He.ga K "TooGenerous")) none H')
theorem makeX_ok {K : PySem.W.Frag} {H : Hp} {ts : List Tr} {ps : List Addr} {Q : VK} {E : XK} {x dx : Addr} (h2 : ps.length = ts.length) (h3 : ∀ (i : Nat) (p : Addr) (t : Tr), ps[i]? = some p → ts[i]? = some t → SqT K H p t.vs)
    (hl : ts.length ≤ 5) (nx : H x = none) (nd : H dx = none) (ned : dx ≠ x) (hr : Refused K ts H E) :
    ∃ ws rest, (V.ref x :: ps.map V.ref) = ws ++ rest ∧ ws.length = 1 ∧ rest.length ≤ sizeLine ∧ ∀ p, (upd (upd H dx (.own x)) x (.ins (He.ga K "Offer") dx [])) p = none →
      spInitX K (ws ++ [V.ref p]) (upd (upd (upd H dx (.own x)) x (.ins (He.ga K "Offer") dx [])) p (.tup rest)) Q E := by
  refine ⟨[.ref x], ps.map V.ref, rfl, rfl, ?_, fun p hp => ?_⟩
  · rw [List.length_map, h2]
    exact Nat.le_trans hl (by decide)
  obtain ⟨npx, hp1⟩ := upd_none hp
  obtain ⟨npd, hp2⟩ := upd_none hp1
  have sH : Same H (upd H p (.tup (ps.map V.ref))) := same_new hp2
  refine ⟨x, p, upd H p (.tup (ps.map V.ref)), ts, rfl, fun b o e => ?_, ⟨ps, SqT.of upd_same, h2, fun i q t a b => Same.tup sH (h3 i q t a b)⟩, ?_⟩
  · by_cases z : b = p
    · rw [z, upd_same] at e
      rw [z, upd_same]
      exact e
    · rw [upd_ne z] at e
      rw [upd_ne z, upd_ne (ne_of_none e nx), upd_ne (ne_of_none e nd)]
      exact e
  · rcases hr with ⟨a, b, i, c, k⟩ | ⟨a, b, c, d, k⟩
    · exact .inl ⟨a, b, i, c, fun H' d s n e => k H' d (sH.trans s) (upd_none n).2 e⟩
    · exact .inr ⟨a, b, c, d, fun H' s => k H' (sH.trans s)⟩
section
variable {P : Program} {w : World} {K : PySem.W.Frag} {mg : Str → Option Value} {base : Heap} {j k : Nat} {f : Addr} {sp sp' : Sp}
theorem fnR_up (F : FnR P w K mg base CX0 k f sp) : FnR P w K mg base (L2.CX P w) k f sp := fun A outer s H us vs Q E hr e0 rv hs => codeAny_mono (F A outer s H us vs Q E hr e0 rv hs) fun r s' h => by
  cases r with
  | error e => exact False.elim h
  | ok fl => cases fl <;> exact h
theorem fnR_or {CX : CXT} (F : FnR P w K mg base CX j f sp) (G : FnR P w K mg base CX k f sp') : FnR P w K mg base CX (max j k) f (fun vs H Q E => sp vs H Q E ∨ sp' vs H Q E) := fun A outer s H us vs Q E hr e0 rv hs => by
  rcases hs with h | h
  · exact F A outer s H us vs Q E (hr.mono (Nat.le_max_left ..)) e0 rv h
  · exact G A outer s H us vs Q E (hr.mono (Nat.le_max_right ..)) e0 rv h
end
section
variable {w : World} {K : PySem.W.Frag} {mg : Str → Option Value} {base : Heap} (T : Tx K mg)
include T
def spOfferX (K : PySem.W.Frag) : Sp := fun vs H _ E => ∃ (p : Addr) (ts : List Tr), vs = [.ref p] ∧ TrAt K H p ts ∧ ts ≠ [] ∧ ts.length ≤ 3 ∧ Refused K ts H E
theorem okX_law_offer (hK : K.In base) : FnR PX w K mg base (L2.CX PX w) 8 (a_law_offer K) (spOfferX K) := by
  refine fnRX (d := d_law_offer) T.F_law_offer sc_law_offer rfl (fun _ _ _ _ _ _ us hl => match us, hl with | [_], _ => rfl) (fun vs H Q E h => ?_) (fun cdv A outer s H vs Q E hr h => ?_)
  · obtain ⟨p, ts, rfl, _⟩ := h
    rfl
  obtain ⟨p, ts, rfl, hT, hne, hl3, k⟩ := h
  obtain ⟨ps, h1, h2, h3⟩ := hT.ex
  refine ⟨_, (pss_cons (ps_if (pt_cmpR op_eq (pe_callB call_len_seq (by rfl) T.n_len PySem.boot_len (pa_cons (pv 0) pa_nil)) pe_int (nomark _)) (pss_one (ps_ret (StX.pe_makeR T.mk_Offer (okX_Offer_init T hK) (hr.mono (by decide)) (by rfl) T.g_Offer (passes_call (takes_of rfl rfl rfl rfl) (fun _ _ _ _ h => h)) (pa_cons (pe_ix ix_tup (pv 0) pe_int (fun _ _ => rfl)) pa_nil)))) pss_nil) (pss_one (ps_ret (pe_ifExp (pt_cmpR op_eq (pe_callB call_len_seq (by rfl) T.n_len PySem.boot_len (pa_cons (pv 0) pa_nil)) pe_int (nomark _)) (StX.pe_makeR T.mk_Offer (okX_Offer_init T hK) (hr.mono (by decide)) (by rfl) T.g_Offer (passes_call (takes_of rfl rfl rfl rfl) (fun _ _ _ _ h => h)) (pa_cons (pe_ix ix_tup (pv 0) pe_int (fun _ _ => rfl)) (pa_cons (pe_ix ix_tup (pv 0) pe_int (fun _ _ => rfl)) pa_nil))) (StX.pe_makeR T.mk_Offer (okX_Offer_init T hK) (hr.mono (by decide)) (by rfl) T.g_Offer (passes_call (takes_of rfl rfl rfl rfl) (fun _ _ _ _ h => h)) (pa_cons (pe_ix ix_tup (pv 0) pe_int (fun _ _ => rfl)) (pa_cons (pe_ix ix_tup (pv 0) pe_int (fun _ _ => rfl)) (pa_cons (pe_ix ix_tup (pv 0) pe_int (fun _ _ => rfl)) pa_nil)))))))), ?_⟩
  refine ⟨_, rfl, p, _, rfl, .inr h1, rfl, _, rfl, ite2 (fun hd => ?_) (fun hd => ?_)⟩
  · have hd : ((ps.map V.ref).length : Int) = 1 := V.int.inj (of_decide_eq_true hd)
    match ps, hd, h1, h2, h3 with
    | [a], _, h1, h2, h3 =>
      refine ⟨_, rfl, p, _, 0, _, rfl, rfl, h1, rfl, fun x dx nx nd ned => ?_⟩
      exact makeX_ok h2 h3 (by omega) nx nd ned k
    | [], hd, _, _, _ => exact absurd hd (by decide)
    | a :: b :: r, hd, _, _, _ =>
      simp only [List.map_cons, List.length_cons] at hd
      omega
  · have hd : ¬ ((ps.map V.ref).length : Int) = 1 := fun z => hd (decide_eq_true (by rw [z]))
    refine ⟨_, rfl, p, _, rfl, .inr h1, rfl, _, rfl, ite2 (fun hd2 => ?_) (fun hd2 => ?_)⟩
    · have hd2 : ((ps.map V.ref).length : Int) = 2 := V.int.inj (of_decide_eq_true hd2)
      match ps, hd2, h1, h2, h3 with
      | [a, b], _, h1, h2, h3 =>
        refine ⟨_, rfl, p, _, 0, _, rfl, rfl, h1, rfl, _, rfl, p, _, 1, _, rfl, rfl, h1, rfl, fun x dx nx nd ned => ?_⟩
        exact makeX_ok h2 h3 (by omega) nx nd ned k
      | [], hd, _, _, _ => exact absurd hd (by decide)
      | [_], hd, _, _, _ => exact absurd hd (by simp)
      | a :: b :: c :: r, hd, _, _, _ =>
        simp only [List.map_cons, List.length_cons] at hd
        omega
    · have hd2 : ¬ ((ps.map V.ref).length : Int) = 2 := fun z => hd2 (decide_eq_true (by rw [z]))
      match ps, hd, hd2, h1, h2, h3 with
      | [a, b, c], _, _, h1, h2, h3 =>
        refine ⟨_, rfl, p, _, 0, _, rfl, rfl, h1, rfl, _, rfl, p, _, 1, _, rfl, rfl, h1, rfl, _, rfl, p, _, 2, _, rfl, rfl, h1, rfl, fun x dx nx nd ned => ?_⟩
        exact makeX_ok h2 h3 (by omega) nx nd ned k
      | [], hd, _, _, h2, _ =>
        cases ts with
        | nil => exact absurd rfl hne
        | cons _ _ => cases h2
      | [_], hd, _, _, _, _ => exact absurd rfl hd
      | [_, _], _, hd, _, _, _ => exact absurd rfl hd
      | a :: b :: c :: d :: r, _, _, _, h2, _ =>
        simp only [List.length_cons] at h2
        omega
end
end EB

namespace EB
open PySem PySem.Spec PyProof.Rows L2
section
variable {X : Cx} {C : Addr} {bmB : List Value} {B newId initId : String}
/-- X(e), a class of errors without an __init__ of its own -/
theorem pmk_ownE {x : Str} {e : Expr} {te : TE} {p pos : Pos} (F : ExcBaseFacts B newId initId bmB) (q : PySem.W.excIn X.K C bmB newId = true) (gC : X.mg x = some (.ref C)) (kC : PySem.W.keepIn X.K (.ref C) = true) (r : Raises X (.ref C)) (hg : Gl X x) (he : PE X e te)
    (na : starEach [e] X.env = (false, eval e X.env) :: starEach [] X.env := by rfl) (hdb : (x == ("__debug__" : Str)) = false := by decide) : PMk X (.Call (.Name x p) [e] [] pos) (fun σ H Q => te σ H fun v H1 => [v].length = 1 ∧ Q (.ref C) none H1) := by
  intro pins s σ H Q I h
  refine wpAny_Call_Name_kw (ld_glob I hg gC ?_ hdb)
  have ha : PA X [e] (tCons te tNil) := pa_cons he pa_nil na
  refine PySem.W.callWith_K (h₀ := X.base) (he := na) I.ok.mod.kin kC (thn (ha.run pos pins s σ H (fun vs H1 => vs.length = 1 ∧ Q (.ref C) none H1) I h) fun us s1 hh => ?_)
  obtain ⟨vs, H1, I1, r1, ev, h1⟩ := hh
  refine ⟨I1.kIn, ?_⟩
  match vs, us, r1, ev with
  | [v], [u], .cons ru rn, _ =>
    show wpAny _ _ (call (.ref C) [u]) _ _ _
    obtain ⟨bm, N, nm, qn, bs, hdct, sn, sub, ab, col, dd, k0, k1, k2, k3, k5, mN, hC, hN, hni, T⟩ := exc_obj I1.kIn q
    refine wpAny_call_exc_subT F T hC hN hni (fun h' e hm => ?_) (by show 1 ≤ sizeLine; rw [sizeLine_eq]; omega)
    exact mk_of I1 hm r h1 (I1.hok.gone hm.new)
end
section
variable {w : World} {K : PySem.W.Frag} {mg : Str → Option Value} {base : Heap} {P : Program}
theorem gss_never {X : Cx} {sts : List Stmt} : GSs X sts (fun _ _ _ _ => False) := ⟨fun _ _ _ _ _ _ _ _ _ _ _ _ _ _ _ _ _ _ _ _ _ h => h.elim⟩
/-- a def that may raise, called with its first values, the others filled up by its defaults -/
theorem fnRDX {d : DD} {fd : FuncData} {N ps : List Str} {k : Nat} {sp : Sp} (F : FnP K d fd) (S : FnScope N ps (defScope d.st)) (n j : Nat) (hd : d.df.map (He.Dv.v K) ≠ []) (hn : n + ((d.df.map (He.Dv.v K)).length - j) = ps.length)
    (b : ∀ (Tt : Addr) (kV doc pm : Value) (an : Option Addr) (cdv ct : Value) (us its : List Value), us.length = n → its.length = (d.df.map (He.Dv.v K)).length →
      ∃ k, bindArgs (PySem.W.fnOf d.nm d.ql (defArgs d.st) (defBody d.st) (defScope d.st) (.ref Tt) kV doc pm an cdv ct) ⟨us, []⟩ = seqItems? (.ref Tt) >>= k ∧ k (some its.toArray) = pure (ps.zip (us ++ its.drop j)))
    (len : ∀ vs H Q E, sp vs H Q E → vs.length = ps.length)
    (hbody : ∀ (cdv : Value) (A : Around) (outer : List Env) (s : Shared) (H : Hp) (vs : List V) (Q : VK) (E : XK), Room k (A.deeper (envOfC d.ql (defScope d.st) s.heap.objs.size (d.adr K) cdv)) → sp vs H Q E →
      ∃ t, PSs (cxOf (L2.CX P w) P w K mg base N d.ql (defScope d.st) (d.adr K) cdv A outer s H E) (defBody d.st) t ∧ t { nx := fun _ H' => Q .non H', rt := Q } (start N vs) H) :
    FnR P w K mg base (L2.CX P w) (k + 1) (d.adr K) (fun vs H Q E => sp (vs ++ (d.df.map (He.Dv.v K)).drop j) H Q E) := by
  have F1 : FnOk P w K mg base (L2.CX P w) (k + 1) (d.adr K) fd ps sp := FunD.ok F S len fun cdv A outer s H vs Q E hr h => hbody cdv A outer s H vs Q E hr h
  obtain ⟨ds, h1, h2⟩ := FunD.binds1 F n j hd hn b
  exact F1.raw h2 h1
end
section
variable {w : World} {K : PySem.W.Frag} {mg : Str → Option Value} {base : Heap} (T : Tx K mg)
include T
/-- the bounds that the program asks for -/
def bnds : List (Int × Int) := [(0, 1000000000000000000), (1, 1000000000000000000), (1, 2), (0, 1), (1, 1000000000000000001)]
def spChkX (K : PySem.W.Frag) : Sp := fun vs H Q E => ∃ i lo hi : Int, vs = [.int i, .int lo, .int hi] ∧ (lo, hi) ∈ bnds ∧ (numOk i lo hi = true → Q .non H) ∧ (numOk i lo hi = false → E (.ref (He.ga K "InvalidNumber")) none H)
theorem chk_body (hK : K.In base) (cdv : Value) (A : Around) (outer : List Env) (s : Shared) (H : Hp) (vs : List V) (Q : VK) (E : XK) (hr : Room 2 (A.deeper (envOfC d_check_number.ql (defScope d_check_number.st) s.heap.objs.size (d_check_number.adr K) cdv))) (h : spChkX K vs H Q E) :
    ∃ t, PSs (cxOf (L2.CX PX w) PX w K mg base N_check_number d_check_number.ql (defScope d_check_number.st) (d_check_number.adr K) cdv A outer s H E) (defBody d_check_number.st) t ∧ t { nx := fun _ H' => Q .non H', rt := Q } (start N_check_number vs) H := by
  obtain ⟨i, lo, hi, rfl, hm, h1, h2⟩ := h
  refine ⟨_, (pss_one (ps_if (pt_not (pt_val (pe_cR (ok_is_number T) (hr.mono (by decide)) T.F_is_number.kp T.g_is_number pass0 (pa_cons (pv 0) (pa_cons (pv 1) (pa_cons (pv 2) pa_nil)))))) (pss_one (ps_raise rfl (takes_of rfl rfl rfl rfl) (pmk_ownE PySem.F.excBase_ValueError T.x_InvalidNumber.own T.g_InvalidNumber T.x_InvalidNumber.keep (raises_own T.x_InvalidNumber.base T.x_InvalidNumber.ty) (by rfl) (pe_joined (.cons pe_str (.cons (pe_fmt (pv 1)) (.cons pe_str (.cons (pe_fmt (pv 2)) .nil)))))))) pss_nil)), ?_⟩
  refine ⟨_, rfl, _, rfl, _, rfl, i, lo, hi, rfl, _, rfl, ?_⟩
  cases hz : numOk i lo hi with
  | true => exact iteF (h1 hz)
  | false =>
    refine iteT ?_
    have h3 := h2 hz
    simp only [bnds, List.mem_cons, Prod.mk.injEq, List.not_mem_nil, or_false] at hm
    rcases hm with ⟨rfl, rfl⟩ | ⟨rfl, rfl⟩ | ⟨rfl, rfl⟩ | ⟨rfl, rfl⟩ | ⟨rfl, rfl⟩
    all_goals exact ⟨_, rfl, by decide +kernel, _, rfl, .inr ⟨_, rfl, by decide +kernel, _, rfl, by decide +kernel, _, rfl, by decide +kernel, _, rfl, .inr ⟨_, rfl, by decide +kernel, _, rfl, by decide +kernel, rfl, h3⟩⟩⟩
/-- check_number, with one, two or three arguments -/
def spChkA (K : PySem.W.Frag) : Sp := fun vs H Q E => ∃ i lo hi : Int, ((vs = [.int i] ∧ lo = 0 ∧ hi = 1000000000000000000) ∨ (vs = [.int i, .int lo] ∧ hi = 1000000000000000000) ∨ vs = [.int i, .int lo, .int hi]) ∧ (lo, hi) ∈ bnds ∧
  (numOk i lo hi = true → Q .non H) ∧ (numOk i lo hi = false → E (.ref (He.ga K "InvalidNumber")) none H)
theorem okX_check_number (hK : K.In base) : FnR PX w K mg base (L2.CX PX w) 3 (a_check_number K) (spChkA K) := by
  have len : ∀ vs H Q E, spChkX K vs H Q E → vs.length = ["value", "least", "most"].length := fun vs H Q E h => by
    obtain ⟨i, lo, hi, rfl, _⟩ := h
    rfl
  have F1 := fnRDX (w := w) (base := base) (d := d_check_number) (sp := spChkX K) (k := 2) (ps := ["value", "least", "most"]) T.F_check_number sc_check_number 1 0 (fun z => nomatch z) rfl (fun _ _ _ _ _ _ _ us its hl hi => match us, its, hl, hi with | [_], [_, _], _, _ => ⟨_, rfl, rfl⟩) len (chk_body T hK)
  have F2 := fnRDX (w := w) (base := base) (d := d_check_number) (sp := spChkX K) (k := 2) (ps := ["value", "least", "most"]) T.F_check_number sc_check_number 2 1 (fun z => nomatch z) rfl (fun _ _ _ _ _ _ _ us its hl hi => match us, its, hl, hi with | [_, _], [_, _], _, _ => ⟨_, rfl, rfl⟩) len (chk_body T hK)
  have F3 := fnRDX (w := w) (base := base) (d := d_check_number) (sp := spChkX K) (k := 2) (ps := ["value", "least", "most"]) T.F_check_number sc_check_number 3 2 (fun z => nomatch z) rfl (fun _ _ _ _ _ _ _ us its hl hi => match us, its, hl, hi with | [_, _, _], [_, _], _, _ => ⟨_, rfl, rfl⟩) len (chk_body T hK)
  refine (fnR_or (fnR_or F1 F2) F3).imp fun vs H Q E h => ?_
  obtain ⟨i, lo, hi, hv, hm, h1, h2⟩ := h
  rcases hv with ⟨rfl, rfl, rfl⟩ | ⟨rfl, rfl⟩ | rfl
  · exact .inl (.inl ⟨i, 0, 1000000000000000000, rfl, hm, h1, h2⟩)
  · exact .inl (.inr ⟨i, lo, 1000000000000000000, rfl, hm, h1, h2⟩)
  · exact .inr ⟨i, lo, hi, rfl, hm, h1, h2⟩
omit T in
theorem chk1 {K : PySem.W.Frag} {i : Int} {H : Hp} {Q : VK} {E : XK} (h1 : 0 ≤ i → i ≤ 1000000000000000000 → Q .non H) (h2 : ¬ (0 ≤ i ∧ i ≤ 1000000000000000000) → E (.ref (He.ga K "InvalidNumber")) none H) : spChkA K [.int i] H Q E :=
  ⟨i, 0, 1000000000000000000, .inl ⟨rfl, rfl, rfl⟩, by simp [bnds], fun z => h1 (numOk_iff.mp z).1 (numOk_iff.mp z).2, fun z => h2 fun y => by rw [numOk_iff.mpr y] at z; cases z⟩
omit T in
theorem chk2 {K : PySem.W.Frag} {i : Int} {H : Hp} {Q : VK} {E : XK} (h1 : 1 ≤ i → i ≤ 1000000000000000000 → Q .non H) (h2 : ¬ (1 ≤ i ∧ i ≤ 1000000000000000000) → E (.ref (He.ga K "InvalidNumber")) none H) : spChkA K [.int i, .int 1] H Q E :=
  ⟨i, 1, 1000000000000000000, .inr (.inl ⟨rfl, rfl⟩), by simp [bnds], fun z => h1 (numOk_iff.mp z).1 (numOk_iff.mp z).2, fun z => h2 fun y => by rw [numOk_iff.mpr y] at z; cases z⟩
omit T in
theorem chk3 {K : PySem.W.Frag} {i lo hi : Int} {H : Hp} {Q : VK} {E : XK} (hm : (lo, hi) ∈ bnds) (h1 : lo ≤ i → i ≤ hi → Q .non H) (h2 : ¬ (lo ≤ i ∧ i ≤ hi) → E (.ref (He.ga K "InvalidNumber")) none H) : spChkA K [.int i, .int lo, .int hi] H Q E :=
  ⟨i, lo, hi, .inr (.inr rfl), hm, fun z => h1 (numOk_iff.mp z).1 (numOk_iff.mp z).2, fun z => h2 fun y => by rw [numOk_iff.mpr y] at z; cases z⟩
/-- a number out of range, told by the first statement -/
def spFarX (K : PySem.W.Frag) : Sp := fun vs H _ E => ∃ (v : V) (n : Int), vs = [v, .int n] ∧ ¬ (0 ≤ n ∧ n ≤ 1000000000000000000) ∧ E (.ref (He.ga K "InvalidNumber")) none H
theorem okX_Offer_call (hK : K.In base) : FnR PX w K mg base (L2.CX PX w) 4 (a_Offer_call K) (spFarX K) := by
  refine fnRX (d := d_Offer_call) T.F_Offer_call sc_Offer_call rfl (fun _ _ _ _ _ _ us hl => match us, hl with | [_, _], _ => rfl) (fun vs H Q E h => ?_) (fun cdv A outer s H vs Q E hr h => ?_)
  · obtain ⟨v, n, rfl, _⟩ := h
    rfl
  obtain ⟨v, n, rfl, hn, k⟩ := h
  refine ⟨_, (pss_cons (ps_expr (pe_cR (okX_check_number T hK) (hr.mono (by decide)) T.F_check_number.kp T.g_check_number (passes_call (takes_of rfl rfl rfl rfl) (fun _ _ _ _ h => h)) (pa_cons (pv 1) pa_nil))) pss_never), ?_⟩
  refine ⟨_, rfl, ?_⟩
  dsimp only [tNil, tCons, tC]
  exact chk1 (fun a b => absurd ⟨a, b⟩ hn) fun _ => k
theorem okX_Offer_trades_made (hK : K.In base) : FnR PX w K mg base (L2.CX PX w) 4 (a_Offer_trades_made K) (spFarX K) := by
  refine fnRX (d := d_Offer_trades_made) T.F_Offer_trades_made sc_Offer_trades_made rfl (fun _ _ _ _ _ _ us hl => match us, hl with | [_, _], _ => rfl) (fun vs H Q E h => ?_) (fun cdv A outer s H vs Q E hr h => ?_)
  · obtain ⟨v, n, rfl, _⟩ := h
    rfl
  obtain ⟨v, n, rfl, hn, k⟩ := h
  refine ⟨_, (pss_cons (ps_expr (pe_cR (okX_check_number T hK) (hr.mono (by decide)) T.F_check_number.kp T.g_check_number (passes_call (takes_of rfl rfl rfl rfl) (fun _ _ _ _ h => h)) (pa_cons (pv 1) pa_nil))) pss_never), ?_⟩
  refine ⟨_, rfl, ?_⟩
  dsimp only [tNil, tCons, tC]
  exact chk1 (fun a b => absurd ⟨a, b⟩ hn) fun _ => k
theorem okX_Offer_left_over (hK : K.In base) : FnR PX w K mg base (L2.CX PX w) 4 (a_Offer_left_over K) (spFarX K) := by
  refine fnRX (d := d_Offer_left_over) T.F_Offer_left_over sc_Offer_left_over rfl (fun _ _ _ _ _ _ us hl => match us, hl with | [_, _], _ => rfl) (fun vs H Q E h => ?_) (fun cdv A outer s H vs Q E hr h => ?_)
  · obtain ⟨v, n, rfl, _⟩ := h
    rfl
  obtain ⟨v, n, rfl, hn, k⟩ := h
  refine ⟨_, (pss_cons (ps_expr (pe_cR (okX_check_number T hK) (hr.mono (by decide)) T.F_check_number.kp T.g_check_number (passes_call (takes_of rfl rfl rfl rfl) (fun _ _ _ _ h => h)) (pa_cons (pv 1) pa_nil))) pss_never), ?_⟩
  refine ⟨_, rfl, ?_⟩
  dsimp only [tNil, tCons, tC]
  exact chk1 (fun a b => absurd ⟨a, b⟩ hn) fun _ => k
theorem okX_Offer_credit (hK : K.In base) : FnR PX w K mg base (L2.CX PX w) 4 (a_Offer_credit K) (spFarX K) := by
  refine fnRX (d := d_Offer_credit) T.F_Offer_credit sc_Offer_credit rfl (fun _ _ _ _ _ _ us hl => match us, hl with | [_, _], _ => rfl) (fun vs H Q E h => ?_) (fun cdv A outer s H vs Q E hr h => ?_)
  · obtain ⟨v, n, rfl, _⟩ := h
    rfl
  obtain ⟨v, n, rfl, hn, k⟩ := h
  refine ⟨_, (pss_cons (ps_expr (pe_cR (okX_check_number T hK) (hr.mono (by decide)) T.F_check_number.kp T.g_check_number (passes_call (takes_of rfl rfl rfl rfl) (fun _ _ _ _ h => h)) (pa_cons (pv 1) pa_nil))) pss_never), ?_⟩
  refine ⟨_, rfl, ?_⟩
  dsimp only [tNil, tCons, tC]
  exact chk1 (fun a b => absurd ⟨a, b⟩ hn) fun _ => k
theorem okX_Offer_fewest_bottles (hK : K.In base) : FnR PX w K mg base (L2.CX PX w) 4 (a_Offer_fewest_bottles K) (spFarX K) := by
  refine fnRX (d := d_Offer_fewest_bottles) T.F_Offer_fewest_bottles sc_Offer_fewest_bottles rfl (fun _ _ _ _ _ _ us hl => match us, hl with | [_, _], _ => rfl) (fun vs H Q E h => ?_) (fun cdv A outer s H vs Q E hr h => ?_)
  · obtain ⟨v, n, rfl, _⟩ := h
    rfl
  obtain ⟨v, n, rfl, hn, k⟩ := h
  refine ⟨_, (pss_cons (ps_expr (pe_cR (okX_check_number T hK) (hr.mono (by decide)) T.F_check_number.kp T.g_check_number (passes_call (takes_of rfl rfl rfl rfl) (fun _ _ _ _ h => h)) (pa_cons (pv 1) pa_nil))) pss_never), ?_⟩
  refine ⟨_, rfl, ?_⟩
  dsimp only [tNil, tCons, tC]
  exact chk1 (fun a b => absurd ⟨a, b⟩ hn) fun _ => k
theorem okX_Offer_count_missing (hK : K.In base) : FnR PX w K mg base (L2.CX PX w) 4 (a_Offer_count_missing K) (spFarX K) := by
  refine fnRX (d := d_Offer_count_missing) T.F_Offer_count_missing sc_Offer_count_missing rfl (fun _ _ _ _ _ _ us hl => match us, hl with | [_, _], _ => rfl) (fun vs H Q E h => ?_) (fun cdv A outer s H vs Q E hr h => ?_)
  · obtain ⟨v, n, rfl, _⟩ := h
    rfl
  obtain ⟨v, n, rfl, hn, k⟩ := h
  refine ⟨_, (pss_cons (ps_expr (pe_cR (okX_check_number T hK) (hr.mono (by decide)) T.F_check_number.kp T.g_check_number (passes_call (takes_of rfl rfl rfl rfl) (fun _ _ _ _ h => h)) (pa_cons (pv 1) pa_nil))) pss_never), ?_⟩
  refine ⟨_, rfl, ?_⟩
  dsimp only [tNil, tCons, tC]
  exact chk1 (fun a b => absurd ⟨a, b⟩ hn) fun _ => k
def spNthX (K : PySem.W.Frag) : Sp := fun vs H _ E => ∃ (v : V) (n : Int), vs = [v, .int n] ∧ ¬ (1 ≤ n ∧ n ≤ 1000000000000000000) ∧ E (.ref (He.ga K "InvalidNumber")) none H
theorem okX_Offer_nth_missing (hK : K.In base) : FnR PX w K mg base (L2.CX PX w) 4 (a_Offer_nth_missing K) (spNthX K) := by
  refine fnRX (d := d_Offer_nth_missing) T.F_Offer_nth_missing sc_Offer_nth_missing rfl (fun _ _ _ _ _ _ us hl => match us, hl with | [_, _], _ => rfl) (fun vs H Q E h => ?_) (fun cdv A outer s H vs Q E hr h => ?_)
  · obtain ⟨v, n, rfl, _⟩ := h
    rfl
  obtain ⟨v, n, rfl, hn, k⟩ := h
  refine ⟨_, (pss_cons (ps_expr (pe_cR (okX_check_number T hK) (hr.mono (by decide)) T.F_check_number.kp T.g_check_number (passes_call (takes_of rfl rfl rfl rfl) (fun _ _ _ _ h => h)) (pa_cons (pv 1) (pa_cons pe_int pa_nil)))) pss_never), ?_⟩
  refine ⟨_, rfl, ?_⟩
  dsimp only [tNil, tCons, tC]
  exact chk2 (fun a b => absurd ⟨a, b⟩ hn) fun _ => k
/-- pooled: one of one or two numbers out of range, or their sum -/
def spPoolX (K : PySem.W.Frag) : Sp := fun vs H _ E => ∃ (v : V) (p : Addr) (ns : List Int), vs = [v, .ref p] ∧ SqT K H p (ns.map V.int) ∧ ns.length ≤ 2 ∧ ¬ ((∀ n ∈ ns, 0 ≤ n ∧ n ≤ 1000000000000000000) ∧ ns.sum ≤ 1000000000000000000) ∧ E (.ref (He.ga K "InvalidNumber")) none H
theorem okX_Offer_pooled (hK : K.In base) : FnR PX w K mg base (L2.CX PX w) 4 (a_Offer_pooled K) (fun vs H Q E => ∃ ws rest, vs = ws ++ rest ∧ ws.length = 1 ∧ rest.length ≤ sizeLine ∧ ∀ p, H p = none → spPoolX K (ws ++ [V.ref p]) (upd H p (.tup rest)) Q E) := by
  refine fnRSX (d := d_Offer_pooled) (ps := ["self"]) T.F_Offer_pooled sc_Offer_pooled rfl (fun kV doc pm an cdv ct => StX.bind_star1 (B := fun us => bindArgs (PySem.W.fnOf d_Offer_pooled.nm d_Offer_pooled.ql (defArgs d_Offer_pooled.st) (defBody d_Offer_pooled.st) (defScope d_Offer_pooled.st) .none kV doc pm an cdv ct) ⟨us, []⟩) (fun _ => rfl) (fun _ _ _ => rfl)) (fun cdv A outer s H vs Q E hr h => ?_)
  obtain ⟨v, p, ns, rfl, hp, hl, hn, k⟩ := h
  refine ⟨_, (pss_cons (ps_for (passes_of rfl) rfl (pi_tup (pv 1)) (pg_name (i := 2) sc_Offer_pooled.nd rfl (Or.inl rfl)) (pss_one (ps_expr (pe_cR (okX_check_number T hK) (hr.mono (by decide)) T.F_check_number.kp T.g_check_number (passes_call (takes_of rfl rfl rfl rfl) (fun _ _ _ _ h => h)) (pa_cons (pv 2) pa_nil))))) (pss_cons (ps_expr (pe_cR (okX_check_number T hK) (hr.mono (by decide)) T.F_check_number.kp T.g_check_number (passes_call (takes_of rfl rfl rfl rfl) (fun _ _ _ _ h => h)) (pa_cons (pe_callB (cr_sumT rfl) (by rfl) T.n_sum (by decide +kernel) (pa_cons (pv 1) pa_nil)) pa_nil))) pss_never)), ?_⟩
  refine ⟨_, rfl, p, rfl, ⟨_, hp⟩, for_tup (xs := ns.map V.int) (fun i σ H1 => H1 = H ∧ (∀ n ∈ ns.take i, 0 ≤ n ∧ n ≤ 1000000000000000000) ∧ ∃ x2, σ = [some v, some (.ref p), x2]) ⟨rfl, (fun n m => by rw [List.take_zero] at m; cases m), _, rfl⟩ (fun i σ H1 _ q => by rw [q.1]; exact hp) ?_ ?_⟩
  · rintro i x σ H1 hx ⟨rfl, hi, x2, rfl⟩
    rw [List.getElem?_map] at hx
    cases hz : ns[i]? with
    | none =>
      rw [hz] at hx
      cases hx
    | some n =>
      rw [hz] at hx
      cases hx
      refine ⟨_, rfl, ?_⟩
      dsimp only [tNil, tCons, tC]
      refine chk1 (fun a b => ⟨rfl, fun m hm => ?_, _, rfl⟩) fun _ => k
      rw [take_at hz, List.mem_append, List.mem_singleton] at hm
      rcases hm with hm | rfl
      · exact hi m hm
      · exact ⟨a, b⟩
  · rintro σ H1 ⟨rfl, hi, x2, rfl⟩
    rw [List.length_map, List.take_length] at hi
    have hs : ¬ (0 ≤ ns.sum ∧ ns.sum ≤ 1000000000000000000) := fun z => hn ⟨hi, z.2⟩
    refine ⟨_, rfl, p, ns, rfl, hp, ?_⟩
    dsimp only [tNil, tCons, tC]
    exact chk1 (fun a b => absurd ⟨a, b⟩ hs) fun _ => k
end
end EB

namespace EB
open PySem PySem.Spec PyProof.Rows L2
section
variable {P : Program} {w : World} {K : PySem.W.Frag} {mg : Str → Option Value} {base : Heap} (T : Tx K mg)
include T
theorem b_Offer_steady_from : Binds K T.fd_Offer_steady_from ["self"] [] := bnd0 T.F_Offer_steady_from sc_Offer_steady_from rfl (fun _ _ _ _ _ _ us hl => match us, hl with | [_], _ => rfl)
def spSteady (K : PySem.W.Frag) : Sp := fun vs H Q _ => ∃ (a : Addr) (ts : List Tr), vs = [.ref a] ∧ OfAt K H a ts ∧ Fair ts ∧ Q (.int (EB.T (cN ts) (per ts - 1) + 1 - perB ts)) H
theorem ok_Offer_steady_from : FnOk P w K mg base CX0 1 (a_Offer_steady_from K) T.fd_Offer_steady_from ["self"] (spSteady K) := by
  refine fnK0 (d := d_Offer_steady_from) T.F_Offer_steady_from sc_Offer_steady_from (fun vs H Q E h => ?_) (fun cdv A outer s H vs Q E hr h => ?_)
  · obtain ⟨a, ts, rfl, _⟩ := h
    rfl
  obtain ⟨a, ts, rfl, ho, hf, k⟩ := h
  obtain ⟨dx, t, p, o, f, g, e1, e2, e3, e4, e5, e6⟩ := ho.ex
  refine ⟨_, (pss_cons (ps_asg (pe_fld (pv 0) rfl) (pg_tup rfl (pgs_cons (pg_name (i := 1) sc_Offer_steady_from.nd rfl (Or.inl rfl)) (pgs_cons (pg_name (i := 2) sc_Offer_steady_from.nd rfl (Or.inl rfl)) pgs_nil)))) (pss_one (ps_ret (pe_op op_sub (pe_op op_add (pe_ix ix_list (pe_fld (pv 0) rfl) (pe_op op_sub (pv 2) pe_int) (fun _ _ => rfl)) pe_int) (pv 1))))), ?_⟩
  have hp := per_pos hf.g
  refine ⟨_, rfl, a, _, dx, _, _, rfl, e1, T.k_Offer, T.na_period, lk_period, p, _, rfl, e3, rfl, _, _, rfl, _, _, rfl, rfl, ?_⟩
  refine ⟨_, rfl, a, _, dx, _, _, rfl, e1, T.k_Offer, T.na_tops, lk_tops, _, rfl, _, _, rfl, rfl, o, _, _, _, rfl, rfl, e4, ?_, _, _, rfl, rfl, _, rfl, _, _, rfl, rfl, k⟩
  refine at_of (j := per ts - 1) (by omega) ?_
  rw [List.getElem?_map, List.getElem?_map, List.getElem?_range (by omega)]
  rfl
end
end EB

namespace EB
open PySem PySem.Spec PyProof.Rows L2
/-! Numbers that are still possible. -/
def cfs (s : Int) (e : Addr) (p : Int) (o : Addr) : List (Str × V) := [("_start", .int s), ("_early", .ref e), ("_span", .int p), ("_offsets", .ref o)]
structure CandAt (K : PySem.W.Frag) (H : Hp) (c : Addr) (s : Int) (early : List Int) (p : Int) (offs : List Int) : Prop where
  ex : ∃ dx e o, H c = some (.ins (He.ga K "Candidates") dx (cfs s e p o)) ∧ SqL K H e (early.map V.int) ∧ SqL K H o (offs.map V.int)
theorem CandAt.mono {K : PySem.W.Frag} {H H' : Hp} {c : Addr} {s p : Int} {early offs : List Int} (q : Same H H') (h : CandAt K H c s early p offs) : CandAt K H' c s early p offs := by
  obtain ⟨dx, e, o, h1, h2, h3⟩ := h.ex
  exact ⟨dx, e, o, q _ _ h1, q.seq h2, q.seq h3⟩
/-- such candidates, all of it new -/
structure CandNew (K : PySem.W.Frag) (H0 H : Hp) (c : Addr) (s : Int) (early : List Int) (p : Int) (offs : List Int) : Prop where
  ex : ∃ dx e o, H c = some (.ins (He.ga K "Candidates") dx (cfs s e p o)) ∧ H e = some (.lst (early.map V.int)) ∧ H o = some (.lst (offs.map V.int)) ∧ H0 c = none ∧ H0 e = none ∧ H0 o = none
theorem CandNew.at_ {K : PySem.W.Frag} {H0 H : Hp} {c : Addr} {s p : Int} {early offs : List Int} (h : CandNew K H0 H c s early p offs) : CandAt K H c s early p offs := by
  obtain ⟨dx, e, o, h1, h2, h3, _⟩ := h.ex
  exact ⟨dx, e, o, h1, SqL.of h2, SqL.of h3⟩
theorem CandNew.mono {K : PySem.W.Frag} {H0 H H' : Hp} {c : Addr} {s p : Int} {early offs : List Int} (q : Same H H') (h : CandNew K H0 H c s early p offs) : CandNew K H0 H' c s early p offs := by
  obtain ⟨dx, e, o, h1, h2, h3, h4⟩ := h.ex
  exact ⟨dx, e, o, q _ _ h1, q _ _ h2, q _ _ h3, h4⟩
theorem CandNew.base {K : PySem.W.Frag} {H0 H1 H : Hp} {c : Addr} {s p : Int} {early offs : List Int} (q : Same H0 H1) (h : CandNew K H1 H c s early p offs) : CandNew K H0 H c s early p offs := by
  obtain ⟨dx, e, o, h1, h2, h3, h4, h5, h6⟩ := h.ex
  exact ⟨dx, e, o, h1, h2, h3, q.free h4, q.free h5, q.free h6⟩
theorem lk_start {s p : Int} {e o : Addr} : (cfs s e p o).lookup ("_start" : Str) = some (.int s) := lkY
theorem lk_early {s p : Int} {e o : Addr} : (cfs s e p o).lookup ("_early" : Str) = some (.ref e) := by
  unfold cfs
  rw [lkN (by decide +kernel), lkY]
theorem lk_span {s p : Int} {e o : Addr} : (cfs s e p o).lookup ("_span" : Str) = some (.int p) := by
  unfold cfs
  rw [lkN (by decide +kernel), lkN (by decide +kernel), lkY]
theorem lk_offsets {s p : Int} {e o : Addr} : (cfs s e p o).lookup ("_offsets" : Str) = some (.ref o) := by
  unfold cfs
  rw [lkN (by decide +kernel), lkN (by decide +kernel), lkN (by decide +kernel), lkY]
theorem lk_noc {s p : Int} {e o : Addr} {m : Str} (h : ((m == "_start") || ((m == "_early") || ((m == "_span") || (m == "_offsets")))) = false) : (cfs s e p o).lookup m = none := by
  obtain ⟨h1, h⟩ := Bool.or_eq_false_iff.mp h
  obtain ⟨h2, h⟩ := Bool.or_eq_false_iff.mp h
  obtain ⟨h3, h4⟩ := Bool.or_eq_false_iff.mp h
  unfold cfs
  rw [lkN h1, lkN h2, lkN h3, lkN h4]
  rfl
theorem putc1 {a : V} : putF "_start" a [] = ([("_start", a)] : List (Str × V)) := rfl
theorem putc2 {a b : V} : putF "_early" b ([("_start", a)] : List (Str × V)) = ([("_start", a), ("_early", b)] : List (Str × V)) := by
  rw [putF_ne (by decide +kernel)]
  rfl
theorem putc3 {a b c : V} : putF "_span" c ([("_start", a), ("_early", b)] : List (Str × V)) = ([("_start", a), ("_early", b), ("_span", c)] : List (Str × V)) := by
  rw [putF_ne (by decide +kernel), putF_ne (by decide +kernel)]
  rfl
theorem putc4 {a b c d : V} : putF "_offsets" d ([("_start", a), ("_early", b), ("_span", c)] : List (Str × V)) = ([("_start", a), ("_early", b), ("_span", c), ("_offsets", d)] : List (Str × V)) := by
  rw [putF_ne (by decide +kernel), putF_ne (by decide +kernel), putF_ne (by decide +kernel)]
  rfl
/-- so many of them are not greater than the last number -/
def candMany (s : Int) (early : List Int) (p : Int) (offs : List Int) (last : Int) : Int :=
  if last < s then ((early.filter fun n => decide (n ≤ last)).length : Int) else ((early.filter fun n => decide (n ≤ last)).length : Int) + (last - s) / p * offs.length + ((offs.filter fun o => decide (o ≤ (last - s) % p)).length : Int)
/-- what is at a place, none if there is nothing -/
def candV (s : Int) (early : List Int) (p : Int) (offs : List Int) (place : Int) : V :=
  if place < early.length then .int (early.getD place.toNat 0) else if offs = [] then .non else .int (s + (place - early.length) / offs.length * p + offs.getD ((place - early.length) % offs.length).toNat 0)
section
variable {P : Program} {w : World} {K : PySem.W.Frag} {mg : Str → Option Value} {base : Heap} (T : Tx K mg)
include T
def spCandI (K : PySem.W.Frag) : Sp := fun vs H Q _ => ∃ (x : Addr) (s p : Int) (e o dx : Addr), vs = [.ref x, .int s, .ref e, .int p, .ref o] ∧ H x = some (.ins (He.ga K "Candidates") dx []) ∧ Q .non (upd H x (.ins (He.ga K "Candidates") dx (cfs s e p o)))
theorem ok_Candidates_init : FnR P w K mg base CX0 1 (a_Candidates_init K) (spCandI K) := by
  refine fnR0 (d := d_Candidates_init) T.F_Candidates_init sc_Candidates_init rfl (fun _ _ _ _ _ _ us hl => match us, hl with | [_, _, _, _, _], _ => rfl) (fun vs H Q E h => ?_) (fun cdv A outer s H vs Q E hr h => ?_)
  · obtain ⟨x, s, p, e, o, dx, rfl, _⟩ := h
    rfl
  obtain ⟨x, s, p, e, o, dx, rfl, hx, k⟩ := h
  refine ⟨_, (pss_cons (ps_fld (pv 0) (pv 1) rfl) (pss_cons (ps_fld (pv 0) (pv 2) rfl) (pss_cons (ps_fld (pv 0) (pv 3) rfl) (pss_one (ps_fld (pv 0) (pv 4) rfl))))), ?_⟩
  refine ⟨_, rfl, _, rfl, x, _, dx, [], rfl, hx, T.k_Candidates, T.na_start, by show 0 < 1000; decide, ?_⟩
  rw [putc1]
  refine ⟨_, rfl, _, rfl, x, _, dx, _, rfl, upd_same, T.k_Candidates, T.na_early, by show 1 < 1000; decide, ?_⟩
  rw [putc2, upd_upd]
  refine ⟨_, rfl, _, rfl, x, _, dx, _, rfl, upd_same, T.k_Candidates, T.na_span, by show 2 < 1000; decide, ?_⟩
  rw [putc3, upd_upd]
  refine ⟨_, rfl, _, rfl, x, _, dx, _, rfl, upd_same, T.k_Candidates, T.na_offsets, by show 3 < 1000; decide, ?_⟩
  rw [putc4, upd_upd]
  exact k
def spMany (K : PySem.W.Frag) : Sp := fun vs H Q _ => ∃ (c : Addr) (s p last : Int) (early offs : List Int), vs = [.ref c, .int last] ∧ CandAt K H c s early p offs ∧ early.length ≤ 10000000 ∧ offs.length ≤ 10000000 ∧ 0 ≤ s ∧ 0 < p ∧ p < 1073741824 ∧ 0 ≤ last ∧ last ≤ 1000000000000000000 ∧
  ∀ H', Same H H' → Q (.int (candMany s early p offs last)) H'
theorem ok_Candidates_many_within : FnR P w K mg base CX0 1 (a_Candidates_many_within K) (spMany K) := by
  refine fnR0 (d := d_Candidates_many_within) T.F_Candidates_many_within sc_Candidates_many_within rfl (fun _ _ _ _ _ _ us hl => match us, hl with | [_, _], _ => rfl) (fun vs H Q E h => ?_) (fun cdv A outer s H vs Q E hr h => ?_)
  · obtain ⟨c, s, p, last, early, offs, rfl, _⟩ := h
    rfl
  obtain ⟨c, s, p, last, early, offs, rfl, hc, le, lo, hs0, hp0, hp1, hl0, hl1, k⟩ := h
  obtain ⟨dx, e, o, h1, h2, h3⟩ := hc.ex
  have hz : ∀ n : Nat, n ≤ 10000000 → n < sizeLine := fun n h => Nat.lt_of_le_of_lt h (by decide)
  refine ⟨_, (pss_cons (ps_set (i := 2) sc_Candidates_many_within.nd rfl (Or.inl rfl) (pe_callB call_len_seq (by rfl) T.n_len PySem.boot_len (pa_cons (pe_lc (own := [("number", 5)]) rfl sc_Candidates_many_within.nd (pi_list (pe_fld (pv 0) rfl)) (blkOk_by (own := [("number", 5)]) (N := N_Candidates_many_within) (sc := defScope s_Candidates_many_within) (by decide +kernel)) (fun _ _ _ _ _ => (pg_name (i := 5) sc_Candidates_many_within.nd rfl (Or.inl rfl) (.inr rfl))) (fun _ _ _ _ _ => (pts_one (pt_cmpR op_le (pv 5) (pv 1) (nomark _)))) (fun _ _ _ _ _ => (pv 5))) pa_nil))) (pss_cons (ps_if (pt_cmpR op_lt (pv 1) (pe_fld (pv 0) rfl) (nomark _)) (pss_one (ps_ret (pv 2))) pss_nil) (pss_cons (ps_asg (pe_callB call_divmod (by rfl) T.n_divmod (by decide +kernel) (pa_cons (pe_op op_sub (pv 1) (pe_fld (pv 0) rfl)) (pa_cons (pe_fld (pv 0) rfl) pa_nil))) (pg_tup rfl (pgs_cons (pg_name (i := 3) sc_Candidates_many_within.nd rfl (Or.inl rfl)) (pgs_cons (pg_name (i := 4) sc_Candidates_many_within.nd rfl (Or.inr rfl)) pgs_nil)))) (pss_one (ps_ret (pe_op op_add (pe_op op_add (pv 2) (pe_op op_mul (pv 3) (pe_callB call_len_seq (by rfl) T.n_len PySem.boot_len (pa_cons (pe_fld (pv 0) rfl) pa_nil)))) (pe_callB call_len_seq (by rfl) T.n_len PySem.boot_len (pa_cons (pe_lc (own := [("offset", 6)]) rfl sc_Candidates_many_within.nd (pi_list (pe_fld (pv 0) rfl)) (blkOk_by (own := [("offset", 6)]) (N := N_Candidates_many_within) (sc := defScope s_Candidates_many_within) (by decide +kernel)) (fun _ _ _ _ _ => (pg_name (i := 6) sc_Candidates_many_within.nd rfl (Or.inl rfl) (.inr rfl))) (fun _ _ _ _ _ => (pts_one (pt_cmpR op_le (pv 6) (pv 4) (nomark _)))) (fun _ _ _ _ _ => (pv 6))) pa_nil)))))))), ?_⟩
  refine ⟨_, rfl, c, _, dx, _, _, rfl, h1, T.k_Candidates, T.na_early, lk_early, e, rfl, ⟨_, h2⟩, fun D hD => ?_⟩
  refine lc_list (xs := early.map V.int) (fun i H1 => Same H H1 ∧ H1 D = some (.lst (((early.take i).filter fun n => decide (n ≤ last)).map V.int))) ⟨same_new hD, upd_same⟩ (fun i H1 _ q => q.1.seq h2) ?_ ?_
  · rintro i x H1 hx ⟨s1, e1⟩
    obtain ⟨n, en, rfl⟩ := int_at hx
    refine ⟨rfl, _, rfl, _, rfl, _, _, rfl, rfl, _, rfl, ite2 (fun hd => ?_) (fun hd => ?_)⟩
    · refine ⟨_, rfl, _, e1, hz _ ?_, same_mut s1 hD, ?_⟩
      · rw [List.length_map]
        exact Nat.le_trans (List.length_filter_le _ _) (Nat.le_trans (List.length_take_le _ _) (by have := lt_of_at en; omega))
      · rw [upd_same, take_at en, List.filter_append, List.filter_cons, if_pos hd, List.filter_nil, List.map_append]
        rfl
    · refine ⟨s1, ?_⟩
      rw [take_at en, List.filter_append, List.filter_cons, if_neg hd, List.filter_nil, List.append_nil]
      exact e1
  rintro H1 ⟨s1, e1⟩
  rw [List.length_map, List.take_length] at e1
  have hm : ((early.filter fun n => decide (n ≤ last)).length : Int) ≤ 10000000 := by
    have := List.length_filter_le (fun n => decide (n ≤ last)) early
    omega
  refine ⟨D, _, rfl, .inl (SqL.of e1), ?_⟩
  rw [List.length_map]
  have hm0 : candMany s early p offs last = if last < s then ((early.filter fun n => decide (n ≤ last)).length : Int) else ((early.filter fun n => decide (n ≤ last)).length : Int) + (last - s) / p * offs.length + ((offs.filter fun o => decide (o ≤ (last - s) % p)).length : Int) := rfl
  generalize ((early.filter fun n => decide (n ≤ last)).length : Int) = many at hm hm0
  refine ⟨_, rfl, _, rfl, c, _, dx, _, _, rfl, s1 _ _ h1, T.k_Candidates, T.na_start, lk_start, _, _, rfl, rfl, _, rfl, ite2 (fun hd => ?_) (fun hd => ?_)⟩
  · have hd : last < s := of_decide_eq_true hd
    rw [if_pos hd] at hm0
    refine ⟨_, rfl, ?_⟩
    rw [← hm0]
    exact k _ s1
  have hd : ¬ last < s := fun z => hd (decide_eq_true z)
  rw [if_neg hd] at hm0
  refine ⟨_, rfl, _, rfl, c, _, dx, _, _, rfl, s1 _ _ h1, T.k_Candidates, T.na_start, lk_start, _, _, rfl, rfl, ?_⟩
  refine ⟨_, rfl, c, _, dx, _, _, rfl, s1 _ _ h1, T.k_Candidates, T.na_span, lk_span, _, _, rfl, ⟨hp0, hp1⟩, fun q hq => ⟨q, _, rfl, SqT.of upd_same, rfl, _, _, rfl, _, _, rfl, rfl, ?_⟩⟩
  have s2 := s1.trans (same_new (u := .tup [.int ((last - s) / p), .int ((last - s) % p)]) hq)
  generalize upd H1 q (.tup [.int ((last - s) / p), .int ((last - s) % p)]) = H2 at s2
  have hlo : (offs.length : Int) ≤ 10000000 := by omega
  refine ⟨_, rfl, _, rfl, _, rfl, c, _, dx, _, _, rfl, s2 _ _ h1, T.k_Candidates, T.na_offsets, lk_offsets, o, _, rfl, .inl (s2.seq h3), _, _, rfl, rfl, .inr ⟨?_, ?_⟩, _, _, rfl, rfl, ?_⟩
  · rw [List.length_map]
    omega
  · rw [List.length_map]
    omega
  rw [List.length_map]
  refine ⟨_, rfl, c, _, dx, _, _, rfl, s2 _ _ h1, T.k_Candidates, T.na_offsets, lk_offsets, o, rfl, ⟨_, s2.seq h3⟩, fun D2 hD2 => ?_⟩
  refine lc_list (xs := offs.map V.int) (fun i H3 => Same H2 H3 ∧ H3 D2 = some (.lst (((offs.take i).filter fun n => decide (n ≤ (last - s) % p)).map V.int))) ⟨same_new hD2, upd_same⟩ (fun i H3 _ q => (s2.trans q.1).seq h3) ?_ ?_
  · rintro i x H3 hx ⟨s3, e3⟩
    obtain ⟨n, en, rfl⟩ := int_at hx
    refine ⟨rfl, _, rfl, _, rfl, _, _, rfl, rfl, _, rfl, ite2 (fun hd => ?_) (fun hd => ?_)⟩
    · refine ⟨_, rfl, _, e3, hz _ ?_, same_mut s3 hD2, ?_⟩
      · rw [List.length_map]
        exact Nat.le_trans (List.length_filter_le _ _) (Nat.le_trans (List.length_take_le _ _) (by have := lt_of_at en; omega))
      · rw [upd_same, take_at en, List.filter_append, List.filter_cons, if_pos hd, List.filter_nil, List.map_append]
        rfl
    · refine ⟨s3, ?_⟩
      rw [take_at en, List.filter_append, List.filter_cons, if_neg hd, List.filter_nil, List.append_nil]
      exact e3
  rintro H3 ⟨s3, e3⟩
  rw [List.length_map, List.take_length] at e3
  refine ⟨D2, _, rfl, .inl (SqL.of e3), _, _, rfl, rfl, ?_⟩
  rw [List.length_map]
  have k1 := k _ (s2.trans s3)
  rw [hm0] at k1
  exact k1
def spCandP (K : PySem.W.Frag) : Sp := fun vs H Q _ => ∃ (c : Addr) (s p place : Int) (early offs : List Int), vs = [.ref c, .int place] ∧ CandAt K H c s early p offs ∧ early.length ≤ 10000000 ∧ offs.length ≤ 10000000 ∧ 0 ≤ p ∧ p < 1073741824 ∧ 0 ≤ place ∧ place ≤ 1000000000000000000 ∧
  ∀ H', Same H H' → Q (candV s early p offs place) H'
theorem ok_Candidates_candidate : FnR P w K mg base CX0 1 (a_Candidates_candidate K) (spCandP K) := by
  refine fnR0 (d := d_Candidates_candidate) T.F_Candidates_candidate sc_Candidates_candidate rfl (fun _ _ _ _ _ _ us hl => match us, hl with | [_, _], _ => rfl) (fun vs H Q E h => ?_) (fun cdv A outer s H vs Q E hr h => ?_)
  · obtain ⟨c, s, p, place, early, offs, rfl, _⟩ := h
    rfl
  obtain ⟨c, s, p, place, early, offs, rfl, hc, le, lo, hp0, hp1, hl0, hl1, k⟩ := h
  obtain ⟨dx, e, o, h1, h2, h3⟩ := hc.ex
  have k0 := k
  unfold candV at k0
  refine ⟨_, (pss_cons (ps_if (pt_cmpR op_lt (pv 1) (pe_callB call_len_seq (by rfl) T.n_len PySem.boot_len (pa_cons (pe_fld (pv 0) rfl) pa_nil)) (nomark _)) (pss_one (ps_ret (pe_ix ix_list (pe_fld (pv 0) rfl) (pv 1) (fun _ _ => rfl)))) pss_nil) (pss_cons (ps_if (pt_not (pt_truth (pe_fld (pv 0) rfl) (by intro _; rfl))) (pss_one (ps_ret pe_non)) pss_nil) (pss_cons (ps_asg (pe_callB call_divmod (by rfl) T.n_divmod (by decide +kernel) (pa_cons (pe_op op_sub (pv 1) (pe_callB call_len_seq (by rfl) T.n_len PySem.boot_len (pa_cons (pe_fld (pv 0) rfl) pa_nil))) (pa_cons (pe_callB call_len_seq (by rfl) T.n_len PySem.boot_len (pa_cons (pe_fld (pv 0) rfl) pa_nil)) pa_nil))) (pg_tup rfl (pgs_cons (pg_name (i := 2) sc_Candidates_candidate.nd rfl (Or.inl rfl)) (pgs_cons (pg_name (i := 3) sc_Candidates_candidate.nd rfl (Or.inl rfl)) pgs_nil)))) (pss_one (ps_ret (pe_op op_add (pe_op op_add (pe_fld (pv 0) rfl) (pe_op op_mul (pv 2) (pe_fld (pv 0) rfl))) (pe_ix ix_list (pe_fld (pv 0) rfl) (pv 3) (fun _ _ => rfl)))))))), ?_⟩
  refine ⟨_, rfl, _, rfl, c, _, dx, _, _, rfl, h1, T.k_Candidates, T.na_early, lk_early, e, _, rfl, .inl h2, _, _, rfl, rfl, _, rfl, ?_⟩
  rw [List.length_map]
  refine ite2 (fun hd => ?_) (fun hd => ?_)
  · have hd : place < early.length := of_decide_eq_true hd
    rw [if_pos hd] at k0
    refine ⟨_, rfl, c, _, dx, _, _, rfl, h1, T.k_Candidates, T.na_early, lk_early, _, rfl, e, _, _, _, rfl, rfl, h2, ?_, k0 H (Same.refl _)⟩
    refine at_of (j := place.toNat) (by omega) ?_
    rw [List.getElem?_map, List.getElem?_eq_getElem (by omega), List.getD_eq_getElem?_getD, List.getElem?_eq_getElem (by omega)]
    rfl
  have hd : ¬ place < early.length := fun z => hd (decide_eq_true z)
  rw [if_neg hd] at k0
  refine ⟨_, rfl, c, _, dx, _, _, rfl, h1, T.k_Candidates, T.na_offsets, lk_offsets, _, .inl ⟨_, h3, rfl⟩, ?_⟩
  by_cases z : offs = []
  · rw [if_pos z] at k0
    rw [z]
    exact iteT (k0 H (Same.refl _))
  rw [if_neg z] at k0
  have hl : 0 < offs.length := List.length_pos_iff.mpr z
  have e1 : (offs.map V.int).isEmpty = false := by
    cases offs with
    | nil => exact absurd rfl z
    | cons _ _ => rfl
  rw [e1]
  refine iteF ?_
  refine ⟨_, rfl, _, rfl, c, _, dx, _, _, rfl, h1, T.k_Candidates, T.na_early, lk_early, e, _, rfl, .inl h2, _, _, rfl, rfl, ?_⟩
  rw [List.length_map]
  refine ⟨_, rfl, c, _, dx, _, _, rfl, h1, T.k_Candidates, T.na_offsets, lk_offsets, o, _, rfl, .inl h3, ?_⟩
  rw [List.length_map]
  refine ⟨_, _, rfl, ⟨by omega, by omega⟩, fun q hq => ⟨q, _, rfl, SqT.of upd_same, rfl, _, _, rfl, _, _, rfl, rfl, ?_⟩⟩
  have s2 := same_new (u := .tup [.int ((place - early.length) / offs.length), .int ((place - early.length) % offs.length)]) hq
  generalize upd H q (.tup [.int ((place - early.length) / offs.length), .int ((place - early.length) % offs.length)]) = H2 at s2
  refine ⟨_, rfl, c, _, dx, _, _, rfl, s2 _ _ h1, T.k_Candidates, T.na_start, lk_start, _, rfl, _, rfl, c, _, dx, _, _, rfl, s2 _ _ h1, T.k_Candidates, T.na_span, lk_span, _, _, rfl, rfl, .inr ⟨by omega, by omega⟩, _, _, rfl, rfl, ?_⟩
  have r0 := Int.emod_nonneg (place - early.length) (show (offs.length : Int) ≠ 0 by omega)
  have r1 := Int.emod_lt_of_pos (place - early.length) (show (0 : Int) < offs.length by omega)
  refine ⟨_, rfl, c, _, dx, _, _, rfl, s2 _ _ h1, T.k_Candidates, T.na_offsets, lk_offsets, _, rfl, o, _, _, _, rfl, rfl, s2.seq h3, ?_, _, _, rfl, rfl, k0 H2 s2⟩
  refine at_of (j := ((place - early.length) % offs.length).toNat) (by omega) ?_
  rw [List.getElem?_map, List.getElem?_eq_getElem (by omega), List.getD_eq_getElem?_getD, List.getElem?_eq_getElem (by omega)]
  rfl
end
end EB

namespace EB
open PySem PySem.Spec PyProof.Rows L2
/-- those of a table that fit -/
def nwEarly (early : List Int) (f : Nat → Bool) : List Int := early.filter fun n => f n.toNat
theorem rgC_up {p m n : Nat} (p0 : 0 < p) (p1 : p ≤ 1000000) (e : m = p * n) (n0 : 0 < n) (hm : m ≤ 10000000) : RgC 0 (m : Nat) (p : Nat) n := by
  have hn : n ≤ m := by
    rw [e]
    exact Nat.le_mul_of_pos_left n p0
  have hpm : p ≤ m := by
    rw [e]
    exact Nat.le_mul_of_pos_right p n0
  have hs : Builtin.Range.rangeSize 0 (m : Nat) (p : Nat) = (n : Nat) := by
    unfold Builtin.Range.rangeSize
    rw [if_pos (by omega), if_pos (by omega)]
    have h1 : ((m : Int) - 0 - 1) / (p : Int) = (n : Int) - 1 := by
      have e1 : (m : Int) = p * n := by rw [e]; push_cast; rfl
      rw [Int.sub_zero, e1, show (p : Int) * n - 1 = ((p : Int) - 1) + p * ((n : Int) - 1) by rw [Int.mul_sub]; omega, Int.add_mul_ediv_left _ _ (by omega), Int.ediv_eq_zero_of_lt (by omega) (by omega)]
      omega
    rw [h1]
    omega
  refine ⟨by omega, by omega, ?_, hs⟩
  unfold Builtin.Range.small
  rw [hs]
  simp only [Builtin.Range.rangeFitsLong, Bool.and_eq_true, Bool.or_eq_true, decide_eq_true_eq, beq_iff_eq, show (p : Int) > 0 from by omega, if_true]
  first
    | omega
    | (split <;> omega)
    | skip
/-- of the offsets those that fit, the i-th span on -/
def nwPart (s p q : Nat) (f : Nat → Bool) (i : Nat) (offs : List Int) : List Int := (offs.filter fun o => f (s + (((i : Int) * p + o) % q).toNat)).map fun o => (i : Int) * p + o
def nwAll (s p q : Nat) (f : Nat → Bool) (offs : List Int) (n : Nat) : List Int := ((List.range n).map fun i => nwPart s p q f i offs).flatten
theorem nwAll_succ (s p q : Nat) (f : Nat → Bool) (offs : List Int) (n : Nat) : nwAll s p q f offs (n + 1) = nwAll s p q f offs n ++ nwPart s p q f n offs := by
  unfold nwAll
  rw [List.range_succ, List.map_append, List.flatten_append]
  simp
theorem nwPart_len (s p q : Nat) (f : Nat → Bool) (i : Nat) (offs : List Int) : (nwPart s p q f i offs).length ≤ offs.length := by
  unfold nwPart
  rw [List.length_map]
  exact List.length_filter_le _ _
theorem nwAll_len (s p q : Nat) (f : Nat → Bool) (offs : List Int) : ∀ n, (nwAll s p q f offs n).length ≤ n * offs.length
  | 0 => by simp [nwAll]
  | n + 1 => by
    rw [nwAll_succ, List.length_append, Nat.succ_mul]
    exact Nat.add_le_add (nwAll_len s p q f offs n) (nwPart_len ..)
theorem capSN {X : TS} {D : Ends} {σ : L2.St} {H : Hp} (σ1 : L2.St) (e : σ = σ1) (h : X D σ1 H) : X D σ H := e ▸ h
section
variable {P : Program} {w : World} {K : PySem.W.Frag} {mg : Str → Option Value} {base : Heap} (T : Tx K mg)
include T
def spNarrow (K : PySem.W.Frag) : Sp := fun vs H Q _ => ∃ (c fa : Addr) (s p q : Nat) (early offs : List Int) (fits : List Bool), vs = [.ref c, .ref fa, .int (q : Nat)] ∧ CandAt K H c (s : Nat) early (p : Nat) offs ∧ SqL K H fa (fits.map V.bl) ∧
  0 < p ∧ 0 < q ∧ p ≤ 1000000 ∧ q ≤ 1000000 ∧ Nat.lcm p q ≤ 10000000 ∧ s + q ≤ fits.length ∧ (∀ n ∈ early, 0 ≤ n ∧ n < fits.length) ∧ early.length ≤ 10000000 ∧ (∀ o ∈ offs, 0 ≤ o) ∧ Nat.lcm p q / p * offs.length ≤ 10000000 ∧
  ∀ H' x, Same H H' → CandNew K H H' x (s : Nat) (nwEarly early fun i => fits.getD i false) (Nat.lcm p q : Nat) (nwAll s p q (fun i => fits.getD i false) offs (Nat.lcm p q / p)) → H x = none → Q (.ref x) H'
theorem ok_Candidates_narrowed : FnR P w K mg base CX0 3 (a_Candidates_narrowed K) (spNarrow K) := by
  refine fnR0 (d := d_Candidates_narrowed) T.F_Candidates_narrowed sc_Candidates_narrowed rfl (fun _ _ _ _ _ _ us hl => match us, hl with | [_, _, _], _ => rfl) (fun vs H Q E h => ?_) (fun cdv A outer s H vs Q E hr h => ?_)
  · obtain ⟨c, fa, s, p, q, early, offs, fits, rfl, _⟩ := h
    rfl
  obtain ⟨c, fa, s, p, q, early, offs, fits, rfl, hc, hf, p0, q0, p1, q1, w1, sq, he, le, ho, lo, k⟩ := h
  obtain ⟨dx, e, o, h1, h2, h3⟩ := hc.ex
  have hz : ∀ n : Nat, n < 10000000 → n < sizeLine := fun n h => Nat.lt_trans h (by decide)
  refine ⟨_, (pss_cons (ps_set (i := 3) sc_Candidates_narrowed.nd rfl (Or.inr rfl) (pe_fld (pv 0) rfl)) (pss_cons (ps_setLc (i := 4) (own := [("number", 7)]) rfl sc_Candidates_narrowed.nd rfl rfl (sw_true rfl rfl rfl (by decide +kernel)) (pi_list (pe_fld (pv 0) rfl)) (blkOk_by (own := [("number", 7)]) (N := N_Candidates_narrowed) (sc := defScope s_Candidates_narrowed) (by decide +kernel)) (fun _ _ _ _ _ => (pg_name (i := 7) sc_Candidates_narrowed.nd rfl (Or.inl rfl) (.inr rfl))) (fun _ _ _ _ _ => (pts_one (pt_val (pe_ix (ix_listK (K := K) rfl) (pv 1) (pv 7) (fun _ _ => rfl))))) (fun _ _ _ _ _ => (pv 7))) (pss_cons (ps_set (i := 5) sc_Candidates_narrowed.nd rfl (Or.inl rfl) (pe_callBfun cr_lcm (by rfl) T.b_lcm (pa_cons (pe_fld (pv 0) rfl) (pa_cons (pv 2) pa_nil)))) (pss_cons (ps_setLc2 (i := 6) (own := [("base", 8), ("offset", 9)]) (vs1 := [9]) rfl sc_Candidates_narrowed.nd rfl rfl (sw_true rfl rfl rfl (by decide +kernel)) (pi_range3 rfl T.n_range (pa_cons pe_int (pa_cons (pv 5) (pa_cons (pe_fld (pv 0) rfl) pa_nil)))) (blkOk_by (own := [("base", 8), ("offset", 9)]) (N := N_Candidates_narrowed) (sc := defScope s_Candidates_narrowed) (by decide +kernel)) (by decide) (fun _ _ _ _ _ => (pg_name (i := 8) sc_Candidates_narrowed.nd rfl (Or.inl rfl) (.inr rfl))) (fun _ _ _ _ _ => pts_nil) (fun _ _ _ _ _ => (pi_listK (K := K) rfl (pe_fldK (K := K) rfl (pv 0) rfl))) (fun _ _ _ _ _ => (pg_name (i := 9) sc_Candidates_narrowed.nd rfl (Or.inl rfl) (.inr rfl))) (fun _ _ _ _ _ => (pts_one (pt_val (pe_ix (ix_listK (K := K) rfl) (pv 1) (pe_op op_add (pv 3) (pe_op op_mod (pe_op op_add (pv 8) (pv 9)) (pv 2))) (fun _ _ => rfl))))) (fun _ _ _ _ _ => (pe_op op_add (pv 8) (pv 9)))) (pss_one (ps_ret (StX.pe_makeR T.mk_Candidates (ok_Candidates_init T) (hr.mono (by decide)) (by rfl) T.g_Candidates pass0 (pa_cons (pv 3) (pa_cons (pv 4) (pa_cons (pv 5) (pa_cons (pv 6) pa_nil))))))))))), ?_⟩
  refine ⟨_, rfl, c, _, dx, _, _, rfl, h1, T.k_Candidates, T.na_start, lk_start, ?_⟩
  refine ⟨_, rfl, c, _, dx, _, _, rfl, h1, T.k_Candidates, T.na_early, lk_early, e, rfl, ⟨_, h2⟩, fun D hD => ?_⟩
  refine lc_list (xs := early.map V.int) (fun i H1 => Same H H1 ∧ H1 D = some (.lst (((early.take i).filter fun n => fits.getD n.toNat false).map V.int))) ⟨same_new hD, upd_same⟩ (fun i H1 _ q => q.1.seq h2) ?_ ?_
  · rintro i x H1 hx ⟨s1, e1⟩
    obtain ⟨n, en, rfl⟩ := int_at hx
    have hn := he n (List.mem_of_getElem? en)
    have hn2 : n.toNat < fits.length := by omega
    refine ⟨rfl, _, rfl, _, rfl, fa, _, _, _, rfl, rfl, s1.seq hf, at_of (j := n.toNat) (by omega) (by rw [List.getElem?_map, List.getElem?_eq_getElem hn2]; rfl), fits.getD n.toNat false, ?_, ?_⟩
    · rw [List.getD_eq_getElem?_getD, List.getElem?_eq_getElem hn2]
      rfl
    refine ite2 (fun hd => ?_) (fun hd => ?_)
    · refine ⟨_, rfl, _, e1, hz _ ?_, same_mut s1 hD, ?_⟩
      · rw [List.length_map]
        have a1 := List.length_filter_le (fun n : Int => fits.getD n.toNat false) (early.take i)
        rw [List.length_take] at a1
        have := lt_of_at en
        omega
      · rw [upd_same, take_at en, List.filter_append, List.filter_cons, if_pos hd, List.filter_nil, List.map_append]
        rfl
    · refine ⟨s1, ?_⟩
      rw [take_at en, List.filter_append, List.filter_cons, if_neg hd, List.filter_nil, List.append_nil]
      exact e1
  rintro H1 ⟨s1, e1⟩
  rw [List.length_map, List.take_length] at e1
  have wl : (((p : Int).natAbs.lcm (q : Int).natAbs : Nat) : Int) = ((Nat.lcm p q : Nat) : Int) := rfl
  refine ⟨_, rfl, c, _, dx, _, _, rfl, s1 _ _ h1, T.k_Candidates, T.na_span, lk_span, _, rfl, _, _, rfl, Nat.lt_of_le_of_lt (show p ≤ 1000000 from p1) (by decide), Nat.lt_of_le_of_lt (show q ≤ 1000000 from q1) (by decide), ?_⟩
  have pd : p ∣ Nat.lcm p q := Nat.dvd_lcm_left p q
  have we : Nat.lcm p q = p * (Nat.lcm p q / p) := (Nat.mul_div_cancel' pd).symm
  have wp : 0 < Nat.lcm p q := Nat.lcm_pos p0 q0
  have n0 : 0 < Nat.lcm p q / p := Nat.div_pos (Nat.le_of_dvd wp pd) p0
  dsimp only [gName]
  refine capSN [some (.ref c), some (.ref fa), some (.int (q : Nat)), some (.int (s : Nat)), some (.ref D), some (.int (Nat.lcm p q : Nat)), none, none, none, none] rfl ?_
  refine ⟨_, rfl, _, rfl, c, _, dx, _, _, rfl, s1 _ _ h1, T.k_Candidates, T.na_span, lk_span, _, _, _, Nat.lcm p q / p, rfl, rgC_up p0 p1 we n0 w1, fun D2 hD2 => ?_⟩
  have s1D : Same H H1 := s1
  refine walk_r3 (fun i G => Same H1 G ∧ G D2 = some (.lst ((nwAll s p q (fun i => fits.getD i false) offs i).map V.int))) ⟨same_new hD2, upd_same⟩ ?_ ?_
  · rintro i G hi ⟨s2, e2⟩
    have sHG := s1.trans s2
    refine ⟨rfl, _, rfl, c, _, dx, _, _, rfl, sHG _ _ h1, T.k_Candidates, T.na_offsets, lk_offsets, o, rfl, ⟨_, sHG.seq h3⟩, ?_⟩
    refine walk_lst (xs := offs.map V.int) (fun j G2 => Same H1 G2 ∧ G2 D2 = some (.lst ((nwAll s p q (fun i => fits.getD i false) offs i ++ nwPart s p q (fun i => fits.getD i false) i (offs.take j)).map V.int))) ⟨s2, by rw [e2, List.take_zero]; simp [nwPart]⟩ (fun j G2 _ z => (s1.trans z.1).seq h3) ?_ ?_
    · rintro j x G2 hx ⟨s3, e3⟩
      obtain ⟨n, en, rfl⟩ := int_at hx
      have hn0 := ho n (List.mem_of_getElem? en)
      have hj := lt_of_at en
      have m0 := Int.emod_nonneg (0 + (i : Int) * p + n) (show (q : Int) ≠ 0 by omega)
      have m1 := Int.emod_lt_of_pos (0 + (i : Int) * p + n) (show (0 : Int) < q by omega)
      have hix : s + ((0 + (i : Int) * p + n) % q).toNat < fits.length := by omega
      refine ⟨rfl, _, rfl, _, rfl, _, rfl, _, rfl, _, _, rfl, rfl, _, rfl, _, _, rfl, rfl, (show (0 : Int) < q by omega), _, _, rfl, rfl, fa, _, _, _, rfl, rfl, (s1.trans s3).seq hf, at_of (j := s + ((0 + (i : Int) * p + n) % q).toNat) (by omega) (by rw [List.getElem?_map, List.getElem?_eq_getElem hix]; rfl), fits.getD (s + ((0 + (i : Int) * p + n) % q).toNat) false, ?_, ite2 (fun hd => ?_) (fun hd => ?_)⟩
      · rw [List.getD_eq_getElem?_getD, List.getElem?_eq_getElem hix]
        rfl
      · rw [Int.zero_add] at hd
        refine ⟨_, rfl, _, rfl, _, _, rfl, rfl, _, e3, hz _ ?_, same_mut s3 hD2, ?_⟩
        · rw [List.length_map, List.length_append]
          have a1 := nwAll_len s p q (fun i => fits.getD i false) offs i
          have a2 := nwPart_len s p q (fun i => fits.getD i false) i (offs.take j)
          rw [List.length_take] at a2
          have a3 : (i + 1) * offs.length ≤ Nat.lcm p q / p * offs.length := Nat.mul_le_mul_right _ hi
          rw [Nat.succ_mul] at a3
          omega
        · rw [upd_same, Int.zero_add, take_at en]
          unfold nwPart
          rw [List.filter_append, List.filter_cons, if_pos hd, List.filter_nil]
          simp only [List.map_append, List.append_assoc, List.map_cons, List.map_nil]
      · rw [Int.zero_add] at hd
        refine ⟨s3, ?_⟩
        rw [e3, take_at en]
        unfold nwPart
        rw [List.filter_append, List.filter_cons, if_neg hd, List.filter_nil, List.append_nil]
    · rintro G2 ⟨s3, e3⟩
      rw [List.length_map, List.take_length, ← nwAll_succ] at e3
      exact ⟨s3, e3⟩
  · rintro G ⟨s2, e2⟩
    have eD := s2 _ _ e1
    refine ⟨_, rfl, _, rfl, _, rfl, _, rfl, fun x dx2 nx nd ned => ?_⟩
    have nd1 := same_new (u := .own x) nd
    have nx1 : (upd G dx2 (.own x)) x = none := by rw [upd_ne ned.symm]; exact nx
    have sH : Same H G := s1.trans s2
    refine ⟨x, s, (Nat.lcm p q : Nat), D, D2, dx2, rfl, upd_same, rfl, ?_⟩
    rw [upd_upd]
    have sG := nd1.trans (same_new (u := .ins (He.ga K "Candidates") dx2 (cfs s D (Nat.lcm p q : Nat) D2)) nx1)
    exact k _ x (sH.trans sG) ⟨dx2, D, D2, upd_same, sG _ _ eD, sG _ _ e2, sH.free nx, hD, s1.free hD2⟩ (sH.free nx)
end
end EB

namespace EB
open PySem PySem.Spec PyProof.Rows L2
theorem OfAt.ins {K : PySem.W.Frag} {H : Hp} {a : Addr} {ts : List Tr} (o : OfAt K H a ts) : ∃ dx fs, H a = some (.ins (He.ga K "Offer") dx fs) ∧ ∀ m : Str, ((m == "_trades") || ((m == "_period") || ((m == "_tops") || ((m == "_firsts") || (m == "_gaps"))))) = false → fs.lookup m = none := by
  obtain ⟨dx, t, p, q, f, g, e1, _⟩ := o.ex
  exact ⟨dx, _, e1, fun m h => lk_no h⟩
theorem dps_snoc {K : PySem.W.Frag} {H : Hp} {v : V} {d : PyData} (h : Dp K H v d) : ∀ {vs : List V} {ds : List PyData}, DpAll K H vs ds → DpAll K H (vs ++ [v]) (ds ++ [d])
  | _, _, .nil => .cons h .nil
  | _, _, .cons a b => .cons a (dps_snoc h b)
theorem hid_mono {H H' : Hp} {x : Addr} (s : Same H H') : Same (hid H x) (hid H' x) := fun b o e => by
  by_cases h : b = x
  · rw [h, hid_x] at e
    cases e
  · rw [hid_ne h] at e ⊢
    exact s b o e
/-- one trade, read off the tuple of the trades -/
theorem TrAt.ix {K : PySem.W.Frag} {H : Hp} {a : Addr} {ts : List Tr} {i : Nat} {t : Tr} (h : TrAt K H a ts) (e : ts[i]? = some t) : ∃ xs p, SqT K H a xs ∧ xs.length = ts.length ∧ atI xs (0 + (i : Int)) = some (.ref p) ∧ SqT K H p t.vs := by
  obtain ⟨ps, h1, h2, h3⟩ := h.ex
  have hi : i < ps.length := by
    rw [h2]
    exact lt_of_at e
  refine ⟨_, ps[i], h1, by rw [List.length_map, h2], at_of (j := i) (Int.zero_add _) ?_, h3 i _ t (List.getElem?_eq_getElem hi) e⟩
  rw [List.getElem?_map, List.getElem?_eq_getElem hi]
  rfl
theorem TrAt.seq {K : PySem.W.Frag} {H : Hp} {a : Addr} {ts : List Tr} (h : TrAt K H a ts) : ∃ xs, SqT K H a xs ∧ xs.length = ts.length := by
  obtain ⟨ps, h1, h2, _⟩ := h.ex
  exact ⟨_, h1, by rw [List.length_map, h2]⟩
theorem ints_lay : ∀ ns : List Int, PyData.canLayAll0 (ns.map .int) = true ∧ PyData.depthAll (ns.map .int) ≤ 1
  | [] => ⟨rfl, by simp [PyData.depthAll]⟩
  | n :: ns => by
    have h := ints_lay ns
    rw [List.map_cons]
    refine ⟨by rw [PyData.canLayAll0, h.1, PyData.canLay0]; rfl, ?_⟩
    simp only [PyData.depthAll, PyData.depth]
    omega
theorem ints_shaped (ns : List Int) : SeqAt.shaped (PyData.list (ns.map .int)) = true := by
  have h := ints_lay ns
  unfold SeqAt.shaped
  rw [Bool.and_eq_true, decide_eq_true_eq]
  refine ⟨by rw [PyData.canLay0]; exact h.1, ?_⟩
  rw [PyData.depth]
  omega
theorem ints_eqv (ns : List Int) : PyData.eqv (PyData.list (ns.map .int)) (.list []) = decide (ns = []) := by
  cases ns with
  | nil => rfl
  | cons k ks =>
    rw [decide_eq_false (by simp)]
    simp [PyData.eqv, PyData.eqvAll]
theorem iteJ {c : Bool} {p : Prop} {R : Hp → Prop} {H : Hp} (Pv : Hp → Prop) (h : ∀ H3, Pv H3 → R H3) (h1 : c = true → (∀ H3, Pv H3 → R H3) → p) (h2 : ¬ c = true → Pv H) : if c = true then p else R H := by
  by_cases q : c = true
  · rw [if_pos q]
    exact h1 q h
  · rw [if_neg q]
    exact h H (h2 q)
/-- two ways on, both to a test that fails -/
theorem capF {a b : TT} {σ : L2.St} {H : Hp} {Q : Bool → Hp → Prop} (Pv : Hp → Prop) (h : ∀ H3, Pv H3 → Q false H3) (k : (∀ H3, Pv H3 → Q false H3) → tAnd a b σ H Q) : tAnd a b σ H Q := k h
/-- a statement whose ways meet again: what is asked of all of them -/
theorem capI {c : TT} {A B X : TS} {D : Ends} {σ : L2.St} {H : Hp} (Pv : L2.St → Hp → Prop) (h : ∀ σ' H', Pv σ' H' → X D σ' H') (k : (∀ σ' H', Pv σ' H' → X D σ' H') → tSeq (tIfS c A B) X D σ H) : tSeq (tIfS c A B) X D σ H := k h
theorem capA {e : TE} {g : TG} {X : TS} {D : Ends} {σ : L2.St} {H : Hp} (Pv : L2.St → Hp → Prop) (h : ∀ σ' H', Pv σ' H' → X D σ' H') (k : (∀ σ' H', Pv σ' H' → X D σ' H') → tSeq (tAsg e g) X D σ H) : tSeq (tAsg e g) X D σ H := k h
theorem hid2_mono {H H' : Hp} {h l : Addr} (s : Same H H') : Same (hid2 H h l) (hid2 H' h l) := fun b o e => by
  by_cases q : b = h ∨ b = l
  · unfold hid2 at e
    rw [if_pos q] at e
    cases e
  · have n1 : b ≠ h := fun z => q (.inl z)
    have n2 : b ≠ l := fun z => q (.inr z)
    rw [hid2_ne n1 n2] at e ⊢
    exact s b o e
theorem HS.trs {K : PySem.W.Frag} {H0 H H' : Hp} {h l a : Addr} {ts : List Tr} (x : HS H0 H h l) (t : TrAt K H a ts) (y : HS (hid2 H h l) H' h l) : TrAt K H' a ts := (x.tr t).mono y.same
theorem tr_snoc {K : PySem.W.Frag} {H : Hp} {a : Addr} {ts : List Tr} {ps : List Addr} {q : Addr} {t : Tr} (h1 : SqT K H a ((ps ++ [q]).map V.ref)) (h2 : ps.length = ts.length) (h3 : ∀ (i : Nat) (p : Addr) (t : Tr), ps[i]? = some p → ts[i]? = some t → SqT K H p t.vs) (hq : SqT K H q t.vs) : TrAt K H a (ts ++ [t]) := by
  refine ⟨ps ++ [q], h1, by rw [List.length_append, List.length_append, h2]; rfl, fun i p u e1 e2 => ?_⟩
  rcases Nat.lt_or_ge i ps.length with z | z
  · rw [List.getElem?_append_left z] at e1
    rw [List.getElem?_append_left (by omega)] at e2
    exact h3 i p u e1 e2
  · rw [List.getElem?_append_right z] at e1
    rw [List.getElem?_append_right (by omega)] at e2
    have hi : i - ps.length = 0 := by
      have := lt_of_at e1
      simp only [List.length_singleton] at this
      omega
    rw [hi] at e1
    rw [← h2, hi] at e2
    cases e1
    cases e2
    exact hq
theorem concat_of {α : Type} {l : List α} (h : l ≠ []) : ∃ i x, l = i ++ [x] := ⟨l.dropLast, l.getLast h, (List.dropLast_concat_getLast h).symm⟩
theorem last_at {xs : List V} {v : V} : atI (xs ++ [v]) (-1) = some v := atI_last xs v
theorem cut_last {xs : List V} {v : V} : cutV (xs ++ [v]) none (some (-1)) = xs ∧ ¬ (HT.sIx (xs ++ [v]).length 0 none = 0 ∧ HT.sIx (xs ++ [v]).length (xs ++ [v]).length (some (-1)) = (xs ++ [v]).length) := by
  have e : HT.sIx (xs ++ [v]).length (xs ++ [v]).length (some (-1)) = xs.length := by
    show (-1 + ((xs ++ [v]).length : Int)).toNat = _
    rw [List.length_append]
    simp only [List.length_singleton]
    omega
  constructor
  · unfold cutV
    rw [e, HT.sIx_none, Nat.sub_zero, List.drop_zero, List.take_left]
  · rw [e]
    intro z
    rw [List.length_append] at z
    simp only [List.length_singleton] at z
    omega
theorem tc_intro {ta : TE} {tr : TA} {σ : L2.St} {H : Hp} {Q : List V → Hp → Prop} (h : ta σ H fun x H1 => tr σ H1 fun xs H2 => Q (x :: xs) H2) : tCons ta tr σ H Q := h
theorem hid_sqt {K : PySem.W.Frag} {H : Hp} {O a : Addr} {zs xs : List V} (e : H O = some (.lst zs)) (t : SqT K H a xs) : SqT K (hid H O) a xs := by
  rcases t with (t | ⟨o, t⟩) | t
  · exact .inl (.inl (by rw [hid_ne (ne_of t e (by intro z; cases z))]; exact t))
  · exact .inl (.inr ⟨o, by rw [hid_ne (ne_of t e (by intro z; cases z))]; exact t⟩)
  · exact .inr t
theorem hid_sql {K : PySem.W.Frag} {H : Hp} {O a : Addr} {xs : List V} (n : a ≠ O) (t : SqL K H a xs) : SqL K (hid H O) a xs := by
  rcases t with (t | ⟨o, t⟩) | t
  · exact .inl (.inl (by rw [hid_ne n]; exact t))
  · exact .inl (.inr ⟨o, by rw [hid_ne n]; exact t⟩)
  · exact .inr t
theorem hid_tr {K : PySem.W.Frag} {H : Hp} {O a : Addr} {zs : List V} {ts : List Tr} (e : H O = some (.lst zs)) (t : TrAt K H a ts) : TrAt K (hid H O) a ts := by
  obtain ⟨ps, h1, h2, h3⟩ := t.ex
  exact ⟨ps, hid_sqt e h1, h2, fun i p t a b => hid_sqt e (h3 i p t a b)⟩
/-- a new offer, looked at without the draws and without a list that was there -/
theorem HS.of3 {K : PySem.W.Frag} {H0 H H1 : Hp} {h l a O : Addr} {ts : List Tr} {zs : List V} (x : HS H0 H h l) (s : Same H H1) (t : OfNew K H H1 a ts) (eO : H O = some (.lst zs)) (m1 : O ≠ h) (m2 : O ≠ l) : OfAt K (hid (hid2 H1 h l) O) a ts := by
  obtain ⟨dx, t, p, o, f, g, h1, h2, h3, h4, h5, h6, n1, n2, n3⟩ := t.ex
  have y := x.grow s
  obtain ⟨m, i, ns, e1, e2, _⟩ := x.ex
  have q : ∀ b, H b = none → b ≠ h ∧ b ≠ l := fun b n => ⟨(ne_of_none e1 n).symm, (ne_of_none e2 n).symm⟩
  have r : ∀ b, H b = none → b ≠ O := fun b n => (ne_of_none eO n).symm
  have eO2 : hid2 H1 h l O = some (.lst zs) := HS.keep (H0 := H0) (s _ _ eO) m1 m2
  have e : hid2 H1 h l a = some (.ins (He.ga K "Offer") dx (ofs t p o f g)) := by
    rw [hid2_ne (ne_of h1 (s _ _ e1) (by intro z; cases z)) (ne_of h1 (s _ _ e2) (by intro z; cases z))]
    exact h1
  refine ⟨dx, t, p, o, f, g, ?_, hid_tr eO2 (y.tr h2), hid_sqt eO2 (y.tup h3), hid_sql (r o n1) (y.lst h4 (q o n1).1 (q o n1).2), hid_sql (r f n2) (y.lst h5 (q f n2).1 (q f n2).2), hid_sql (r g n3) (y.lst h6 (q g n3).1 (q g n3).2)⟩
  rw [hid_ne (ne_of e eO2 (by intro z; cases z))]
  exact e
theorem hid3_upd {H : Hp} {h l O : Addr} {v : HO} (n1 : O ≠ h) (n2 : O ≠ l) : hid (hid2 (upd H O v) h l) O = hid (hid2 H h l) O := funext fun b => by
  by_cases q : b = O
  · rw [q, hid_x, hid_x]
  · rw [hid_ne q, hid_ne q]
    unfold hid2
    rw [upd_ne q]
theorem tr_rev {K : PySem.W.Frag} {H : Hp} {a : Addr} {ts : List Tr} (t : TrAt K H a ts) : ∃ xs, SqT K H a xs ∧ ∀ H' q, Same H H' → SqT K H' q xs.reverse → TrAt K H' q ts.reverse := by
  obtain ⟨ps, h1, h2, h3⟩ := t.ex
  refine ⟨_, h1, fun H' q s e => ⟨ps.reverse, by rw [List.map_reverse]; exact e, by rw [List.length_reverse, List.length_reverse, h2], fun i p2 t2 e1 e2 => ?_⟩⟩
  have hi := lt_of_at e1
  rw [List.length_reverse] at hi
  rw [List.getElem?_reverse hi] at e1
  rw [List.getElem?_reverse (by omega), ← h2] at e2
  exact Same.tup s (h3 _ p2 t2 e1 e2)
theorem catA_any {K : PySem.W.Frag} {H : Hp} {a b : Addr} {xs ys : List V} {Q : VK} (h1 : SqT K H a xs) (h2 : SqT K H b ys) (hl : xs.length + ys.length ≤ 1000) (k : ∀ q H', Same H H' → SqT K H' q (xs ++ ys) → Q (.ref q) H') : rCatA K (.ref a) (.ref b) H Q := by
  have h1000 : 1000 ≤ sizeLine := by decide
  refine ⟨a, b, xs, ys, rfl, rfl, h1, h2, by omega, fun z => k b H (Same.refl _) ?_, fun _ z => k a H (Same.refl _) ?_, fun _ _ p hp => k p _ (same_new hp) (SqT.of upd_same)⟩
  · rw [z, List.nil_append]
    exact h2
  · rw [z, List.append_nil]
    exact h1
theorem slA_any {K : PySem.W.Frag} {H : Hp} {a : Addr} {xs : List V} {lo hi : Option Int} {Q : VK} (h1 : SqT K H a xs) (k : ∀ q H', Same H H' → SqT K H' q (cutV xs lo hi) → Q (.ref q) H') : rSlA K (.ref a) lo hi H Q := by
  refine ⟨a, xs, rfl, h1, fun z => k a H (Same.refl _) ?_, fun _ p hp => k p _ (same_new hp) (SqT.of upd_same)⟩
  unfold cutV
  rw [z.1, z.2, Nat.sub_zero, List.drop_zero, List.take_length]
  exact h1
theorem cut_to {xs : List V} {k : Nat} (h : k ≤ xs.length) : cutV xs none (some (k : Int)) = xs.take k := by
  unfold cutV
  rw [HT.sIx_none, HT.sIx_nat, Nat.min_eq_left h, Nat.sub_zero, List.drop_zero]
theorem cut_from {xs : List V} {k : Nat} (h : k ≤ xs.length) : cutV xs (some (k : Int)) none = xs.drop k := by
  unfold cutV
  rw [HT.sIx_none, HT.sIx_nat, Nat.min_eq_left h, List.take_of_length_le]
  rw [List.length_drop]
  omega
theorem tr_mid {K : PySem.W.Frag} {H : Hp} {b q : Addr} {ps1 ps2 : List Addr} {ts1 ts2 : List Tr} {t : Tr} (h : SqT K H b ((ps1 ++ q :: ps2).map V.ref)) (l1 : ps1.length = ts1.length) (l2 : ps2.length = ts2.length)
    (h1 : ∀ (i : Nat) (p : Addr) (t : Tr), ps1[i]? = some p → ts1[i]? = some t → SqT K H p t.vs) (h2 : ∀ (i : Nat) (p : Addr) (t : Tr), ps2[i]? = some p → ts2[i]? = some t → SqT K H p t.vs) (hq : SqT K H q t.vs) : TrAt K H b (ts1 ++ t :: ts2) := by
  refine ⟨_, h, by rw [List.length_append, List.length_append, List.length_cons, List.length_cons, l1, l2], fun i p u e1 e2 => ?_⟩
  rcases Nat.lt_or_ge i ps1.length with z | z
  · rw [List.getElem?_append_left z] at e1
    rw [List.getElem?_append_left (by omega)] at e2
    exact h1 i p u e1 e2
  · rw [List.getElem?_append_right z] at e1
    rw [List.getElem?_append_right (by omega), ← l1] at e2
    generalize i - ps1.length = j at e1 e2
    cases j with
    | zero =>
      cases e1
      cases e2
      exact hq
    | succ j => exact h2 j p u e1 e2
theorem mid_of {α : Type} {l : List α} {r : Nat} (h : r < l.length) : ∃ a x b, l = a ++ x :: b ∧ a.length = r :=
  ⟨l.take r, l[r], l.drop (r + 1), by rw [← List.drop_eq_getElem_cons h, List.take_append_drop], by rw [List.length_take]; omega⟩
theorem get_of {α β : Type} {xs : List α} {ys : List β} (h : xs.length = ys.length) {i : Nat} {x : α} (e : xs[i]? = some x) : ∃ y, ys[i]? = some y := by
  have hi : i < ys.length := by
    rw [← h]
    exact lt_of_at e
  exact ⟨_, List.getElem?_eq_getElem hi⟩
end EB

namespace EB
/-! ### two offers -/
noncomputable def slk (c1 c2 : Nat → Int) (n : Nat) : Int := T c1 (D c2 n) - n
def spanN (P1 P2 B2 : Nat) : Nat := Nat.lcm P1 P2 / P2 * B2
def fallI (P1 B1 P2 B2 : Nat) : Int := (spanN P1 P2 B2 : Nat) - (Nat.lcm P1 P2 / P1 * B1 : Nat)
namespace CF
variable {c1 c2 : Nat → Int} {P1 B1 P2 B2 : Nat}
theorem slk_iff (h1 : CF c1 P1 B1) (n : Nat) : 0 ≤ slk c1 c2 n ↔ D c1 n ≤ D c2 n := by
  unfold slk
  rw [h1.D_le_iff]
  omega
theorem T_le {c : Nat → Int} {P B : Nat} (h : CF c P B) (d : Nat) : T c d ≤ d := by
  obtain ⟨j, hj, e⟩ := CF.T_at c d
  have := h.le_self j
  omega
theorem lcm_a (h1 : CF c1 P1 B1) : Nat.lcm P1 P2 / P1 * P1 = Nat.lcm P1 P2 := Nat.div_mul_cancel (Nat.dvd_lcm_left ..)
theorem lcm_b (h1 : CF c1 P1 B1) : Nat.lcm P1 P2 / P2 * P2 = Nat.lcm P1 P2 := Nat.div_mul_cancel (Nat.dvd_lcm_right ..)
theorem span_pos (h1 : CF c1 P1 B1) (h2 : CF c2 P2 B2) : 0 < spanN P1 P2 B2 := by
  have h3 := Nat.lcm_pos h1.ppos h2.ppos
  have h4 := h1.lcm_b (P2 := P2)
  unfold spanN
  apply Nat.mul_pos _ h2.bpos
  rcases Nat.eq_zero_or_pos (Nat.lcm P1 P2 / P2) with z | z
  · rw [z, Nat.zero_mul] at h4
    omega
  · exact z
theorem span_le (h1 : CF c1 P1 B1) (hb : B2 ≤ P2) : spanN P1 P2 B2 ≤ P1 * P2 := by
  have h4 := h1.lcm_b (P2 := P2)
  have h5 : Nat.lcm P1 P2 ≤ P1 * P2 := Nat.div_le_self _ _
  have h6 := Nat.mul_le_mul_left (Nat.lcm P1 P2 / P2) hb
  unfold spanN
  omega
/-- drinks of the second one repeat by the span -/
theorem D_span2 (h1 : CF c1 P1 B1) (h2 : CF c2 P2 B2) {n : Nat} (hn : P2 ≤ n) : D c2 (n + spanN P1 P2 B2) = D c2 n + Nat.lcm P1 P2 := by
  have h3 := h2.T_le (P2 - 1)
  have h4 := h2.D_perk (n := n) (by have := h2.ppos; omega) (Nat.lcm P1 P2 / P2)
  rw [h1.lcm_b] at h4
  exact h4
/-- drinks of the first one repeat by its span -/
theorem D_span1 (h1 : CF c1 P1 B1) (h2 : CF c2 P2 B2) {n : Nat} (hn : P1 ≤ n) : D c1 (n + Nat.lcm P1 P2 / P1 * B1) = D c1 n + Nat.lcm P1 P2 := by
  have h3 := h1.T_le (P1 - 1)
  have h4 := h1.D_perk (n := n) (by have := h1.ppos; omega) (Nat.lcm P1 P2 / P1)
  rw [h1.lcm_a] at h4
  exact h4
theorem slk_per (h1 : CF c1 P1 B1) (h2 : CF c2 P2 B2) {n : Nat} (hn : P1 + P2 ≤ n) : slk c1 c2 (n + spanN P1 P2 B2) = slk c1 c2 n - fallI P1 B1 P2 B2 := by
  have h3 := h1.D_span2 h2 (n := n) (by omega)
  have h4 := h2.D_ge n
  have h5 := h1.T_perk (d := D c2 n) (by omega) (Nat.lcm P1 P2 / P1)
  rw [h1.lcm_a] at h5
  unfold slk fallI
  rw [h3, h5]
  push_cast
  omega
theorem slk_perk (h1 : CF c1 P1 B1) (h2 : CF c2 P2 B2) {n : Nat} (hn : P1 + P2 ≤ n) : ∀ k : Nat, slk c1 c2 (n + k * spanN P1 P2 B2) = slk c1 c2 n - k * fallI P1 B1 P2 B2
  | 0 => by simp
  | k + 1 => by
    have h3 := slk_perk h1 h2 hn k
    have h4 := h1.slk_per h2 (n := n + k * spanN P1 P2 B2) (by omega)
    rw [Nat.succ_mul, ← Nat.add_assoc, h4, h3]
    push_cast
    rw [Int.add_mul]
    omega
/-- every number is one of the first, or one of those of one span after the start and some spans more -/
theorem reduce {S W : Nat} (hW : 0 < W) (n : Nat) : n < S + W ∨ ∃ m k : Nat, S ≤ m ∧ m < S + W ∧ n = m + k * W := by
  rcases Nat.lt_or_ge n (S + W) with h | h
  · exact .inl h
  · refine .inr ⟨S + (n - S) % W, (n - S) / W, by omega, by have := Nat.mod_lt (n - S) hW; omega, ?_⟩
    have := Nat.mod_add_div (n - S) W
    rw [Nat.mul_comm] at this
    omega
theorem never (h1 : CF c1 P1 B1) (h2 : CF c2 P2 B2) : (∀ n, D c1 n ≤ D c2 n) ↔ ¬ 0 < fallI P1 B1 P2 B2 ∧ ∀ n, n < P1 + P2 + spanN P1 P2 B2 → 0 ≤ slk c1 c2 n := by
  constructor
  · intro h
    refine ⟨fun z => ?_, fun n _ => (h1.slk_iff n).mpr (h n)⟩
    have h3 := h1.slk_perk h2 (n := P1 + P2) (Nat.le_refl _) ((slk c1 c2 (P1 + P2)).toNat + 1)
    have h4 := (h1.slk_iff (c2 := c2) (P1 + P2 + ((slk c1 c2 (P1 + P2)).toNat + 1) * spanN P1 P2 B2)).mpr (h _)
    have h5 := (h1.slk_iff (c2 := c2) (P1 + P2)).mpr (h _)
    rw [h3] at h4
    generalize slk c1 c2 (P1 + P2) = u at h4 h5
    have h6 : ((u.toNat + 1 : Nat) : Int) * 1 ≤ ((u.toNat + 1 : Nat) : Int) * fallI P1 B1 P2 B2 := Int.mul_le_mul_of_nonneg_left (by omega) (by omega)
    omega
  · rintro ⟨hf, h⟩ n
    apply (h1.slk_iff n).mp
    rcases reduce (S := P1 + P2) (h1.span_pos h2) n with z | ⟨m, k, hm, hm2, rfl⟩
    · exact h n z
    · rw [h1.slk_perk h2 hm]
      have h3 := h m hm2
      have h6 : (k : Int) * fallI P1 B1 P2 B2 ≤ (k : Int) * 0 := Int.mul_le_mul_of_nonneg_left (by omega) (by omega)
      omega
theorem D_inj {c : Nat → Int} {P B : Nat} (h : CF c P B) {n m : Nat} (e : D c n = D c m) : n = m := by
  rcases Nat.lt_trichotomy n m with z | z | z
  · have := h.D_lt z
    omega
  · exact z
  · have := h.D_lt z
    omega
theorem same (h1 : CF c1 P1 B1) (h2 : CF c2 P2 B2) (h : ∀ n, n < P1 + P2 + spanN P1 P2 B2 → D c1 n = D c2 n) (n : Nat) : D c1 n = D c2 n := by
  have p1 := h1.ppos
  have p2 := h2.ppos
  have key : Nat.lcm P1 P2 / P1 * B1 = spanN P1 P2 B2 := by
    have e1 := h1.D_span2 h2 (n := max P1 P2) (by omega)
    have e2 := h1.D_span1 h2 (n := max P1 P2) (by omega)
    have e3 := h (max P1 P2) (by omega)
    have e4 := h (max P1 P2 + spanN P1 P2 B2) (by omega)
    have := h1.D_inj (show D c1 (max P1 P2 + Nat.lcm P1 P2 / P1 * B1) = D c1 (max P1 P2 + spanN P1 P2 B2) by omega)
    omega
  have per : ∀ k m : Nat, P1 + P2 ≤ m → D c1 m = D c2 m → D c1 (m + k * spanN P1 P2 B2) = D c2 (m + k * spanN P1 P2 B2) := by
    intro k
    induction k with
    | zero =>
      intro m hm e
      rw [Nat.zero_mul, Nat.add_zero]
      exact e
    | succ k ih =>
      intro m hm e
      have e1 := h1.D_span2 h2 (n := m + k * spanN P1 P2 B2) (by omega)
      have e2 := h1.D_span1 h2 (n := m + k * spanN P1 P2 B2) (by omega)
      have e3 := ih m hm e
      rw [key] at e2
      rw [Nat.succ_mul, ← Nat.add_assoc]
      omega
  rcases reduce (S := P1 + P2) (h1.span_pos h2) n with z | ⟨m, k, hm, hm2, rfl⟩
  · exact h n z
  · exact per k m hm (h m hm2)
end CF
end EB

namespace EB
open PySem PySem.Spec PyProof.Rows L2
/-! Who sees bottles that nobody counted. -/
def obf (a c l : Addr) : List (Str × V) := [("_offer", .ref a), ("_possible", .ref c), ("_observations", .ref l)]
theorem lk_offer {a c l : Addr} : (obf a c l).lookup ("_offer" : Str) = some (.ref a) := lkY
theorem lk_possible {a c l : Addr} : (obf a c l).lookup ("_possible" : Str) = some (.ref c) := by
  unfold obf
  rw [lkN (by decide +kernel), lkY]
theorem lk_observations {a c l : Addr} : (obf a c l).lookup ("_observations" : Str) = some (.ref l) := by
  unfold obf
  rw [lkN (by decide +kernel), lkN (by decide +kernel), lkY]
theorem lk_noo {a c l : Addr} {m : Str} (h : ((m == "_offer") || ((m == "_possible") || (m == "_observations"))) = false) : (obf a c l).lookup m = none := by
  obtain ⟨h1, h⟩ := Bool.or_eq_false_iff.mp h
  obtain ⟨h2, h3⟩ := Bool.or_eq_false_iff.mp h
  unfold obf
  rw [lkN h1, lkN h2, lkN h3]
  rfl
theorem puto1 {a : V} : putF "_offer" a [] = ([("_offer", a)] : List (Str × V)) := rfl
theorem puto2 {a b : V} : putF "_possible" b ([("_offer", a)] : List (Str × V)) = ([("_offer", a), ("_possible", b)] : List (Str × V)) := by
  rw [putF_ne (by decide +kernel)]
  rfl
theorem puto3 {a b c : V} : putF "_observations" c ([("_offer", a), ("_possible", b)] : List (Str × V)) = ([("_offer", a), ("_possible", b), ("_observations", c)] : List (Str × V)) := by
  rw [putF_ne (by decide +kernel), putF_ne (by decide +kernel)]
  rfl
/-- from here on drinks repeat -/
noncomputable def startN (ts : List Tr) : Nat := (EB.T (cN ts) (per ts - 1) + 1 - perB ts).toNat
theorem start_eq {ts : List Tr} (f : Fair ts) : EB.T (cN ts) (per ts - 1) + 1 - perB ts = (startN ts : Int) ∧ startN ts ≤ 1728 := by
  have C := cf f
  have hp := per_pos f.g
  have hP := per_le' f.g
  have h1 := C.T_step (per ts - 1)
  have h2 := CF.T_ge (cN ts) (show per ts ≤ per ts from Nat.le_refl _)
  have h3 : cN ts (per ts) = perB ts := (perB_eq f).symm
  rw [show per ts - 1 + 1 = per ts by omega] at h1
  have h4 := CF.T_le C (per ts - 1)
  have h0 : (0 : Int) ≤ EB.T (cN ts) (per ts - 1) + 1 - perB ts := by omega
  unfold startN
  refine ⟨by omega, by omega⟩
noncomputable def early0 (ts : List Tr) : List Int := (List.range (startN ts)).map fun i : Nat => (i : Int)
/-- an observer at x: its offer, what is possible -/
structure ObsAt (K : PySem.W.Frag) (H : Hp) (x : Addr) (ts : List Tr) (early : List Int) (p : Int) (offs : List Int) : Prop where
  ex : ∃ dx a c l, H x = some (.ins (He.ga K "BottleObserver") dx (obf a c l)) ∧ OfAt K H a ts ∧ CandAt K H c (startN ts) early p offs
theorem ObsAt.mono {K : PySem.W.Frag} {H H' : Hp} {x : Addr} {ts : List Tr} {early : List Int} {p : Int} {offs : List Int} (s : Same H H') (h : ObsAt K H x ts early p offs) : ObsAt K H' x ts early p offs := by
  obtain ⟨dx, a, c, l, h1, h2, h3⟩ := h.ex
  exact ⟨dx, a, c, l, s _ _ h1, h2.mono s, h3.mono s⟩
section
variable {P : Program} {w : World} {K : PySem.W.Frag} {mg : Str → Option Value} {base : Heap} (T : Tx K mg)
include T
def spObsI (K : PySem.W.Frag) : Sp := fun vs H Q _ => ∃ (x a dx : Addr) (H0 : Hp) (ts : List Tr), vs = [.ref x, .ref a] ∧ Same H0 H ∧ H0 x = none ∧ H x = some (.ins (He.ga K "BottleObserver") dx []) ∧ OfAt K H0 a ts ∧ Fair ts ∧
  ∀ H' c l, Same H0 H' → H' x = some (.ins (He.ga K "BottleObserver") dx (obf a c l)) → CandNew K (upd H0 l (.lst [])) H' c (startN ts) (early0 ts) 1 [0] → H' l = some (.lst []) → H0 l = none → Q .non H'
theorem ok_BottleObserver_init : FnR P w K mg base CX0 3 (a_BottleObserver_init K) (spObsI K) := by
  refine fnR0 (d := d_BottleObserver_init) T.F_BottleObserver_init sc_BottleObserver_init rfl (fun _ _ _ _ _ _ us hl => match us, hl with | [_, _], _ => rfl) (fun vs H Q E h => ?_) (fun cdv A outer s H vs Q E hr h => ?_)
  · obtain ⟨x, a, dx, H0, ts, rfl, _⟩ := h
    rfl
  obtain ⟨x, a, dx, H0, ts, rfl, s0, n0, hx, ho, hf, k⟩ := h
  obtain ⟨hs, hs2⟩ := start_eq hf
  obtain ⟨dy, fy, oi, on⟩ := ho.ins
  refine ⟨_, (pss_cons (ps_set (i := 2) sc_BottleObserver_init.nd rfl (Or.inl rfl) (pe_prop (pv 1) T.k_Offer T.p_Offer_steady_from (ok_Offer_steady_from T) (hr.mono (by decide)) (b_Offer_steady_from T) .nil pass0 rfl)) (pss_cons (ps_fld (pv 0) (pv 1) rfl) (pss_cons (ps_fld (pv 0) (StX.pe_makeR T.mk_Candidates (ok_Candidates_init T) (hr.mono (by decide)) (by rfl) T.g_Candidates pass0 (pa_cons (pv 2) (pa_cons (pe_listRg rfl (by rfl) T.n_list (prg_1 (by rfl) T.n_range (pv 2))) (pa_cons pe_int (pa_cons (pe_lst (pa_cons pe_int pa_nil)) pa_nil))))) rfl) (pss_one (ps_fld (pv 0) (pe_lst pa_nil) rfl))))), ?_⟩
  refine ⟨_, rfl, a, dy, fy, rfl, s0 _ _ oi, a, ts, rfl, ho.mono s0, hf, ?_⟩
  rw [hs]
  refine ⟨_, rfl, _, rfl, x, _, dx, [], rfl, hx, T.k_BottleObserver, T.na_offer, by show 0 < 1000; decide, ?_⟩
  rw [puto1]
  have s1 : Same H0 (upd H x (.ins (He.ga K "BottleObserver") dx [("_offer", .ref a)])) := same_mut s0 n0
  have x1 : (upd H x (.ins (He.ga K "BottleObserver") dx [("_offer", .ref a)])) x = some (.ins (He.ga K "BottleObserver") dx [("_offer", .ref a)]) := upd_same
  generalize upd H x (.ins (He.ga K "BottleObserver") dx [("_offer", .ref a)]) = H1 at s1 x1
  refine ⟨_, rfl, _, rfl, _, rfl, ⟨⟨by omega, by omega, by omega, by omega, by omega⟩, fun q nq => ?_⟩⟩
  have er : rgV 0 (startN ts) = (early0 ts).map V.int := by
    unfold rgV early0
    rw [List.map_map, Int.sub_zero, Int.toNat_natCast]
    refine List.map_congr_left fun i _ => ?_
    show V.int (0 + (i : Int)) = V.int i
    rw [Int.zero_add]
  rw [er]
  have nqx : q ≠ x := (ne_of_none x1 nq).symm
  have fq := s1.free nq
  have x2 := upd_old (u := .lst ((early0 ts).map V.int)) x1 nq
  have s2 := s1.trans (same_new (u := .lst ((early0 ts).map V.int)) nq)
  have e2 : (upd H1 q (.lst ((early0 ts).map V.int))) q = some (.lst ((early0 ts).map V.int)) := upd_same
  generalize upd H1 q (.lst ((early0 ts).map V.int)) = H2 at s2 x2 e2
  refine ⟨by show 1 ≤ sizeLine; decide, fun o no => ?_⟩
  have nox : o ≠ x := (ne_of_none x2 no).symm
  have fo := s2.free no
  have x3 := upd_old (u := .lst [.int 0]) x2 no
  have s3 := s2.trans (same_new (u := .lst [.int 0]) no)
  have e3 := upd_old (u := .lst [.int 0]) e2 no
  have o3 : (upd H2 o (.lst [.int 0])) o = some (.lst (([0] : List Int).map V.int)) := upd_same
  generalize upd H2 o (.lst [.int 0]) = H3 at s3 x3 e3 o3
  intro c dc nc ndc nec
  have nd1 := upd_old (u := .own c) x3 ndc
  refine ⟨c, startN ts, 1, q, o, dc, rfl, upd_same, rfl, ?_⟩
  rw [upd_upd]
  rw [show (cxOf CX0 P w K mg base N_BottleObserver_init d_BottleObserver_init.ql (defScope d_BottleObserver_init.st) (d_BottleObserver_init.adr K) cdv A outer s H E).nox.K = K from rfl]
  have s4 := s3.trans (same_new (u := .own c) ndc)
  have x4 := upd_old (u := .own c) x3 ndc
  have e4 := upd_old (u := .own c) e3 ndc
  have o4 := upd_old (u := .own c) o3 ndc
  have nc4 : (upd H3 dc (.own c)) c = none := by rw [upd_ne nec.symm]; exact nc
  generalize upd H3 dc (.own c) = H4 at s4 x4 e4 o4 nc4
  have s5 := s4.trans (same_new (u := .ins (He.ga K "Candidates") dc (cfs (startN ts) q 1 o)) nc4)
  have x5 := upd_old (u := .ins (He.ga K "Candidates") dc (cfs (startN ts) q 1 o)) x4 nc4
  have e5 := upd_old (u := .ins (He.ga K "Candidates") dc (cfs (startN ts) q 1 o)) e4 nc4
  have o5 := upd_old (u := .ins (He.ga K "Candidates") dc (cfs (startN ts) q 1 o)) o4 nc4
  have c5 : (upd H4 c (.ins (He.ga K "Candidates") dc (cfs (startN ts) q 1 o))) c = some (.ins (He.ga K "Candidates") dc (cfs (startN ts) q 1 o)) := upd_same
  have ncx : c ≠ x := (ne_of_none x4 nc4).symm
  have fc := s4.free nc4
  generalize upd H4 c (.ins (He.ga K "Candidates") dc (cfs (startN ts) q 1 o)) = H5 at s5 x5 e5 o5 c5
  refine ⟨_, rfl, x, _, dx, _, rfl, x5, T.k_BottleObserver, T.na_possible, by show 1 < 1000; decide, ?_⟩
  rw [puto2]
  have s6 : Same H0 (upd H5 x (.ins (He.ga K "BottleObserver") dx [("_offer", .ref a), ("_possible", .ref c)])) := same_mut s5 n0
  have x6 : (upd H5 x (.ins (He.ga K "BottleObserver") dx [("_offer", .ref a), ("_possible", .ref c)])) x = some (.ins (He.ga K "BottleObserver") dx [("_offer", .ref a), ("_possible", .ref c)]) := upd_same
  have c6 : (upd H5 x (.ins (He.ga K "BottleObserver") dx [("_offer", .ref a), ("_possible", .ref c)])) c = _ := (upd_ne ncx).trans c5
  have e6 : (upd H5 x (.ins (He.ga K "BottleObserver") dx [("_offer", .ref a), ("_possible", .ref c)])) q = _ := (upd_ne nqx).trans e5
  have o6 : (upd H5 x (.ins (He.ga K "BottleObserver") dx [("_offer", .ref a), ("_possible", .ref c)])) o = _ := (upd_ne nox).trans o5
  generalize upd H5 x (.ins (He.ga K "BottleObserver") dx [("_offer", .ref a), ("_possible", .ref c)]) = H6 at s6 x6 c6 e6 o6
  refine ⟨by show 0 ≤ sizeLine; decide, fun l nl => ?_⟩
  have nlx : l ≠ x := (ne_of_none x6 nl).symm
  have l0 := s6.free nl
  have x7 := upd_old (u := .lst []) x6 nl
  refine ⟨_, rfl, x, _, dx, _, rfl, x7, T.k_BottleObserver, T.na_observations, by show 2 < 1000; decide, ?_⟩
  rw [puto3]
  have s7 := s6.trans (same_new (u := .lst []) nl)
  have c7 := upd_old (u := .lst []) c6 nl
  have e7 := upd_old (u := .lst []) e6 nl
  have o7 := upd_old (u := .lst []) o6 nl
  have l7 : (upd H6 l (.lst [])) l = some (.lst []) := upd_same
  generalize upd H6 l (.lst []) = H7 at s7 c7 e7 o7 l7
  exact k _ c l (same_mut s7 n0) upd_same ⟨dc, q, o, (upd_ne ncx).trans c7, (upd_ne nqx).trans e7, (upd_ne nox).trans o7, (upd_ne (ne_of_none c6 nl)).trans fc, (upd_ne (ne_of_none e6 nl)).trans fq, (upd_ne (ne_of_none o6 nl)).trans fo⟩ ((upd_ne nlx).trans l7) l0
end
/-- a new observer of an offer -/
theorem obs_ok {K : PySem.W.Frag} {H : Hp} {a x dx : Addr} {ts : List Tr} {Q : VK} {E : XK} (ho : OfAt K H a ts) (hf : Fair ts) (nx : H x = none) (nd : H dx = none) (ned : dx ≠ x)
    (k : ∀ H', Same H H' → ObsAt K H' x ts (early0 ts) 1 [0] → Q (.ref x) H') : spObsI K [.ref x, .ref a] (upd (upd H dx (.own x)) x (.ins (He.ga K "BottleObserver") dx [])) (fun v H2 => v = .non ∧ Q (.ref x) H2) E := by
  have s : Same H (upd (upd H dx (.own x)) x (.ins (He.ga K "BottleObserver") dx [])) := (same_new nd).trans (same_new (by rw [upd_ne ned.symm]; exact nx))
  exact ⟨x, a, dx, H, ts, rfl, s, nx, upd_same, ho, hf, fun H' c l s' h1 h2 h3 h4 => ⟨rfl, k H' s' ⟨dx, a, c, l, h1, ho.mono s', h2.at_⟩⟩⟩
/-- the possible number at a place, if there is one within the limit -/
def obsV (s : Int) (early : List Int) (p : Int) (offs : List Int) (place : Int) : V :=
  match candV s early p offs place with
  | .int b => if 1000000000000000000 < b then .non else .int b
  | v => v
theorem obsV_last {ts : List Tr} (h : startN ts ≤ 1728) : obsV (startN ts) (early0 ts) 1 [0] 1000000000000000000 = .int 1000000000000000000 := by
  have hl : (early0 ts).length = startN ts := by
    unfold early0
    rw [List.length_map, List.length_range]
  have e : candV (startN ts) (early0 ts) 1 [0] 1000000000000000000 = .int 1000000000000000000 := by
    unfold candV
    rw [hl, if_neg (by omega), if_neg (by simp)]
    simp only [List.length_singleton]
    have e1 : ((1000000000000000000 : Int) - (startN ts : Int)) % ((1 : Nat) : Int) = 0 := by omega
    rw [e1]
    show V.int ((startN ts : Int) + ((1000000000000000000 : Int) - (startN ts : Int)) / ((1 : Nat) : Int) * 1 + 0) = _
    congr 1
    omega
  unfold obsV
  rw [e]
  simp
theorem many_all {ts : List Tr} (h : startN ts ≤ 1728) : candMany (startN ts) (early0 ts) 1 [0] 1000000000000000000 = 1000000000000000001 := by
  have hl : ((early0 ts).filter fun n => decide (n ≤ 1000000000000000000)).length = startN ts := by
    rw [List.filter_eq_self.mpr]
    · unfold early0
      rw [List.length_map, List.length_range]
    · intro n m
      unfold early0 at m
      obtain ⟨i, hi, rfl⟩ := List.mem_map.mp m
      have := List.mem_range.mp hi
      exact decide_eq_true (by omega)
  unfold candMany
  rw [if_neg (by omega), hl]
  have e1 : ((1000000000000000000 : Int) - (startN ts : Int)) % 1 = 0 := by omega
  have e2 : ([0] : List Int).filter (fun o => decide (o ≤ ((1000000000000000000 : Int) - (startN ts : Int)) % 1)) = [0] := by
    rw [e1]
    rfl
  rw [e2]
  simp only [List.length_singleton]
  omega
theorem candV_cases (s : Int) (early : List Int) (p : Int) (offs : List Int) (place : Int) : candV s early p offs place = .non ∨ ∃ b, candV s early p offs place = .int b := by
  unfold candV
  split
  · exact .inr ⟨_, rfl⟩
  · split
    · exact .inl rfl
    · exact .inr ⟨_, rfl⟩
section
variable {w : World} {K : PySem.W.Frag} {mg : Str → Option Value} {base : Heap} (T : Tx K mg)
include T
def spNthP (K : PySem.W.Frag) : Sp := fun vs H Q E => ∃ (x : Addr) (n : Int), vs = [.ref x, .int n] ∧ ((¬ (1 ≤ n ∧ n ≤ 1000000000000000001) ∧ E (.ref (He.ga K "InvalidNumber")) none H) ∨
  (1 ≤ n ∧ n ≤ 1000000000000000001 ∧ ∃ (ts : List Tr) (early offs : List Int) (p : Int), ObsAt K H x ts early p offs ∧ early.length ≤ 10000000 ∧ offs.length ≤ 10000000 ∧ 0 ≤ p ∧ p < 1073741824 ∧ ∀ H', Same H H' → Q (obsV (startN ts) early p offs (n - 1)) H'))
theorem okX_BottleObserver_nth_possible (hK : K.In base) : FnR PX w K mg base (L2.CX PX w) 4 (a_BottleObserver_nth_possible K) (spNthP K) := by
  refine fnRX (d := d_BottleObserver_nth_possible) T.F_BottleObserver_nth_possible sc_BottleObserver_nth_possible rfl (fun _ _ _ _ _ _ us hl => match us, hl with | [_, _], _ => rfl) (fun vs H Q E h => ?_) (fun cdv A outer s H vs Q E hr h => ?_)
  · obtain ⟨x, n, rfl, _⟩ := h
    rfl
  obtain ⟨x, n, rfl, h⟩ := h
  obtain ⟨tM, hM⟩ := T.c_MAX_NUMBER
  refine ⟨_, (pss_cons (ps_expr (pe_cR (okX_check_number T hK) (hr.mono (by decide)) T.F_check_number.kp T.g_check_number (passes_call (takes_of rfl rfl rfl rfl) (fun _ _ _ _ h => h)) (pa_cons (pv 1) (pa_cons pe_int (pa_cons (pe_op op_add (pe_cI T.c_MAX_NUMBER) pe_int) pa_nil))))) (pss_cons (ps_set (i := 2) sc_BottleObserver_nth_possible.nd rfl (Or.inl rfl) (pe_methR (pe_fld (pv 0) rfl) T.k_Candidates T.m_Candidates_candidate (ok_Candidates_candidate T) (hr.mono (by decide)) pass0 (pa_cons (pe_op op_sub (pv 1) pe_int) pa_nil))) (pss_cons (ps_if (PW.pt (pw_or (pt_cmpR op_isN (pv 2) pe_non (nomark _)) (pw_or1 (pt_cmpR op_gt (pv 2) (pe_cI T.c_MAX_NUMBER) (nomark _))))) (pss_one (ps_ret pe_non)) pss_nil) (pss_one (ps_ret (pv 2)))))), ?_⟩
  refine ⟨_, rfl, _, _, rfl, rfl, ?_⟩
  dsimp only [tNil, tCons, tC]
  refine chk3 (by simp [bnds]) (fun a b => ?_) fun hn => ?_
  · rcases h with ⟨hn, _⟩ | ⟨_, _, ts, early, offs, p, ho, le, lo, p0, p1, k⟩
    · exact absurd ⟨a, b⟩ hn
    obtain ⟨dx, y, c, l, h1, h2, h3⟩ := ho.ex
    obtain ⟨dc, e, o, c1, c2, c3⟩ := h3.ex
    refine ⟨_, rfl, x, _, dx, _, _, rfl, h1, T.k_BottleObserver, T.na_possible, lk_possible, c, dc, _, rfl, c1, lk_noc (by decide +kernel), _, rfl, _, _, rfl, rfl, ?_⟩
    refine ⟨c, startN ts, p, n - 1, early, offs, rfl, h3, le, lo, p0, p1, by omega, by omega, fun H' s' => ?_⟩
    have k1 := k H' s'
    unfold obsV at k1
    rcases candV_cases (startN ts) early p offs (n - 1) with e | ⟨b, e⟩
    · rw [e] at k1 ⊢
      exact ⟨_, rfl, rfl, true, congrArg V.bl (decide_eq_true rfl), iteT (iteT k1)⟩
    · rw [e] at k1 ⊢
      refine ⟨_, rfl, rfl, false, congrArg V.bl (decide_eq_false (by intro z; cases z)), iteF ⟨_, rfl, _, _, rfl, rfl, _, rfl, ite2 (fun hd => ?_) (fun hd => ?_)⟩⟩
      · have hd := of_decide_eq_true hd
        simp only [if_pos hd] at k1
        exact k1
      · have hd : ¬ (1000000000000000000 : Int) < b := fun z => hd (decide_eq_true z)
        simp only [if_neg hd] at k1
        exact ⟨_, rfl, k1⟩
  · rcases h with ⟨_, k⟩ | ⟨a, b, _⟩
    · exact k
    · exact absurd ⟨a, b⟩ hn
def spUpTo (K : PySem.W.Frag) : Sp := fun vs H Q E => ∃ (x : Addr) (n : Int), vs = [.ref x, .int n] ∧ ((¬ (0 ≤ n ∧ n ≤ 1000000000000000000) ∧ E (.ref (He.ga K "InvalidNumber")) none H) ∨
  (0 ≤ n ∧ n ≤ 1000000000000000000 ∧ ∃ (ts : List Tr) (early offs : List Int) (p : Int), ObsAt K H x ts early p offs ∧ early.length ≤ 10000000 ∧ offs.length ≤ 10000000 ∧ 0 < p ∧ p < 1073741824 ∧ ∀ H', Same H H' → Q (.int (candMany (startN ts) early p offs n)) H'))
end
end EB

namespace EB
open PySem PySem.Spec PyProof.Rows L2
/-! What is possible, as a test of numbers. -/
def offT (g : Nat → Bool) (s p : Nat) : List Int := takeN (fun i => g (s + i)) p
theorem many_cnt {g : Nat → Bool} {s p : Nat} (hr : Rpt g s p) (hp : 0 < p) (t : Nat) : candMany (s : Int) (takeN g s) (p : Int) (offT g s p) (t : Int) = (cnt g (t + 1) : Int) := by
  unfold candMany offT
  rw [takeN_le]
  by_cases z : t < s
  · rw [if_pos (by omega), show min s (t + 1) = t + 1 by omega]
  · rw [if_neg (by omega), show min s (t + 1) = s by omega]
    obtain ⟨m, rfl⟩ : ∃ m, t = s + m := ⟨t - s, by omega⟩
    have e1 : (((s + m : Nat) : Int) - (s : Int)) = (m : Int) := by omega
    rw [e1, show ((m : Int) % (p : Int)) = ((m % p : Nat) : Int) from rfl, takeN_le, takeN_len]
    have hm := Nat.mod_lt m hp
    rw [show min p (m % p + 1) = m % p + 1 by omega]
    have h := hr.cnt (m / p) (m % p + 1)
    have e2 := Nat.mod_add_div m p
    rw [show s + m / p * p + (m % p + 1) = s + m + 1 by rw [Nat.mul_comm]; omega] at h
    rw [h]
    have e3 : ((m : Int) / (p : Int)) = ((m / p : Nat) : Int) := rfl
    rw [e3]
    push_cast
    rfl
theorem candV_cnt {g : Nat → Bool} {s p : Nat} (hr : Rpt g s p) (hp : 0 < p) (i : Nat) : (candV (s : Int) (takeN g s) (p : Int) (offT g s p) (i : Int) = .non ∧ ∀ n, cnt g n ≤ i) ∨ ∃ b : Nat, candV (s : Int) (takeN g s) (p : Int) (offT g s p) (i : Int) = .int b ∧ g b = true ∧ cnt g b = i := by
  unfold candV
  rw [takeN_len]
  by_cases z : i < cnt g s
  · rw [if_pos (by omega)]
    obtain ⟨b, e, h1, h2, _⟩ := takeN_get z
    exact .inr ⟨b, congrArg V.int e, h1, h2⟩
  rw [if_neg (by omega)]
  have hl : (offT g s p).length = cnt (fun i => g (s + i)) p := takeN_len _ _
  by_cases y : offT g s p = []
  · rw [if_pos y]
    rw [y] at hl
    refine .inl ⟨rfl, fun n => ?_⟩
    have h0 : cnt (fun i => g (s + i)) p = 0 := hl.symm
    rcases Nat.lt_or_ge n s with h | h
    · have := cnt_mono g (show n ≤ s by omega)
      omega
    obtain ⟨m, rfl⟩ : ∃ m, n = s + m := ⟨n - s, by omega⟩
    have h1 := hr.cnt (m / p) (m % p)
    have e2 := Nat.mod_add_div m p
    rw [show s + m / p * p + m % p = s + m by rw [Nat.mul_comm]; omega, h0] at h1
    have h2 := cnt_mono (fun i => g (s + i)) (Nat.le_of_lt (Nat.mod_lt m hp))
    omega
  rw [if_neg y]
  have hpos : 0 < cnt (fun i => g (s + i)) p := by
    rw [← hl]
    exact List.length_pos_iff.mpr y
  rw [hl]
  generalize hc : cnt (fun i => g (s + i)) p = c at hpos
  obtain ⟨m, rfl⟩ : ∃ m, i = cnt g s + m := ⟨i - cnt g s, by omega⟩
  have e1 : (((cnt g s + m : Nat) : Int) - ((cnt g s : Nat) : Int)) = (m : Int) := by omega
  rw [e1]
  have hm := Nat.mod_lt m hpos
  obtain ⟨b, e, h1, h2, h3⟩ := takeN_get (g := fun i => g (s + i)) (n := p) (i := m % c) (by rw [hc]; exact hm)
  refine .inr ⟨s + m / c * p + b, ?_, ?_, ?_⟩
  · have e4 : ((m : Int) % (c : Int)).toNat = m % c := by
      rw [show ((m : Int) % (c : Int)) = ((m % c : Nat) : Int) from rfl, Int.toNat_natCast]
    rw [e4]
    unfold offT
    rw [e, show ((m : Int) / (c : Int)) = ((m / c : Nat) : Int) from rfl]
    congr 1
  · rw [show s + m / c * p + b = (s + b) + m / c * p by omega, hr.many _ _ (by omega)]
    exact h1
  · rw [hr.cnt, h2, hc]
    have e2 := Nat.mod_add_div m c
    rw [Nat.mul_comm c] at e2
    omega
theorem nwEarly_take {g F f : Nat → Bool} {s : Nat} (h : ∀ i, i < s → f i = F i) : nwEarly (takeN g s) f = takeN (fun i => g i && F i) s := by
  unfold nwEarly
  rw [takeN_filter]
  exact takeN_congr s fun i hi => by rw [h i hi]
theorem nwAll_take {g F f : Nat → Bool} {s p q : Nat} (hq : 0 < q) (hg : Rpt g s p) (hF : Rpt F s q) (h : ∀ i, i < s + q → f i = F i) : ∀ n, nwAll s p q f (offT g s p) n = takeN (fun i => g (s + i) && F (s + i)) (n * p)
  | 0 => by
    rw [Nat.zero_mul]
    rfl
  | n + 1 => by
    rw [nwAll_succ, nwAll_take hq hg hF h n, Nat.succ_mul, takeN_add]
    congr 1
    unfold nwPart offT
    have e1 : (takeN (fun i => g (s + i)) p).filter (fun o => f (s + (((n : Int) * p + o) % q).toNat)) = (takeN (fun i => g (s + i)) p).filter (fun x => (fun j => F (s + (n * p + j))) x.toNat) := by
      refine List.filter_congr fun x m => ?_
      obtain ⟨i, rfl, hi, _⟩ := takeN_mem m
      rw [show (((n : Int) * (p : Int) + (i : Int)) % (q : Int)) = (((n * p + i) % q : Nat) : Int) by push_cast; rfl, Int.toNat_natCast, Int.toNat_natCast]
      rw [h _ (by have := Nat.mod_lt (n * p + i) hq; omega), ← hF.modp]
    rw [e1, takeN_filter (fun i => g (s + i)) (fun j => F (s + (n * p + j))) p]
    have e2 : takeN (fun i => g (s + i) && F (s + (n * p + i))) p = takeN (fun i => g (s + (n * p + i)) && F (s + (n * p + i))) p := takeN_congr p fun i hi => by
      rw [show s + (n * p + i) = (s + i) + n * p by omega, hg.many n (s + i) (by omega)]
    rw [e2]
    refine List.map_congr_left fun x _ => ?_
    push_cast
    rfl
theorem narrow_rep {g F f : Nat → Bool} {s p q : Nat} (hp : 0 < p) (hq : 0 < q) (hg : Rpt g s p) (hF : Rpt F s q) (h : ∀ i, i < s + q → f i = F i) :
    nwEarly (takeN g s) f = takeN (fun i => g i && F i) s ∧ nwAll s p q f (offT g s p) (Nat.lcm p q / p) = offT (fun i => g i && F i) s (Nat.lcm p q) ∧ Rpt (fun i => g i && F i) s (Nat.lcm p q) := by
  refine ⟨nwEarly_take fun i hi => h i (by omega), ?_, ?_⟩
  · rw [nwAll_take hq hg hF h, Nat.div_mul_cancel (Nat.dvd_lcm_left p q)]
    rfl
  · have e1 : Nat.lcm p q = Nat.lcm p q / p * p := (Nat.div_mul_cancel (Nat.dvd_lcm_left p q)).symm
    have e2 : Nat.lcm p q = Nat.lcm p q / q * q := (Nat.div_mul_cancel (Nat.dvd_lcm_right p q)).symm
    refine Rpt.and ?_ ?_
    · rw [e1]
      exact hg.mul _
    · rw [e2]
      exact hF.mul _
theorem early0_take {ts : List Tr} : early0 ts = takeN (fun _ => true) (startN ts) := by
  unfold early0 takeN
  rw [List.filter_eq_self.mpr fun _ _ => rfl]
theorem offs0_take (s : Nat) : offT (fun _ => true) s 1 = [0] := rfl
/-- the number at a place, as the law sees it -/
theorem obsV_cnt {g : Nat → Bool} {s p : Nat} (hr : Rpt g s p) (hp : 0 < p) (i : Nat) : (obsV (s : Int) (takeN g s) (p : Int) (offT g s p) (i : Int) = .non ∧ cnt g 1000000000000000001 ≤ i) ∨ ∃ b : Nat, obsV (s : Int) (takeN g s) (p : Int) (offT g s p) (i : Int) = .int b ∧ g b = true ∧ cnt g b = i ∧ b ≤ 1000000000000000000 := by
  unfold obsV
  rcases candV_cnt hr hp i with ⟨e, h⟩ | ⟨b, e, h1, h2⟩
  · rw [e]
    exact .inl ⟨rfl, h _⟩
  · rw [e]
    show ((if (1000000000000000000 : Int) < (b : Int) then V.non else V.int b) = .non ∧ _) ∨ ∃ b' : Nat, (if (1000000000000000000 : Int) < (b : Int) then V.non else V.int b) = .int b' ∧ _
    by_cases z : (1000000000000000000 : Int) < (b : Int)
    · rw [if_pos z]
      refine .inl ⟨rfl, ?_⟩
      have := cnt_mono g (show 1000000000000000001 ≤ b by omega)
      omega
    · rw [if_neg z]
      exact .inr ⟨b, rfl, h1, h2, by omega⟩
end EB

namespace EB
open PySem PySem.Spec PyProof.Rows L2
theorem puto2' {a b c l : V} : putF "_possible" b ([("_offer", a), ("_possible", c), ("_observations", l)] : List (Str × V)) = ([("_offer", a), ("_possible", b), ("_observations", l)] : List (Str × V)) := by
  rw [putF_ne (by decide +kernel)]
  rfl
section
variable {w : World} {K : PySem.W.Frag} {mg : Str → Option Value} {base : Heap} (T : Tx K mg)
include T
/-- an observation accepted or contradicted: what is possible then is narrowed, how many remain -/
def spAccept (K : PySem.W.Frag) : Sp := fun vs H Q E => ∃ (x fa dx a c l : Addr) (s p q : Nat) (early offs : List Int) (fits : List Bool) (r : V) (rs : List V), vs = [.ref x, .ref fa, .int (q : Nat), r] ∧ H x = some (.ins (He.ga K "BottleObserver") dx (obf a c l)) ∧ CandAt K H c (s : Nat) early (p : Nat) offs ∧ SqL K H fa (fits.map V.bl) ∧ H l = some (.lst rs) ∧ rs.length ≤ 1000 ∧
  0 < p ∧ 0 < q ∧ p ≤ 1000000 ∧ q ≤ 1000000 ∧ Nat.lcm p q ≤ 10000000 ∧ s + q ≤ fits.length ∧ (∀ n ∈ early, 0 ≤ n ∧ n < fits.length) ∧ early.length ≤ 10000000 ∧ (∀ o ∈ offs, 0 ≤ o) ∧ Nat.lcm p q / p * offs.length ≤ 10000000 ∧
  (candMany s (nwEarly early fun i => fits.getD i false) (Nat.lcm p q : Nat) (nwAll s p q (fun i => fits.getD i false) offs (Nat.lcm p q / p)) 1000000000000000000 = 0 → ∀ H', Same H H' → E (.ref (He.ga K "Contradiction")) none H') ∧
  (candMany s (nwEarly early fun i => fits.getD i false) (Nat.lcm p q : Nat) (nwAll s p q (fun i => fits.getD i false) offs (Nat.lcm p q / p)) 1000000000000000000 ≠ 0 → ∀ H1 c', Same H H1 → CandNew K H H1 c' (s : Nat) (nwEarly early fun i => fits.getD i false) (Nat.lcm p q : Nat) (nwAll s p q (fun i => fits.getD i false) offs (Nat.lcm p q / p)) → H c' = none →
    Q (.int (candMany s (nwEarly early fun i => fits.getD i false) (Nat.lcm p q : Nat) (nwAll s p q (fun i => fits.getD i false) offs (Nat.lcm p q / p)) 1000000000000000000)) (upd (upd H1 x (.ins (He.ga K "BottleObserver") dx (obf a c' l))) l (.lst (rs ++ [r]))))
theorem okX_BottleObserver_accept : FnR PX w K mg base (L2.CX PX w) 5 (a_BottleObserver_accept K) (spAccept K) := by
  refine fnRX (d := d_BottleObserver_accept) T.F_BottleObserver_accept sc_BottleObserver_accept rfl (fun _ _ _ _ _ _ us hl => match us, hl with | [_, _, _, _], _ => rfl) (fun vs H Q E h => ?_) (fun cdv A outer s H vs Q E hr h => ?_)
  · obtain ⟨x, fa, dx, a, c, l, s, p, q, early, offs, fits, r, rs, rfl, _⟩ := h
    rfl
  obtain ⟨x, fa, dx, a, c, l, s, p, q, early, offs, fits, r, rs, rfl, hx, hc, hf, hl, lr, p0, q0, p1, q1, w1, sq, he, le, ho, lo, k0, k1⟩ := h
  obtain ⟨dc, e, o, c1, c2, c3⟩ := hc.ex
  obtain ⟨tM, hM⟩ := T.c_MAX_NUMBER
  refine ⟨_, (pss_cons (ps_set (i := 4) sc_BottleObserver_accept.nd rfl (Or.inl rfl) (pe_methR (pe_fld (pv 0) rfl) T.k_Candidates T.m_Candidates_narrowed (ok_Candidates_narrowed T) (hr.mono (by decide)) pass0 (pa_cons (pv 1) (pa_cons (pv 2) pa_nil)))) (pss_cons (ps_set (i := 5) sc_BottleObserver_accept.nd rfl (Or.inl rfl) (pe_methR (pv 4) T.k_Candidates T.m_Candidates_many_within (ok_Candidates_many_within T) (hr.mono (by decide)) pass0 (pa_cons (pe_cI T.c_MAX_NUMBER) pa_nil))) (pss_cons (ps_if (pt_cmpR op_eq (pv 5) pe_int (nomark _)) (pss_one (ps_raise rfl (takes_of rfl rfl rfl rfl) (pmk_own PySem.F.excBase_ValueError T.x_Contradiction.own T.g_Contradiction T.x_Contradiction.keep (raises_own T.x_Contradiction.base T.x_Contradiction.ty) (by rfl)))) pss_nil) (pss_cons (ps_fld (pv 0) (pv 4) rfl) (pss_cons (ps_expr (pe_bm PySem.F.plainAttrs_list PySem.F.slot_list_append PySem.F.type_list_append mt_append (pe_fld (pv 0) rfl) (pa_cons (pv 3) pa_nil))) (pss_one (ps_ret (pv 5)))))))), ?_⟩
  refine ⟨_, rfl, x, _, dx, _, _, rfl, hx, T.k_BottleObserver, T.na_possible, lk_possible, c, dc, _, rfl, c1, lk_noc (by decide +kernel), _, rfl, _, rfl, ?_⟩
  refine ⟨c, fa, s, p, q, early, offs, fits, rfl, hc, hf, p0, q0, p1, q1, w1, sq, he, le, ho, lo, fun H1 c' s1 hc' nc' => ?_⟩
  obtain ⟨dc', e', o', d1, d2, d3, _⟩ := hc'.ex
  have le1 : (nwEarly early fun i => fits.getD i false).length ≤ 10000000 := Nat.le_trans (List.length_filter_le _ _) le
  have lo1 := Nat.le_trans (nwAll_len s p q (fun i => fits.getD i false) offs (Nat.lcm p q / p)) lo
  have wp : 0 < Nat.lcm p q := Nat.lcm_pos p0 q0
  refine ⟨_, rfl, c', dc', _, rfl, d1, lk_noc (by decide +kernel), ?_⟩
  refine ⟨c', s, (Nat.lcm p q : Nat), 1000000000000000000, _, _, rfl, hc'.at_, le1, lo1, by omega, by omega, by omega, by decide, by decide, fun H2 s2 => ?_⟩
  have s12 := s1.trans s2
  refine ⟨_, rfl, rfl, _, rfl, ite2 (fun hd => ?_) (fun hd => ?_)⟩
  · exact k0 (V.int.inj (of_decide_eq_true hd)) H2 s12
  have hd : candMany s (nwEarly early fun i => fits.getD i false) (Nat.lcm p q : Nat) (nwAll s p q (fun i => fits.getD i false) offs (Nat.lcm p q / p)) 1000000000000000000 ≠ 0 := fun z => hd (decide_eq_true (congrArg V.int z))
  have hx2 := s12 _ _ hx
  have hl2 := s12 _ _ hl
  refine ⟨_, rfl, _, rfl, x, _, dx, _, rfl, hx2, T.k_BottleObserver, T.na_possible, by show 3 < 1000; decide, ?_⟩
  have pe : putF "_possible" (.ref c') (obf a c l) = obf a c' l := puto2'
  rw [pe]
  have nlx : l ≠ x := fun z => by
    rw [z, hx2] at hl2
    cases hl2
  have hl3 : upd H2 x (.ins (He.ga K "BottleObserver") dx (obf a c' l)) l = some (.lst rs) := (upd_ne nlx).trans hl2
  refine ⟨_, rfl, x, _, dx, _, _, rfl, upd_same, T.k_BottleObserver, T.na_observations, lk_observations, .inl ⟨rfl, _, SqL.of hl3⟩, _, rfl, l, _, _, rfl, rfl, hl3, Nat.lt_of_le_of_lt lr (by decide), _, rfl, k1 hd H2 c' s12 (hc'.mono s2) nc'⟩
end
end EB

namespace EB
open PySem PySem.Spec PyProof.Rows L2
/-! What is seen of bottles. -/
inductive En
  | left (k : Str) (c : Int)
  | round (n p : Int)
def En.vs : En → List V
  | .left k c => [.str "left", .str k, .int c]
  | .round n p => [.str "round", .int n, .int p]
/-- a number of bottles agrees with what is seen -/
noncomputable def agB (ts : List Tr) : En → Nat → Bool
  | .left k c, n => decide (valV (leftK ts (D (cN ts) n)) (.inr k) = some (.int c))
  | .round m p, n => decide ((if m = 1 then (n : Int) else buys ts n) % 2 = p)
def En.span (ts : List Tr) : En → Nat
  | .left _ _ => perB ts
  | .round m _ => if m = 1 then 2 else 2 * per ts
theorem left_same {d e : Nat} : ∀ (ts : List Tr) (kvs : List (Key × V)), (∀ t ∈ ts, t.l * (d : Int) % t.n = t.l * (e : Int) % t.n) →
    ts.foldl (fun kvs t => putK kvs (.inr t.k) (.int (t.l * (d : Nat) % t.n))) kvs = ts.foldl (fun kvs t => putK kvs (.inr t.k) (.int (t.l * (e : Nat) % t.n))) kvs
  | [], _, _ => rfl
  | t :: ts, kvs, h => by
    rw [List.foldl_cons, List.foldl_cons, h t (List.mem_cons_self ..)]
    exact left_same ts _ fun u m => h u (List.mem_cons_of_mem _ m)
theorem left_add {ts : List Tr} (h : gds ts) (d : Nat) : leftK ts (d + per ts) = leftK ts d := by
  unfold leftK
  refine left_same ts [] fun t m => ?_
  obtain ⟨q, e⟩ := (per_dvd h (d := per ts)).mp (Nat.dvd_refl _) t m
  push_cast
  rw [Int.mul_add, e, Int.add_mul_emod_self_left]
theorem start_per {ts : List Tr} (f : Fair ts) {n : Nat} (h : startN ts ≤ n) : D (cN ts) (n + perB ts) = D (cN ts) n + per ts := by
  have h1 := (start_eq f).1
  exact (cf f).D_per (by omega)
theorem agB_rpt {ts : List Tr} (f : Fair ts) : ∀ e : En, Rpt (agB ts e) (startN ts) (e.span ts)
  | .left k c => fun n hn => by
    show decide (valV (leftK ts (D (cN ts) (n + perB ts))) (.inr k) = some (.int c)) = decide (valV (leftK ts (D (cN ts) n)) (.inr k) = some (.int c))
    rw [start_per f hn, left_add f.g]
  | .round m p => fun n hn => by
    show decide ((if m = 1 then ((n + (if m = 1 then 2 else 2 * per ts) : Nat) : Int) else buys ts ((n + (if m = 1 then 2 else 2 * per ts) : Nat) : Int)) % 2 = p) = decide ((if m = 1 then (n : Int) else buys ts n) % 2 = p)
    by_cases z : m = 1
    · rw [if_pos z, if_pos z, if_pos z, show ((n + 2 : Nat) : Int) % 2 = (n : Int) % 2 by omega]
    · rw [if_neg z, if_neg z, if_neg z]
      have h1 := (cf f).perm n 2
      have e1 : cN ts (n + 2 * per ts) = ((n + 2 * per ts : Nat) : Int) - buys ts ((n + 2 * per ts : Nat) : Int) := rfl
      have e2 : cN ts n = (n : Int) - buys ts (n : Int) := rfl
      rw [e1, e2] at h1
      rw [show buys ts ((n + 2 * per ts : Nat) : Int) % 2 = buys ts (n : Int) % 2 by push_cast at h1 ⊢; omega]
theorem span_pos2 {ts : List Tr} (f : Fair ts) (e : En) : 0 < e.span ts ∧ e.span ts ≤ 4000 := by
  have h1 := per_pos f.g
  have h2 := per_le' f.g
  have h3 := (cf f).bpos
  have h4 := perB_le f
  cases e with
  | left k c => exact ⟨h3, show perB ts ≤ 4000 by omega⟩
  | round m p =>
    show 0 < (if m = 1 then 2 else 2 * per ts) ∧ (if m = 1 then 2 else 2 * per ts) ≤ 4000
    split <;> omega
/-- an observer that is asked: what is possible is g, p its period -/
structure Sees (K : PySem.W.Frag) (H : Hp) (x dx a c l : Addr) (ts : List Tr) (g : Nat → Bool) (p : Nat) (rs : List V) : Prop where
  ins : H x = some (.ins (He.ga K "BottleObserver") dx (obf a c l))
  of : OfAt K H a ts
  cand : CandAt K H c (startN ts) (takeN g (startN ts)) (p : Nat) (offT g (startN ts) p)
  lst : H l = some (.lst rs)
  rpt : Rpt g (startN ts) p
  pos : 0 < p
/-- what an observation brings -/
def SeeP (K : PySem.W.Frag) (x : Addr) (e : En) (H : Hp) (Q : VK) (E : XK) : Prop := ∃ (dx a c l : Addr) (ts : List Tr) (g : Nat → Bool) (p : Nat) (rs : List V), Sees K H x dx a c l ts g p rs ∧ Fair ts ∧ rs.length ≤ 1000 ∧ p ≤ 1000000 ∧ Nat.lcm p (e.span ts) ≤ 1000000 ∧
  (match e with | .left k _ => k ∈ ts.map Tr.k | .round m q => 1 ≤ m ∧ m ≤ 2 ∧ 0 ≤ q ∧ q ≤ 1) ∧
  (cnt (fun i => g i && agB ts e i) 1000000000000000001 = 0 → ∀ H', Same H H' → E (.ref (He.ga K "Contradiction")) none H') ∧
  (cnt (fun i => g i && agB ts e i) 1000000000000000001 ≠ 0 → ∀ H1 c' r, Same H H1 → CandNew K H H1 c' (startN ts) (takeN (fun i => g i && agB ts e i) (startN ts)) (Nat.lcm p (e.span ts) : Nat) (offT (fun i => g i && agB ts e i) (startN ts) (Nat.lcm p (e.span ts))) → H c' = none → H1 r = some (.tup e.vs) → H r = none →
    Q (.int (cnt (fun i => g i && agB ts e i) 1000000000000000001 : Nat)) (upd (upd H1 x (.ins (He.ga K "BottleObserver") dx (obf a c' l))) l (.lst (rs ++ [.ref r]))))
/-- _accept, once the list of what fits is made -/
theorem accept_do {K : PySem.W.Frag} {H G : Hp} {x dx a c l fa r : Addr} {ts : List Tr} {g : Nat → Bool} {p : Nat} {rs : List V} {e : En} {Q : VK} {E : XK} {fits : List Bool} (S : Sees K H x dx a c l ts g p rs) (f : Fair ts) (lr : rs.length ≤ 1000) (p1 : p ≤ 1000000) (w1 : Nat.lcm p (e.span ts) ≤ 1000000)
    (k0 : cnt (fun i => g i && agB ts e i) 1000000000000000001 = 0 → ∀ H', Same H H' → E (.ref (He.ga K "Contradiction")) none H')
    (k1 : cnt (fun i => g i && agB ts e i) 1000000000000000001 ≠ 0 → ∀ H1 c' r, Same H H1 → CandNew K H H1 c' (startN ts) (takeN (fun i => g i && agB ts e i) (startN ts)) (Nat.lcm p (e.span ts) : Nat) (offT (fun i => g i && agB ts e i) (startN ts) (Nat.lcm p (e.span ts))) → H c' = none → H1 r = some (.tup e.vs) → H r = none →
      Q (.int (cnt (fun i => g i && agB ts e i) 1000000000000000001 : Nat)) (upd (upd H1 x (.ins (He.ga K "BottleObserver") dx (obf a c' l))) l (.lst (rs ++ [.ref r]))))
    (s : Same H G) (hfa : SqL K G fa (fits.map V.bl)) (lf : fits.length = startN ts + e.span ts) (hf : ∀ i, i < startN ts + e.span ts → fits.getD i false = agB ts e i) (hr : G r = some (.tup e.vs)) (nr : H r = none) :
    spAccept K [.ref x, .ref fa, .int (e.span ts : Nat), .ref r] G Q E := by
  have sp := span_pos2 f e
  have st := (start_eq f).2
  obtain ⟨n1, n2, n3⟩ := narrow_rep (f := fun i => fits.getD i false) S.pos sp.1 S.rpt (agB_rpt f e) hf
  have wp : 0 < Nat.lcm p (e.span ts) := Nat.lcm_pos S.pos sp.1
  have lo : (offT g (startN ts) p).length ≤ p := by
    unfold offT
    rw [takeN_len]
    exact cnt_le _ _
  have le : (takeN g (startN ts)).length ≤ 1728 := by
    rw [takeN_len]
    exact Nat.le_trans (cnt_le _ _) st
  have hm : candMany (startN ts : Int) (takeN (fun i => g i && agB ts e i) (startN ts)) (Nat.lcm p (e.span ts) : Nat) (offT (fun i => g i && agB ts e i) (startN ts) (Nat.lcm p (e.span ts))) 1000000000000000000 = (cnt (fun i => g i && agB ts e i) 1000000000000000001 : Nat) := many_cnt n3 wp 1000000000000000000
  refine ⟨x, fa, dx, a, c, l, startN ts, p, e.span ts, _, _, fits, .ref r, rs, rfl, s _ _ S.ins, S.cand.mono s, hfa, s _ _ S.lst, lr, S.pos, sp.1, p1, by omega, by omega, by omega, fun n m => ?_, by omega, fun o m => ?_, ?_, fun z H' s' => ?_, fun z H1 c' s' hc nc => ?_⟩
  · obtain ⟨i, rfl, hi, _⟩ := takeN_mem m
    omega
  · obtain ⟨i, rfl, hi, _⟩ := takeN_mem m
    omega
  · have e1 := Nat.div_mul_cancel (Nat.dvd_lcm_left p (e.span ts))
    have e2 : Nat.lcm p (e.span ts) / p * (offT g (startN ts) p).length ≤ Nat.lcm p (e.span ts) / p * p := Nat.mul_le_mul_left _ lo
    omega
  · rw [n1, n2, hm] at z
    exact k0 (by exact_mod_cast z) H' (s.trans s')
  · rw [n1, n2, hm] at z ⊢
    rw [n1, n2] at hc
    exact k1 (fun y => z (by rw [y]; rfl)) H1 c' r (s.trans s') (hc.base s) (s.free nc) (s' _ _ hr) nr
end EB

namespace EB
open PySem PySem.Spec PyProof.Rows L2
theorem left_has0 {d : Nat} {k : Str} : ∀ (ts : List Tr) (kvs : List (Key × V)), (k ∈ ts.map Tr.k ∨ ∃ c : Int, 0 ≤ c ∧ c < 100 ∧ valV kvs (.inr k) = some (.int c)) → (∀ t ∈ ts, t.ok) →
    ∃ c : Int, 0 ≤ c ∧ c < 100 ∧ valV (ts.foldl (fun kvs t => putK kvs (.inr t.k) (.int (t.l * (d : Nat) % t.n))) kvs) (.inr k) = some (.int c)
  | [], kvs, h, _ => by
    rcases h with h | h
    · cases h
    · exact h
  | t :: ts, kvs, h, hok => by
    have ht := hok t (List.mem_cons_self ..)
    rw [List.foldl_cons]
    refine left_has0 ts _ ?_ fun u m => hok u (List.mem_cons_of_mem _ m)
    by_cases z : k = t.k
    · refine .inr ⟨t.l * (d : Nat) % t.n, Int.emod_nonneg _ (by have := ht.2.2.1; omega), ?_, ?_⟩
      · have := Int.emod_lt_of_pos (t.l * ((d : Nat) : Int)) (show 0 < t.n by have := ht.2.2.1; omega)
        have := ht.2.2.2
        omega
      · rw [valV_put, if_pos (by rw [z])]
    · rcases h with h | ⟨c, h0, h1, h⟩
      · rw [List.map_cons] at h
        rcases List.mem_cons.mp h with h | h
        · exact absurd h z
        · exact .inl h
      · refine .inr ⟨c, h0, h1, ?_⟩
        rw [valV_put, if_neg (fun y => z (Sum.inr.inj y))]
        exact h
theorem left_has {ts : List Tr} {k : Str} (g : gds ts) (h : k ∈ ts.map Tr.k) (d : Nat) : ∃ c : Int, 0 ≤ c ∧ c < 100 ∧ valV (leftK ts d) (.inr k) = some (.int c) := left_has0 ts [] (.inl h) g.2
section
variable {P : Program} {w : World} {K : PySem.W.Frag} {mg : Str → Option Value} {base : Heap} (T : Tx K mg)
include T
def spDrunk (K : PySem.W.Frag) : Sp := fun vs H Q _ => ∃ (a : Addr) (ts : List Tr) (m : Int) (n : Nat), vs = [.ref a, .int m, .int (n : Nat)] ∧ OfAt K H a ts ∧ Fair ts ∧ ∀ H', Same H H' → Q (.int (if m = 1 then (n : Int) else buys ts n)) H'
end
section
variable {w : World} {K : PySem.W.Frag} {mg : Str → Option Value} {base : Heap} (T : Tx K mg)
include T
def spSeeL (K : PySem.W.Frag) : Sp := fun vs H Q E => ∃ (x : Addr) (k : Str) (c : Int), vs = [.ref x, .str k, .int c] ∧ SeeP K x (.left k c) H Q E
theorem okX_BottleObserver_see_left (hK : K.In base) : FnR PX w K mg base (L2.CX PX w) 7 (a_BottleObserver_see_left K) (spSeeL K) := by
  refine fnRX (d := d_BottleObserver_see_left) T.F_BottleObserver_see_left sc_BottleObserver_see_left rfl (fun _ _ _ _ _ _ us hl => match us, hl with | [_, _, _], _ => rfl) (fun vs H Q E h => ?_) (fun cdv A outer s H vs Q E hr h => ?_)
  · obtain ⟨x, k, c, rfl, _⟩ := h
    rfl
  obtain ⟨x, k, n, rfl, dx, a, c, l, ts, g, p, rs, S, hf, lr, p1, w1, hk, k0, k1⟩ := h
  have hk : k ∈ ts.map Tr.k := hk
  obtain ⟨dy, fy, oi, on⟩ := S.of.ins
  have st := start_eq hf
  refine ⟨_, (pss_cons (ps_set (i := 3) sc_BottleObserver_see_left.nd rfl (Or.inr rfl) (pe_fld (pv 0) rfl)) (pss_cons (ps_if (pt_cmpR op_notIn_seq (pv 1) (pe_prop (pv 3) T.k_Offer T.p_Offer_kinds (ok_Offer_kinds T) (hr.mono (by decide)) (b_Offer_kinds T) .nil pass0 rfl) rfl) (pss_one (ps_raise rfl (takes_of rfl rfl rfl rfl) (pmk_own PySem.F.excBase_ValueError T.x_UnknownKind.own T.g_UnknownKind T.x_UnknownKind.keep (raises_own T.x_UnknownKind.base T.x_UnknownKind.ty) (by rfl)))) pss_nil) (pss_cons (ps_set (i := 4) sc_BottleObserver_see_left.nd rfl (Or.inl rfl) (pe_ix ix_tup (pe_prop (pv 3) T.k_Offer T.p_Offer_period (ok_Offer_period T) (hr.mono (by decide)) (b_Offer_period T) .nil pass0 rfl) pe_int (fun _ _ => rfl))) (pss_cons (ps_set (i := 5) sc_BottleObserver_see_left.nd rfl (Or.inl rfl) (pe_callTy cr_range1 (by rfl) T.n_range (by decide +kernel) (pa_cons (pe_op op_add (pe_prop (pv 3) T.k_Offer T.p_Offer_steady_from (ok_Offer_steady_from T) (hr.mono (by decide)) (b_Offer_steady_from T) .nil pass0 rfl) (pv 4)) pa_nil))) (pss_cons (ps_setLc (i := 6) (own := [("bottles", 7)]) rfl sc_BottleObserver_see_left.nd rfl rfl (sw_true rfl rfl rfl (by decide +kernel)) (pi_rng (pv 5)) (blkOk_by (own := [("bottles", 7)]) (N := N_BottleObserver_see_left) (sc := defScope s_BottleObserver_see_left) (by decide +kernel)) (fun _ _ _ _ _ => (pg_name (i := 7) sc_BottleObserver_see_left.nd rfl (Or.inl rfl) (.inr rfl))) (fun _ _ _ _ _ => pts_nil) (fun _ _ _ _ _ => (pe_and (pe_cR (ok_is_integer T) (hr.mono (by decide)) T.F_is_integer.kp T.g_is_integer pass0 (pa_cons (pv 2) pa_nil)) (pe_one (pe_cmpR op_eq (pe_dget (hu_of hr) (pe_methR (pv 3) T.k_Offer T.m_Offer_left_over (ok_Offer_left_over T) (hr.mono (by decide)) pass0 (pa_cons (pv 7) pa_nil)) (pv 1) (fun _ _ => rfl)) (pv 2) (nomark _)))))) (pss_one (ps_ret (pe_methR (pv 0) T.k_BottleObserver T.m_BottleObserver_accept (okX_BottleObserver_accept T) (hr.mono (by decide)) (passes_call (takes_of rfl rfl rfl rfl) (fun _ _ _ _ h => h)) (pa_cons (pv 6) (pa_cons (pv 4) (pa_cons (pe_tup (pa_cons pe_str (pa_cons (pv 1) (pa_cons (pv 2) pa_nil)))) pa_nil))))))))))), ?_⟩
  refine ⟨_, rfl, x, _, dx, _, _, rfl, S.ins, T.k_BottleObserver, T.na_offer, lk_offer, ?_⟩
  refine ⟨_, rfl, _, rfl, a, dy, fy, rfl, oi, a, ts, rfl, S.of, hf.g.1, fun H1 kp s1 hkp => ⟨kp, _, rfl, .inr hkp, rfl, flat_str _, _, rfl, ?_⟩⟩
  rw [if_pos rfl, inV_mem hk]
  refine iteF ?_
  have oi1 := s1 _ _ oi
  have oa1 := S.of.mono s1
  refine ⟨_, rfl, a, dy, fy, rfl, oi1, a, ts, rfl, oa1, fun pp hpp => ⟨pp, _, 0, _, rfl, rfl, hpp, rfl, ?_⟩⟩
  refine ⟨_, rfl, a, dy, fy, rfl, oi1, a, ts, rfl, oa1, hf, ?_⟩
  rw [st.1]
  refine ⟨_, rfl, _, _, rfl, rfl, _, rfl, fun q nq => ?_⟩
  have s2 := s1.trans (same_new (u := .rng 0 ((startN ts : Int) + (perB ts : Nat))) nq)
  have e2 : (upd H1 q (.rng 0 ((startN ts : Int) + (perB ts : Nat)))) q = some (.rng 0 ((startN ts : Int) + (perB ts : Nat))) := upd_same
  generalize upd H1 q (.rng 0 ((startN ts : Int) + (perB ts : Nat))) = H2 at s2 e2
  have hb := span_pos2 hf (.left k n)
  have hb2 : perB ts ≤ 4000 := hb.2
  refine ⟨_, rfl, q, _, _, rfl, e2, ⟨by decide, by decide, by omega, by omega⟩, fun L nL => ?_⟩
  refine lc_range (lo := 0) (n := ((startN ts : Int) + (perB ts : Nat) - 0).toNat) (fun i G => Same H2 G ∧ G L = some (.lst (((List.range i).map fun j => agB ts (.left k n) j).map V.bl))) ⟨same_new nL, upd_same⟩ ?_ ?_
  · rintro i G hi ⟨sG, eG⟩
    have sHG := s2.trans sG
    refine ⟨rfl, _, rfl, n, rfl, true, rfl, iteT ?_⟩
    rw [Int.zero_add]
    have lf := left_has hf.g hk (D (cN ts) i)
    refine ⟨_, rfl, a, dy, fy, rfl, sHG _ _ oi, on _ (by decide +kernel), _, rfl, a, ts, i, rfl, S.of.mono sHG, hf, by omega, fun G1 pd sG1 hd => ?_⟩
    obtain ⟨cv, _, _, ec⟩ := lf
    refine ⟨_, rfl, pd, .int cv, rfl, by have z := DGet.k (k := .inr k) hd; rw [ec] at z; exact z, _, rfl, rfl, ?_⟩
    have sG2 := sG.trans sG1
    refine ⟨_, sG1 _ _ eG, ?_, same_mut sG2 nL, ?_⟩
    · refine Nat.lt_of_le_of_lt (m := 10000) ?_ (by decide)
      rw [List.length_map, List.length_map, List.length_range]
      omega
    · rw [upd_same, List.range_succ, List.map_append, List.map_append]
      have e : decide (V.int cv = V.int n) = agB ts (.left k n) i := by
        show _ = decide (valV (leftK ts (D (cN ts) i)) (.inr k) = some (.int n))
        rw [ec]
        exact decide_eq_decide.mpr ⟨fun z => by rw [z], fun z => Option.some.inj z⟩
      rw [e]
      rfl
  · rintro G ⟨sG, eG⟩
    have sHG := s2.trans sG
    refine ⟨_, rfl, x, dx, _, rfl, sHG _ _ S.ins, lk_noo (by decide +kernel), _, rfl, _, rfl, _, rfl, _, rfl, by show 3 ≤ sizeLine; decide, fun r nr => ?_⟩
    have sr := sHG.trans (same_new (u := .tup [.str "left", .str k, .int n]) nr)
    have lr0 : ((startN ts : Int) + (perB ts : Nat) - 0).toNat = startN ts + perB ts := by omega
    rw [lr0] at eG
    exact accept_do S hf lr p1 w1 k0 k1 sr (SqL.of (upd_old eG nr)) (by rw [List.length_map, List.length_range]; rfl) (fun i hi => by
      have hi2 : i < startN ts + perB ts := hi
      rw [List.getD_eq_getElem?_getD, List.getElem?_map, List.getElem?_range hi2]
      rfl) upd_same (sHG.free nr)
def spSeeR (K : PySem.W.Frag) : Sp := fun vs H Q E => ∃ (x : Addr) (m q : Int), vs = [.ref x, .int m, .int q] ∧ SeeP K x (.round m q) H Q E
end
end EB

namespace EB
open PySem PySem.Spec PyProof.Rows L2
/-- a list of what has been told -/
structure TellAt (K : PySem.W.Frag) (H : Hp) (l : Addr) (es : List En) : Prop where
  ex : ∃ rs : List Addr, SqL K H l (rs.map V.ref) ∧ rs.length = es.length ∧ ∀ (i : Nat) (r : Addr) (e : En), rs[i]? = some r → es[i]? = some e → SqT K H r e.vs
theorem TellAt.mono {K : PySem.W.Frag} {H H' : Hp} {l : Addr} {es : List En} (s : Same H H') (t : TellAt K H l es) : TellAt K H' l es := by
  obtain ⟨rs, h1, h2, h3⟩ := t.ex
  exact ⟨rs, s.seq h1, h2, fun i r e a b => Same.tup s (h3 i r e a b)⟩
theorem TellAt.at_ {K : PySem.W.Frag} {H : Hp} {es : List En} {rs : List Addr} {i : Nat} {x : V} (h2 : rs.length = es.length) (h3 : ∀ (i : Nat) (r : Addr) (e : En), rs[i]? = some r → es[i]? = some e → SqT K H r e.vs) (h : (rs.map V.ref)[i]? = some x) : ∃ r e, x = .ref r ∧ es[i]? = some e ∧ e ∈ es ∧ SqT K H r e.vs := by
  rw [List.getElem?_map] at h
  cases hr : rs[i]? with
  | none =>
    rw [hr] at h
    cases h
  | some r =>
    rw [hr] at h
    cases h
    obtain ⟨e, he⟩ := get_of h2 hr
    exact ⟨r, e, rfl, he, List.mem_of_getElem? he, h3 i r e hr he⟩
/-- it may be told of the offer -/
def EnOk (ts : List Tr) : En → Prop
  | .left k _ => k ∈ ts.map Tr.k
  | .round m q => 1 ≤ m ∧ m ≤ 2 ∧ 0 ≤ q ∧ q ≤ 1
/-- what agrees with all that was told -/
noncomputable def allB (ts : List Tr) (es : List En) (n : Nat) : Bool := es.all fun e => agB ts e n
theorem allB_nil (ts : List Tr) : allB ts [] = fun _ => true := rfl
theorem allB_snoc (ts : List Tr) (es : List En) (e : En) : allB ts (es ++ [e]) = fun n => allB ts es n && agB ts e n := funext fun n => by
  unfold allB
  rw [List.all_append]
  simp
theorem ne_of_not {a b : V} (z : (!decide (a = b)) = true) : ¬ a = b := by simpa using z
theorem not_of_ne {a b : V} (z : ¬ a = b) : (!decide (a = b)) = true := by simpa using z
section
variable {P : Program} {w : World} {K : PySem.W.Frag} {mg : Str → Option Value} {base : Heap} (T : Tx K mg)
include T
def spAgrees (K : PySem.W.Frag) : Sp := fun vs H Q _ => ∃ (a l : Addr) (ts : List Tr) (es : List En) (n : Nat), vs = [.ref a, .int (n : Nat), .ref l] ∧ OfAt K H a ts ∧ Fair ts ∧ n ≤ 1000000000000000000 ∧ TellAt K H l es ∧ (∀ e ∈ es, EnOk ts e) ∧ ∀ H', Same H H' → Q (.bl (allB ts es n)) H'
def spRec (K : PySem.W.Frag) : Sp := fun vs H Q _ => ∃ (x dx a c l : Addr) (rs : List V), vs = [.ref x] ∧ H x = some (.ins (He.ga K "BottleObserver") dx (obf a c l)) ∧ H l = some (.lst rs) ∧ rs.length ≤ 1000 ∧ ∀ p, H p = none → Q (.ref p) (upd H p (.lst rs))
theorem b_BottleObserver_records : Binds K T.fd_BottleObserver_records ["self"] [] := bnd0 T.F_BottleObserver_records sc_BottleObserver_records rfl (fun _ _ _ _ _ _ us hl => match us, hl with | [_], _ => rfl)
theorem ok_BottleObserver_records : FnOk P w K mg base CX0 1 (a_BottleObserver_records K) T.fd_BottleObserver_records ["self"] (spRec K) := by
  refine fnK0 (d := d_BottleObserver_records) T.F_BottleObserver_records sc_BottleObserver_records (fun vs H Q E h => ?_) (fun cdv A outer s H vs Q E hr h => ?_)
  · obtain ⟨x, dx, a, c, l, rs, rfl, _⟩ := h
    rfl
  obtain ⟨x, dx, a, c, l, rs, rfl, hx, hl, lr, k⟩ := h
  refine ⟨_, (pss_one (ps_ret (pe_callTy call_list_of (by rfl) T.n_list (by decide +kernel) (pa_cons (pe_fld (pv 0) rfl) pa_nil)))), ?_⟩
  refine ⟨_, rfl, x, _, dx, _, _, rfl, hx, T.k_BottleObserver, T.na_observations, lk_observations, l, rs, rfl, .inl (SqL.of hl), k⟩
end
end EB

namespace EB
open PySem PySem.Spec PyProof.Rows L2
theorem Sees.obs {K : PySem.W.Frag} {H : Hp} {x dx a c l : Addr} {ts : List Tr} {g : Nat → Bool} {p : Nat} {rs : List V} (S : Sees K H x dx a c l ts g p rs) : ObsAt K H x ts (takeN g (startN ts)) (p : Nat) (offT g (startN ts) p) := ⟨dx, a, c, l, S.ins, S.of, S.cand⟩
theorem Sees.mono {K : PySem.W.Frag} {H H' : Hp} {x dx a c l : Addr} {ts : List Tr} {g : Nat → Bool} {p : Nat} {rs : List V} (s : Same H H') (S : Sees K H x dx a c l ts g p rs) : Sees K H' x dx a c l ts g p rs := ⟨s _ _ S.ins, S.of.mono s, S.cand.mono s, s _ _ S.lst, S.rpt, S.pos⟩
/-- count_up_to(n) of such an observer -/
theorem upTo_do {K : PySem.W.Frag} {H : Hp} {x dx a c l : Addr} {ts : List Tr} {g : Nat → Bool} {p : Nat} {rs : List V} {n : Nat} {Q : VK} {E : XK} (S : Sees K H x dx a c l ts g p rs) (f : Fair ts) (p1 : p ≤ 1000000) (hn : n ≤ 1000000000000000000) (k : ∀ H', Same H H' → Q (.int (cnt g (n + 1) : Nat)) H') :
    spUpTo K [.ref x, .int (n : Nat)] H Q E := by
  have st := (start_eq f).2
  refine ⟨x, n, rfl, .inr ⟨by omega, by omega, ts, _, _, p, S.obs, ?_, ?_, by have := S.pos; omega, by omega, fun H' s => ?_⟩⟩
  · rw [takeN_len]
    have := cnt_le g (startN ts)
    omega
  · unfold offT
    rw [takeN_len]
    have := cnt_le (fun i => g (startN ts + i)) p
    omega
  · rw [many_cnt S.rpt S.pos]
    exact k H' s
theorem nth_do {K : PySem.W.Frag} {H : Hp} {x dx a c l : Addr} {ts : List Tr} {g : Nat → Bool} {p : Nat} {rs : List V} {n : Nat} {Q : VK} {E : XK} (S : Sees K H x dx a c l ts g p rs) (f : Fair ts) (p1 : p ≤ 1000000) (hn : n ≤ 1000000000000000000)
    (k : ∀ H', Same H H' → (cnt g 1000000000000000001 ≤ n → Q .non H') ∧ ∀ b : Nat, g b = true → cnt g b = n → b ≤ 1000000000000000000 → Q (.int (b : Nat)) H') :
    spNthP K [.ref x, .int ((n + 1 : Nat) : Int)] H Q E := by
  have st := (start_eq f).2
  refine ⟨x, _, rfl, .inr ⟨by omega, by omega, ts, _, _, p, S.obs, ?_, ?_, by omega, by omega, fun H' s => ?_⟩⟩
  · rw [takeN_len]
    have := cnt_le g (startN ts)
    omega
  · unfold offT
    rw [takeN_len]
    have := cnt_le (fun i => g (startN ts + i)) p
    omega
  · have k1 := k H' s
    rw [show ((n + 1 : Nat) : Int) - 1 = (n : Int) by omega]
    rcases obsV_cnt S.rpt S.pos n with ⟨e, h⟩ | ⟨b, e, h1, h2, h3⟩
    · rw [e]
      exact k1.1 h
    · rw [e]
      exact k1.2 b h1 h2 h3
section
variable {w : World} {K : PySem.W.Frag} {mg : Str → Option Value} {base : Heap} (T : Tx K mg)
include T
def spFirstR (K : PySem.W.Frag) : Sp := fun vs H Q _ => ∃ (a x t dx c l : Addr) (ts : List Tr) (es : List En) (p : Nat) (rs : List V), vs = [.ref a, .ref x, .ref t] ∧ Sees K H x dx a c l ts (allB ts es) p rs ∧ Fair ts ∧ p ≤ 1000000 ∧ TellAt K H t es ∧ (∀ e ∈ es, EnOk ts e) ∧ ∀ H', Same H H' → Q (.bl true) H'
end
end EB

namespace EB
open PySem PySem.Spec PyProof.Rows L2
/-- the fewest bottles that give so many drinks -/
def few (c : Nat → Int) (d : Nat) : Nat := if d = 0 then 0 else (T c (d - 1)).toNat + 1
namespace CF
variable {c : Nat → Int} {P B : Nat}
theorem few_iff (h : CF c P B) (d n : Nat) : D c n < d ↔ n < few c d := by
  unfold few
  by_cases z : d = 0
  · rw [if_pos z]
    omega
  · rw [if_neg z]
    have h1 := h.D_le_iff (n := n) (d := d - 1)
    have h2 := h.T_nonneg (d - 1)
    constructor
    · intro q
      have := h1.mp (by omega)
      omega
    · intro q
      have := h1.mpr (by omega)
      omega
theorem few_le (h : CF c P B) (d : Nat) : few c d ≤ d := by
  apply Nat.le_of_not_lt
  intro q
  have := (h.few_iff d d).mpr q
  have := h.D_ge d
  omega
theorem few_ge (h : CF c P B) (d : Nat) : d ≤ D c (few c d) := by
  apply Nat.le_of_not_lt
  intro q
  have := (h.few_iff d _).mp q
  omega
theorem T_D (h : CF c P B) (n : Nat) : T c (D c n) = n := by
  have h1 := h.D_le_iff (n := n) (d := D c n)
  have h2 := h1.mp (Nat.le_refl _)
  have h0 := h.T_nonneg (D c n)
  have h3 := h.D_le_iff (n := (T c (D c n)).toNat) (d := D c n)
  have h4 := h3.mpr (by omega)
  rcases Nat.lt_or_ge n (T c (D c n)).toNat with z | z
  · have := h.D_lt z
    omega
  · omega
/-- a number comes about just if the most bottles within it give it -/
theorem comes (h : CF c P B) (d : Nat) : D c (T c d).toNat = d ↔ ∃ n, D c n = d := by
  constructor
  · intro q
    exact ⟨_, q⟩
  · rintro ⟨n, rfl⟩
    rw [h.T_D]
    rfl
theorem comes_few (h : CF c P B) (d : Nat) : (∃ n, D c n = d) ↔ D c (few c d) = d := by
  constructor
  · rintro ⟨n, rfl⟩
    have h1 := h.few_ge (D c n)
    have h2 : ¬ n < few c (D c n) := fun z => by
      have := (h.few_iff (D c n) n).mpr z
      omega
    have h3 := h.D_mono (show few c (D c n) ≤ n by omega)
    omega
  · intro q
    exact ⟨_, q⟩
end CF
end EB

namespace EB
open PySem PySem.Spec PyProof.Rows L2
section
variable {P : Program} {w : World} {K : PySem.W.Frag} {mg : Str → Option Value} {base : Heap} (T : Tx K mg)
include T
def spMost (K : PySem.W.Frag) : Sp := fun vs H Q _ => ∃ (a : Addr) (ts : List Tr) (d : Nat), vs = [.ref a, .int (d : Nat)] ∧ OfAt K H a ts ∧ Fair ts ∧ Q (.int (EB.T (cN ts) d)) H
theorem ok_Offer_most_within : FnR P w K mg base CX0 2 (a_Offer_most_within K) (spMost K) := by
  refine fnR0 (d := d_Offer_most_within) T.F_Offer_most_within sc_Offer_most_within rfl (fun _ _ _ _ _ _ us hl => match us, hl with | [_, _], _ => rfl) (fun vs H Q E h => ?_) (fun cdv A outer s H vs Q E hr h => ?_)
  · obtain ⟨a, ts, n, rfl, _⟩ := h
    rfl
  obtain ⟨a, ts, n, rfl, ho, hf, k⟩ := h
  obtain ⟨dx, t, p, o, f, g, e1, e2, e3, e4, e5, e6⟩ := ho.ex
  refine ⟨_, (pss_cons (ps_asg (pe_fld (pv 0) rfl) (pg_tup rfl (pgs_cons (pg_name (i := 2) sc_Offer_most_within.nd rfl (Or.inl rfl)) (pgs_cons (pg_name (i := 3) sc_Offer_most_within.nd rfl (Or.inl rfl)) pgs_nil)))) (pss_one (ps_ret (pe_cR (ok_value_at T) (hr.mono (by decide)) T.F_value_at.kp T.g_value_at pass0 (pa_cons (pe_fld (pv 0) rfl) (pa_cons (pv 1) (pa_cons (pv 3) (pa_cons (pv 2) pa_nil)))))))), ?_⟩
  refine ⟨_, rfl, a, _, dx, _, _, rfl, e1, T.k_Offer, T.na_period, lk_period, p, _, rfl, e3, rfl, _, _, rfl, _, _, rfl, rfl, ?_⟩
  refine ⟨_, rfl, a, _, dx, _, _, rfl, e1, T.k_Offer, T.na_tops, lk_tops, _, rfl, _, rfl, _, rfl, o, topsL ts, n, per ts, perB ts, rfl, e4, by omega, ?_, ?_, ?_, ?_, ?_, ?_⟩
  all_goals have hp := per_le' hf.g
  all_goals have hb := (cf hf).bpos
  all_goals have hB := perB_le hf
  all_goals have hP := per_pos hf.g
  · omega
  · omega
  · omega
  · omega
  · rw [List.length_map, List.length_range]
    omega
  · rw [value_tops (cf hf)]
    exact k
end
end EB

namespace EB
open PySem PySem.Spec PyProof.Rows L2
section
variable {P : Program} {w : World} {K : PySem.W.Frag} {mg : Str → Option Value} {base : Heap} (T : Tx K mg)
include T
def spContains (K : PySem.W.Frag) : Sp := fun vs H Q _ => ∃ (a : Addr) (ts : List Tr) (d : Nat), vs = [.ref a, .int (d : Nat)] ∧ OfAt K H a ts ∧ Fair ts ∧ Q (.bl (decide (D (cN ts) (EB.T (cN ts) d).toNat = d))) H
theorem ok_Offer_contains : FnR P w K mg base CX0 3 (a_Offer_contains K) (spContains K) := by
  refine fnR0 (d := d_Offer_contains) T.F_Offer_contains sc_Offer_contains rfl (fun _ _ _ _ _ _ us hl => match us, hl with | [_, _], _ => rfl) (fun vs H Q E h => ?_) (fun cdv A outer s H vs Q E hr h => ?_)
  · obtain ⟨a, ts, n, rfl, _⟩ := h
    rfl
  obtain ⟨a, ts, n, rfl, ho, hf, k⟩ := h
  obtain ⟨dx, t, p, o, f, g, e1, e2, e3, e4, e5, e6⟩ := ho.ex
  have h0 := (cf hf).T_nonneg n
  refine ⟨_, (pss_cons (ps_if (PW.pt (pw_or (pt_not (pt_val (pe_cR (ok_is_integer T) (hr.mono (by decide)) T.F_is_integer.kp T.g_is_integer pass0 (pa_cons (pv 1) pa_nil)))) (pw_or1 (pt_cmpR op_lt (pv 1) pe_int (nomark _))))) (pss_one (ps_ret pe_bl)) pss_nil) (pss_one (ps_ret (pe_cmpR op_eq (pe_methR (pv 0) T.k_Offer T.m_Offer_drinks_for (ok_Offer_drinks_for T) (hr.mono (by decide)) pass0 (pa_cons (pe_methR (pv 0) T.k_Offer T.m_Offer_most_within (ok_Offer_most_within T) (hr.mono (by decide)) pass0 (pa_cons (pv 1) pa_nil)) pa_nil)) (pv 1) (nomark _))))), ?_⟩
  refine ⟨_, rfl, n, rfl, true, rfl, iteF ?_⟩
  refine ⟨_, rfl, _, _, rfl, rfl, _, rfl, ite2 (fun hd => ?_) (fun _ => ?_)⟩
  · have hd : (n : Int) < 0 := of_decide_eq_true hd
    omega
  refine ⟨_, rfl, a, dx, _, rfl, e1, lk_no (by decide +kernel), _, rfl, a, dx, _, rfl, e1, lk_no (by decide +kernel), _, rfl, a, ts, n, rfl, ho, hf, a, ts, (EB.T (cN ts) n).toNat, ?_, ho, hf, _, rfl, rfl, ?_⟩
  · rw [Int.toNat_of_nonneg h0]
  · have e : decide (V.int ((D (cN ts) (EB.T (cN ts) n).toNat : Nat) : Int) = V.int (n : Int)) = decide (D (cN ts) (EB.T (cN ts) n).toNat = n) := by
      by_cases z : D (cN ts) (EB.T (cN ts) n).toNat = n
      · rw [decide_eq_true z, decide_eq_true (by rw [z])]
      · rw [decide_eq_false z, decide_eq_false (fun y => z (by have := V.int.inj y; omega))]
    rw [e]
    exact k
end
end EB

namespace EB
open PySem PySem.Spec PyProof.Rows L2
/-- the numbers from first on, so many, that do not come about -/
noncomputable def missL (c : Nat → Int) (first n : Nat) : List Nat := ((List.range n).map fun i => first + i).filter fun d => !decide (D c (EB.T c d).toNat = d)
theorem missL_succ (c : Nat → Int) (first n : Nat) : missL c first (n + 1) = if (!decide (D c (EB.T c (first + n)).toNat = first + n)) = true then missL c first n ++ [first + n] else missL c first n := by
  unfold missL
  rw [List.range_succ, List.map_append, List.filter_append]
  by_cases z : (!decide (D c (EB.T c (first + n)).toNat = first + n)) = true
  · rw [if_pos z]
    simp only [List.map_cons, List.map_nil, List.filter_cons, List.filter_nil]
    rw [if_pos z]
  · rw [if_neg z]
    simp only [List.map_cons, List.map_nil, List.filter_cons, List.filter_nil]
    rw [if_neg z, List.append_nil]
theorem missL_len (c : Nat → Int) (first n : Nat) : (missL c first n).length ≤ n := by
  unfold missL
  refine Nat.le_trans (List.length_filter_le _ _) ?_
  rw [List.length_map, List.length_range]
  exact Nat.le_refl _
section
variable {P : Program} {w : World} {K : PySem.W.Frag} {mg : Str → Option Value} {base : Heap} (T : Tx K mg)
include T
def spMissing (K : PySem.W.Frag) : SpG := fun vs H Q _ => ∃ (a : Addr) (ts : List Tr) (f l : Nat), vs = [.ref a, .int (f : Nat), .int (l : Nat)] ∧ OfAt K H a ts ∧ Fair ts ∧ l ≤ 1000000000000000000 ∧ f ≤ l ∧ l - f < 10000 ∧ ∀ H', Same H H' → Q ((missL (cN ts) f (l + 1 - f)).map fun n => V.int (n : Nat)) H'
theorem ok_Offer_missing : GFn P w K mg base 6 (a_Offer_missing K) T.fd_Offer_missing ["self", "first", "last"] (spMissing K) := by
  refine gfnG (d := d_Offer_missing) T.F_Offer_missing sc_Offer_missing (fun vs H Q E h => ?_) (fun cdv A outer s H vs Q E pn hr h => ?_)
  · obtain ⟨a, ts, f, l, rfl, _⟩ := h
    rfl
  obtain ⟨a, ts, f, l, rfl, ho, hf, hl, hfl, hd, k⟩ := h
  obtain ⟨dx, t, p, o, f', g, e1, e2, e3, e4, e5, e6⟩ := ho.ex
  have C := cf hf
  obtain ⟨tM, hM⟩ := T.c_MAX_LOOKED_AT
  refine ⟨_, (gss_cons (gs_ps (ps_expr (pe_cR (ok_check_number T) (hr.mono (by decide)) T.F_check_number.kp T.g_check_number pass0 (pa_cons (pv 1) pa_nil)))) (gss_cons (gs_ps (ps_expr (pe_cR (ok_check_number T) (hr.mono (by decide)) T.F_check_number.kp T.g_check_number pass0 (pa_cons (pv 2) pa_nil)))) (gss_cons (gs_ps (ps_if (pt_not (pt_chain op_le op_le pe_int (pe_op op_add (pe_op op_sub (pv 2) (pv 1)) pe_int) (pe_cI T.c_MAX_LOOKED_AT))) (pss_one ps_never) pss_nil)) (gss_cons (gs_for owns_gcx rfl (pi_range2 rfl T.n_range (pa_cons (pv 1) (pa_cons (pe_op op_add (pv 2) pe_int) pa_nil))) (pg_name (i := 3) sc_Offer_missing.nd rfl (Or.inl rfl)) (gss_cons (gs_if (pt_cmpR (op_notInO T.m_Offer_contains.at_ T.m_Offer_contains.fn (ok_Offer_contains T) (hr.mono (by decide)) pass0) (pv 3) (pv 0) rfl) (gss_cons (gs_yield (pv 3)) gss_nil) gss_nil) gss_nil)) gss_nil)))), ?_⟩
  refine ⟨_, rfl, f, rfl, by omega, by omega, ?_⟩
  refine ⟨_, rfl, l, rfl, by omega, by omega, ?_⟩
  have h62 : (1000000000000000001 : Int) < 2 ^ 62 := by decide
  refine ⟨_, rfl, _, rfl, _, _, rfl, rfl, _, _, rfl, rfl, _, _, rfl, rfl, true, congrArg V.bl (decide_eq_true (show (1 : Int) ≤ (l : Int) - (f : Int) + 1 by omega)), iteT ⟨_, _, rfl, rfl, true, congrArg V.bl (decide_eq_true (show (l : Int) - (f : Int) + 1 ≤ 10000 by omega)), iteF ?_⟩⟩
  refine ⟨_, rfl, _, rfl, _, _, rfl, rfl, _, _, rfl, ⟨by omega, by omega, by omega, by omega⟩, ?_⟩
  have en : ((l : Int) + 1 - (f : Int)).toNat = l + 1 - f := by omega
  refine gfor_range (lo := (f : Int)) (n := ((l : Int) + 1 - (f : Int)).toNat) (fun i ys σ H1 => Same H H1 ∧ ys = (missL (cN ts) f i).map (fun n => V.int (n : Nat)) ∧ ∃ x3, σ = [some (.ref a), some (.int (f : Nat)), some (.int (l : Nat)), x3]) ⟨Same.refl _, rfl, _, rfl⟩ ?_ ?_
  · rintro i ys σ H1 hi ⟨s1, rfl, x3, rfl⟩
    have ec : (f : Int) + (i : Int) = ((f + i : Nat) : Int) := by omega
    refine ⟨_, rfl, _, rfl, a, dx, _, rfl, s1 _ _ e1, ⟨a, ts, f + i, by rw [ec], ho.mono s1, hf, ⟨_, rfl, ?_⟩⟩⟩
    rw [if_pos rfl]
    refine ⟨_, rfl, ite2 (fun hz => ?_) (fun hz => ?_)⟩
    · have hn := missL_succ (cN ts) f i
      rw [if_pos hz] at hn
      have hll := missL_len (cN ts) f i
      refine ⟨by rw [List.length_map]; exact small3 (by omega), _, rfl, s1, ?_, _, rfl⟩
      rw [hn, List.map_append, ec]
      rfl
    · have hn := missL_succ (cN ts) f i
      rw [if_neg hz] at hn
      refine ⟨s1, by rw [hn], _, rfl⟩
  · rintro ys σ H1 ⟨s1, rfl, x3, rfl⟩
    rw [en]
    exact k _ s1
theorem b_Offer_missing : Binds K T.fd_Offer_missing ["self", "first", "last"] [] := bndG T.F_Offer_missing rfl (fun _ _ _ _ _ _ us hl => match us, hl with | [_, _, _], _ => rfl)
def spCount (K : PySem.W.Frag) : Sp := fun vs H Q _ => ∃ (a : Addr) (ts : List Tr) (n : Nat), vs = [.ref a, .int (n : Nat)] ∧ OfAt K H a ts ∧ Fair ts ∧ n ≤ 1000000000000000000 ∧ Q (.int ((n : Int) - EB.T (cN ts) n)) H
theorem ok_Offer_count_missing : FnR P w K mg base CX0 4 (a_Offer_count_missing K) (spCount K) := by
  refine fnR0 (d := d_Offer_count_missing) T.F_Offer_count_missing sc_Offer_count_missing rfl (fun _ _ _ _ _ _ us hl => match us, hl with | [_, _], _ => rfl) (fun vs H Q E h => ?_) (fun cdv A outer s H vs Q E hr h => ?_)
  · obtain ⟨a, ts, n, rfl, _⟩ := h
    rfl
  obtain ⟨a, ts, n, rfl, ho, hf, hn, k⟩ := h
  obtain ⟨dx, t, p, o, f, g, e1, e2, e3, e4, e5, e6⟩ := ho.ex
  refine ⟨_, (pss_cons (ps_expr (pe_cR (ok_check_number T) (hr.mono (by decide)) T.F_check_number.kp T.g_check_number pass0 (pa_cons (pv 1) pa_nil))) (pss_one (ps_ret (pe_op op_sub (pv 1) (pe_methR (pv 0) T.k_Offer T.m_Offer_most_within (ok_Offer_most_within T) (hr.mono (by decide)) pass0 (pa_cons (pv 1) pa_nil)))))), ?_⟩
  refine ⟨_, rfl, n, rfl, by omega, by omega, ?_⟩
  exact ⟨_, rfl, _, rfl, a, dx, _, rfl, e1, lk_no (by decide +kernel), _, rfl, a, ts, n, rfl, ho, hf, _, _, rfl, rfl, k⟩
end
end EB

namespace EB
open PySem PySem.Spec PyProof.Rows L2
def isMiss (c : Nat → Int) (d : Nat) : Prop := ¬ D c (T c d).toNat = d
/-- how many numbers up to d are missing -/
def cntM (c : Nat → Int) (d : Nat) : Int := (d : Int) - T c d
namespace CF
variable {c : Nat → Int} {P B : Nat}
theorem T_zero (h : CF c P B) : T c 0 = 0 := by
  have h1 := h.T_nonneg 0
  have h2 := (h.D_le_iff (n := (T c 0).toNat) (d := 0)).mpr (by omega)
  have h3 := h.D_ge (T c 0).toNat
  omega
theorem miss_zero (h : CF c P B) : ¬ isMiss c 0 := by
  unfold isMiss
  rw [h.T_zero]
  intro z
  exact z h.D_zero
theorem miss_iff (h : CF c P B) (d : Nat) : isMiss c (d + 1) ↔ T c (d + 1) = T c d := by
  unfold isMiss
  rw [h.comes]
  have h1 : T c d ≤ T c (d + 1) := CF.T_mono c (Nat.le_succ d)
  have h2 := h.T_step d
  have h3 := h.T_nonneg (d + 1)
  constructor
  · intro q
    rcases (show T c (d + 1) = T c d ∨ T c (d + 1) = T c d + 1 by omega) with z | z
    · exact z
    · exfalso
      apply q
      refine ⟨(T c (d + 1)).toNat, ?_⟩
      have h4 := (h.D_le_iff (n := (T c (d + 1)).toNat) (d := d + 1)).mpr (by omega)
      have h5 : ¬ D c (T c (d + 1)).toNat ≤ d := fun y => by
        have := h.D_le_iff.mp y
        omega
      omega
  · rintro q ⟨n, hn⟩
    have h4 := (h.D_le_iff (n := n) (d := d + 1)).mp (by omega)
    have h5 : ¬ (n : Int) ≤ T c d := fun y => by
      have := h.D_le_iff.mpr y
      omega
    omega
theorem cnt_step (h : CF c P B) (d : Nat) : (isMiss c (d + 1) → cntM c (d + 1) = cntM c d + 1) ∧ (¬ isMiss c (d + 1) → cntM c (d + 1) = cntM c d) := by
  have h1 := h.miss_iff d
  have h2 := h.T_step d
  have h3 := CF.T_mono c (Nat.le_succ d)
  unfold cntM
  refine ⟨fun q => ?_, fun q => ?_⟩
  · have := h1.mp q
    push_cast
    omega
  · have : ¬ T c (d + 1) = T c d := fun z => q (h1.mpr z)
    have h3 : T c d ≤ T c (d + 1) := h3
    push_cast
    omega
theorem cnt_mono (h : CF c P B) (d : Nat) : ∀ k, cntM c d ≤ cntM c (d + k)
  | 0 => Int.le_refl _
  | k + 1 => by
    have h1 := cnt_mono h d k
    have h2 := h.cnt_step (d + k)
    by_cases z : isMiss c (d + k + 1)
    · have := h2.1 z
      show _ ≤ cntM c (d + k + 1)
      omega
    · have := h2.2 z
      show _ ≤ cntM c (d + k + 1)
      omega
theorem miss_lt (h : CF c P B) {x y : Nat} (hy : isMiss c y) (q : x < y) : cntM c x < cntM c y := by
  obtain ⟨k, rfl⟩ : ∃ k, y = x + k + 1 := ⟨y - x - 1, by omega⟩
  have h1 := h.cnt_mono x k
  have h2 := (h.cnt_step (x + k)).1 hy
  omega
/-- the missing number with a number is one -/
theorem miss_uniq (h : CF c P B) {x y : Nat} (hx : isMiss c x) (hy : isMiss c y) (e : cntM c x = cntM c y) : x = y := by
  rcases Nat.lt_trichotomy x y with z | z | z
  · have := h.miss_lt hy z
    omega
  · exact z
  · have := h.miss_lt hx z
    omega
theorem missL_at (h : CF c P B) : ∀ n : Nat, ((missL c 0 (n + 1)).length : Int) = cntM c n ∧ ∀ (k y : Nat), (missL c 0 (n + 1))[k]? = some y → y ≤ n ∧ isMiss c y ∧ cntM c y = (k : Int) + 1
  | 0 => by
    have e : missL c 0 1 = [] := by
      rw [missL_succ, if_neg (by
        have := h.miss_zero
        unfold isMiss at this
        rw [Bool.not_eq_true', decide_eq_false_iff_not, Nat.zero_add]
        exact this)]
      rfl
    rw [e]
    refine ⟨?_, fun k y q => (by cases q)⟩
    unfold cntM
    rw [h.T_zero]
    rfl
  | n + 1 => by
    obtain ⟨h1, h2⟩ := missL_at h n
    have hs := missL_succ c 0 (n + 1)
    have hc := h.cnt_step n
    rw [Nat.zero_add] at hs
    by_cases z : isMiss c (n + 1)
    · rw [if_pos (by rw [Bool.not_eq_true', decide_eq_false_iff_not]; exact z)] at hs
      rw [hs]
      have hz := hc.1 z
      refine ⟨by rw [List.length_append, List.length_singleton]; push_cast; omega, fun k y q => ?_⟩
      rcases Nat.lt_or_ge k (missL c 0 (n + 1)).length with b | b
      · rw [List.getElem?_append_left b] at q
        obtain ⟨q1, q2, q3⟩ := h2 k y q
        exact ⟨by omega, q2, q3⟩
      · rw [List.getElem?_append_right b] at q
        have : k - (missL c 0 (n + 1)).length = 0 := by
          have := (List.getElem?_eq_some_iff.mp q).1
          rw [List.length_singleton] at this
          omega
        rw [this] at q
        cases q
        exact ⟨Nat.le_refl _, z, by omega⟩
    · rw [if_neg (by rw [Bool.not_eq_true', decide_eq_false_iff_not]; exact z)] at hs
      rw [hs]
      have hz := hc.2 z
      refine ⟨by omega, fun k y q => ?_⟩
      obtain ⟨q1, q2, q3⟩ := h2 k y q
      exact ⟨by omega, q2, q3⟩
theorem cnt_perk (h : CF c P B) {d : Nat} (q : P ≤ d + 1) (k : Nat) : cntM c (d + k * P) = cntM c d + (k : Int) * ((P : Int) - B) := by
  have h1 := h.T_perk q k
  unfold cntM
  rw [h1, Int.mul_sub]
  push_cast
  omega
theorem miss_perk (h : CF c P B) {y : Nat} (q : P ≤ y) (m : isMiss c y) (k : Nat) : isMiss c (y + k * P) := by
  have hp := h.ppos
  obtain ⟨z, rfl⟩ : ∃ z, y = z + 1 := ⟨y - 1, by omega⟩
  have h1 := (h.miss_iff z).mp m
  have h2 := h.T_perk (d := z + 1) (by omega) k
  have h3 := h.T_perk (d := z) (by omega) k
  rw [show z + 1 + k * P = (z + k * P) + 1 from by omega] at h2 ⊢
  exact (h.miss_iff _).mpr (by omega)
theorem B_le (h : CF c P B) : B ≤ P := by
  have h1 := h.per 0
  have h2 := h.le_self (0 + P)
  rw [h.zero] at h1
  rw [Nat.zero_add] at h1 h2
  omega
theorem gaps_len (h : CF c P B) : ((missL c 0 (2 * P)).length : Int) = cntM c (P - 1) + ((P : Int) - B) := by
  have hp := h.ppos
  have h1 := (h.missL_at (2 * P - 1)).1
  rw [show 2 * P - 1 + 1 = 2 * P from by omega] at h1
  have h2 := h.cnt_perk (d := P - 1) (by omega) 1
  rw [show P - 1 + 1 * P = 2 * P - 1 from by omega] at h2
  omega
theorem gaps_pos (h : CF c P B) (q : missL c 0 (2 * P) ≠ []) : B < P := by
  have hp := h.ppos
  have h1 := h.gaps_len
  have h2 := h.B_le
  have h3 := List.length_pos_iff.mpr q
  apply Nat.lt_of_le_of_ne h2
  intro e
  have h4 := h.step (P - 1)
  have h5 := h.per 0
  rw [h.zero, Nat.zero_add] at h5
  rw [show P - 1 + 1 = P from by omega] at h4
  have h6 := CF.T_ge c (Nat.le_refl (P - 1))
  unfold cntM at h1
  omega
theorem getD_cast {xs : List Nat} {i : Nat} (q : i < xs.length) : (xs.map fun n => ((n : Nat) : Int)).getD i 0 = ((xs[i] : Nat) : Int) := by
  rw [List.getD_eq_getElem?_getD, List.getElem?_map, List.getElem?_eq_getElem q]
  rfl
/-- the missing number with a number, off the table of two periods -/
theorem nth (h : CF c P B) (q : missL c 0 (2 * P) ≠ []) (k : Nat) : ∃ x : Nat, valueAt ((missL c 0 (2 * P)).map fun n => ((n : Nat) : Int)) k ((P : Int) - B) P = (x : Nat) ∧ isMiss c x ∧ cntM c x = (k : Int) + 1 := by
  have hp := h.ppos
  have hW := h.gaps_pos q
  have hl := h.gaps_len
  have hat := (h.missL_at (2 * P - 1)).2
  rw [show 2 * P - 1 + 1 = 2 * P from by omega] at hat
  have hc0 : 0 ≤ cntM c (P - 1) := by
    have := h.T_le (P - 1)
    unfold cntM
    omega
  obtain ⟨W, eW⟩ : ∃ W : Nat, (P : Int) - B = (W : Nat) := ⟨P - B, by omega⟩
  have hW0 : 0 < W := by omega
  unfold valueAt
  simp only [List.length_map]
  generalize hL : missL c 0 (2 * P) = L at *
  by_cases z : (k : Int) < (L.length : Int)
  · have hk : k < L.length := by omega
    rw [if_pos z, Int.toNat_natCast, getD_cast hk]
    obtain ⟨_, a2, a3⟩ := hat k _ (List.getElem?_eq_getElem hk)
    exact ⟨_, rfl, a2, a3⟩
  · rw [if_neg z]
    obtain ⟨e, he⟩ : ∃ e, k = L.length + e := ⟨k - L.length, by omega⟩
    have e1 : (k : Int) - (L.length : Int) = (e : Int) := by omega
    rw [e1, eW, ← Int.natCast_ediv]
    have h1 := Nat.div_add_mod e W
    have h2 := Nat.mod_lt e hW0
    have h3 : (e / W + 1) * W = W * (e / W) + W := by rw [Nat.add_mul, Nat.one_mul, Nat.mul_comm]
    have hWl : W ≤ L.length := by omega
    have e2 : (k : Int) - (((e / W : Nat) : Int) + 1) * (W : Int) = ((L.length - W + e % W : Nat) : Int) := by
      have : (((e / W : Nat) : Int) + 1) * (W : Int) = (((e / W + 1) * W : Nat) : Int) := by push_cast; rfl
      rw [this]
      omega
    have hi : L.length - W + e % W < L.length := by omega
    rw [e2, Int.toNat_natCast, getD_cast hi]
    obtain ⟨_, a2, a3⟩ := hat _ _ (List.getElem?_eq_getElem hi)
    generalize L[L.length - W + e % W] = y at a2 a3
    have hy : P ≤ y := by
      apply Nat.le_of_not_lt
      intro w
      have := h.cnt_mono y (P - 1 - y)
      rw [show y + (P - 1 - y) = P - 1 from by omega] at this
      omega
    refine ⟨y + (e / W + 1) * P, by push_cast; rfl, h.miss_perk hy a2 _, ?_⟩
    rw [h.cnt_perk (by omega), a3, eW]
    have : (((e / W + 1 : Nat) : Int)) * (W : Int) = (((e / W + 1) * W : Nat) : Int) := by push_cast; rfl
    rw [this]
    omega
end CF
theorem gaps_eq {ts : List Tr} (f : Fair ts) : ∀ n : Nat, n ≤ 2 * per ts → gapsF (firstsL ts) 0 ((List.range n).map (T (cN ts))) = (missL (cN ts) 0 n).map fun n => ((n : Nat) : Int)
  | 0, _ => rfl
  | n + 1, q => by
    have C := cf f
    have h1 := gaps_eq f n (by omega)
    have h2 := missL_succ (cN ts) 0 n
    rw [Nat.zero_add] at h2
    rw [List.range_succ, List.map_append]
    show gapsF _ 0 (_ ++ [T (cN ts) n]) = _
    rw [gapsF_snoc, h1, List.length_map, List.length_range, Nat.zero_add]
    have h3 : T (cN ts) n ≤ T (cN ts) (2 * per ts - 1) := CF.T_mono _ (by omega)
    have h4 := C.T_nonneg n
    have h5 : (firstsL ts).getD (T (cN ts) n).toNat 0 = ((D (cN ts) (T (cN ts) n).toNat : Nat) : Int) := getD_map (f := fun k => ((D (cN ts) k : Nat) : Int)) (by omega)
    rw [h5, h2]
    by_cases z : D (cN ts) (T (cN ts) n).toNat = n
    · rw [if_pos (by rw [z]), if_neg (by rw [Bool.not_eq_true', decide_eq_false_iff_not]; exact fun y => y z), List.append_nil]
    · rw [if_neg (fun y => z (by omega)), if_pos (by rw [Bool.not_eq_true', decide_eq_false_iff_not]; exact z), List.map_append]
      rfl
theorem gapsL_eq {ts : List Tr} (f : Fair ts) : gapsL ts = (missL (cN ts) 0 (2 * per ts)).map fun n => ((n : Nat) : Int) := gaps_eq f _ (Nat.le_refl _)
section
variable {P : Program} {w : World} {K : PySem.W.Frag} {mg : Str → Option Value} {base : Heap} (T : Tx K mg)
include T
namespace N2
def spChkNum2 : Sp := fun vs H Q _ => ∃ i lo : Int, vs = [.int i, .int lo] ∧ lo ≤ i ∧ i ≤ 1000000000000000000 ∧ Q .non H
theorem ok_check_number : FnR P w K mg base CX0 3 (a_check_number K) spChkNum2 := by
  refine (fnRD (d := d_check_number) (sp := spChkNum) (k := 2) (ps := ["value", "least", "most"]) T.F_check_number sc_check_number 2 1 (fun z => nomatch z) rfl (fun _ _ _ _ _ _ _ us its hl hi => match us, its, hl, hi with | [_, _], [_, _], _, _ => ⟨_, rfl, rfl⟩) (fun vs H Q E h => ?_) (fun cdv A outer s H vs Q E hr h => ?_)).imp fun vs H Q E h => ?_
  · obtain ⟨i, lo, hi, rfl, _⟩ := h
    rfl
  · obtain ⟨i, lo, hi, rfl, h1, h2, k⟩ := h
    refine ⟨_, (pss_one (ps_if (pt_not (pt_val (pe_cR (ok_is_number T) (hr.mono (by decide)) T.F_is_number.kp T.g_is_number pass0 (pa_cons (pv 0) (pa_cons (pv 1) (pa_cons (pv 2) pa_nil)))))) (pss_one ps_never) pss_nil)), ?_⟩
    refine ⟨_, rfl, _, rfl, _, rfl, i, lo, hi, rfl, _, rfl, ?_⟩
    rw [numOk_iff.mpr ⟨h1, h2⟩]
    exact iteF k
  · obtain ⟨i, lo, rfl, h1, h2, k⟩ := h
    exact ⟨i, lo, 1000000000000000000, rfl, h1, h2, k⟩
def spNth (K : PySem.W.Frag) : Sp := fun vs H Q _ => ∃ (a : Addr) (ts : List Tr) (k : Nat), vs = [.ref a, .int ((k : Int) + 1)] ∧ OfAt K H a ts ∧ Fair ts ∧ k < 1000000000000000000 ∧ (missL (cN ts) 0 (2 * per ts) = [] → Q .non H) ∧ (missL (cN ts) 0 (2 * per ts) ≠ [] → ∀ x : Nat, isMiss (cN ts) x → cntM (cN ts) x = (k : Int) + 1 → Q (.int (x : Nat)) H)
theorem ok_Offer_nth_missing : FnR P w K mg base CX0 4 (a_Offer_nth_missing K) (spNth K) := by
  refine fnR0 (d := d_Offer_nth_missing) T.F_Offer_nth_missing sc_Offer_nth_missing rfl (fun _ _ _ _ _ _ us hl => match us, hl with | [_, _], _ => rfl) (fun vs H Q E h => ?_) (fun cdv A outer s H vs Q E hr h => ?_)
  · obtain ⟨a, ts, k, rfl, _⟩ := h
    rfl
  obtain ⟨a, ts, k, rfl, ho, hf, hk, k1, k2⟩ := h
  obtain ⟨dx, t, p, o, f, g, e1, e2, e3, e4, e5, e6⟩ := ho.ex
  rw [gapsL_eq hf] at e6
  have C := cf hf
  have hp := per_pos hf.g
  have hP := per_le' hf.g
  refine ⟨_, (pss_cons (ps_expr (pe_cR (ok_check_number T) (hr.mono (by decide)) T.F_check_number.kp T.g_check_number pass0 (pa_cons (pv 1) (pa_cons pe_int pa_nil)))) (pss_cons (ps_if (pt_not (pt_truth (pe_fld (pv 0) rfl) (by intro _; rfl))) (pss_one (ps_ret pe_non)) pss_nil) (pss_cons (ps_asg (pe_fld (pv 0) rfl) (pg_tup rfl (pgs_cons (pg_name (i := 2) sc_Offer_nth_missing.nd rfl (Or.inl rfl)) (pgs_cons (pg_name (i := 3) sc_Offer_nth_missing.nd rfl (Or.inl rfl)) pgs_nil)))) (pss_one (ps_ret (pe_cR (ok_value_at T) (hr.mono (by decide)) T.F_value_at.kp T.g_value_at pass0 (pa_cons (pe_fld (pv 0) rfl) (pa_cons (pe_op op_sub (pv 1) pe_int) (pa_cons (pe_op op_sub (pv 3) (pv 2)) (pa_cons (pv 3) pa_nil)))))))))), ?_⟩
  refine ⟨_, rfl, _, 1, rfl, by omega, by omega, ?_⟩
  refine ⟨_, rfl, a, _, dx, _, _, rfl, e1, T.k_Offer, T.na_gaps, lk_gaps, ?_⟩
  refine ⟨_, .inl ⟨_, e6, rfl⟩, ?_⟩
  by_cases z : missL (cN ts) 0 (2 * per ts) = []
  · have hk1 := k1 z
    rw [z]
    exact iteT hk1
  have hke := k2 z
  have hemp : (((missL (cN ts) 0 (2 * per ts)).map fun n => ((n : Nat) : Int)).map V.int).isEmpty = false := by
    rw [List.isEmpty_eq_false_iff]
    intro y
    exact z (List.map_eq_nil_iff.mp (List.map_eq_nil_iff.mp y))
  rw [hemp]
  refine iteF ?_
  obtain ⟨x, hx1, hx2, hx3⟩ := C.nth z k
  have hW := C.gaps_pos z
  have hl := C.gaps_len
  have hc0 : 0 ≤ cntM (cN ts) (per ts - 1) := by
    have := C.T_le (per ts - 1)
    unfold cntM
    omega
  refine ⟨_, rfl, a, _, dx, _, _, rfl, e1, T.k_Offer, T.na_period, lk_period, p, _, rfl, e3, rfl, _, _, rfl, _, _, rfl, rfl, ?_⟩
  refine ⟨_, rfl, a, _, dx, _, _, rfl, e1, T.k_Offer, T.na_gaps, lk_gaps, _, rfl, _, _, rfl, rfl, _, rfl, _, rfl, _, _, rfl, rfl, _, rfl, g, _, _, _, _, rfl, e6, ?_, ?_, ?_, ?_, ?_, ?_, ?_⟩
  · omega
  · omega
  · omega
  · omega
  · omega
  · rw [List.length_map]
    omega
  · rw [show (k : Int) + 1 - 1 = (k : Int) from by omega, hx1]
    exact hke x hx2 hx3
end N2
end
end EB

namespace EB
open PySem PySem.Spec PyProof.Rows L2
section
variable {P : Program} {w : World} {K : PySem.W.Frag} {mg : Str → Option Value} {base : Heap} (T : Tx K mg)
include T
def spBool (K : PySem.W.Frag) : Sp := fun vs H Q _ => ∃ (a : Addr) (ts : List Tr), vs = [.ref a] ∧ OfAt K H a ts ∧ Fair ts ∧ ∀ H', Same H H' → Q (.bl (ts.any fun t => decide (0 < t.l))) H'
theorem ok_Offer_bool : FnR P w K mg base CX0 1 (a_Offer_bool K) (spBool K) := by
  refine fnR0 (d := d_Offer_bool) T.F_Offer_bool sc_Offer_bool rfl (fun _ _ _ _ _ _ us hl => match us, hl with | [_], _ => rfl) (fun vs H Q E h => ?_) (fun cdv A outer s H vs Q E hr h => ?_)
  · obtain ⟨a, ts, rfl, _⟩ := h
    rfl
  obtain ⟨a, ts, rfl, ho, hf, k⟩ := h
  obtain ⟨dx, t, p, o, f, g, e1, e2, e3, e4, e5, e6⟩ := ho.ex
  obtain ⟨ps, h1, h2, h3⟩ := e2.ex
  have hlen := hf.g.1
  refine ⟨_, (pss_one (ps_ret (pe_callB (cr_any rfl) (by rfl) T.n_any (by decide +kernel) (pa_cons (pe_lc (own := [("_", 1), ("left", 2)]) rfl sc_Offer_bool.nd (pi_tup (pe_fld (pv 0) rfl)) (blkOk_by (own := [("_", 1), ("left", 2)]) (N := N_Offer_bool) (sc := defScope s_Offer_bool) (by decide +kernel)) (fun _ _ _ _ _ => (pg_tupB (n := 3) (pgs_cons (pg_name (i := 1) sc_Offer_bool.nd rfl (Or.inl rfl) (.inr rfl)) (pgs_cons (pg_name (i := 2) sc_Offer_bool.nd rfl (Or.inl rfl) (.inr rfl)) (pgs_cons (pg_name (i := 1) sc_Offer_bool.nd rfl (Or.inl rfl) (.inr rfl)) pgs_nil))))) (fun _ _ _ _ _ => pts_nil) (fun _ _ _ _ _ => (pe_cmpR op_gt (pv 2) pe_int (nomark _)))) pa_nil)))), ?_⟩
  refine ⟨_, rfl, a, _, dx, _, _, rfl, e1, T.k_Offer, T.na_trades, lk_trades, t, rfl, ⟨_, h1⟩, fun W hW => ?_⟩
  refine lc_tup (xs := ps.map V.ref) (fun i H1 => Same H H1 ∧ H1 W = some (.lst (((ts.take i).map fun t => decide (0 < t.l)).map V.bl))) ⟨same_new hW, upd_same⟩ (fun i H1 _ q => Same.tup q.1 h1) ?_ ?_
  · rintro i x H1 hx ⟨s1, w1⟩
    obtain ⟨p, t, rfl, ep, et, hm, li, hp⟩ := TrAt.at_ h2 h3 hx
    refine ⟨p, _, rfl, Same.tup s1 hp, rfl, _, _, rfl, _, _, rfl, _, _, rfl, rfl, rfl, ?_⟩
    refine ⟨_, rfl, _, _, rfl, rfl, _, w1, small3 (by rw [List.length_map, List.length_map, List.length_take]; omega), same_mut s1 hW, ?_⟩
    rw [upd_same, take_at et, List.map_append, List.map_append]
    rfl
  · rintro H1 ⟨s1, w1⟩
    rw [List.length_map, h2, List.take_length] at w1
    refine ⟨W, _, rfl, SqL.of w1, ?_⟩
    rw [List.any_map]
    exact k _ s1
theorem miss_some {ts : List Tr} (f : Fair ts) : (ts.any fun t => decide (0 < t.l)) = true ↔ missL (cN ts) 0 (2 * per ts) ≠ [] := by
  have C := cf f
  have hp := per_pos f.g
  have hl := C.gaps_len
  have hc0 : 0 ≤ cntM (cN ts) (per ts - 1) := by
    have := C.T_le (per ts - 1)
    unfold cntM
    omega
  have hB := perB_eq f
  have hsum : ∀ us : List Tr, (∀ t ∈ us, t ∈ ts) → (0 : Int) ≤ (us.map fun t => t.l * ((per ts : Nat) : Int) / t.n).sum ∧ ((us.any fun t => decide (0 < t.l)) = true → (0 : Int) < (us.map fun t => t.l * ((per ts : Nat) : Int) / t.n).sum) ∧ ((us.any fun t => decide (0 < t.l)) = false → ∀ d : Int, (us.map fun t => t.l * d / t.n).sum = 0) := by
    intro us
    induction us with
    | nil => exact fun _ => ⟨Int.le_refl _, (fun z => nomatch z), fun _ _ => rfl⟩
    | cons t us ih =>
      intro hu
      obtain ⟨i1, i2, i3⟩ := ih fun u m => hu u (List.mem_cons_of_mem _ m)
      have ht := f.g.2 t (hu t (List.mem_cons_self ..))
      have hn := tr_pos ht
      obtain ⟨q, hq⟩ := (per_dvd f.g).mp (Nat.dvd_refl (per ts)) t (hu t (List.mem_cons_self ..))
      have hl0 := ht.1
      have hdiv : t.l * (per ts : Nat) / t.n = q := by
        rw [hq]
        exact Int.mul_ediv_cancel_left _ (by omega)
      have hq0 : 0 ≤ q := by
        rw [← hdiv]
        exact Int.ediv_nonneg (Int.mul_nonneg (by omega) (by omega)) (by omega)
      simp only [List.map_cons, List.sum_cons, List.any_cons, hdiv]
      refine ⟨by omega, fun z => ?_, fun z d => ?_⟩
      · by_cases y : 0 < t.l
        · have : 0 < t.n * q := by
            rw [← hq]
            exact Int.mul_pos y (by omega)
          have : 0 < q := by
            rcases Int.lt_or_le 0 q with v | v
            · exact v
            · have := Int.mul_nonpos_of_nonneg_of_nonpos (show 0 ≤ t.n by omega) v
              omega
          omega
        · rw [decide_eq_false y, Bool.false_or] at z
          have := i2 z
          omega
      · rw [Bool.or_eq_false_iff] at z
        have y := of_decide_eq_false z.1
        have : t.l = 0 := by omega
        rw [this, Int.zero_mul, Int.zero_ediv, i3 z.2 d]
        rfl
  obtain ⟨_, i2, i3⟩ := hsum ts fun t m => m
  constructor
  · intro z e
    have h1 := i2 z
    have h2 : ((perB ts : Nat) : Int) = (per ts : Int) - (ts.map fun t => t.l * ((per ts : Nat) : Int) / t.n).sum := hB
    rw [e] at hl
    have : (([] : List Nat).length : Int) = 0 := rfl
    omega
  · intro e
    cases z : (ts.any fun t => decide (0 < t.l)) with
    | true => rfl
    | false =>
      exfalso
      have h2 : ((perB ts : Nat) : Int) = (per ts : Int) - (ts.map fun t => t.l * ((per ts : Nat) : Int) / t.n).sum := hB
      have := i3 z (per ts : Nat)
      have := C.gaps_pos e
      omega
end
namespace CF
variable {c : Nat → Int} {P B : Nat}
theorem missL_cnt (h : CF c P B) (g : Nat) : ∀ n : Nat, ((missL c (g + 1) n).length : Int) = cntM c (g + n) - cntM c g
  | 0 => by
    show ((0 : Nat) : Int) = _
    rw [Nat.add_zero]
    omega
  | n + 1 => by
    have h1 := missL_cnt h g n
    have h2 := missL_succ c (g + 1) n
    have h3 := h.cnt_step (g + n)
    have e : g + 1 + n = g + n + 1 := by omega
    rw [e] at h2
    by_cases z : isMiss c (g + n + 1)
    · rw [if_pos (by rw [Bool.not_eq_true', decide_eq_false_iff_not]; exact z)] at h2
      rw [h2, List.length_append, List.length_singleton]
      have := h3.1 z
      rw [← Nat.add_assoc]
      push_cast
      omega
    · rw [if_neg (by rw [Bool.not_eq_true', decide_eq_false_iff_not]; exact z)] at h2
      rw [h2]
      have := h3.2 z
      rw [← Nat.add_assoc]
      omega
theorem gaps_none (h : CF c P B) (q : missL c 0 (2 * P) = []) (y : Nat) : ¬ isMiss c y := by
  intro m
  have hp := h.ppos
  have h1 := h.gaps_len
  rw [q] at h1
  have h2 := h.B_le
  have h3 := h.T_le (P - 1)
  have h5 : (([] : List Nat).length : Int) = 0 := rfl
  have h4 : cntM c (P - 1) = ((P - 1 : Nat) : Int) - T c (P - 1) := rfl
  have h6 := h.cnt_perk (d := P - 1) (by omega) y
  have h7 : (P : Int) - B = 0 := by omega
  rw [h7, Int.mul_zero] at h6
  have h8 := Nat.le_mul_of_pos_right y hp
  have h9 := h.cnt_mono y (P - 1 + y * P - y)
  rw [show y + (P - 1 + y * P - y) = P - 1 + y * P from by omega] at h9
  have h10 : y ≠ 0 := fun e => h.miss_zero (e ▸ m)
  have h11 := h.miss_lt m (show 0 < y by omega)
  have h12 : cntM c 0 = 0 := by
    unfold cntM
    rw [h.T_zero]
    rfl
  omega
end CF
end EB

namespace EB
open PySem PySem.Spec PyProof.Rows L2
/-- the drinks that are gained by putting bottles together -/
noncomputable def pool (ts : List Tr) (ns : List Nat) : Int := ((D (cN ts) ns.sum : Nat) : Int) - ((ns.map fun n => ((D (cN ts) n : Nat) : Int))).sum
theorem nats_sum : ∀ ns : List Nat, ((ns.map fun n : Nat => (n : Int))).sum = ((ns.sum : Nat) : Int)
  | [] => rfl
  | n :: ns => by
    rw [List.map_cons, List.sum_cons, List.sum_cons, nats_sum ns]
    push_cast
    rfl
theorem mem_sum : ∀ {ns : List Nat} {n : Nat}, n ∈ ns → n ≤ ns.sum
  | m :: ns, n, h => by
    rw [List.sum_cons]
    rcases List.mem_cons.mp h with rfl | h
    · omega
    · have := mem_sum h
      omega
section
variable {P : Program} {w : World} {K : PySem.W.Frag} {mg : Str → Option Value} {base : Heap} (T : Tx K mg)
include T
def spPooled (K : PySem.W.Frag) : Sp := fun vs H Q _ => ∃ (x p : Addr) (ts : List Tr) (ns : List Nat), vs = [.ref x, .ref p] ∧ OfAt K H x ts ∧ Fair ts ∧ SqT K H p (ns.map fun n => V.int (n : Nat)) ∧ ns.sum ≤ 1000000000000000000 ∧ ns.length ≤ 10000 ∧ ∀ H', Same H H' → Q (.int (pool ts ns)) H'
theorem ok_Offer_pooled : FnR P w K mg base CX0 4 (a_Offer_pooled K) (fun vs H Q E => ∃ ws rest, vs = ws ++ rest ∧ ws.length = 1 ∧ rest.length ≤ sizeLine ∧ ∀ p, H p = none → spPooled K (ws ++ [V.ref p]) (upd H p (.tup rest)) Q E) := by
  refine fnRS (d := d_Offer_pooled) (ps := ["self"]) T.F_Offer_pooled sc_Offer_pooled rfl (fun kV doc pm an cdv ct => StX.bind_star1 (B := fun us => bindArgs (PySem.W.fnOf d_Offer_pooled.nm d_Offer_pooled.ql (defArgs d_Offer_pooled.st) (defBody d_Offer_pooled.st) (defScope d_Offer_pooled.st) .none kV doc pm an cdv ct) ⟨us, []⟩) (fun _ => rfl) (fun _ _ _ => rfl)) (fun cdv A outer s H vs Q E hr h => ?_)
  obtain ⟨x, p, ts, ns, rfl, ho, hf, hp, hsum, hl, k⟩ := h
  obtain ⟨dx, fs, oi, on⟩ : ∃ dx fs, H x = some (.ins (He.ga K "Offer") dx fs) ∧ fs.lookup ("_drinks_for" : Str) = none := by
    obtain ⟨dx, t, q, o, f, g, e1, _⟩ := ho.ex
    exact ⟨dx, _, e1, lk_no (by decide +kernel)⟩
  have hp2 : SqT K H p ((ns.map fun n : Nat => (n : Int)).map V.int) := by
    rw [List.map_map]
    exact hp
  refine ⟨_, (pss_cons (ps_for PassesOwn.never rfl (pi_tup (pv 1)) (pg_name (i := 2) sc_Offer_pooled.nd rfl (Or.inl rfl)) (pss_one (ps_expr (pe_cR (ok_check_number T) (hr.mono (by decide)) T.F_check_number.kp T.g_check_number pass0 (pa_cons (pv 2) pa_nil))))) (pss_cons (ps_expr (pe_cR (ok_check_number T) (hr.mono (by decide)) T.F_check_number.kp T.g_check_number pass0 (pa_cons (pe_callB (cr_sumT rfl) (by rfl) T.n_sum (by decide +kernel) (pa_cons (pv 1) pa_nil)) pa_nil))) (pss_one (ps_ret (pe_op op_sub (pe_methR (pv 0) T.k_Offer T.m_Offer_drinks_for (ok_Offer_drinks_for T) (hr.mono (by decide)) pass0 (pa_cons (pe_callB (cr_sumT rfl) (by rfl) T.n_sum (by decide +kernel) (pa_cons (pv 1) pa_nil)) pa_nil)) (pe_callB (cr_sum rfl) (by rfl) T.n_sum (by decide +kernel) (pa_cons (pe_lc (own := [("bottles", 2)]) rfl sc_Offer_pooled.nd (pi_tup (pv 1)) (blkOk_by (own := [("bottles", 2)]) (N := N_Offer_pooled) (sc := defScope s_Offer_pooled) (by decide +kernel)) (fun _ _ _ _ _ => (pg_name (i := 2) sc_Offer_pooled.nd rfl (Or.inl rfl) (.inr rfl))) (fun _ _ _ _ _ => pts_nil) (fun _ _ _ _ _ => (pe_methR (pv 0) T.k_Offer T.m_Offer_drinks_for (ok_Offer_drinks_for T) (hr.mono (by decide)) pass0 (pa_cons (pv 2) pa_nil)))) pa_nil))))))), ?_⟩
  refine ⟨_, rfl, p, rfl, ⟨_, hp⟩, for_tup (xs := ns.map fun n => V.int (n : Nat)) (fun i σ H1 => H1 = H ∧ ∃ y, σ = [some (.ref x), some (.ref p), y]) ⟨rfl, _, rfl⟩ (fun i σ H1 _ q => by rw [q.1]; exact hp) ?_ ?_⟩
  · rintro i y σ H1 hy ⟨rfl, z, rfl⟩
    rw [List.getElem?_map] at hy
    cases en : ns[i]? with
    | none =>
      rw [en] at hy
      cases hy
    | some n =>
      rw [en] at hy
      cases hy
      have := mem_sum (List.mem_of_getElem? en)
      exact ⟨_, rfl, n, rfl, by omega, by omega, rfl, _, rfl⟩
  rintro σ H1 ⟨rfl, z, rfl⟩
  refine ⟨_, rfl, p, _, rfl, hp2, _, rfl, ?_, ?_, ?_⟩
  · rw [nats_sum]
    omega
  · rw [nats_sum]
    omega
  refine ⟨_, rfl, x, dx, fs, rfl, oi, on, _, rfl, p, _, rfl, hp2, x, ts, ns.sum, by rw [nats_sum], ho, hf, ?_⟩
  refine ⟨_, rfl, p, rfl, ⟨_, hp⟩, fun D2 hD2 => ?_⟩
  refine lc_tup (xs := ns.map fun n => V.int (n : Nat)) (fun i H2 => Same H1 H2 ∧ H2 D2 = some (.lst ((ns.take i).map fun n => V.int (D (cN ts) n : Nat)))) ⟨same_new hD2, upd_same⟩ (fun i H2 _ q => Same.tup q.1 hp) ?_ ?_
  · rintro i y H2 hy ⟨s2, e2⟩
    rw [List.getElem?_map] at hy
    cases en : ns[i]? with
    | none =>
      rw [en] at hy
      cases hy
    | some n =>
      rw [en] at hy
      cases hy
      refine ⟨rfl, _, rfl, x, dx, fs, rfl, s2 _ _ oi, on, _, rfl, x, ts, n, rfl, ho.mono s2, hf, _, e2, small3 ?_, same_mut s2 hD2, ?_⟩
      · rw [List.length_map, List.length_take]
        omega
      · rw [upd_same, take_at en, List.map_append]
        rfl
  · rintro H2 ⟨s2, e2⟩
    refine ⟨D2, ns.map fun n => ((D (cN ts) n : Nat) : Int), rfl, SqL.of ?_, _, _, rfl, rfl, k _ s2⟩
    rw [e2, List.length_map, List.take_length, List.map_map]
    rfl
end
end EB

namespace EB
open PySem PySem.Spec PyProof.Rows L2
/-- the greatest number of drinks whose cost is within n -/
def IsC (c : Nat → Int) (n d : Nat) : Prop := c d ≤ n ∧ ∀ e, d < e → (n : Int) < c e
theorem credit_at {c : Nat → Int} {P B : Nat} (h : CF c P B) {n q r d : Nat} (hn : n = q * B + r) (hr : r < B) (hd : d < P) (h1 : c d ≤ r) (h2 : ∀ e, d < e → e < P → (r : Int) < c e) : IsC c n (q * P + d) := by
  have hp := h.ppos
  refine ⟨?_, fun e he => ?_⟩
  · rw [Nat.add_comm (q * P), h.perm, hn]
    push_cast
    omega
  · have e1 := Nat.div_add_mod e P
    have e2 := Nat.mod_lt e hp
    have e3 : e = e % P + e / P * P := by rw [Nat.mul_comm]; omega
    have e4 := h.perm (e % P) (e / P)
    rw [← e3] at e4
    rw [e4, hn]
    have e5 : q ≤ e / P := by
      rw [Nat.le_div_iff_mul_le hp]
      omega
    rcases Nat.lt_or_eq_of_le e5 with z | z
    · have z1 : (q + 1) * B ≤ e / P * B := Nat.mul_le_mul_right _ z
      have z2 := h.nonneg (e % P)
      have z3 : (q + 1) * B = q * B + B := by rw [Nat.add_mul, Nat.one_mul]
      have z4 : ((q * B + r : Nat) : Int) < ((e / P * B : Nat) : Int) := by omega
      have z5 : ((e / P * B : Nat) : Int) = (e / P : Nat) * (B : Int) := by push_cast; rfl
      omega
    · have z1 : d < e % P := by
        rw [← z] at e3
        omega
      have z2 := h2 (e % P) z1 e2
      rw [← z]
      push_cast
      omega
theorem IsC.uniq {c : Nat → Int} {n d e : Nat} (h : IsC c n d) (g : IsC c n e) : d = e := by
  rcases Nat.lt_trichotomy d e with q | q | q
  · have := h.2 e q
    have := g.1
    omega
  · exact q
  · have := g.2 d q
    have := h.1
    omega
theorem IsC.cost {c : Nat → Int} {P B : Nat} (h : CF c P B) {n d : Nat} (g : IsC c n d) : c d = n := by
  have h1 := g.1
  have h2 := g.2 (d + 1) (Nat.lt_succ_self d)
  have h3 := h.step d
  omega
theorem IsC.ten {c : Nat → Int} {P B : Nat} (h : CF c P B) {n d : Nat} (g : IsC c n d) : d ≤ 10 * n := by
  have h1 := g.1
  have h2 := h.ten d
  omega
theorem IsC.ge {c : Nat → Int} {P B : Nat} (h : CF c P B) {n d : Nat} (g : IsC c n d) : D c n ≤ d := by
  apply Nat.le_of_not_lt
  intro q
  have h1 := g.2 _ q
  have h2 := h.D_cost n
  omega
section
variable {P : Program} {w : World} {K : PySem.W.Frag} {mg : Str → Option Value} {base : Heap} (T : Tx K mg)
include T
def spCredit (K : PySem.W.Frag) : Sp := fun vs H Q _ => ∃ (a : Addr) (ts : List Tr) (n : Nat), vs = [.ref a, .int (n : Nat)] ∧ OfAt K H a ts ∧ Fair ts ∧ n ≤ 1000000000000000000 ∧ ∀ H' d, Same H H' → IsC (cN ts) n d → Q (.int (d : Nat)) H'
theorem ok_Offer_credit : FnR P w K mg base CX0 4 (a_Offer_credit K) (spCredit K) := by
  refine fnR0 (d := d_Offer_credit) T.F_Offer_credit sc_Offer_credit rfl (fun _ _ _ _ _ _ us hl => match us, hl with | [_, _], _ => rfl) (fun vs H Q E h => ?_) (fun cdv A outer s H vs Q E hr h => ?_)
  · obtain ⟨a, ts, n, rfl, _⟩ := h
    rfl
  obtain ⟨a, ts, n, rfl, ho, hf, hn, k⟩ := h
  obtain ⟨dx, t, p, o, f, g, e1, e2, e3, e4, e5, e6⟩ := ho.ex
  have C := cf hf
  have hB := C.bpos
  have hP := C.ppos
  have hP2 := per_le' hf.g
  have hB2 := perB_le hf
  refine ⟨_, (pss_cons (ps_expr (pe_cR (ok_check_number T) (hr.mono (by decide)) T.F_check_number.kp T.g_check_number pass0 (pa_cons (pv 1) pa_nil))) (pss_cons (ps_asg (pe_fld (pv 0) rfl) (pg_tup rfl (pgs_cons (pg_name (i := 2) sc_Offer_credit.nd rfl (Or.inl rfl)) (pgs_cons (pg_name (i := 3) sc_Offer_credit.nd rfl (Or.inl rfl)) pgs_nil)))) (pss_cons (ps_asg (pe_callB call_divmod (by rfl) T.n_divmod (by decide +kernel) (pa_cons (pv 1) (pa_cons (pv 2) pa_nil))) (pg_tup rfl (pgs_cons (pg_name (i := 4) sc_Offer_credit.nd rfl (Or.inl rfl)) (pgs_cons (pg_name (i := 5) sc_Offer_credit.nd rfl (Or.inl rfl)) pgs_nil)))) (pss_cons (ps_set (i := 6) sc_Offer_credit.nd rfl (Or.inl rfl) (pe_op op_sub (pv 3) pe_int)) (pss_cons (ps_while PassesOwn.never (pt_cmpR op_gt (pe_cR (ok_cost_of T) (hr.mono (by decide)) T.F_cost_of.kp T.g_cost_of pass0 (pa_cons (pe_fld (pv 0) rfl) (pa_cons (pv 6) pa_nil))) (pv 5) (nomark _)) (pss_one (ps_set (i := 6) sc_Offer_credit.nd rfl (Or.inl rfl) (pe_op op_sub (pv 6) pe_int)))) (pss_one (ps_ret (pe_op op_add (pe_op op_mul (pv 4) (pv 3)) (pv 6))))))))), ?_⟩
  refine ⟨_, rfl, n, rfl, by omega, by omega, ?_⟩
  refine ⟨_, rfl, a, _, dx, _, _, rfl, e1, T.k_Offer, T.na_period, lk_period, p, _, rfl, e3, rfl, _, _, rfl, _, _, rfl, rfl, ?_⟩
  refine ⟨_, rfl, _, rfl, n, perB ts, rfl, ⟨by omega, by omega⟩, fun q hq => ⟨q, _, rfl, SqT.of upd_same, rfl, _, _, rfl, _, _, rfl, rfl, ?_⟩⟩
  have s1 : Same H (upd H q (.tup [.int ((n : Int) / (perB ts : Int)), .int ((n : Int) % (perB ts : Int))])) := same_new hq
  refine ⟨_, rfl, _, _, rfl, rfl, ?_⟩
  -- down from the last drinks of a period
  refine ⟨fun m σ H1 => Same H H1 ∧ m < per ts ∧ (∀ e, m < e → e < per ts → (((n % perB ts : Nat) : Nat) : Int) < cN ts e) ∧
    σ = [some (.ref a), some (.int n), some (.int (perB ts : Nat)), some (.int (per ts : Nat)), some (.int ((n : Int) / (perB ts : Int))), some (.int ((n : Int) % (perB ts : Int))), some (.int (m : Nat))], ⟨per ts - 1, s1, by omega, fun e h1 h2 => by omega, ?_⟩, ?_⟩
  · have : ((per ts - 1 : Nat) : Int) = (per ts : Int) - 1 := by omega
    rw [this]
    rfl
  rintro m σ H1 ⟨s1, hm, hall, rfl⟩
  refine ⟨_, rfl, a, _, dx, _, _, rfl, s1 _ _ e1, T.k_Offer, T.na_trades, lk_trades, _, rfl, t, ts, m, rfl, e2.mono s1, hf.g, fun H2 s2 => ⟨_, rfl, _, _, rfl, rfl, _, rfl, ite2 (fun hd => ?_) (fun hd => ?_)⟩⟩
  · have hd : ((n : Int) % (perB ts : Int)) < cost ts m := of_decide_eq_true hd
    have em : ((n % perB ts : Nat) : Int) = (n : Int) % (perB ts : Int) := by push_cast; rfl
    have hm0 : 0 < m := by
      rcases Nat.eq_zero_or_pos m with z | z
      · subst z
        have z0 : cost ts ((0 : Nat) : Int) = 0 := C.zero
        have := Int.emod_nonneg (n : Int) (show (perB ts : Int) ≠ 0 by omega)
        omega
      · exact z
    refine ⟨fun σ' H' => ∃ m', m' < m ∧ (Same H H' ∧ m' < per ts ∧ (∀ e, m' < e → e < per ts → (((n % perB ts : Nat) : Nat) : Int) < cN ts e) ∧
      σ' = [some (.ref a), some (.int n), some (.int (perB ts : Nat)), some (.int (per ts : Nat)), some (.int ((n : Int) / (perB ts : Int))), some (.int ((n : Int) % (perB ts : Int))), some (.int (m' : Nat))]), fun _ _ z => z, ?_⟩
    refine ⟨_, rfl, _, _, rfl, rfl, m - 1, by omega, s1.trans s2, by omega, fun e h1 h2 => ?_, ?_⟩
    · rcases Nat.lt_or_ge m e with z | z
      · exact hall e z h2
      · have : e = m := by omega
        rw [this, em]
        exact hd
    · have : ((m - 1 : Nat) : Int) = (m : Int) - 1 := by omega
      rw [this]
      rfl
  · have hd : ¬ ((n : Int) % (perB ts : Int)) < cost ts m := fun z => hd (decide_eq_true z)
    have em : ((n % perB ts : Nat) : Int) = (n : Int) % (perB ts : Int) := by push_cast; rfl
    refine ⟨_, rfl, _, rfl, _, _, rfl, rfl, .inr ⟨by omega, by omega⟩, _, rfl, _, _, rfl, rfl, ?_⟩
    have ed := Nat.div_add_mod n (perB ts)
    have hc := credit_at (n := n) (q := n / perB ts) (r := n % perB ts) (d := m) C (by rw [Nat.mul_comm]; omega) (Nat.mod_lt _ hB) hm (by show cost ts m ≤ _; omega) hall
    have k2 := k _ _ (s1.trans s2) hc
    have e9 : (((n / perB ts * per ts + m : Nat) : Nat) : Int) = (n : Int) / (perB ts : Int) * (per ts : Int) + (m : Int) := by push_cast; rfl
    rw [e9] at k2
    exact k2
end
end EB

namespace EB
open PySem PySem.Spec PyProof.Rows L2
section
variable {P : Program} {w : World} {K : PySem.W.Frag} {mg : Str → Option Value} {base : Heap} (T : Tx K mg)
include T
def spFewest (K : PySem.W.Frag) : Sp := fun vs H Q _ => ∃ (a : Addr) (ts : List Tr) (d : Nat), vs = [.ref a, .int (d : Nat)] ∧ OfAt K H a ts ∧ Fair ts ∧ d ≤ 1000000000000000000 ∧ Q (.int (few (cN ts) d : Nat)) H
theorem ok_Offer_fewest_bottles : FnR P w K mg base CX0 4 (a_Offer_fewest_bottles K) (spFewest K) := by
  refine fnR0 (d := d_Offer_fewest_bottles) T.F_Offer_fewest_bottles sc_Offer_fewest_bottles rfl (fun _ _ _ _ _ _ us hl => match us, hl with | [_, _], _ => rfl) (fun vs H Q E h => ?_) (fun cdv A outer s H vs Q E hr h => ?_)
  · obtain ⟨a, ts, n, rfl, _⟩ := h
    rfl
  obtain ⟨a, ts, n, rfl, ho, hf, hn, k⟩ := h
  obtain ⟨dx, t, p, o, f, g, e1, e2, e3, e4, e5, e6⟩ := ho.ex
  refine ⟨_, (pss_cons (ps_expr (pe_cR (ok_check_number T) (hr.mono (by decide)) T.F_check_number.kp T.g_check_number pass0 (pa_cons (pv 1) pa_nil))) (pss_cons (ps_if (pt_cmpR op_eq (pv 1) pe_int (nomark _)) (pss_one (ps_ret pe_int)) pss_nil) (pss_one (ps_ret (pe_op op_add (pe_methR (pv 0) T.k_Offer T.m_Offer_most_within (ok_Offer_most_within T) (hr.mono (by decide)) pass0 (pa_cons (pe_op op_sub (pv 1) pe_int) pa_nil)) pe_int))))), ?_⟩
  refine ⟨_, rfl, n, rfl, by omega, by omega, ?_⟩
  unfold few at k
  refine ⟨_, rfl, rfl, _, rfl, ite2 (fun hd => ?_) (fun hd => ?_)⟩
  · have hd : (n : Int) = 0 := V.int.inj (of_decide_eq_true hd)
    rw [if_pos (by omega)] at k
    exact k
  · have hd : ¬ (n : Int) = 0 := fun z => hd (decide_eq_true (by rw [z]))
    rw [if_neg (by omega)] at k
    have h0 := (cf hf).T_nonneg (n - 1)
    refine ⟨_, rfl, a, dx, _, rfl, e1, lk_no (by decide +kernel), _, rfl, _, _, rfl, rfl, a, ts, n - 1, ?_, ho, hf, _, _, rfl, rfl, ?_⟩
    · have : ((n - 1 : Nat) : Int) = (n : Int) - 1 := by omega
      rw [this]
    · have : ((((EB.T (cN ts) (n - 1)).toNat + 1 : Nat) : Nat) : Int) = EB.T (cN ts) (n - 1) + 1 := by omega
      rw [this] at k
      exact k
end
end EB

namespace EB
open PySem PySem.Spec PyProof.Rows L2
section
variable {P : Program} {w : World} {K : PySem.W.Frag} {mg : Str → Option Value} {base : Heap} (T : Tx K mg)
include T
noncomputable abbrev slkT (ts us : List Tr) (n : Nat) : Int := slk (cN ts) (cN us) n
abbrev spanT (ts us : List Tr) : Nat := spanN (per ts) (per us) (perB us)
abbrev fallT (ts us : List Tr) : Int := fallI (per ts) (perB ts) (per us) (perB us)
def spSlack (K : PySem.W.Frag) : Sp := fun vs H Q _ => ∃ (a b : Addr) (ts us : List Tr) (n : Nat), vs = [.ref a, .ref b, .int (n : Nat)] ∧ OfAt K H a ts ∧ Fair ts ∧ OfAt K H b us ∧ Fair us ∧ Q (.int (slkT ts us n)) H
theorem ok_slack : FnR P w K mg base CX0 3 (a_slack K) (spSlack K) := by
  refine fnR0 (d := d_slack) T.F_slack sc_slack rfl (fun _ _ _ _ _ _ us hl => match us, hl with | [_, _, _], _ => rfl) (fun vs H Q E h => ?_) (fun cdv A outer s H vs Q E hr h => ?_)
  · obtain ⟨a, b, ts, us, n, rfl, _⟩ := h
    rfl
  obtain ⟨a, b, ts, us, n, rfl, ho, hf, ho2, hf2, k⟩ := h
  obtain ⟨dx, t, p, o, f, g, e1, _⟩ := ho.ex
  obtain ⟨dx2, t2, p2, o2, f2, g2, e2, _⟩ := ho2.ex
  refine ⟨_, (pss_one (ps_ret (pe_op op_sub (pe_methR (pv 0) T.k_Offer T.m_Offer_most_within (ok_Offer_most_within T) (hr.mono (by decide)) pass0 (pa_cons (pe_methR (pv 1) T.k_Offer T.m_Offer_drinks_for (ok_Offer_drinks_for T) (hr.mono (by decide)) pass0 (pa_cons (pv 2) pa_nil)) pa_nil)) (pv 2)))), ?_⟩
  exact ⟨_, rfl, a, dx, _, rfl, e1, lk_no (by decide +kernel), _, rfl, b, dx2, _, rfl, e2, lk_no (by decide +kernel), _, rfl, b, us, n, rfl, ho2, hf2, a, ts, D (cN us) n, rfl, ho, hf, _, rfl, _, _, rfl, rfl, k⟩
def spRep (K : PySem.W.Frag) : Sp := fun vs H Q _ => ∃ (a b : Addr) (ts us : List Tr), vs = [.ref a, .ref b] ∧ OfAt K H a ts ∧ Fair ts ∧ OfAt K H b us ∧ Fair us ∧ ∀ p H', Same H H' → SqT K H' p [.int ((per ts + per us : Nat) : Int), .int (spanT ts us : Nat), .int (fallT ts us)] → Q (.ref p) H'
theorem ok_repetition : FnR P w K mg base CX0 3 (a_repetition K) (spRep K) := by
  refine fnR0 (d := d_repetition) T.F_repetition sc_repetition rfl (fun _ _ _ _ _ _ us hl => match us, hl with | [_, _], _ => rfl) (fun vs H Q E h => ?_) (fun cdv A outer s H vs Q E hr h => ?_)
  · obtain ⟨a, b, ts, us, rfl, _⟩ := h
    rfl
  obtain ⟨a, b, ts, us, rfl, ho, hf, ho2, hf2, k⟩ := h
  obtain ⟨dx, t, p, o, f, g, e1, _⟩ := ho.ex
  obtain ⟨dx2, t2, p2, o2, f2, g2, e2, _⟩ := ho2.ex
  have hp := per_le' hf.g
  have hp2 := per_le' hf2.g
  have hq := per_pos hf.g
  have hq2 := per_pos hf2.g
  have hb := perB_le hf
  have hb2 := perB_le hf2
  refine ⟨_, (pss_cons (ps_asg (pe_prop (pv 0) T.k_Offer T.p_Offer_period (ok_Offer_period T) (hr.mono (by decide)) (b_Offer_period T) .nil pass0 rfl) (pg_tup rfl (pgs_cons (pg_name (i := 2) sc_repetition.nd rfl (Or.inl rfl)) (pgs_cons (pg_name (i := 3) sc_repetition.nd rfl (Or.inl rfl)) pgs_nil)))) (pss_cons (ps_asg (pe_prop (pv 1) T.k_Offer T.p_Offer_period (ok_Offer_period T) (hr.mono (by decide)) (b_Offer_period T) .nil pass0 rfl) (pg_tup rfl (pgs_cons (pg_name (i := 4) sc_repetition.nd rfl (Or.inl rfl)) (pgs_cons (pg_name (i := 5) sc_repetition.nd rfl (Or.inl rfl)) pgs_nil)))) (pss_cons (ps_set (i := 6) sc_repetition.nd rfl (Or.inl rfl) (pe_callBfun cr_lcm (by rfl) T.b_lcm (pa_cons (pv 3) (pa_cons (pv 5) pa_nil)))) (pss_cons (ps_set (i := 7) sc_repetition.nd rfl (Or.inl rfl) (pe_op op_mul (pe_op op_fdiv (pv 6) (pv 5)) (pv 4))) (pss_cons (ps_set (i := 8) sc_repetition.nd rfl (Or.inl rfl) (pe_op op_sub (pv 7) (pe_op op_mul (pe_op op_fdiv (pv 6) (pv 3)) (pv 2)))) (pss_one (ps_ret (pe_tup (pa_cons (pe_op op_add (pv 3) (pv 5)) (pa_cons (pv 7) (pa_cons (pv 8) pa_nil))))))))))), ?_⟩
  refine ⟨_, rfl, a, dx, _, rfl, e1, a, ts, rfl, ho, fun q hq1 => ⟨q, _, rfl, hq1, rfl, _, _, rfl, _, _, rfl, rfl, ?_⟩⟩
  refine ⟨_, rfl, b, dx2, _, rfl, e2, b, us, rfl, ho2, fun q2 hq3 => ⟨q2, _, rfl, hq3, rfl, _, _, rfl, _, _, rfl, rfl, ?_⟩⟩
  refine ⟨_, rfl, _, rfl, _, _, rfl, by omega, by omega, ?_⟩
  refine ⟨_, rfl, _, rfl, _, _, rfl, rfl, ⟨by omega, by omega⟩, _, rfl, _, _, rfl, rfl, .inr ⟨by omega, by omega⟩, ?_⟩
  refine ⟨_, rfl, _, rfl, _, rfl, _, _, rfl, rfl, ⟨by omega, by omega⟩, _, rfl, _, _, rfl, rfl, .inr ⟨by omega, by omega⟩, _, _, rfl, rfl, ?_⟩
  refine ⟨_, rfl, _, rfl, _, _, rfl, rfl, _, rfl, _, rfl, by show 3 ≤ sizeLine; decide, fun q3 hq4 => k _ _ (same_new hq4) (SqT.of upd_same)⟩
def spNever (K : PySem.W.Frag) : Sp := fun vs H Q _ => ∃ (a b : Addr) (ts us : List Tr), vs = [.ref a, .ref b] ∧ OfAt K H a ts ∧ Fair ts ∧ OfAt K H b us ∧ Fair us ∧ ∀ H' (x : Bool), Same H H' → (x = true ↔ ∀ n, D (cN ts) n ≤ D (cN us) n) → Q (.bl x) H'
theorem ok_never_more : FnR P w K mg base CX0 4 (a_never_more K) (spNever K) := by
  refine fnR0 (d := d_never_more) T.F_never_more sc_never_more rfl (fun _ _ _ _ _ _ us hl => match us, hl with | [_, _], _ => rfl) (fun vs H Q E h => ?_) (fun cdv A outer s H vs Q E hr h => ?_)
  · obtain ⟨a, b, ts, us, rfl, _⟩ := h
    rfl
  obtain ⟨a, b, ts, us, rfl, ho, hf, ho2, hf2, k⟩ := h
  have hp := per_le' hf.g
  have hp2 := per_le' hf2.g
  refine ⟨_, (pss_cons (ps_asg (pe_cR (ok_repetition T) (hr.mono (by decide)) T.F_repetition.kp T.g_repetition pass0 (pa_cons (pv 0) (pa_cons (pv 1) pa_nil))) (pg_tup rfl (pgs_cons (pg_name (i := 2) sc_never_more.nd rfl (Or.inl rfl)) (pgs_cons (pg_name (i := 3) sc_never_more.nd rfl (Or.inl rfl)) (pgs_cons (pg_name (i := 4) sc_never_more.nd rfl (Or.inl rfl)) pgs_nil))))) (pss_cons (ps_if (pt_cmpR op_gt (pv 4) pe_int (nomark _)) (pss_one (ps_ret pe_bl)) pss_nil) (pss_one (ps_ret (pe_callB (cr_all rfl) (by rfl) T.n_all (by decide +kernel) (pa_cons (pe_lc (own := [("bottles", 5)]) rfl sc_never_more.nd (pi_range1 rfl T.n_range (pa_cons (pe_op op_add (pv 2) (pv 3)) pa_nil)) (blkOk_by (own := [("bottles", 5)]) (N := N_never_more) (sc := defScope s_never_more) (by decide +kernel)) (fun _ _ _ _ _ => (pg_name (i := 5) sc_never_more.nd rfl (Or.inl rfl) (.inr rfl))) (fun _ _ _ _ _ => pts_nil) (fun _ _ _ _ _ => (pe_cmpR op_ge (pe_cR (ok_slack T) (hr.mono (by decide)) T.F_slack.kp T.g_slack pass0 (pa_cons (pv 0) (pa_cons (pv 1) (pa_cons (pv 5) pa_nil)))) pe_int (nomark _)))) pa_nil)))))), ?_⟩
  refine ⟨_, rfl, _, rfl, a, b, ts, us, rfl, ho, hf, ho2, hf2, fun p H1 s1 hq => ⟨p, _, rfl, hq, rfl, _, _, rfl, _, _, rfl, _, _, rfl, rfl, ?_⟩⟩
  have hN : (∀ n, D (cN ts) n ≤ D (cN us) n) ↔ ¬ 0 < fallT ts us ∧ ∀ n, n < per ts + per us + spanT ts us → 0 ≤ slkT ts us n := (cf hf).never (cf hf2)
  refine ⟨_, rfl, _, _, rfl, rfl, _, rfl, ite2 (fun hd => ?_) (fun hd => ?_)⟩
  · have hd : 0 < fallT ts us := of_decide_eq_true hd
    exact k _ _ s1 ⟨(fun z => nomatch z), fun z => absurd hd (hN.mp z).1⟩
  have hd : ¬ 0 < fallT ts us := fun z => hd (decide_eq_true z)
  have hsp : spanT ts us ≤ 2985984 := Nat.le_trans ((cf hf).span_le (perB_le hf2)) (Nat.le_trans (Nat.mul_le_mul hp hp2) (by decide))
  refine ⟨_, rfl, _, rfl, _, _, rfl, rfl, _, rfl, ?_, ?_, fun W hW => ?_⟩
  · omega
  · have h62 : (10000000 : Int) < 2 ^ 62 := by decide
    omega
  refine lc_range (lo := 0) (n := (((per ts + per us : Nat) : Int) + (spanT ts us : Nat)).toNat) (fun i H2 => Same H1 H2 ∧ H2 W = some (.lst (((List.range i).map fun n => decide (0 ≤ slkT ts us n)).map V.bl))) ⟨same_new hW, upd_same⟩ ?_ ?_
  · rintro i H2 hi ⟨s2, e2⟩
    refine ⟨rfl, _, rfl, _, rfl, _, rfl, a, b, ts, us, i, by rw [Int.zero_add], ho.mono (s1.trans s2), hf, ho2.mono (s1.trans s2), hf2, _, _, rfl, rfl, ?_⟩
    refine ⟨_, e2, ?_, same_mut s2 hW, ?_⟩
    · rw [List.length_map, List.length_map, List.length_range]
      have : sizeLine = 16777216 := by decide
      omega
    · rw [upd_same, List.range_succ, List.map_append, List.map_append]
      rfl
  rintro H2 ⟨s2, e2⟩
  refine ⟨W, _, rfl, SqL.of e2, k _ _ (s1.trans s2) ?_⟩
  rw [List.all_eq_true, hN]
  constructor
  · intro h
    refine ⟨hd, fun n hn => ?_⟩
    exact of_decide_eq_true (h _ (List.mem_map.mpr ⟨n, List.mem_range.mpr (by omega), rfl⟩))
  · intro h x hx
    obtain ⟨n, hn, rfl⟩ := List.mem_map.mp hx
    have := List.mem_range.mp hn
    exact decide_eq_true (h.2 n (by omega))
/-- the first number for which two offers part -/
def Fst (ts us : List Tr) (v : V) : Prop := ((∀ n, D (cN ts) n = D (cN us) n) ∧ v = .non) ∨ ∃ n : Nat, D (cN ts) n ≠ D (cN us) n ∧ (∀ m, m < n → D (cN ts) m = D (cN us) m) ∧ v = .int (n : Nat)
def spFirst (K : PySem.W.Frag) : Sp := fun vs H Q _ => ∃ (a b : Addr) (ts us : List Tr), vs = [.ref a, .ref b] ∧ OfAt K H a ts ∧ Fair ts ∧ OfAt K H b us ∧ Fair us ∧ ∀ H' v, Same H H' → Fst ts us v → Q v H'
theorem ok_first_difference : FnR P w K mg base CX0 4 (a_first_difference K) (spFirst K) := by
  refine fnR0 (d := d_first_difference) T.F_first_difference sc_first_difference rfl (fun _ _ _ _ _ _ us hl => match us, hl with | [_, _], _ => rfl) (fun vs H Q E h => ?_) (fun cdv A outer s H vs Q E hr h => ?_)
  · obtain ⟨a, b, ts, us, rfl, _⟩ := h
    rfl
  obtain ⟨a, b, ts, us, rfl, ho, hf, ho2, hf2, k⟩ := h
  have k : ∀ H', Same H H' → ((∀ n, D (cN ts) n = D (cN us) n) → Q .non H') ∧ ∀ n, D (cN ts) n ≠ D (cN us) n → (∀ m, m < n → D (cN ts) m = D (cN us) m) → n < per ts + per us + spanT ts us → Q (.int (n : Nat)) H' := fun H' s => ⟨fun h => k H' _ s (.inl ⟨h, rfl⟩), fun n h1 h2 _ => k H' _ s (.inr ⟨n, h1, h2, rfl⟩)⟩
  have hp := per_le' hf.g
  have hp2 := per_le' hf2.g
  obtain ⟨dx, t, p, o, f, g, e1, _⟩ := ho.ex
  obtain ⟨dx2, t2, p2, o2, f2, g2, e2, _⟩ := ho2.ex
  refine ⟨_, (pss_cons (ps_asg (pe_cR (ok_repetition T) (hr.mono (by decide)) T.F_repetition.kp T.g_repetition pass0 (pa_cons (pv 0) (pa_cons (pv 1) pa_nil))) (pg_tup rfl (pgs_cons (pg_name (i := 2) sc_first_difference.nd rfl (Or.inl rfl)) (pgs_cons (pg_name (i := 3) sc_first_difference.nd rfl (Or.inl rfl)) (pgs_cons (pg_name (i := 4) sc_first_difference.nd rfl (Or.inl rfl)) pgs_nil))))) (pss_cons (ps_for PassesOwn.never rfl (pi_range1 rfl T.n_range (pa_cons (pe_op op_add (pv 2) (pv 3)) pa_nil)) (pg_name (i := 5) sc_first_difference.nd rfl (Or.inl rfl)) (pss_one (ps_if (pt_cmpR op_ne (pe_methR (pv 0) T.k_Offer T.m_Offer_drinks_for (ok_Offer_drinks_for T) (hr.mono (by decide)) pass0 (pa_cons (pv 5) pa_nil)) (pe_methR (pv 1) T.k_Offer T.m_Offer_drinks_for (ok_Offer_drinks_for T) (hr.mono (by decide)) pass0 (pa_cons (pv 5) pa_nil)) (nomark _)) (pss_one (ps_ret (pv 5))) pss_nil))) (pss_one (ps_ret pe_non)))), ?_⟩
  refine ⟨_, rfl, _, rfl, a, b, ts, us, rfl, ho, hf, ho2, hf2, fun p H1 s1 hq => ⟨p, _, rfl, hq, rfl, _, _, rfl, _, _, rfl, _, _, rfl, rfl, ?_⟩⟩
  have hsp : spanT ts us ≤ 2985984 := Nat.le_trans ((cf hf).span_le (perB_le hf2)) (Nat.le_trans (Nat.mul_le_mul hp hp2) (by decide))
  refine ⟨_, rfl, _, rfl, _, _, rfl, rfl, _, rfl, ?_, ?_, ?_⟩
  · omega
  · have h62 : (10000000 : Int) < 2 ^ 62 := by decide
    omega
  refine for_range (n := (((per ts + per us : Nat) : Int) + (spanT ts us : Nat)).toNat) (fun i σ H2 => H2 = H1 ∧ (∀ m, m < i → D (cN ts) m = D (cN us) m) ∧ ∃ x5, σ = [some (.ref a), some (.ref b), some (.int ((per ts + per us : Nat) : Int)), some (.int (spanT ts us : Nat)), some (.int (fallT ts us)), x5]) ⟨rfl, fun m hm => absurd hm (Nat.not_lt_zero _), _, rfl⟩ ?_ ?_
  · rintro i σ H2 hi ⟨rfl, hm, x5, rfl⟩
    have ei : (0 : Int) + (i : Int) = (i : Int) := Int.zero_add _
    refine ⟨_, rfl, a, dx, _, rfl, s1 _ _ e1, lk_no (by decide +kernel), _, rfl, a, ts, i, by rw [ei], ho.mono s1, hf, _, rfl, b, dx2, _, rfl, s1 _ _ e2, lk_no (by decide +kernel), _, rfl, b, us, i, by rw [ei], ho2.mono s1, hf2, rfl, _, rfl, ite2 (fun hd => ?_) (fun hd => ?_)⟩
    · refine ⟨_, rfl, ?_⟩
      rw [ei]
      refine (k _ s1).2 i (fun e => ?_) hm (by omega)
      have hd : (!decide (V.int (D (cN ts) i : Nat) = V.int (D (cN us) i : Nat))) = true := hd
      rw [decide_eq_true (by rw [e])] at hd
      cases hd
    · have hd : ¬ (!decide (V.int (D (cN ts) i : Nat) = V.int (D (cN us) i : Nat))) = true := hd
      refine ⟨rfl, fun m hm2 => ?_, _, rfl⟩
      rcases Nat.lt_or_ge m i with z | z
      · exact hm m z
      · have : m = i := by omega
        subst this
        rw [Bool.not_eq_true', Bool.not_eq_false, decide_eq_true_eq] at hd
        have := V.int.inj hd
        omega
  · rintro σ H2 ⟨rfl, hm, x5, rfl⟩
    refine (k _ s1).1 ?_
    refine (cf hf).same (cf hf2) fun n hn => hm n ?_
    have hn : n < per ts + per us + spanT ts us := hn
    omega
def spCmp (K : PySem.W.Frag) (r : Bool) (c : (Nat → Int) → (Nat → Int) → Prop) : Sp := fun vs H Q _ => ∃ (a b : Addr) (ts us : List Tr), vs = [.ref a, .ref b] ∧ OfAt K H a ts ∧ Fair ts ∧ OfAt K H b us ∧ Fair us ∧ ∀ H' (x : Bool), Same H H' → (x = true ↔ if r = true then c (cN us) (cN ts) else c (cN ts) (cN us)) → Q (.bl x) H'
def leC (c d : Nat → Int) : Prop := ∀ n, D c n ≤ D d n
def ltC (c d : Nat → Int) : Prop := (∀ n, D c n ≤ D d n) ∧ ∃ n, D c n < D d n
theorem ok_Offer_le : FnR P w K mg base CX0 5 (a_Offer_le K) (spCmp K false leC) := by
  refine fnR0 (d := d_Offer_le) T.F_Offer_le sc_Offer_le rfl (fun _ _ _ _ _ _ us hl => match us, hl with | [_, _], _ => rfl) (fun vs H Q E h => ?_) (fun cdv A outer s H vs Q E hr h => ?_)
  · obtain ⟨a, b, ts, us, rfl, _⟩ := h
    rfl
  obtain ⟨a, b, ts, us, rfl, ho, hf, ho2, hf2, k⟩ := h
  refine ⟨_, (pss_one (ps_ret (pe_cR (ok_never_more T) (hr.mono (by decide)) T.F_never_more.kp T.g_never_more pass0 (pa_cons (pv 0) (pa_cons (pv 1) pa_nil))))), ?_⟩
  exact ⟨_, rfl, _, rfl, a, b, ts, us, rfl, ho, hf, ho2, hf2, k⟩
theorem ok_Offer_ge : FnR P w K mg base CX0 5 (a_Offer_ge K) (spCmp K true leC) := by
  refine fnR0 (d := d_Offer_ge) T.F_Offer_ge sc_Offer_ge rfl (fun _ _ _ _ _ _ us hl => match us, hl with | [_, _], _ => rfl) (fun vs H Q E h => ?_) (fun cdv A outer s H vs Q E hr h => ?_)
  · obtain ⟨a, b, ts, us, rfl, _⟩ := h
    rfl
  obtain ⟨a, b, ts, us, rfl, ho, hf, ho2, hf2, k⟩ := h
  refine ⟨_, (pss_one (ps_ret (pe_cR (ok_never_more T) (hr.mono (by decide)) T.F_never_more.kp T.g_never_more pass0 (pa_cons (pv 1) (pa_cons (pv 0) pa_nil))))), ?_⟩
  exact ⟨_, rfl, _, rfl, b, a, us, ts, rfl, ho2, hf2, ho, hf, k⟩
theorem ok_Offer_lt : FnR P w K mg base CX0 5 (a_Offer_lt K) (spCmp K false ltC) := by
  refine fnR0 (d := d_Offer_lt) T.F_Offer_lt sc_Offer_lt rfl (fun _ _ _ _ _ _ us hl => match us, hl with | [_, _], _ => rfl) (fun vs H Q E h => ?_) (fun cdv A outer s H vs Q E hr h => ?_)
  · obtain ⟨a, b, ts, us, rfl, _⟩ := h
    rfl
  obtain ⟨a, b, ts, us, rfl, ho, hf, ho2, hf2, k⟩ := h
  refine ⟨_, (pss_one (ps_ret (pe_and (pe_cR (ok_never_more T) (hr.mono (by decide)) T.F_never_more.kp T.g_never_more pass0 (pa_cons (pv 0) (pa_cons (pv 1) pa_nil))) (pe_one (pe_cmpR op_notN (pe_cR (ok_first_difference T) (hr.mono (by decide)) T.F_first_difference.kp T.g_first_difference pass0 (pa_cons (pv 0) (pa_cons (pv 1) pa_nil))) pe_non (nomark _)))))), ?_⟩
  refine ⟨_, rfl, _, rfl, a, b, ts, us, rfl, ho, hf, ho2, hf2, fun H1 x s1 hx => ⟨x, rfl, ite2 (fun hd => ?_) (fun hd => ?_)⟩⟩
  · refine ⟨_, rfl, _, rfl, a, b, ts, us, rfl, ho.mono s1, hf, ho2.mono s1, hf2, fun H2 v s2 hv => ?_⟩
    rcases hv with ⟨heq, rfl⟩ | ⟨n, hne, hmin, rfl⟩
    · refine ⟨rfl, ?_⟩
      rw [decide_eq_true rfl]
      refine k _ _ (s1.trans s2) ⟨(fun z => nomatch z), fun z => ?_⟩
      obtain ⟨m, hm⟩ := z.2
      have := heq m
      omega
    · refine ⟨rfl, ?_⟩
      rw [decide_eq_false (fun z => nomatch z)]
      refine k _ _ (s1.trans s2) ⟨fun _ => ⟨hx.mp hd, n, ?_⟩, fun _ => rfl⟩
      have := hx.mp hd n
      omega
  · exact k _ _ s1 ⟨(fun z => nomatch z), fun z => absurd (hx.mpr z.1) hd⟩
theorem ok_Offer_gt : FnR P w K mg base CX0 5 (a_Offer_gt K) (spCmp K true ltC) := by
  refine fnR0 (d := d_Offer_gt) T.F_Offer_gt sc_Offer_gt rfl (fun _ _ _ _ _ _ us hl => match us, hl with | [_, _], _ => rfl) (fun vs H Q E h => ?_) (fun cdv A outer s H vs Q E hr h => ?_)
  · obtain ⟨a, b, ts, us, rfl, _⟩ := h
    rfl
  obtain ⟨a, b, ts, us, rfl, ho, hf, ho2, hf2, k⟩ := h
  refine ⟨_, (pss_one (ps_ret (pe_and (pe_cR (ok_never_more T) (hr.mono (by decide)) T.F_never_more.kp T.g_never_more pass0 (pa_cons (pv 1) (pa_cons (pv 0) pa_nil))) (pe_one (pe_cmpR op_notN (pe_cR (ok_first_difference T) (hr.mono (by decide)) T.F_first_difference.kp T.g_first_difference pass0 (pa_cons (pv 0) (pa_cons (pv 1) pa_nil))) pe_non (nomark _)))))), ?_⟩
  refine ⟨_, rfl, _, rfl, b, a, us, ts, rfl, ho2, hf2, ho, hf, fun H1 x s1 hx => ⟨x, rfl, ite2 (fun hd => ?_) (fun hd => ?_)⟩⟩
  · refine ⟨_, rfl, _, rfl, a, b, ts, us, rfl, ho.mono s1, hf, ho2.mono s1, hf2, fun H2 v s2 hv => ?_⟩
    rcases hv with ⟨heq, rfl⟩ | ⟨n, hne, hmin, rfl⟩
    · refine ⟨rfl, ?_⟩
      rw [decide_eq_true rfl]
      refine k _ _ (s1.trans s2) ⟨(fun z => nomatch z), fun z => ?_⟩
      obtain ⟨m, hm⟩ := z.2
      have := heq m
      omega
    · refine ⟨rfl, ?_⟩
      rw [decide_eq_false (fun z => nomatch z)]
      refine k _ _ (s1.trans s2) ⟨fun _ => ⟨hx.mp hd, n, ?_⟩, fun _ => rfl⟩
      have := hx.mp hd n
      omega
  · exact k _ _ s1 ⟨(fun z => nomatch z), fun z => absurd (hx.mpr z.1) hd⟩
end
end EB

namespace EB
open PySem PySem.Spec PyProof.Rows L2
section
variable {P : Program} {w : World} {K : PySem.W.Frag} {mg : Str → Option Value} {base : Heap} (T : Tx K mg)
include T
/-- offer[kind], the kind is there -/
def spGetO (K : PySem.W.Frag) : Sp := fun vs H Q _ => ∃ (a : Addr) (ts : List Tr) (t : Tr), vs = [.ref a, .str t.k] ∧ OfAt K H a ts ∧ t ∈ ts ∧ (ts.map Tr.k).Nodup ∧ ∀ H' p, Same H H' → SqT K H' p [.int t.l, .int t.n] → Q (.ref p) H'
theorem ok_Offer_getitem : FnR P w K mg base CX0 1 (a_Offer_getitem K) (spGetO K) := by
  refine fnR0 (d := d_Offer_getitem) T.F_Offer_getitem sc_Offer_getitem rfl (fun _ _ _ _ _ _ us hl => match us, hl with | [_, _], _ => rfl) (fun vs H Q E h => ?_) (fun cdv A outer s H vs Q E hr h => ?_)
  · obtain ⟨a, ts, z, rfl, _⟩ := h
    rfl
  obtain ⟨a, ts, u, rfl, ho, hu, hnd, k⟩ := h
  obtain ⟨dx, t, p, o, f, g, e1, e2, e3, e4, e5, e6⟩ := ho.ex
  obtain ⟨ps, h1, h2, h3⟩ := e2.ex
  refine ⟨_, (pss_cons (ps_for PassesOwn.never rfl (pi_tup (pe_fld (pv 0) rfl)) (pg_tup rfl (pgs_cons (pg_name (i := 2) sc_Offer_getitem.nd rfl (Or.inl rfl)) (pgs_cons (pg_name (i := 3) sc_Offer_getitem.nd rfl (Or.inl rfl)) (pgs_cons (pg_name (i := 4) sc_Offer_getitem.nd rfl (Or.inl rfl)) pgs_nil)))) (pss_one (ps_if (pt_cmpR op_eq (pv 2) (pv 1) (nomark _)) (pss_one (ps_ret (pe_tup (pa_cons (pv 3) (pa_cons (pv 4) pa_nil))))) pss_nil))) (pss_one ps_never)), ?_⟩
  refine ⟨_, rfl, a, _, dx, _, _, rfl, e1, T.k_Offer, T.na_trades, lk_trades, t, rfl, ⟨_, h1⟩, for_tup (xs := ps.map V.ref) (fun i σ H1 => H1 = H ∧ (∀ v ∈ ts.take i, v.k ≠ u.k) ∧ ∃ x2 x3 x4, σ = [some (.ref a), some (.str u.k), x2, x3, x4]) ⟨rfl, fun v m => (by cases m), _, _, _, rfl⟩ (fun i σ H1 _ q => by rw [q.1]; exact h1) ?_ ?_⟩
  · rintro i x σ H1 hx ⟨rfl, hn, x2, x3, x4, rfl⟩
    obtain ⟨p, v, rfl, ep, ev, hm, li, hp⟩ := TrAt.at_ h2 h3 hx
    refine ⟨p, _, rfl, hp, rfl, _, _, rfl, _, _, rfl, _, _, rfl, rfl, ?_⟩
    refine ⟨_, rfl, _, rfl, rfl, _, rfl, ite2 (fun hd => ?_) (fun hd => ?_)⟩
    · have hd : v.k = u.k := V.str.inj (of_decide_eq_true hd)
      have e : v = u := by
        obtain ⟨i1, l1, g1⟩ := List.mem_iff_getElem.mp hu
        obtain ⟨i2, l2, g2⟩ := List.mem_iff_getElem.mp hm
        have q := (List.getElem_inj (h₀ := by rw [List.length_map]; exact l2) (h₁ := by rw [List.length_map]; exact l1) hnd).mp (by rw [List.getElem_map, List.getElem_map, g1, g2, hd])
        subst q
        rw [← g1, ← g2]
      subst e
      exact ⟨_, rfl, _, rfl, by show 2 ≤ sizeLine; decide, fun q hq => k _ q (same_new hq) (SqT.of upd_same)⟩
    · have hd : v.k ≠ u.k := fun y => hd (decide_eq_true (by rw [y]))
      refine ⟨rfl, fun v2 m => ?_, _, _, _, rfl⟩
      rw [take_at ev] at m
      rcases List.mem_append.mp m with m | m
      · exact hn v2 m
      · rw [List.mem_singleton.mp m]
        exact hd
  · rintro σ H1 ⟨rfl, hn, x2, x3, x4, rfl⟩
    rw [List.length_map, h2, List.take_length] at hn
    exact hn u hu rfl
end
end EB

/-! play, where every step is possible. -/
namespace EB
open PySem PySem.Spec PyProof.Rows L2 EBG
/-- a state of play: drinks, bottles, the pieces of each trade -/
structure PS1 where
  d : Int
  b : Int
  f : Tr → Int
def pl1 (s : PS1) (x : Str × Int) : PS1 := if x.1 = ("drink" : Str) then ⟨s.d + x.2, s.b - x.2, fun t => s.f t + t.l * x.2⟩ else ⟨s.d, s.b + x.2, fun t => if t.k = x.1 then s.f t - t.n * x.2 else s.f t⟩
def plPos (ts : List Tr) (s : PS1) (x : Str × Int) : Bool := if numOk x.2 0 1000000000000000000 = true then (if x.1 = ("drink" : Str) then decide (x.2 ≤ s.b) else match ts.find? fun t => decide (t.k = x.1) with
  | some t => decide (x.2 * t.n ≤ s.f t)
  | none => false) else false
/-- the dict of the pieces -/
structure PcAt (H : Hp) (P : Addr) (ts : List Tr) (F : Tr → Int) : Prop where
  ex : ∃ f : Str → Int, (∀ t ∈ ts, f t.k = F t) ∧ H P = some (.dK (PM f ts))
/-- the steps as they are given -/
structure StS (K : PySem.W.Frag) (H : Hp) (S : Addr) (L : List (Str × Int)) : Prop where
  ex : ∃ ps : List Addr, SqL K H S (ps.map V.ref) ∧ ps.length = L.length ∧ ∀ (i : Nat) (p : Addr) (x : Str × Int), ps[i]? = some p → L[i]? = some x → SqT K H p [.str x.1, .int x.2]
theorem StS.mono {K : PySem.W.Frag} {H H' : Hp} {S : Addr} {L : List (Str × Int)} (s : Same H H') (h : StS K H S L) : StS K H' S L := by
  obtain ⟨ps, h1, h2, h3⟩ := h.ex
  exact ⟨ps, s.seq h1, h2, fun i p x a b => Same.tup s (h3 i p x a b)⟩
theorem find_kind {ts : List Tr} {t : Tr} (hn : (ts.map Tr.k).Nodup) (h : t ∈ ts) : (ts.find? fun u => decide (u.k = t.k)) = some t := by
  induction ts with
  | nil => cases h
  | cons u r ih =>
    rw [List.map_cons, List.nodup_cons] at hn
    by_cases e : u.k = t.k
    · rw [List.find?_cons_of_pos (by rw [e]; exact decide_eq_true rfl)]
      rcases List.mem_cons.mp h with rfl | m
      · rfl
      · exact absurd (List.mem_map.mpr ⟨t, m, e.symm⟩) hn.1
    · rw [List.find?_cons_of_neg (by rw [decide_eq_false e]; exact Bool.false_ne_true)]
      rcases List.mem_cons.mp h with rfl | m
      · exact absurd rfl e
      · exact ih hn.2 m
theorem find_none {ts : List Tr} {z : Str} (h : z ∉ ts.map Tr.k) : (ts.find? fun u => decide (u.k = z)) = none := List.find?_eq_none.mpr fun u m e => h (List.mem_map.mpr ⟨u, m, of_decide_eq_true e⟩)
theorem PM_not {f : Str → Int} {z : Str} : ∀ {ts : List Tr}, z ∉ ts.map Tr.k → valV (PM f ts) (.inr z) = none
  | [], _ => rfl
  | u :: ts, h => by
    show valV ((Sum.inr u.k, V.int (f u.k)) :: PM f ts) _ = _
    rw [List.map_cons] at h
    rw [valV_neg (fun e => h (by rw [← Sum.inr.inj e]; exact List.mem_cons_self ..))]
    exact PM_not fun m => h (List.mem_cons_of_mem _ m)
section
variable {P : Program} {w : World} {K : PySem.W.Frag} {mg : Str → Option Value} {base : Heap} (T : Tx K mg)
include T
def spPoss (K : PySem.W.Frag) : Sp := fun vs H Q _ => ∃ (a D st : Addr) (ts : List Tr) (s : PS1) (x : Str × Int), vs = [.ref a, .int s.b, .ref D, .ref st] ∧ OfAt K H a ts ∧ Fair ts ∧ nmOk ts ∧ PcAt H D ts s.f ∧ SqT K H st [.str x.1, .int x.2] ∧ ∀ H', Same H H' → Q (.bl (plPos ts s x)) H'
theorem ok_is_possible : FnR P w K mg base CX0 5 (a_is_possible K) (spPoss K) := by
  refine fnR0 (d := d_is_possible) T.F_is_possible sc_is_possible rfl (fun _ _ _ _ _ _ us hl => match us, hl with | [_, _, _, _], _ => rfl) (fun vs H Q E h => ?_) (fun cdv A outer s H vs Q E hr h => ?_)
  · obtain ⟨a, D, st, ts, s, x, rfl, _⟩ := h
    rfl
  obtain ⟨a, D, st, ts, s0, x, rfl, ho, hf, hnm, hp, hx, k⟩ := h
  obtain ⟨f, hfv, hD⟩ := hp.ex
  refine ⟨_, (pss_cons (ps_asg (pv 3) (pg_tup rfl (pgs_cons (pg_name (i := 4) sc_is_possible.nd rfl (Or.inl rfl)) (pgs_cons (pg_name (i := 5) sc_is_possible.nd rfl (Or.inl rfl)) pgs_nil)))) (pss_cons (ps_if (pt_not (pt_val (pe_cR (ok_is_number T) (hr.mono (by decide)) T.F_is_number.kp T.g_is_number pass0 (pa_cons (pv 5) (pa_cons pe_int (pa_cons (pe_cI T.c_MAX_NUMBER) pa_nil)))))) (pss_one (ps_ret pe_bl)) pss_nil) (pss_cons (ps_if (pt_cmpR op_eq (pv 4) (pe_cS T.c_DRINK) (nomark _)) (pss_one (ps_ret (pe_cmpR op_le (pv 5) (pv 1) (nomark _)))) pss_nil) (pss_one (ps_ret (pe_and (pe_cmp (pc_din (hu_of hr) (pv 4) (pv 2)) rfl) (pe_one (pe_cmpR op_le (pe_op op_mul (pv 5) (pe_ix ix_tup (pe_ixO T.m_Offer_getitem.at_ T.fi_Offer_getitem T.m_Offer_getitem.fn (ok_Offer_getitem T) (hr.mono (by decide)) pass0 (pv 0) (pv 4)) pe_int (fun _ _ => rfl))) (pe_dget (hu_of hr) (pv 2) (pv 4) (fun _ _ => rfl)) (nomark _))))))))), ?_⟩
  refine ⟨_, rfl, st, _, rfl, hx, rfl, _, _, rfl, _, _, rfl, rfl, ?_⟩
  refine ⟨_, rfl, x.2, 0, 1000000000000000000, rfl, _, rfl, ite2 (fun hc => ?_) (fun hc => ?_)⟩
  · have hc : numOk x.2 0 1000000000000000000 = false := by simpa using hc
    have e : plPos ts s0 x = false := by
      unfold plPos
      rw [hc]
      rfl
    have q := k H (Same.refl _)
    rw [e] at q
    exact q
  have hc : numOk x.2 0 1000000000000000000 = true := by simpa using hc
  refine ⟨_, rfl, rfl, _, rfl, ite2 (fun hd => ?_) (fun hd => ?_)⟩
  · have hd : x.1 = ("drink" : Str) := V.str.inj (of_decide_eq_true hd)
    have e : plPos ts s0 x = decide (x.2 ≤ s0.b) := by
      unfold plPos
      rw [if_pos hc, if_pos hd]
    have q := k H (Same.refl _)
    rw [e] at q
    exact ⟨_, rfl, _, rfl, _, _, rfl, rfl, q⟩
  have hd : ¬ x.1 = ("drink" : Str) := fun y => hd (decide_eq_true (by rw [y]))
  by_cases hm : x.1 ∈ ts.map Tr.k
  · obtain ⟨u, hu, eu⟩ := List.mem_map.mp hm
    have e : plPos ts s0 x = decide (x.2 * u.n ≤ s0.f u) := by
      unfold plPos
      rw [if_pos hc, if_neg hd, ← eu, find_kind hnm.1 hu]
    have ht := hf.g.2 u hu
    have hval : valV (PM f ts) (.inr x.1) = some (.int (s0.f u)) := by
      rw [← eu, PM_val hu, hfv u hu]
    refine ⟨_, rfl, _, rfl, D, _, rfl, .inl ⟨_, .inr x.1, .inl hD, rfl, rfl⟩, _, rfl, ?_⟩
    rw [hval]
    refine iteT ?_
    refine ⟨_, rfl, _, rfl, _, rfl, a, _, _, rfl, ho.ex.choose_spec.choose_spec.choose_spec.choose_spec.choose_spec.choose_spec.1, ⟨a, ts, u, by rw [eu], ho, hu, hnm.1, fun H1 p s1 hp => ?_⟩⟩
    have q := k H1 s1
    rw [e] at q
    exact ⟨p, _, _, _, rfl, rfl, hp, rfl, _, _, rfl, rfl, .inr ⟨by have := ht.2.2.1; omega, by have := ht.2.2.2; omega⟩, _, rfl, _, rfl, D, _, rfl, .inl ⟨_, .inr x.1, .inl (s1 _ _ hD), rfl, hval.symm⟩, _, _, rfl, rfl, q⟩
  · have e : plPos ts s0 x = false := by
      unfold plPos
      rw [if_pos hc, if_neg hd, find_none hm]
    have q := k H (Same.refl _)
    rw [e] at q
    refine ⟨_, rfl, _, rfl, D, _, rfl, .inl ⟨_, .inr x.1, .inl hD, rfl, rfl⟩, _, rfl, ?_⟩
    rw [PM_not hm]
    exact iteF q
omit T in
theorem sqT_updK {H : Hp} {a D : Addr} {xs : List V} {kvs : List (Key × V)} {o : HO} (e : H D = some (.dK kvs)) (h : SqT K H a xs) : SqT K (upd H D o) a xs := by
  rcases h with (h | ⟨u, h⟩) | h
  · exact .inl (.inl ((upd_ne (ne_of h e (by intro z; cases z))).trans h))
  · exact .inl (.inr ⟨u, (upd_ne (ne_of h e (by intro z; cases z))).trans h⟩)
  · exact .inr h
/-- the state behind so many steps -/
def plRun (b : Int) (L : List (Str × Int)) : PS1 := L.foldl pl1 ⟨0, b, fun _ => 0⟩
omit T in
theorem plRun_snoc {b : Int} {L : List (Str × Int)} {i : Nat} {x : Str × Int} (e : L[i]? = some x) : plRun b (L.take (i + 1)) = pl1 (plRun b (L.take i)) x := by
  unfold plRun
  rw [take_at e, List.foldl_append]
  rfl
def spPlay (K : PySem.W.Frag) : Sp := fun vs H Q _ => ∃ (a S : Addr) (ts : List Tr) (n : Nat) (L : List (Str × Int)), vs = [.ref a, .int (n : Nat), .ref S] ∧ OfAt K H a ts ∧ Fair ts ∧ nmOk ts ∧ n ≤ 1000000000000000000 ∧ StS K H S L ∧ L.length ≤ 100000 ∧
  (∀ (i : Nat) (x : Str × Int), L[i]? = some x → plPos ts (plRun n (L.take i)) x = true) ∧
  ∀ H' p r, Same H H' → PcAt H' r ts (plRun n L).f → H r = none → SqT K H' p [.int (plRun n L).d, .int (plRun n L).b, .ref r] → Q (.ref p) H'
theorem ok_play : FnR P w K mg base CX0 7 (a_play K) (spPlay K) := by
  refine fnR0 (d := d_play) T.F_play sc_play rfl (fun _ _ _ _ _ _ us hl => match us, hl with | [_, _, _], _ => rfl) (fun vs H Q E h => ?_) (fun cdv A outer s H vs Q E hr h => ?_)
  · obtain ⟨a, S, ts, n, L, rfl, _⟩ := h
    rfl
  obtain ⟨a, S, ts, n, L, rfl, ho, hf, hnm, hn, hS, hL, hpos, k⟩ := h
  obtain ⟨dx, t, p, o, f, g, e1, e2, e3, e4, e5, e6⟩ := ho.ex
  obtain ⟨ps, h1, h2, h3⟩ := e2.ex
  obtain ⟨qs, j1, j2, j3⟩ := hS.ex
  refine ⟨_, (pss_cons (ps_expr (pe_cR (ok_check_number T) (hr.mono (by decide)) T.F_check_number.kp T.g_check_number pass0 (pa_cons (pv 1) pa_nil))) (pss_cons (ps_set (i := 3) sc_play.nd rfl (Or.inl rfl) pe_int) (pss_cons (ps_setDc (i := 5) (own := [("kind", 4)]) rfl sc_play.nd rfl rfl (sw_trueD rfl rfl rfl (by decide +kernel)) (pi_tup (pe_prop (pv 0) T.k_Offer T.p_Offer_kinds (ok_Offer_kinds T) (hr.mono (by decide)) (b_Offer_kinds T) .nil pass0 rfl)) (blkOk_by (own := [("kind", 4)]) (N := N_play) (sc := defScope s_play) (by decide +kernel)) (fun _ _ _ _ _ => (pg_name (i := 4) sc_play.nd rfl (Or.inl rfl) (.inr rfl))) (fun _ _ _ _ _ => pts_nil) (fun _ _ _ _ _ => (pv 4)) (fun _ _ _ _ _ => pe_int)) (pss_cons (ps_for PassesOwn.never rfl (pi_enum (by rfl) T.n_enumerate (pa_cons (pv 2) pa_nil)) (pg_tup rfl (pgs_cons (pg_name (i := 6) sc_play.nd rfl (Or.inl rfl)) (pgs_cons (pg_tup rfl (pgs_cons (pg_name (i := 7) sc_play.nd rfl (Or.inl rfl)) (pgs_cons (pg_name (i := 8) sc_play.nd rfl (Or.inl rfl)) pgs_nil))) pgs_nil))) (pss_cons (ps_if (pt_not (pt_val (pe_cR (ok_is_possible T) (hr.mono (by decide)) T.F_is_possible.kp T.g_is_possible pass0 (pa_cons (pv 0) (pa_cons (pv 1) (pa_cons (pv 5) (pa_cons (pe_tup (pa_cons (pv 7) (pa_cons (pv 8) pa_nil))) pa_nil))))))) (pss_one ps_never) pss_nil) (pss_one (ps_if (pt_cmpR op_eq (pv 7) (pe_cS T.c_DRINK) (nomark _)) (pss_cons (ps_set (i := 3) sc_play.nd rfl (Or.inl rfl) (pe_op op_add (pv 3) (pv 8))) (pss_cons (ps_set (i := 1) sc_play.nd rfl (Or.inl rfl) (pe_op op_sub (pv 1) (pv 8))) (pss_one (ps_for PassesOwn.never rfl (pi_tup (pe_prop (pv 0) T.k_Offer T.p_Offer_trades (ok_Offer_trades T) (hr.mono (by decide)) (b_Offer_trades T) .nil pass0 rfl)) (pg_tup rfl (pgs_cons (pg_name (i := 4) sc_play.nd rfl (Or.inl rfl)) (pgs_cons (pg_name (i := 9) sc_play.nd rfl (Or.inl rfl)) (pgs_cons (pg_name (i := 10) sc_play.nd rfl (Or.inl rfl)) pgs_nil)))) (pss_one (ps_daug (hu_of hr) (pv 5) (pv 4) (pe_op op_mul (pv 9) (pv 8)) in_add (fun _ _ _ => rfl))))))) (pss_cons (ps_set (i := 1) sc_play.nd rfl (Or.inl rfl) (pe_op op_add (pv 1) (pv 8))) (pss_one (ps_daug (hu_of hr) (pv 5) (pv 7) (pe_op op_mul (pe_ix ix_tup (pe_ixO T.m_Offer_getitem.at_ T.fi_Offer_getitem T.m_Offer_getitem.fn (ok_Offer_getitem T) (hr.mono (by decide)) pass0 (pv 0) (pv 7)) pe_int (fun _ _ => rfl)) (pv 8)) in_sub (fun _ _ _ => rfl)))))))) (pss_one (ps_ret (pe_tup (pa_cons (pv 3) (pa_cons (pv 1) (pa_cons (pv 5) pa_nil)))))))))), ?_⟩
  refine ⟨_, rfl, n, rfl, by omega, by omega, ?_⟩
  refine ⟨_, rfl, a, dx, _, rfl, e1, ⟨a, ts, rfl, ho, hf.g.1, fun H2 kp s2 hk => ⟨kp, rfl, ⟨_, hk⟩, fun D hD => ?_⟩⟩⟩
  have hDH : H D = none := s2.free hD
  refine dc_tup (xs := (ts.map Tr.k).map V.str) (fun i H3 => Same H2 H3 ∧ H3 D = some (.dK (PM (fun _ => 0) (ts.take i)))) ⟨same_new hD, upd_same⟩ (fun i H3 _ q => Same.tup q.1 hk) ?_ ?_
  · rintro i x H3 hx ⟨s3, q1⟩
    obtain ⟨u, et, rfl⟩ : ∃ u, ts[i]? = some u ∧ x = .str u.k := by
      rw [List.getElem?_map, List.getElem?_map] at hx
      cases e : ts[i]? with
      | none =>
        rw [e] at hx
        cases hx
      | some u =>
        rw [e] at hx
        exact ⟨u, rfl, (Option.some.inj hx).symm⟩
    have hl : (PM (fun _ => 0) (ts.take i)).length ≤ 3 := by
      unfold PM
      rw [List.length_map, List.length_take]
      have := hf.g.1
      omega
    refine ⟨rfl, _, rfl, _, .inr u.k, rfl, q1, small3 (by omega), same_mut s3 hD, ?_⟩
    rw [upd_same, PM_new hnm.1 et (fun _ => 0)]
  rintro H3 ⟨s3, q1⟩
  rw [List.length_map, List.length_map, List.take_length] at q1
  have s03 : Same H H3 := s2.trans s3
  refine ⟨_, rfl, S, _, rfl, s03.seq j1, for_it (walk_enum (K := K) (a := S) (xs := qs.map V.ref)) (fun i σ' H' => Same H H' ∧ PcAt H' D ts (plRun n (L.take i)).f ∧ ∃ x4 x6 x7 x8 x9 x10, σ' = [some (.ref a), some (.int (plRun n (L.take i)).b), some (.ref S), some (.int (plRun n (L.take i)).d), x4, some (.ref D), x6, x7, x8, x9, x10])
    ⟨s03, ⟨fun _ => 0, fun _ _ => rfl, q1⟩, _, _, _, _, _, _, rfl⟩ (fun i σ' H' _ q => q.1.seq j1) ?_ ?_⟩
  · rintro i x σ' H' H5 hi ⟨s', hpc, x4, x6, x7, x8, x9, x10, rfl⟩ ⟨q, u, v, rfl, nq, rfl, eu, ev⟩
    cases eu
    rw [List.length_map] at hi
    have hiL : i < L.length := by omega
    have el : L[i]? = some L[i] := List.getElem?_eq_getElem hiL
    have eq : qs[i]? = some qs[i] := List.getElem?_eq_getElem hi
    obtain rfl : v = .ref qs[i] := by
      have ev : (qs.map V.ref)[i]? = some v := ev
      rw [List.getElem?_map, eq] at ev
      exact (Option.some.inj ev).symm
    have hst := j3 i _ _ eq el
    have hp1 := hpos i _ el
    have hrun := plRun_snoc (b := n) el
    generalize L[i] = x at el hst hp1 hrun
    generalize qs[i] = sp at eq ev hst
    have hm : ∀ {o : HO}, upd H' q o D = H' D := fun {o} => upd_ne (fun z => by
      obtain ⟨_, _, e⟩ := hpc.ex
      rw [z, nq] at e
      cases e)
    generalize plRun n (L.take i) = s0 at hpc hp1 hrun
    have s5 : Same H (upd H' q (.tup [.int (i : Nat), .ref sp])) := s'.trans (same_new nq)
    have pc5 : PcAt (upd H' q (.tup [.int (i : Nat), .ref sp])) D ts s0.f := by
      obtain ⟨f, f1, f2⟩ := hpc.ex
      exact ⟨f, f1, hm.trans f2⟩
    refine ⟨q, _, rfl, SqT.of upd_same, rfl, _, _, rfl, _, _, rfl, ⟨sp, _, rfl, Same.tup s5 hst, rfl, _, _, rfl, _, _, rfl, rfl, rfl, ?_⟩⟩
    generalize upd H' q (.tup [.int (i : Nat), .ref sp]) = H6 at s5 pc5
    refine ⟨_, rfl, _, rfl, _, rfl, _, rfl, _, rfl, by show 2 ≤ sizeLine; decide, fun y hy => ⟨a, D, y, ts, s0, x, rfl, ho.mono (s5.trans (same_new hy)), hf, hnm, ?_, SqT.of upd_same, fun H7 s7 => ⟨_, rfl, ?_⟩⟩⟩
    · obtain ⟨f, f1, f2⟩ := pc5.ex
      exact ⟨f, f1, upd_old f2 hy⟩
    rw [hp1]
    refine iteF ?_
    have s67 : Same H H7 := s5.trans ((same_new hy).trans s7)
    obtain ⟨f, f1, f2⟩ := pc5.ex
    have f7 : H7 D = some (.dK (PM f ts)) := s7 _ _ (upd_old f2 hy)
    refine ⟨_, rfl, rfl, _, rfl, ite2 (fun hd => ?_) (fun hd => ?_)⟩
    · have hd : x.1 = ("drink" : Str) := V.str.inj (of_decide_eq_true hd)
      have hr2 : pl1 s0 x = ⟨s0.d + x.2, s0.b - x.2, fun t => s0.f t + t.l * x.2⟩ := if_pos hd
      rw [hr2] at hrun
      refine ⟨_, rfl, _, rfl, _, _, rfl, rfl, _, rfl, _, rfl, _, _, rfl, rfl, ?_⟩
      refine ⟨_, rfl, a, dx, _, rfl, s67 _ _ e1, ⟨a, ts, rfl, ho.mono s67, fun tp htp => ?_⟩⟩
      obtain ⟨ps2, g1, g2, g3⟩ := htp.ex
      refine ⟨tp, rfl, ⟨_, g1⟩, for_tup (xs := ps2.map V.ref) (fun j σ' H' => ∃ (f' : Str → Int) (y4 y9 y10 : Option V), Same H H' ∧ SqT K H' tp (ps2.map V.ref) ∧ (∀ (i : Nat) (p : Addr) (t : Tr), ps2[i]? = some p → ts[i]? = some t → SqT K H' p t.vs) ∧ H' D = some (.dK (PM f' ts)) ∧
        (∀ (l : Nat) (u : Tr), ts[l]? = some u → f' u.k = if l < j then s0.f u + u.l * x.2 else s0.f u) ∧ σ' = [some (.ref a), some (.int (s0.b - x.2)), some (.ref S), some (.int (s0.d + x.2)), y4, some (.ref D), some (.int (i : Nat)), some (.str x.1), some (.int x.2), y9, y10]) ?_ ?_ ?_ ?_⟩
      · exact ⟨f, _, _, _, s67, g1, g3, f7, fun l u e => by rw [if_neg (Nat.not_lt_zero _)]; exact f1 u (List.mem_of_getElem? e), rfl⟩
      · rintro j σ' H' _ ⟨_, _, _, _, _, q, _⟩
        exact q
      · rintro j v σ' H' hv ⟨f', y4, y9, y10, s8, k1, k2, k3, k4, rfl⟩
        obtain ⟨p, u, rfl, ep, et, hm, li, hp⟩ := TrAt.at_ g2 k2 hv
        have hu := hf.g.2 _ hm
        have hval : f' u.k = s0.f u := by
          rw [k4 j u et, if_neg (Nat.lt_irrefl _)]
        have hlen : (PM f' ts).length ≤ 3 := by
          unfold PM
          rw [List.length_map]
          exact hf.g.1
        refine ⟨p, _, rfl, hp, rfl, _, _, rfl, _, _, rfl, _, _, rfl, rfl, ?_⟩
        refine ⟨_, rfl, _, rfl, D, _, rfl, .inl ⟨_, .inr u.k, .inl k3, rfl, (PM_val hm).symm⟩, _, rfl, _, rfl, _, _, rfl, rfl, .inl ⟨by have := hu.1; omega, by have := hu.2.1; omega⟩, _, _, rfl, rfl, _, .inl ⟨_, .inr u.k, k3, rfl, small3 (by omega), rfl⟩, ?_⟩
        rw [hval, PM_put hm]
        refine ⟨_, _, _, _, same_mut s8 hDH, sqT_updK k3 k1, fun i p t a b => sqT_updK k3 (k2 i p t a b), upd_same, fun l t' e => ?_, rfl⟩
        show (if t'.k = u.k then s0.f u + u.l * x.2 else f' t'.k) = _
        by_cases ek : t'.k = u.k
        · have ej : l = j := L2.nodup_ix hnm.1 (x := u.k) (by rw [List.getElem?_map, e, ← ek]; rfl) (by rw [List.getElem?_map, et]; rfl)
          subst ej
          rw [et] at e
          cases e
          rw [if_pos rfl, if_pos (Nat.lt_succ_self _)]
        · have ej : l ≠ j := fun z => by
            subst z
            rw [et] at e
            cases e
            exact ek rfl
          rw [if_neg ek, k4 l t' e]
          by_cases hj : l < j
          · rw [if_pos hj, if_pos (by omega)]
          · rw [if_neg hj, if_neg (by omega)]
      · rintro σ' H' ⟨f', y4, y9, y10, s8, k1, k2, k3, k4, rfl⟩
        rw [List.length_map, g2] at k4
        have hpc2 : PcAt H' D ts (plRun n (L.take (i + 1))).f := by
          rw [hrun]
          refine ⟨f', fun t ht => ?_, k3⟩
          obtain ⟨l, hl⟩ := List.mem_iff_getElem?.mp ht
          rw [k4 l t hl, if_pos (lt_of_at hl)]
        refine ⟨s8, hpc2, y4, some (.int (i : Nat)), some (.str x.1), some (.int x.2), y9, y10, ?_⟩
        rw [hrun]
    · have hd : ¬ x.1 = ("drink" : Str) := fun y => hd (decide_eq_true (by rw [y]))
      have hr2 : pl1 s0 x = ⟨s0.d, s0.b + x.2, fun t => if t.k = x.1 then s0.f t - t.n * x.2 else s0.f t⟩ := if_neg hd
      rw [hr2] at hrun
      obtain ⟨u, hu, eu⟩ : ∃ u ∈ ts, u.k = x.1 := by
        refine Classical.byContradiction fun z => ?_
        have hn : x.1 ∉ ts.map Tr.k := fun m => by
          obtain ⟨u, hu, eu⟩ := List.mem_map.mp m
          exact z ⟨u, hu, eu⟩
        unfold plPos at hp1
        rw [if_neg hd, find_none hn] at hp1
        simp at hp1
      have hou := hf.g.2 _ hu
      have hval : valV (PM f ts) (.inr x.1) = some (.int (s0.f u)) := by
        rw [← eu, PM_val hu, f1 u hu]
      have hlen : (PM f ts).length ≤ 3 := by
        unfold PM
        rw [List.length_map]
        exact hf.g.1
      refine ⟨_, rfl, _, rfl, _, _, rfl, rfl, ?_⟩
      refine ⟨_, rfl, _, rfl, D, _, rfl, .inl ⟨_, .inr x.1, .inl f7, rfl, hval.symm⟩, _, rfl, _, rfl, a, _, _, rfl, s67 _ _ e1, ⟨a, ts, u, by rw [eu], ho.mono s67, hu, hnm.1, fun H8 p8 s8 hp8 => ?_⟩⟩
      have f8 := s8 _ _ f7
      refine ⟨p8, _, _, _, rfl, rfl, hp8, rfl, _, rfl, _, _, rfl, rfl, .inl ⟨by have := hou.2.2.1; omega, by have := hou.2.2.2; omega⟩, _, _, rfl, rfl, _, .inl ⟨_, .inr x.1, f8, rfl, small3 (by omega), rfl⟩, ?_⟩
      rw [← eu, PM_put hu]
      have hfin : ∀ H9 : Hp, H9 D = some (.dK (PM (fun k => if k = u.k then s0.f u - u.n * x.2 else f k) ts)) → PcAt H9 D ts (plRun n (L.take (i + 1))).f := fun H9 e9 => by
        rw [hrun]
        refine ⟨_, fun t ht => ?_, e9⟩
        show (if t.k = u.k then s0.f u - u.n * x.2 else f t.k) = if t.k = x.1 then s0.f t - t.n * x.2 else s0.f t
        rw [← eu]
        by_cases ek : t.k = u.k
        · have et : t = u := by
            have q1 := find_kind hnm.1 ht
            rw [ek, find_kind hnm.1 hu] at q1
            exact (Option.some.inj q1).symm
          subst et
          rw [if_pos rfl, if_pos rfl]
        · rw [if_neg ek, if_neg ek]
          exact f1 t ht
      refine ⟨same_mut (s67.trans s8) hDH, hfin _ upd_same, x4, some (.int (i : Nat)), some (.str u.k), some (.int x.2), x9, x10, ?_⟩
      rw [hrun]
      rfl
  · rintro σ' H' ⟨s', hpc, x4, x6, x7, x8, x9, x10, rfl⟩
    rw [List.length_map, j2, List.take_length] at hpc
    rw [List.length_map, j2, List.take_length]
    refine ⟨_, rfl, _, rfl, _, rfl, by show 3 ≤ sizeLine; decide, fun r hr => k _ r D (s'.trans (same_new hr)) ?_ hDH (SqT.of upd_same)⟩
    obtain ⟨f, f1, f2⟩ := hpc.ex
    exact ⟨f, f1, upd_old f2 hr⟩
end
end EB

/-! The greedy steps are possible, and they end with all drinks. -/
namespace EB
open PySem PySem.Spec PyProof.Rows L2 EBG
/-- each step is possible -/
def plVal (ts : List Tr) : PS1 → List (Str × Int) → Prop
  | _, [] => True
  | s, x :: r => plPos ts s x = true ∧ plVal ts (pl1 s x) r
theorem plVal_at {ts : List Tr} : ∀ {L : List (Str × Int)} {s : PS1}, plVal ts s L → ∀ (i : Nat) (x : Str × Int), L[i]? = some x → plPos ts ((L.take i).foldl pl1 s) x = true
  | y :: r, s, h, 0, x, e => by
    cases Option.some.inj e
    exact h.1
  | y :: r, s, h, i + 1, x, e => plVal_at h.2 i x e
theorem plVal_append {ts : List Tr} : ∀ {A B : List (Str × Int)} {s : PS1}, plVal ts s A → plVal ts (A.foldl pl1 s) B → plVal ts s (A ++ B)
  | [], _, _, _, h => h
  | _ :: _, _, _, h1, h2 => ⟨h1.1, plVal_append h1.2 h2⟩
def gX (D d : Int) (t : Tr) : Int := t.l * D % t.n + t.l * d
theorem gCount_eq (t : Tr) (D d : Int) : gCount t D d = gX D d t / t.n := rfl
theorem gX_nonneg {t : Tr} {D d : Int} (h : t.ok) (hd : 0 ≤ d) : 0 ≤ gX D d t := Int.add_nonneg (Int.emod_nonneg _ (by have := h.2.2.1; omega)) (Int.mul_nonneg h.1 hd)
theorem gCount_nonneg {t : Tr} {D d : Int} (h : t.ok) (hd : 0 ≤ d) : 0 ≤ gCount t D d := Int.ediv_nonneg (gX_nonneg h hd) (by have := h.2.2.1; omega)
theorem gCount_le {t : Tr} {D d : Int} (h : t.ok) (hl : t.l ≤ t.n) (hd : 0 ≤ d) : gCount t D d ≤ d := by
  have hn : 0 < t.n := by have := h.2.2.1; omega
  have h1 : t.l * D % t.n < t.n := Int.emod_lt_of_pos _ hn
  have h2 : t.l * d ≤ t.n * d := Int.mul_le_mul_of_nonneg_right hl hd
  unfold gCount
  have h3 : t.l * D % t.n + t.l * d < (d + 1) * t.n := by
    rw [Int.add_mul, Int.one_mul, Int.mul_comm d]
    omega
  have := Int.ediv_lt_of_lt_mul hn h3
  omega
theorem gCount_buy {t : Tr} {D d : Int} (h : t.ok) : gCount t D d = t.l * (D + d) / t.n - t.l * D / t.n := by
  have hn : t.n ≠ 0 := by have := h.2.2.1; omega
  unfold gCount
  have e : t.l * (D + d) = (t.l * D % t.n + t.l * d) + t.l * D / t.n * t.n := by
    have := Int.mul_ediv_add_emod (t.l * D) t.n
    rw [Int.mul_add, Int.mul_comm (t.l * D / t.n)]
    omega
  rw [e, Int.add_mul_ediv_right _ _ hn]
  omega
theorem numOk_of {c : Int} (h0 : 0 ≤ c) (h1 : c ≤ 1000000000000000000) : numOk c 0 1000000000000000000 = true := numOk_iff.mpr ⟨h0, h1⟩
/-- the trades of one round -/
theorem tr_run {ts : List Tr} {D d : Int} (hn : (ts.map Tr.k).Nodup) (hk : ∀ t ∈ ts, t.k ≠ ("drink" : Str)) (hg : ∀ t ∈ ts, t.ok) (hl : ∀ t ∈ ts, t.l ≤ t.n) (hd : 0 ≤ d) (hd2 : d ≤ 1000000000000000000) :
    ∀ (us dn : List Tr) (s : PS1), ts = dn ++ us → (∀ t ∈ dn, s.f t = gX D d t % t.n) → (∀ t ∈ us, s.f t = gX D d t) →
      plVal ts s (us.flatMap (gOne D d)) ∧ ((us.flatMap (gOne D d)).foldl pl1 s).d = s.d ∧ ((us.flatMap (gOne D d)).foldl pl1 s).b = s.b + (us.map fun t => gCount t D d).sum ∧ ∀ t ∈ ts, ((us.flatMap (gOne D d)).foldl pl1 s).f t = gX D d t % t.n
  | [], dn, s, e, h1, _ => by
    rw [List.append_nil] at e
    subst e
    exact ⟨trivial, rfl, (Int.add_zero _).symm, h1⟩
  | u :: us, dn, s, e, h1, h2 => by
    have hu : u ∈ ts := by rw [e]; exact List.mem_append_right _ (List.mem_cons_self ..)
    have e' : ts = (dn ++ [u]) ++ us := by rw [List.append_assoc]; exact e
    have hok := hg u hu
    have hpos : 0 < u.n := by have := hok.2.2.1; omega
    have hsu := h2 u (List.mem_cons_self ..)
    have one : ∀ t ∈ ts, t.k = u.k → t = u := fun t ht ek => by
      have q1 := find_kind hn ht
      rw [ek, find_kind hn hu] at q1
      exact (Option.some.inj q1).symm
    have hdiv := Int.mul_ediv_add_emod (gX D d u) u.n
    have nu : ∀ t ∈ dn ++ us, t ∈ ts ∧ t.k ≠ u.k := fun t ht => by
      have hN := hn
      rw [e, List.map_append, List.map_cons, List.nodup_append] at hN
      obtain ⟨_, n2, n3⟩ := hN
      rw [List.nodup_cons] at n2
      rcases List.mem_append.mp ht with m | m
      · exact ⟨by rw [e]; exact List.mem_append_left _ m, n3 _ (List.mem_map_of_mem m) _ (List.mem_cons_self ..)⟩
      · exact ⟨by rw [e]; exact List.mem_append_right _ (List.mem_cons_of_mem _ m), fun z => n2.1 (z ▸ List.mem_map_of_mem m)⟩
    rw [List.flatMap_cons]
    by_cases hc : 0 < gCount u D d
    · have go : gOne D d u = [(u.k, gCount u D d)] := if_pos hc
      have p1 : pl1 s (u.k, gCount u D d) = ⟨s.d, s.b + gCount u D d, fun t => if t.k = u.k then s.f t - t.n * gCount u D d else s.f t⟩ := if_neg (hk u hu)
      obtain ⟨v1, v2, v3, v4⟩ := tr_run hn hk hg hl hd hd2 us (dn ++ [u]) (pl1 s (u.k, gCount u D d)) e' (fun t ht => by
        rw [p1]
        show (if t.k = u.k then s.f t - t.n * gCount u D d else s.f t) = _
        rcases List.mem_append.mp ht with m | m
        · rw [if_neg (nu t (List.mem_append_left _ m)).2]
          exact h1 t m
        · rw [List.mem_singleton.mp m, if_pos rfl, hsu, gCount_eq]
          omega) (fun t ht => by
        rw [p1]
        show (if t.k = u.k then s.f t - t.n * gCount u D d else s.f t) = _
        rw [if_neg (nu t (List.mem_append_right _ ht)).2]
        exact h2 t (List.mem_cons_of_mem _ ht))
      rw [go]
      have pp : plPos ts s (u.k, gCount u D d) = true := by
        unfold plPos
        rw [if_pos (numOk_of (Int.le_of_lt hc) (Int.le_trans (gCount_le hok (hl u hu) hd) hd2)), if_neg (hk u hu), find_kind hn hu]
        refine decide_eq_true ?_
        show gCount u D d * u.n ≤ s.f u
        rw [hsu, gCount_eq, Int.mul_comm]
        have := Int.emod_nonneg (gX D d u) (Int.ne_of_gt hpos)
        omega
      refine ⟨⟨pp, v1⟩, ?_, ?_, v4⟩
      · refine v2.trans ?_
        rw [p1]
      · refine v3.trans ?_
        rw [p1, List.map_cons, List.sum_cons]
        show s.b + gCount u D d + _ = _
        omega
    · have go : gOne D d u = [] := if_neg hc
      have c0 : gCount u D d = 0 := by
        have := gCount_nonneg (D := D) hok hd
        omega
      rw [go, List.nil_append]
      obtain ⟨v1, v2, v3, v4⟩ := tr_run hn hk hg hl hd hd2 us (dn ++ [u]) s e' (fun t ht => by
        rcases List.mem_append.mp ht with m | m
        · exact h1 t m
        · rw [List.mem_singleton.mp m, hsu]
          rw [gCount_eq] at c0
          rw [c0, Int.mul_zero] at hdiv
          omega) fun t ht => h2 t (List.mem_cons_of_mem _ ht)
      refine ⟨v1, v2, ?_, v4⟩
      rw [v3, List.map_cons, List.sum_cons, c0, Int.zero_add]
theorem count_sum {D d : Int} : ∀ {ts : List Tr}, (∀ t ∈ ts, t.ok) → (ts.map fun t => gCount t D d).sum = buys ts (D + d) - buys ts D
  | [], _ => rfl
  | t :: ts, h => by
    have ih := count_sum (D := D) (d := d) fun t ht => h t (List.mem_cons_of_mem _ ht)
    have e := gCount_buy (D := D) (d := d) (h t (List.mem_cons_self ..))
    unfold buys at ih ⊢
    rw [List.map_cons, List.sum_cons, List.map_cons, List.sum_cons, List.map_cons, List.sum_cons, ih, e]
    omega
/-- the rounds from d drinks on -/
theorem rd_run {ts : List Tr} (f : Fair ts) (hn : (ts.map Tr.k).Nodup) (hk : ∀ t ∈ ts, t.k ≠ ("drink" : Str)) (hl : ∀ t ∈ ts, t.l ≤ t.n) {n : Nat} (hN : n ≤ 1000000000000000000) :
    ∀ (m d : Nat) (s : PS1), (∀ j, j < d → cN ts j < n) → D (cN ts) n < d + m → s.d = d → s.b = n - cN ts d → (∀ t ∈ ts, s.f t = t.l * (d : Int) % t.n) →
      plVal ts s (gAll ts d (rnd (cN ts) n m d)) ∧ ((gAll ts d (rnd (cN ts) n m d)).foldl pl1 s).d = (D (cN ts) n : Nat) ∧ ((gAll ts d (rnd (cN ts) n m d)).foldl pl1 s).b = 0 ∧ ∀ t ∈ ts, ((gAll ts d (rnd (cN ts) n m d)).foldl pl1 s).f t = t.l * ((D (cN ts) n : Nat) : Int) % t.n
  | 0, d, s, q, hm, _, _, _ => by
    have := (cf f).below q
    omega
  | m + 1, d, s, q, hm, e1, e2, e3 => by
    have C := cf f
    have hcd : cN ts d ≤ n := by
      cases d with
      | zero =>
        rw [C.zero]
        omega
      | succ d =>
        have h1 := q d (Nat.lt_succ_self _)
        have h2 := C.steps d 1
        omega
    have hr2 : rnd (cN ts) n (m + 1) d = if 0 < (n : Int) - cN ts d then ((n : Int) - cN ts d) :: rnd (cN ts) n m (d + ((n : Int) - cN ts d).toNat) else [] := rfl
    rw [hr2]
    by_cases hp : 0 < (n : Int) - cN ts d
    · rw [if_pos hp]
      have q2 := C.below_next q hp
      have c0 : 0 ≤ cN ts d := by
        have h1 := ten_buys f d
        have h2 : cN ts d = (d : Int) - buys ts d := rfl
        omega
      have hle : (n : Int) - cN ts d ≤ 1000000000000000000 := by omega
      have ed : (d : Int) + ((n : Int) - cN ts d) = ((d + ((n : Int) - cN ts d).toNat : Nat) : Int) := by omega
      have p1 : pl1 s ("drink", (n : Int) - cN ts d) = ⟨s.d + ((n : Int) - cN ts d), s.b - ((n : Int) - cN ts d), fun t => s.f t + t.l * ((n : Int) - cN ts d)⟩ := if_pos rfl
      obtain ⟨v1, v2, v3, v4⟩ := tr_run (D := (d : Int)) (d := (n : Int) - cN ts d) hn hk f.g.2 hl (Int.le_of_lt hp) hle ts [] (pl1 s ("drink", (n : Int) - cN ts d)) rfl (fun t h => by cases h) fun t ht => by
        rw [p1]
        show s.f t + t.l * ((n : Int) - cN ts d) = t.l * (d : Int) % t.n + t.l * ((n : Int) - cN ts d)
        rw [e3 t ht]
      have pp : plPos ts s (("drink" : Str), (n : Int) - cN ts d) = true := by
        unfold plPos
        rw [if_pos (numOk_of (Int.le_of_lt hp) hle), if_pos rfl]
        refine decide_eq_true ?_
        show (n : Int) - cN ts d ≤ s.b
        omega
      have hs := count_sum (D := (d : Int)) (d := (n : Int) - cN ts d) f.g.2
      have hc1 : cN ts d = (d : Int) - buys ts d := rfl
      have hc2 : cN ts (d + ((n : Int) - cN ts d).toNat) = ((d + ((n : Int) - cN ts d).toNat : Nat) : Int) - buys ts ((d + ((n : Int) - cN ts d).toNat : Nat) : Int) := rfl
      have rdE : gAll ts d (((n : Int) - cN ts d) :: rnd (cN ts) n m (d + ((n : Int) - cN ts d).toNat)) = (("drink" : Str), (n : Int) - cN ts d) :: (ts.flatMap (gOne d ((n : Int) - cN ts d)) ++ gAll ts ((d + ((n : Int) - cN ts d).toNat : Nat) : Int) (rnd (cN ts) n m (d + ((n : Int) - cN ts d).toNat))) := by
        rw [← ed]
        rfl
      rw [rdE]
      obtain ⟨w1, w2, w3, w4⟩ := rd_run f hn hk hl hN m (d + ((n : Int) - cN ts d).toNat) ((ts.flatMap (gOne d ((n : Int) - cN ts d))).foldl pl1 (pl1 s ("drink", (n : Int) - cN ts d))) q2 (by omega) (by
          rw [v2, p1]
          show s.d + ((n : Int) - cN ts d) = _
          rw [e1]
          exact ed) (by
          rw [v3, p1]
          show s.b - ((n : Int) - cN ts d) + _ = _
          rw [hs, hc2, ← ed, e2]
          omega) (fun t ht => by
          rw [v4 t ht, ← ed]
          unfold gX
          rw [Int.emod_add_emod, ← Int.mul_add])
      refine ⟨⟨pp, plVal_append v1 w1⟩, ?_, ?_, fun t ht => ?_⟩
      · rw [List.foldl_cons, List.foldl_append]
        exact w2
      · rw [List.foldl_cons, List.foldl_append]
        exact w3
      · rw [List.foldl_cons, List.foldl_append]
        exact w4 t ht
    · rw [if_neg hp]
      have hD : D (cN ts) n = d := C.D_eq ⟨by omega, q⟩
      rw [hD]
      exact ⟨trivial, e1, (show s.b = 0 by omega), e3⟩
/-- all of them -/
theorem greedy_run {ts : List Tr} (f : Fair ts) (hn : (ts.map Tr.k).Nodup) (hk : ∀ t ∈ ts, t.k ≠ ("drink" : Str)) (hl : ∀ t ∈ ts, t.l ≤ t.n) {n : Nat} (hN : n ≤ 1000000000000000000) :
    (∀ (i : Nat) (x : Str × Int), (gAll ts 0 (roundsL (cN ts) n))[i]? = some x → plPos ts (plRun n ((gAll ts 0 (roundsL (cN ts) n)).take i)) x = true) ∧ (plRun n (gAll ts 0 (roundsL (cN ts) n))).d = (D (cN ts) n : Nat) ∧ (plRun n (gAll ts 0 (roundsL (cN ts) n))).b = 0 ∧
      ∀ t ∈ ts, (plRun n (gAll ts 0 (roundsL (cN ts) n))).f t = t.l * ((D (cN ts) n : Nat) : Int) % t.n := by
  have C := cf f
  obtain ⟨h1, h2, h3, h4⟩ := rd_run f hn hk hl hN (10 * n + 1) 0 ⟨0, n, fun _ => 0⟩ (fun j q => absurd q (Nat.not_lt_zero _)) (by have := C.D_le_ten n; omega) rfl (by
    show (n : Int) = n - cN ts 0
    rw [C.zero, Int.sub_zero]) fun t _ => by
      show (0 : Int) = t.l * ((0 : Nat) : Int) % t.n
      rw [Int.natCast_zero, Int.mul_zero, Int.zero_emod]
  exact ⟨plVal_at h1, h2, h3, h4⟩
end EB

/-! What a law wants of the greedy steps. -/
namespace EB
open PySem PySem.Spec PyProof.Rows L2 EBG
theorem worth_mem {t : Tr} : ∀ {ts : List Tr}, (∀ u ∈ ts, u.ok) → t ∈ ts → 27720 / t.n * t.l ≤ worth ts ∧ 0 ≤ worth ts
  | [], _, h => by cases h
  | u :: ts, ho, h => by
    have hu := ho u (List.mem_cons_self ..)
    have e : worth (u :: ts) = 27720 / u.n * u.l + worth ts := by
      unfold worth
      rw [List.map_cons, List.sum_cons]
    have hu0 : 0 ≤ 27720 / u.n * u.l := Int.mul_nonneg (Int.ediv_nonneg (by decide) (by have := hu.2.2.1; omega)) hu.1
    have h0 : 0 ≤ worth ts := by
      have : ∀ l : List Tr, (∀ v ∈ l, v.ok) → 0 ≤ worth l := fun l => by
        induction l with
        | nil => exact fun _ => Int.le_refl _
        | cons v r ih =>
          intro hv
          have h1 := hv v (List.mem_cons_self ..)
          have h2 := ih fun x m => hv x (List.mem_cons_of_mem _ m)
          have h3 : 0 ≤ 27720 / v.n * v.l := Int.mul_nonneg (Int.ediv_nonneg (by decide) (by have := h1.2.2.1; omega)) h1.1
          have h4 : worth (v :: r) = 27720 / v.n * v.l + worth r := by
            unfold worth
            rw [List.map_cons, List.sum_cons]
          omega
      exact this ts fun v m => ho v (List.mem_cons_of_mem _ m)
    rcases List.mem_cons.mp h with rfl | m
    · omega
    · have := (worth_mem (fun v m => ho v (List.mem_cons_of_mem _ m)) m).1
      omega
theorem Fair.le {ts : List Tr} (f : Fair ts) : ∀ t ∈ ts, t.l ≤ t.n := fun t ht => by
  have ho := f.g.2 t ht
  have hw := (worth_mem f.g.2 ht).1
  have h1 := f.w
  obtain ⟨_, _, n1, n2⟩ := ho
  have hd := Int.ediv_mul_cancel (dvd_big n1 n2)
  refine Int.not_lt.mp fun z => ?_
  have hq : 0 < 27720 / t.n := by
    refine Int.not_le.mp fun y => ?_
    have h5 : 27720 / t.n * t.n ≤ 0 := Int.mul_nonpos_of_nonpos_of_nonneg y (by omega)
    omega
  have h2 : 27720 / t.n * t.n ≤ 27720 / t.n * t.l := Int.mul_le_mul_of_nonneg_left (by omega) (Int.le_of_lt hq)
  omega
theorem nmOk.drink {ts : List Tr} (h : nmOk ts) : ∀ t ∈ ts, t.k ≠ ("drink" : Str) := fun t ht e => by
  have := (h.2 t ht).1
  rw [e] at this
  exact absurd this (by decide +kernel)
theorem StA.st {K : PySem.W.Frag} {H : Hp} {S : Addr} {L : List (Str × Int)} (h : StA H S L) : StS K H S L := by
  obtain ⟨ps, h1, h2⟩ := h.ex
  refine ⟨ps, SqL.of h1, Paired.length h2, ?_⟩
  clear h1 h
  induction h2 with
  | nil => intro i p x a _; cases a
  | cons r _ ih =>
    intro i p x a b
    cases i with
    | zero =>
      cases a
      cases b
      exact SqT.of r
    | succ i => exact ih i p x a b
/-- the greedy steps of an offer, as play takes them -/
theorem greedy_all {ts : List Tr} (f : Fair ts) (h : nmOk ts) {n : Nat} (hN : n ≤ 1000000000000000000) :
    (∀ (i : Nat) (x : Str × Int), (gAll ts 0 (roundsL (cN ts) n))[i]? = some x → plPos ts (plRun n ((gAll ts 0 (roundsL (cN ts) n)).take i)) x = true) ∧ (plRun n (gAll ts 0 (roundsL (cN ts) n))).d = (D (cN ts) n : Nat) ∧ (plRun n (gAll ts 0 (roundsL (cN ts) n))).b = 0 ∧
      (∀ t ∈ ts, (plRun n (gAll ts 0 (roundsL (cN ts) n))).f t = t.l * ((D (cN ts) n : Nat) : Int) % t.n) ∧ (gAll ts 0 (roundsL (cN ts) n)).length ≤ 100000 := by
  obtain ⟨h1, h2, h3, h4⟩ := greedy_run f h.1 h.drink f.le hN
  refine ⟨h1, h2, h3, h4, ?_⟩
  have a := gAll_len f.g.1 (roundsL (cN ts) n) 0
  have b := roundsL_len f hN
  omega
/-- no step of them is empty -/
theorem gAll_pos {ts : List Tr} {n : Nat} : ∀ (r : List Int) (D : Int), (∀ d ∈ r, (0 : Int) < d) → ∀ x ∈ gAll ts D r, 0 < x.2
  | [], _, _, x, h => by cases h
  | d :: r, D, hp, x, h => by
    rcases List.mem_append.mp (show x ∈ gRound ts D d ++ gAll ts (D + d) r from h) with m | m
    · rcases List.mem_cons.mp m with rfl | m
      · exact hp d (List.mem_cons_self ..)
      · obtain ⟨t, _, q⟩ := List.mem_flatMap.mp m
        unfold gOne at q
        split at q
        · rename_i hc
          rw [List.mem_singleton.mp q]
          exact hc
        · cases q
    · exact gAll_pos (n := n) r (D + d) (fun e m => hp e (List.mem_cons_of_mem _ m)) x m
theorem rnd_pos {c : Nat → Int} {n : Nat} : ∀ (m d : Nat), ∀ e ∈ rnd c n m d, (0 : Int) < e
  | 0, _, _, h => by cases h
  | m + 1, d, e, h => by
    have h : e ∈ (if 0 < (n : Int) - c d then ((n : Int) - c d) :: rnd c n m (d + ((n : Int) - c d).toNat) else []) := h
    split at h
    · rename_i hc
      rcases List.mem_cons.mp h with rfl | q
      · exact hc
      · exact rnd_pos m _ e q
    · cases h
end EB

namespace EB
open PySem PySem.Spec PyProof.Rows L2
theorem dps_keys {K : PySem.W.Frag} {H : Hp} : ∀ {kvs : List (Key × V)}, (∀ p ∈ kvs, ∃ z : Str, p.1 = .inr z) → ∃ ds : List PyData, DpAll K H (kvs.map fun kv => kV kv.1) ds ∧ ds.length = kvs.length ∧ ∀ d ∈ ds, Lev 0 d
  | [], _ => ⟨[], .nil, rfl, fun d h => (by cases h)⟩
  | (k, v) :: r, h => by
    obtain ⟨ds, h1, h2, h3⟩ := dps_keys (K := K) (H := H) (kvs := r) (fun p m => h p (List.mem_cons_of_mem _ m))
    obtain ⟨z, hz⟩ := h (k, v) (List.mem_cons_self ..)
    have hz : k = .inr z := hz
    subst hz
    refine ⟨.str z :: ds, .cons (.str z) h1, by rw [List.length_cons, List.length_cons, h2], fun d hd => ?_⟩
    rcases List.mem_cons.mp hd with rfl | hd
    · exact .str z
    · exact h3 d hd
section
variable {P : Program} {w : World} {K : PySem.W.Frag} {mg : Str → Option Value} {base : Heap} (T : Tx K mg)
include T
def spAlikeD (K : PySem.W.Frag) : Sp := fun vs H Q _ => ∃ (a b : Addr) (kvs : List (Key × V)), vs = [.ref a, .ref b] ∧ H a = some (.dK kvs) ∧ H b = some (.dK kvs) ∧ KNice kvs ∧ kvs.length ≤ 3 ∧ ∀ H', Same H H' → Q (.bl true) H'
theorem ok_alikeD : FnR P w K mg base CX0 6 (a_law_alike K) (spAlikeD K) := by
  have IH := ok_law_alike (P := P) (w := w) (base := base) T
  refine fnR0 (d := d_law_alike) T.F_law_alike sc_law_alike rfl (fun _ _ _ _ _ _ us hl => match us, hl with | [_, _], _ => rfl) (fun vs H Q E h => ?_) (fun cdv A outer s H vs Q E hr h => ?_)
  · obtain ⟨_, _, _, rfl, _⟩ := h
    rfl
  obtain ⟨a, b, kvs, rfl, ha, hb, hn, hl, k⟩ := h
  refine ⟨_, pss_cons (ps_if (pt_val (pe_callB call_isi (by rfl) T.n_isinstance (by decide +kernel) (pa_cons (pv 1) (pa_cons (pe_bltn (v := .ty "dict") (u := .type "dict") rfl T.n_dict (by decide +kernel) rfl) pa_nil)))) (pss_one (ps_ret (pe_and (pe_callB call_isi (by rfl) T.n_isinstance (by decide +kernel) (pa_cons (pv 0) (pa_cons (pe_bltn (v := .ty "dict") (u := .type "dict") rfl T.n_dict (by decide +kernel) rfl) pa_nil))) (pe_and (pe_cR IH (hr.mono (by decide)) T.F_law_alike.kp T.g_law_alike pass0 (pa_cons (pe_callTy (call_listD rfl) (by rfl) T.n_list (by decide +kernel) (pa_cons (pv 0) pa_nil)) (pa_cons (pe_callTy (call_listD rfl) (by rfl) T.n_list (by decide +kernel) (pa_cons (pv 1) pa_nil)) pa_nil))) (pe_one (pe_cmpR (op_eq_dictA (Nat.lt_of_le_of_lt (Nat.le_add_right _ 1) (hu_of hr))) (pv 0) (pv 1) (nomark _))))))) pss_nil) pss_never, ?_⟩
  obtain ⟨ds, d1, d2, d3⟩ := dps_keys (K := K) (H := H) hn.2.2
  refine ⟨_, rfl, .ref b, .ty "dict", _, _, true, rfl, ClsV.ty "dict", .base (.dK hb), kit_ty (by decide +kernel), true, rfl, iteT ?_⟩
  refine ⟨_, rfl, .ref a, .ty "dict", _, _, true, rfl, ClsV.ty "dict", .base (.dK ha), kit_ty (by decide +kernel), true, rfl, iteT ?_⟩
  refine ⟨_, rfl, a, kvs, rfl, .inl ha, fun p hp => ⟨_, rfl, b, kvs, rfl, .inl (same_new hp _ _ hb), fun q hq => ?_⟩⟩
  have s1 : Same H (upd H p (.lst (kvs.map fun kv => kV kv.1))) := same_new hp
  have ep : upd (upd H p (.lst (kvs.map fun kv => kV kv.1))) q (.lst (kvs.map fun kv => kV kv.1)) p = some (.lst (kvs.map fun kv => kV kv.1)) := upd_old upd_same hq
  have s2 := s1.trans (same_new (u := .lst (kvs.map fun kv => kV kv.1)) hq)
  refine ⟨.ref p, .ref q, .list ds, rfl, Dp.lst (SqL.of ep) (dps_mono s2 d1), Dp.lst (SqL.of upd_same) (dps_mono s2 d1), .lst (fun d hd => ?_) (by omega), fun H' s3 => ⟨true, rfl, iteT ?_⟩⟩
  · cases d3 d hd with
    | non => exact .non
    | bl b => exact .bl b
    | int i => exact .int i
    | str z => exact .str z
  have s4 := s2.trans s3
  exact ⟨_, rfl, _, rfl, a, b, kvs, kvs, rfl, rfl, s4 _ _ ha, s4 _ _ hb, rfl, hn.val, k _ s4⟩
end
end EB

namespace EB
open PySem PySem.Spec PyProof.Rows L2
theorem strsD_lay : ∀ ks : List Str, (∀ k ∈ ks, PyData.strOk k = true) → PyData.canLayAll0 (ks.map .str) = true ∧ PyData.depthAll (ks.map .str) ≤ 1
  | [], _ => ⟨rfl, by simp [PyData.depthAll]⟩
  | k :: ks, q => by
    have h := strsD_lay ks fun z m => q z (List.mem_cons_of_mem _ m)
    rw [List.map_cons]
    refine ⟨by rw [PyData.canLayAll0, h.1, PyData.canLay0, q k (List.mem_cons_self ..)]; rfl, ?_⟩
    simp only [PyData.depthAll, PyData.depth]
    omega
theorem strsD_shaped {ks : List Str} (q : ∀ k ∈ ks, PyData.strOk k = true) : SeqAt.shaped (PyData.list (ks.map .str)) = true := by
  have h := strsD_lay ks q
  unfold SeqAt.shaped
  rw [Bool.and_eq_true, decide_eq_true_eq]
  refine ⟨by rw [PyData.canLay0]; exact h.1, ?_⟩
  rw [PyData.depth]
  omega
theorem strsD_eqv (ks : List Str) : PyData.eqv (PyData.list (ks.map .str)) (.list []) = decide (ks = []) := by
  cases ks with
  | nil => rfl
  | cons k ks =>
    rw [decide_eq_false (by simp)]
    simp [PyData.eqv, PyData.eqvAll]
theorem strsD_dp {K : PySem.W.Frag} {H : Hp} : ∀ ks : List Str, DpAll K H (ks.map V.str) (ks.map PyData.str)
  | [] => .nil
  | k :: ks => .cons (.str k) (strsD_dp ks)
/-- a sign of a text that is data is data -/
theorem strOk_sign {z : Str} {c : Nat} (h : PyData.strOk z = true) (m : c ∈ z.cps.toList) : PyData.strOk ⟨#[c]⟩ = true := by
  unfold PyData.strOk at h ⊢
  have h2 : z.cps.toList.all (fun c => decide (c < 1114112)) = true := by
    rw [Array.all_toList]
    simpa using h
  have h3 := List.all_eq_true.mp h2 c m
  simpa using h3
/-! ### trades as data -/
def trD (t : Tr) : PyData := .tuple [.str t.k, .int t.l, .int t.n]
theorem trs_lay : ∀ ts : List Tr, (∀ t ∈ ts, PyData.strOk t.k = true) → PyData.canLayAll0 (ts.map trD) = true ∧ PyData.depthAll (ts.map trD) ≤ 4
  | [], _ => ⟨rfl, by simp [PyData.depthAll]⟩
  | t :: ts, q => by
    have h := trs_lay ts fun z m => q z (List.mem_cons_of_mem _ m)
    have ht := q t (List.mem_cons_self ..)
    rw [List.map_cons]
    refine ⟨by simp only [PyData.canLayAll0, trD, PyData.canLay0, h.1, ht, Bool.and_true, Bool.true_and], ?_⟩
    simp only [PyData.depthAll, trD, PyData.depth]
    omega
theorem trs_shaped {ts : List Tr} (q : ∀ t ∈ ts, PyData.strOk t.k = true) : SeqAt.shaped (PyData.tuple (ts.map trD)) = true := by
  have h := trs_lay ts q
  unfold SeqAt.shaped
  rw [Bool.and_eq_true, decide_eq_true_eq]
  refine ⟨by rw [PyData.canLay0]; exact h.1, ?_⟩
  rw [PyData.depth]
  omega
theorem trs_eqv (ts : List Tr) : PyData.eqv (PyData.tuple (ts.map trD)) (.tuple []) = decide (ts = []) := by
  cases ts with
  | nil => rfl
  | cons k ks =>
    rw [decide_eq_false (by simp)]
    simp [PyData.eqv, PyData.eqvAll]
theorem trs_dpl {K : PySem.W.Frag} {H : Hp} : ∀ {ps : List Addr} {ts : List Tr}, ps.length = ts.length → (∀ (i : Nat) (p : Addr) (t : Tr), ps[i]? = some p → ts[i]? = some t → SqT K H p t.vs) → DpAll K H (ps.map V.ref) (ts.map trD)
  | [], [], _, _ => .nil
  | [], _ :: _, h, _ => nomatch h
  | _ :: _, [], h, _ => nomatch h
  | a :: ps, t :: ts, h, k => .cons (.tup (k 0 a t rfl rfl) (.cons (.str _) (.cons (.int _) (.cons (.int _) .nil)))) (trs_dpl (Nat.succ.inj h) fun j b u e1 e2 => k (j + 1) b u e1 e2)
theorem TrAt.dp {K : PySem.W.Frag} {H : Hp} {a : Addr} {ts : List Tr} (h : TrAt K H a ts) : Dp K H (.ref a) (.tuple (ts.map trD)) := by
  obtain ⟨ps, h1, h2, h3⟩ := h.ex
  exact .tup h1 (trs_dpl h2 h3)
theorem shapedT : SeqAt.shaped (PyData.tuple []) = true := by decide +kernel
/-! ### what the law expects -/
def dueV (ts : List Tr) : List V := match badOf ts with
  | some i => [.str "offer", .int (i : Nat)]
  | none => if 9 * 27720 < 10 * worth ts then [.str "generous"] else [.str "none"]
theorem labelOk_law {z : Str} : labelOk z = (if (if decide ((1 : Int) ≤ z.length) = true then decide ((z.length : Int) ≤ 8) else false) = true then decide (z.cps.toList.filter (fun c => !signOk c) = []) else false) := by
  unfold labelOk
  generalize (if decide ((1 : Int) ≤ z.length) = true then decide ((z.length : Int) ≤ 8) else false) = b
  cases b with
  | false => rfl
  | true =>
    show (z.cps.toList.map signOk).all id = decide (z.cps.toList.filter (fun c => !signOk c) = [])
    generalize z.cps.toList = l
    induction l with
    | nil => rfl
    | cons c l ih =>
      rw [List.map_cons, List.all_cons, ih, List.filter_cons]
      cases signOk c with
      | true => rfl
      | false => rfl
theorem badTr_cons {seen : List Str} {i : Nat} {t : Tr} {ts : List Tr} (h : ¬ (i = 3 ∨ t.k ∈ seen ∨ trOk t = false)) : badTr seen i (t :: ts) = badTr (seen ++ [t.k]) (i + 1) ts := by
  conv => lhs; unfold badTr
  rw [if_neg h]
theorem badTr_hit {seen : List Str} {i : Nat} {t : Tr} {ts : List Tr} (h : i = 3 ∨ t.k ∈ seen ∨ trOk t = false) : badTr seen i (t :: ts) = some i := by
  unfold badTr
  rw [if_pos h]
theorem trOk_ok {t : Tr} (h : trOk t = true) : t.ok := by
  unfold trOk at h
  split at h
  · split at h
    · rename_i h2
      have h2 := numOk_iff.mp h2
      have h3 := numOk_iff.mp h
      exact ⟨h2.1, h2.2, h3.1, h3.2⟩
    · cases h
  · cases h
theorem badTr_none : ∀ {ts : List Tr} {seen : List Str} {i : Nat}, badTr seen i ts = none → i ≤ 3 → i + ts.length ≤ 3 ∧ (∀ t ∈ ts, trOk t = true) ∧ (ts.map Tr.k).Nodup ∧ ∀ t ∈ ts, t.k ∉ seen
  | [], seen, i, _, hi => ⟨by simpa using hi, fun t h => (by cases h), List.nodup_nil, fun t h => (by cases h)⟩
  | t :: ts, seen, i, h, hi => by
    by_cases hc : i = 3 ∨ t.k ∈ seen ∨ trOk t = false
    · rw [badTr_hit hc] at h
      cases h
    rw [badTr_cons hc] at h
    have hc1 : i ≠ 3 := fun z => hc (.inl z)
    have hc2 : t.k ∉ seen := fun z => hc (.inr (.inl z))
    have hc3 : trOk t = true := by
      cases q : trOk t with
      | true => rfl
      | false => exact absurd (.inr (.inr q)) hc
    obtain ⟨a, b, c, d⟩ := badTr_none h (by omega)
    refine ⟨by rw [List.length_cons]; omega, fun u hu => ?_, ?_, fun u hu => ?_⟩
    · rcases List.mem_cons.mp hu with rfl | hu
      · exact hc3
      · exact b u hu
    · rw [List.map_cons, List.nodup_cons]
      refine ⟨fun z => ?_, c⟩
      obtain ⟨u, hu, e⟩ := List.mem_map.mp z
      exact d u hu (by rw [e]; exact List.mem_append.mpr (.inr (List.mem_singleton.mpr rfl)))
    · rcases List.mem_cons.mp hu with rfl | hu
      · exact hc2
      · exact fun z => d u hu (List.mem_append.mpr (.inl z))
theorem trOk_kind {t : Tr} (h : trOk t = true) : kindOk t.k = true := by
  unfold trOk at h
  split at h
  · assumption
  · cases h
section
variable {P : Program} {w : World} {K : PySem.W.Frag} {mg : Str → Option Value} {base : Heap} (T : Tx K mg)
include T
end
end EB

namespace EB
open PySem PySem.Spec PyProof.Rows L2
/-! All results of an offer and its observer, in one list. -/
mutual
def noL : PyData → Bool
  | .list _ => false
  | .dict _ => false
  | .tuple ds => noLA ds
  | .none => true
  | .bool _ => true
  | .int _ => true
  | .str _ => true
def noLA : List PyData → Bool
  | [] => true
  | d :: ds => noL d && noLA ds
end
mutual
theorem dp_tups {K : PySem.W.Frag} {H H' : Hp} (k : ∀ a xs, SqT K H a xs → SqT K H' a xs) : ∀ {v : V} {d : PyData}, noL d = true → Dp K H v d → Dp K H' v d
  | _, _, _, .non => .non
  | _, _, _, .bl b => .bl b
  | _, _, _, .int i => .int i
  | _, _, _, .str z => .str z
  | _, _, n, .lst h a => by
    rw [noL] at n
    cases n
  | _, _, n, .tup h a => .tup (k _ _ h) (dps_tups k (by rw [noL] at n; exact n) a)
theorem dps_tups {K : PySem.W.Frag} {H H' : Hp} (k : ∀ a xs, SqT K H a xs → SqT K H' a xs) : ∀ {vs : List V} {ds : List PyData}, noLA ds = true → DpAll K H vs ds → DpAll K H' vs ds
  | _, _, _, .nil => .nil
  | _, _, n, .cons a b => by
    rw [noLA, Bool.and_eq_true] at n
    exact .cons (dp_tups k n.1 a) (dps_tups k n.2 b)
end
theorem noLA_ints (ns : List Int) : noLA (ns.map PyData.int) = true := by
  induction ns with
  | nil => rfl
  | cons n ns ih => rw [List.map_cons, noLA, ih, noL]; rfl
theorem noLA_map {α : Type} {f : α → PyData} (h : ∀ x, noL (f x) = true) (xs : List α) : noLA (xs.map f) = true := by
  induction xs with
  | nil => rfl
  | cons n ns ih => rw [List.map_cons, noLA, ih, h]; rfl
/-- what a result is: plain data without a list, a list of such, a dict -/
inductive El
  | d (x : PyData)
  | l (ds : List PyData)
  | m (kvs : List (Key × V))
def ElAt (K : PySem.W.Frag) (B H : Hp) (x : V) : El → Prop
  | .d d => Dp K H x d
  | .l ds => ∃ a vs, x = .ref a ∧ H a = some (.lst vs) ∧ DpAll K H vs ds ∧ B a = none
  | .m kvs => ∃ a, x = .ref a ∧ H a = some (.dK kvs) ∧ B a = none
def ElOk : El → Prop
  | .d d => noL d = true ∧ Lev 2 d
  | .l ds => noLA ds = true ∧ (∀ d ∈ ds, Lev 2 d) ∧ ds.length ≤ 10000
  | .m kvs => KNice kvs ∧ kvs.length ≤ 3
theorem ElAt.mono {K : PySem.W.Frag} {B H H' : Hp} {x : V} {e : El} (s : Same H H') (h : ElAt K B H x e) : ElAt K B H' x e := by
  cases e with
  | d d => exact dp_mono s h
  | l ds =>
    obtain ⟨a, vs, h1, h2, h3, h4⟩ := h
    exact ⟨a, vs, h1, s _ _ h2, dps_mono s h3, h4⟩
  | m kvs =>
    obtain ⟨a, h1, h2, h3⟩ := h
    exact ⟨a, h1, s _ _ h2, h3⟩
theorem ElAt.base {K : PySem.W.Frag} {B0 B H : Hp} {x : V} {e : El} (s : Same B0 B) (h : ElAt K B H x e) : ElAt K B0 H x e := by
  cases e with
  | d d => exact h
  | l ds =>
    obtain ⟨a, vs, h1, h2, h3, h4⟩ := h
    exact ⟨a, vs, h1, h2, h3, s.free h4⟩
  | m kvs =>
    obtain ⟨a, h1, h2, h3⟩ := h
    exact ⟨a, h1, h2, s.free h3⟩
def ElsAt (K : PySem.W.Frag) (B H : Hp) (xs : List V) (es : List El) : Prop := Paired (ElAt K B H) xs es
theorem ElsAt.mono {K : PySem.W.Frag} {B H H' : Hp} {xs : List V} {es : List El} (s : Same H H') (h : ElsAt K B H xs es) : ElsAt K B H' xs es := Paired.mapP h fun _ _ e => e.mono s
theorem ElsAt.base {K : PySem.W.Frag} {B0 B H : Hp} {xs : List V} {es : List El} (s : Same B0 B) (h : ElsAt K B H xs es) : ElsAt K B0 H xs es := Paired.mapP h fun _ _ e => e.base s
theorem ElsAt.app {K : PySem.W.Frag} {B H : Hp} {ys : List V} {fs : List El} (g : ElsAt K B H ys fs) : ∀ {xs : List V} {es : List El}, ElsAt K B H xs es → ElsAt K B H (xs ++ ys) (es ++ fs)
  | _, _, .nil => g
  | _, _, .cons r t => .cons r (ElsAt.app g t)
/-- the results -/
def nmV (ts : List Tr) (v : V) : Prop := (missL (cN ts) 0 (2 * per ts) = [] ∧ v = .non) ∨ (missL (cN ts) 0 (2 * per ts) ≠ [] ∧ ∃ x : Nat, isMiss (cN ts) x ∧ cntM (cN ts) x = 5 ∧ v = .int (x : Nat))
theorem nmV.uniq {ts : List Tr} (f : Fair ts) {v u : V} (h : nmV ts v) (g : nmV ts u) : v = u := by
  rcases h with ⟨h1, rfl⟩ | ⟨h1, x, h2, h3, rfl⟩
  · rcases g with ⟨_, rfl⟩ | ⟨g1, _⟩
    · rfl
    · exact absurd h1 g1
  · rcases g with ⟨g1, _⟩ | ⟨_, y, g2, g3, rfl⟩
    · exact absurd g1 h1
    · rw [(cf f).miss_uniq h2 g2 (h3.trans g3.symm)]
theorem nmV.ex {ts : List Tr} (f : Fair ts) : ∃ v, nmV ts v := by
  by_cases q : missL (cN ts) 0 (2 * per ts) = []
  · exact ⟨_, .inl ⟨q, rfl⟩⟩
  · obtain ⟨x, _, h2, h3⟩ := (cf f).nth q 4
    exact ⟨_, .inr ⟨q, x, h2, h3, rfl⟩⟩
def vD : V → PyData
  | .int i => .int i
  | .bl b => .bool b
  | .str z => .str z
  | _ => .none
theorem nmV.dp {K : PySem.W.Frag} {H : Hp} {ts : List Tr} {v : V} (h : nmV ts v) : Dp K H v (vD v) ∧ noL (vD v) = true ∧ Lev 2 (vD v) := by
  rcases h with ⟨_, rfl⟩ | ⟨_, x, _, _, rfl⟩
  · exact ⟨.non, rfl, .non⟩
  · exact ⟨.int _, rfl, .int _⟩
def playK (ts : List Tr) : List (Key × V) := ts.map fun t => (Sum.inr t.k, V.int ((plRun 9 [(("drink" : Str), (5 : Int))]).f t))
def stepD (x : Str × Int) : PyData := .tuple [.str x.1, .int x.2]
noncomputable def allE (ts : List Tr) (n cr : Nat) (nm nb : V) (rd : List PyData) : List El :=
  [.d (.tuple (ts.map trD)), .d (.tuple ((ts.map Tr.k).map PyData.str)), .d (.tuple [.int (perB ts : Nat), .int (per ts : Nat)]), .d (.int (EB.T (cN ts) (per ts - 1) + 1 - perB ts)), .d (.int (D (cN ts) n : Nat)), .d (.int (cr : Nat)), .d (.bool (decide (D (cN ts) (EB.T (cN ts) n).toNat = n)))] ++
  [.m (madeK ts (D (cN ts) n)), .m (leftK ts (D (cN ts) n)), .l ((roundsL (cN ts) n).map PyData.int), .d (.int (few (cN ts) n : Nat))] ++
  [.l (((missL (cN ts) 0 31).map fun n => ((n : Nat) : Int)).map PyData.int), .d (.int ((n : Int) - EB.T (cN ts) n)), .d (vD nm), .d (.int (pool ts [3, n]))] ++
  [.l ((gAll ts 0 (roundsL (cN ts) n)).map stepD), .m (playK ts), .l rd, .d (vD nb)] ++
  [.d (.bool true), .d (.bool false), .d (.bool (ts.any fun t => decide (0 < t.l))), .m (madeK ts (D (cN ts) 9))]
theorem sta_dp {K : PySem.W.Frag} {H : Hp} : ∀ {ps : List Addr} {L : List (Str × Int)}, StP H ps L → DpAll K H (ps.map V.ref) (L.map stepD)
  | _, _, .nil => .nil
  | _, _, .cons r t => .cons (.tup (SqT.of r) (.cons (.str _) (.cons (.int _) .nil))) (sta_dp t)
theorem strs_dp {K : PySem.W.Frag} {H : Hp} : ∀ zs : List Str, DpAll K H (zs.map V.str) (zs.map PyData.str)
  | [] => .nil
  | z :: zs => .cons (.str z) (strs_dp zs)
theorem nth_all {K : PySem.W.Frag} {H : Hp} {o : Addr} {ts : List Tr} {Q : VK} {E : XK} (ho : OfAt K H o ts) (f : Fair ts) (k : ∀ v, nmV ts v → Q v H) : N2.spNth K [.ref o, .int 5] H Q E :=
  ⟨o, ts, 4, rfl, ho, f, by decide, fun q => k _ (.inl ⟨q, rfl⟩), fun q x h1 h2 => k _ (.inr ⟨q, x, h1, h2, rfl⟩)⟩
theorem obsV_cases (s : Int) (early : List Int) (p : Int) (offs : List Int) (place : Int) : obsV s early p offs place = .non ∨ ∃ b, obsV s early p offs place = .int b := by
  unfold obsV
  rcases candV_cases s early p offs place with q | ⟨b, q⟩
  · rw [q]
    exact .inl rfl
  · rw [q]
    show (if 1000000000000000000 < b then V.non else .int b) = .non ∨ ∃ b', (if 1000000000000000000 < b then V.non else .int b) = .int b'
    by_cases z : 1000000000000000000 < b
    · rw [if_pos z]
      exact .inl rfl
    · rw [if_neg z]
      exact .inr ⟨b, rfl⟩
theorem obsV_dp {K : PySem.W.Frag} {H : Hp} (s : Int) (early : List Int) (p : Int) (offs : List Int) (place : Int) : Dp K H (obsV s early p offs place) (vD (obsV s early p offs place)) ∧ noL (vD (obsV s early p offs place)) = true ∧ Lev 2 (vD (obsV s early p offs place)) := by
  rcases obsV_cases s early p offs place with q | ⟨b, q⟩
  · rw [q]
    exact ⟨.non, rfl, .non⟩
  · rw [q]
    exact ⟨.int _, rfl, .int _⟩
theorem nth_obs {K : PySem.W.Frag} {H : Hp} {x dx a c l : Addr} {ts : List Tr} {g : Nat → Bool} {p : Nat} {rs : List V} {Q : VK} {E : XK} (S : Sees K H x dx a c l ts g p rs) (f : Fair ts) (p1 : p ≤ 1000000)
    (k : ∀ H', Same H H' → Q (obsV (startN ts) (takeN g (startN ts)) (p : Nat) (offT g (startN ts) p) 1) H') : spNthP K [.ref x, .int 2] H Q E := by
  have st := (start_eq f).2
  refine ⟨x, _, rfl, .inr ⟨by omega, by omega, ts, _, _, p, S.obs, ?_, ?_, by omega, by omega, fun H' s => k H' s⟩⟩
  · rw [takeN_len]
    have := cnt_le g (startN ts)
    omega
  · unfold offT
    rw [takeN_len]
    have := cnt_le (fun i => g (startN ts + i)) p
    omega
section
variable {w : World} {K : PySem.W.Frag} {mg : Str → Option Value} {base : Heap} (T : Tx K mg)
include T
def spAll (K : PySem.W.Frag) : Sp := fun vs H Q _ => ∃ (o x dx a c l : Addr) (ts : List Tr) (n p : Nat) (g : Nat → Bool) (rs : List V) (rd : List PyData), vs = [.ref o, .ref x, .int (n : Nat)] ∧ OfAt K H o ts ∧ Fair ts ∧ nmOk ts ∧ n ≤ 100000000000000000 ∧ Sees K H x dx a c l ts g p rs ∧ p ≤ 1000000 ∧ rs.length ≤ 1000 ∧ DpAll K H rs rd ∧
  ∀ Hp W xs cr nm nb, Same H Hp → Hp W = none → IsC (cN ts) n cr → nmV ts nm → (nb = obsV (startN ts) (takeN g (startN ts)) (p : Nat) (offT g (startN ts) p) 1) → ElsAt K H Hp xs (allE ts n cr nm nb rd) → Q (.ref W) (upd Hp W (.lst xs))
theorem ok_law_all (hK : K.In base) : FnR PX w K mg base CX0 10 (a_law_all K) (spAll K) := by
  refine fnR0 (d := d_law_all) T.F_law_all sc_law_all rfl (fun _ _ _ _ _ _ us hl => match us, hl with | [_, _, _], _ => rfl) (fun vs H Q E h => ?_) (fun cdv A outer s H vs Q E hr h => ?_)
  · obtain ⟨o, x, dx, a, c, l, ts, n, p, g, rs, rd, rfl, _⟩ := h
    rfl
  obtain ⟨o, x, dx, a, c, l, ts, n, p, g, rs, rd, rfl, ho, hf, hnm, hn, S, p1, hrs, hrd, k⟩ := h
  obtain ⟨dy, fy, oi, on⟩ := ho.ins
  refine ⟨_, (pss_cons (ps_set (i := 3) sc_law_all.nd rfl (Or.inl rfl) (pe_lst (pa_cons (pe_prop (pv 0) T.k_Offer T.p_Offer_trades (ok_Offer_trades T) (hr.mono (by decide)) (b_Offer_trades T) .nil pass0 rfl) (pa_cons (pe_prop (pv 0) T.k_Offer T.p_Offer_kinds (ok_Offer_kinds T) (hr.mono (by decide)) (b_Offer_kinds T) .nil pass0 rfl) (pa_cons (pe_prop (pv 0) T.k_Offer T.p_Offer_period (ok_Offer_period T) (hr.mono (by decide)) (b_Offer_period T) .nil pass0 rfl) (pa_cons (pe_prop (pv 0) T.k_Offer T.p_Offer_steady_from (ok_Offer_steady_from T) (hr.mono (by decide)) (b_Offer_steady_from T) .nil pass0 rfl) (pa_cons (StX.pe_callO (pv 0) T.co_Offer (ok_Offer_call T) (hr.mono (by decide)) pass0 (pa_cons (pv 2) pa_nil)) (pa_cons (pe_methR (pv 0) T.k_Offer T.m_Offer_credit (ok_Offer_credit T) (hr.mono (by decide)) pass0 (pa_cons (pv 2) pa_nil)) (pa_cons (pe_cmpR (op_inO T.m_Offer_contains.at_ T.m_Offer_contains.fn (ok_Offer_contains T) (hr.mono (by decide)) pass0) (pv 2) (pv 0) rfl) pa_nil))))))))) (pss_cons (ps_set (i := 3) sc_law_all.nd rfl (Or.inl rfl) (pe_op op_cat (pv 3) (pe_lst (pa_cons (pe_methR (pv 0) T.k_Offer T.m_Offer_trades_made (okF_Offer_trades_made T) (hr.mono (by decide)) pass0 (pa_cons (pv 2) pa_nil)) (pa_cons (pe_methR (pv 0) T.k_Offer T.m_Offer_left_over (okF_Offer_left_over T) (hr.mono (by decide)) pass0 (pa_cons (pv 2) pa_nil)) (pa_cons (pe_listG (pgen_meth (pv 0) T.k_Offer T.m_Offer_rounds (ok_Offer_rounds T) (hr.mono (by decide)) (b_Offer_rounds T) .nil (pa_cons (pv 2) pa_nil)) passG noStop0 (hr.mono (by decide)) (by rfl) T.n_list (by decide +kernel)) (pa_cons (pe_methR (pv 0) T.k_Offer T.m_Offer_fewest_bottles (ok_Offer_fewest_bottles T) (hr.mono (by decide)) pass0 (pa_cons (pv 2) pa_nil)) pa_nil))))))) (pss_cons (ps_set (i := 3) sc_law_all.nd rfl (Or.inl rfl) (pe_op op_cat (pv 3) (pe_lst (pa_cons (pe_listG (pgen_meth (pv 0) T.k_Offer T.m_Offer_missing (ok_Offer_missing T) (hr.mono (by decide)) (b_Offer_missing T) .nil (pa_cons pe_int (pa_cons pe_int pa_nil))) passG noStop0 (hr.mono (by decide)) (by rfl) T.n_list (by decide +kernel)) (pa_cons (pe_methR (pv 0) T.k_Offer T.m_Offer_count_missing (ok_Offer_count_missing T) (hr.mono (by decide)) pass0 (pa_cons (pv 2) pa_nil)) (pa_cons (pe_methR (pv 0) T.k_Offer T.m_Offer_nth_missing (N2.ok_Offer_nth_missing T) (hr.mono (by decide)) pass0 (pa_cons pe_int pa_nil)) (pa_cons (pe_methR (pv 0) T.k_Offer T.m_Offer_pooled (ok_Offer_pooled T) (hr.mono (by decide)) pass0 (pa_cons pe_int (pa_cons (pv 2) pa_nil))) pa_nil))))))) (pss_cons (ps_set (i := 3) sc_law_all.nd rfl (Or.inl rfl) (pe_op op_cat (pv 3) (pe_lst (pa_cons (pe_cR (okF_greedy_steps T) (hr.mono (by decide)) T.F_greedy_steps.kp T.g_greedy_steps pass0 (pa_cons (pv 0) (pa_cons (pv 2) pa_nil))) (pa_cons (pe_ix ix_tup (pe_cR (ok_play T) (hr.mono (by decide)) T.F_play.kp T.g_play pass0 (pa_cons (pv 0) (pa_cons pe_int (pa_cons (pe_lst (pa_cons (pe_tup (pa_cons pe_str (pa_cons pe_int pa_nil))) pa_nil)) pa_nil)))) pe_int (fun _ _ => rfl)) (pa_cons (pe_prop (pv 1) T.k_BottleObserver T.p_BottleObserver_records (ok_BottleObserver_records T) (hr.mono (by decide)) (b_BottleObserver_records T) .nil pass0 rfl) (pa_cons (pe_methR (pv 1) T.k_BottleObserver T.m_BottleObserver_nth_possible (okX_BottleObserver_nth_possible T hK) (hr.mono (by decide)) passG (pa_cons pe_int pa_nil)) pa_nil))))))) (pss_one (ps_ret (pe_op op_cat (pv 3) (pe_lst (pa_cons (pe_cmpR (op_cmpO (fun _ _ => rfl) T.m_Offer_le.at_ T.m_Offer_le.fn (ok_Offer_le T) (hr.mono (by decide)) pass0) (pv 0) (pv 0) (nomark _)) (pa_cons (pe_cmpR (op_cmpO (fun _ _ => rfl) T.m_Offer_lt.at_ T.m_Offer_lt.fn (ok_Offer_lt T) (hr.mono (by decide)) pass0) (pv 0) (pv 0) (nomark _)) (pa_cons (pe_callTy (call_boolO T.m_Offer_bool.at_ T.m_Offer_bool.fn (ok_Offer_bool T) (hr.mono (by decide)) pass0) (by rfl) T.n_bool (by decide +kernel) (pa_cons (pv 0) pa_nil)) (pa_cons (pe_methR (pv 0) T.k_Offer T.m_Offer_trades_made (okF_Offer_trades_made T) (hr.mono (by decide)) pass0 (pa_cons pe_int pa_nil)) pa_nil)))))))))))), ?_⟩
  have hn18 : n ≤ 1000000000000000000 := by omega
  have hl3 := hf.g.1
  have iC : ∀ H', Same H H' → StX.InsC (cxOf CX0 PX w K mg base N_law_all d_law_all.ql (defScope d_law_all.st) (d_law_all.adr K) cdv A outer s H E).nox H' o (He.ga K "Offer") := fun H' s' => .inr ⟨dy, fy, s' _ _ oi⟩
  refine ⟨_, rfl, o, dy, fy, rfl, oi, o, ts, rfl, ho, fun pt htr => ?_⟩
  refine ⟨_, rfl, o, dy, fy, rfl, oi, o, ts, rfl, ho, hl3, fun H1 kp s1 hkp => ?_⟩
  refine ⟨_, rfl, o, dy, fy, rfl, s1 _ _ oi, o, ts, rfl, ho.mono s1, fun pp hpp => ?_⟩
  refine ⟨_, rfl, o, dy, fy, rfl, s1 _ _ oi, o, ts, rfl, ho.mono s1, hf, ?_⟩
  refine ⟨_, rfl, o, rfl, _, rfl, iC _ s1, o, ts, n, rfl, ho.mono s1, hf, hn18, ?_⟩
  refine ⟨_, rfl, o, dy, fy, rfl, s1 _ _ oi, on _ (by decide +kernel), _, rfl, o, ts, n, rfl, ho.mono s1, hf, hn18, fun H2 cr s2 hcr => ?_⟩
  have sA := s1.trans s2
  refine ⟨_, rfl, _, rfl, ?_⟩
  refine ⟨o, dy, fy, rfl, sA _ _ oi, o, ts, n, rfl, ho.mono sA, hf, _, rfl, ?_⟩
  refine ⟨by show 7 ≤ sizeLine; decide, fun W1 hW1 => ?_⟩
  rw [if_neg Bool.false_ne_true]
  have sB := sA.trans (same_new (u := .lst [.ref pt, .ref kp, .ref pp, .int (EB.T (cN ts) (per ts - 1) + 1 - perB ts), .int (D (cN ts) n : Nat), .int (cr : Nat), .bl (decide (D (cN ts) (EB.T (cN ts) n).toNat = n))]) hW1)
  have e1 : ElsAt K H (upd H2 W1 (.lst [.ref pt, .ref kp, .ref pp, .int (EB.T (cN ts) (per ts - 1) + 1 - perB ts), .int (D (cN ts) n : Nat), .int (cr : Nat), .bl (decide (D (cN ts) (EB.T (cN ts) n).toNat = n))])) [.ref pt, .ref kp, .ref pp, .int (EB.T (cN ts) (per ts - 1) + 1 - perB ts), .int (D (cN ts) n : Nat), .int (cr : Nat), .bl (decide (D (cN ts) (EB.T (cN ts) n).toNat = n))]
      [.d (.tuple (ts.map trD)), .d (.tuple ((ts.map Tr.k).map PyData.str)), .d (.tuple [.int (perB ts : Nat), .int (per ts : Nat)]), .d (.int (EB.T (cN ts) (per ts - 1) + 1 - perB ts)), .d (.int (D (cN ts) n : Nat)), .d (.int (cr : Nat)), .d (.bool (decide (D (cN ts) (EB.T (cN ts) n).toNat = n)))] :=
    .cons (dp_mono sB htr.dp) (.cons (.tup (Same.tup (s2.trans (same_new hW1)) hkp) (strs_dp _)) (.cons (.tup (Same.tup (s2.trans (same_new hW1)) hpp) (.cons (.int _) (.cons (.int _) .nil))) (.cons (.int _) (.cons (.int _) (.cons (.int _) (.cons (.bl _) .nil))))))
  have w1 : upd H2 W1 (.lst [.ref pt, .ref kp, .ref pp, .int (EB.T (cN ts) (per ts - 1) + 1 - perB ts), .int (D (cN ts) n : Nat), .int (cr : Nat), .bl (decide (D (cN ts) (EB.T (cN ts) n).toNat = n))]) W1 = _ := upd_same
  generalize upd H2 W1 (.lst [.ref pt, .ref kp, .ref pp, .int (EB.T (cN ts) (per ts - 1) + 1 - perB ts), .int (D (cN ts) n : Nat), .int (cr : Nat), .bl (decide (D (cN ts) (EB.T (cN ts) n).toNat = n))]) = HB at sB e1 w1
  generalize [V.ref pt, .ref kp, .ref pp, .int (EB.T (cN ts) (per ts - 1) + 1 - perB ts), .int (D (cN ts) n : Nat), .int (cr : Nat), .bl (decide (D (cN ts) (EB.T (cN ts) n).toNat = n))] = xs1 at e1 w1
  clear hW1 hpp hkp htr s1 s2 sA
  -- the second list
  refine ⟨_, rfl, _, rfl, o, dy, fy, rfl, sB _ _ oi, on _ (by decide +kernel), _, rfl, o, ts, n, rfl, ho.mono sB, hf, hn18, fun H3 d1 s3 n3 f3 => ?_⟩
  have sC := sB.trans s3
  refine ⟨_, rfl, o, dy, fy, rfl, sC _ _ oi, on _ (by decide +kernel), _, rfl, o, ts, n, rfl, ho.mono sC, hf, hn18, fun H4 d2 s4 n4 f4 => ?_⟩
  have sD := sC.trans s4
  refine ⟨_, rfl, o, dy, fy, rfl, sD _ _ oi, on _ (by decide +kernel), _, rfl, o, ts, n, rfl, ho.mono sD, hf, hn18, fun H5 s5 R1 hR1 => ?_⟩
  have sE0 := sD.trans s5
  have sE := sE0.trans (same_new (u := .lst ((roundsL (cN ts) n).map V.int)) hR1)
  have f5 : upd H5 R1 (.lst ((roundsL (cN ts) n).map V.int)) R1 = _ := upd_same
  have s5' := s5.trans (same_new (u := .lst ((roundsL (cN ts) n).map V.int)) hR1)
  generalize upd H5 R1 (.lst ((roundsL (cN ts) n).map V.int)) = HC at sE f5 s5'
  refine ⟨_, rfl, o, dy, fy, rfl, sE _ _ oi, on _ (by decide +kernel), _, rfl, o, ts, n, rfl, ho.mono sE, hf, hn18, ?_⟩
  refine ⟨by show 4 ≤ sizeLine; decide, fun L2 hL2 => ?_⟩
  have t2 : ElsAt K H HC [.ref d1, .ref d2, .ref R1, .int (few (cN ts) n : Nat)] [.m (madeK ts (D (cN ts) n)), .m (leftK ts (D (cN ts) n)), .l ((roundsL (cN ts) n).map PyData.int), .d (.int (few (cN ts) n : Nat))] :=
    .cons ⟨_, rfl, (s4.trans s5') _ _ f3, sB.free n3⟩ (.cons ⟨_, rfl, s5' _ _ f4, sC.free n4⟩ (.cons ⟨_, _, rfl, f5, dps_ints _, sE0.free hR1⟩ (.cons (.int _) .nil)))
  have w1' := (s3.trans (s4.trans s5')) _ _ w1
  have e1' := e1.mono (s3.trans (s4.trans s5'))
  have lx1 : xs1.length = 7 := Paired.length e1
  clear f3 f4 f5 n3 n4 hR1 s3 s4 s5 s5' e1 w1 sB sC sD sE0
  refine ⟨W1, L2, _, _, rfl, rfl, upd_old w1' hL2, upd_same, Nat.le_of_lt (small3 (by rw [lx1]; show 7 + 4 ≤ 100000; decide)), fun W2 hW2 => ?_⟩
  have sN2 := (same_new (u := .lst [.ref d1, .ref d2, .ref R1, .int (few (cN ts) n : Nat)]) hL2).trans (same_new (u := .lst (xs1 ++ [.ref d1, .ref d2, .ref R1, .int (few (cN ts) n : Nat)])) hW2)
  have e2 := ElsAt.app (t2.mono sN2) (e1'.mono sN2)
  have s2 := sE.trans sN2
  have w2 : upd (upd HC L2 (.lst [.ref d1, .ref d2, .ref R1, .int (few (cN ts) n : Nat)])) W2 (.lst (xs1 ++ [.ref d1, .ref d2, .ref R1, .int (few (cN ts) n : Nat)])) W2 = _ := upd_same
  have lx2 : (xs1 ++ [V.ref d1, .ref d2, .ref R1, .int (few (cN ts) n : Nat)]).length = 11 := by rw [List.length_append, lx1]; rfl
  generalize upd (upd HC L2 (.lst [.ref d1, .ref d2, .ref R1, .int (few (cN ts) n : Nat)])) W2 (.lst (xs1 ++ [.ref d1, .ref d2, .ref R1, .int (few (cN ts) n : Nat)])) = HD at e2 s2 w2
  generalize xs1 ++ [V.ref d1, .ref d2, .ref R1, .int (few (cN ts) n : Nat)] = xs2 at e2 w2 lx2
  clear t2 sN2 e1' w1' hL2 hW2 sE lx1
  -- the third list
  refine ⟨_, rfl, _, rfl, o, dy, fy, rfl, s2 _ _ oi, on _ (by decide +kernel), o, ts, 0, 30, rfl, ho.mono s2, hf, by decide, by decide, by decide, fun H3 s3 R2 hR2 => ?_⟩
  have hm : ((missL (cN ts) 0 31).map fun n => V.int ((n : Nat) : Int)) = ((missL (cN ts) 0 31).map fun n => ((n : Nat) : Int)).map V.int := by
    rw [List.map_map]
    rfl
  have s3' := s3.trans (same_new (u := .lst ((missL (cN ts) 0 31).map fun n => V.int ((n : Nat) : Int))) hR2)
  have s3a := s2.trans s3'
  have f1 : upd H3 R2 (.lst ((missL (cN ts) 0 31).map fun n => V.int ((n : Nat) : Int))) R2 = some (.lst (((missL (cN ts) 0 31).map fun n => ((n : Nat) : Int)).map V.int)) := by rw [upd_same, hm]
  have nR2 := (s2.trans s3).free hR2
  clear s3 hm
  rw [show 30 + 1 - 0 = 31 from rfl]
  generalize upd H3 R2 (.lst ((missL (cN ts) 0 31).map fun n => V.int ((n : Nat) : Int))) = HE at s3' s3a f1
  refine ⟨_, rfl, o, dy, fy, rfl, s3a _ _ oi, on _ (by decide +kernel), _, rfl, o, ts, n, rfl, ho.mono s3a, hf, hn18, ?_⟩
  refine ⟨_, rfl, o, dy, fy, rfl, s3a _ _ oi, on _ (by decide +kernel), ?_⟩
  dsimp only [tNil, tCons, tC]
  refine nth_all (ho.mono s3a) hf fun nm hnm5 => ?_
  refine ⟨_, rfl, o, dy, fy, rfl, s3a _ _ oi, on _ (by decide +kernel), _, rfl, [.ref o], [.int 3, .int (n : Nat)], rfl, rfl, by show 2 ≤ sizeLine; decide, fun pq hpq => ⟨o, pq, ts, [3, n], rfl, ho.mono (s3a.trans (same_new hpq)), hf, SqT.of upd_same, ?_, (by show 2 ≤ 10000; decide), fun H4 s4 => ?_⟩⟩
  · show 3 + (n + 0) ≤ _
    omega
  have s34 := s3'.trans ((same_new hpq).trans s4)
  have s4a := s2.trans s34
  have f1' := ((same_new hpq).trans s4) _ _ f1
  refine ⟨by show 4 ≤ sizeLine; decide, fun L3 hL3 => ?_⟩
  have t3 : ElsAt K H H4 [.ref R2, .int ((n : Int) - EB.T (cN ts) n), nm, .int (pool ts [3, n])] [.l (((missL (cN ts) 0 31).map fun n => ((n : Nat) : Int)).map PyData.int), .d (.int ((n : Int) - EB.T (cN ts) n)), .d (vD nm), .d (.int (pool ts [3, n]))] :=
    .cons ⟨_, _, rfl, f1', dps_ints _, nR2⟩ (.cons (.int _) (.cons hnm5.dp.1 (.cons (.int _) .nil)))
  have w2' := s34 _ _ w2
  have e2' := e2.mono s34
  clear f1 f1' nR2 hR2 s3' s3a s4 hpq s34 s2 w2 e2
  refine ⟨W2, L3, _, _, rfl, rfl, upd_old w2' hL3, upd_same, Nat.le_of_lt (small3 (by rw [lx2]; show 11 + 4 ≤ 100000; decide)), fun W3 hW3 => ?_⟩
  have sN3 := (same_new (u := .lst [.ref R2, .int ((n : Int) - EB.T (cN ts) n), nm, .int (pool ts [3, n])]) hL3).trans (same_new (u := .lst (xs2 ++ [.ref R2, .int ((n : Int) - EB.T (cN ts) n), nm, .int (pool ts [3, n])])) hW3)
  have e3 := ElsAt.app (t3.mono sN3) (e2'.mono sN3)
  have s3 := s4a.trans sN3
  have w3 : upd (upd H4 L3 (.lst [.ref R2, .int ((n : Int) - EB.T (cN ts) n), nm, .int (pool ts [3, n])])) W3 (.lst (xs2 ++ [.ref R2, .int ((n : Int) - EB.T (cN ts) n), nm, .int (pool ts [3, n])])) W3 = _ := upd_same
  have lx3 : (xs2 ++ [V.ref R2, .int ((n : Int) - EB.T (cN ts) n), nm, .int (pool ts [3, n])]).length = 15 := by rw [List.length_append, lx2]; rfl
  generalize upd (upd H4 L3 (.lst [.ref R2, .int ((n : Int) - EB.T (cN ts) n), nm, .int (pool ts [3, n])])) W3 (.lst (xs2 ++ [.ref R2, .int ((n : Int) - EB.T (cN ts) n), nm, .int (pool ts [3, n])])) = HF at e3 s3 w3
  generalize xs2 ++ [V.ref R2, .int ((n : Int) - EB.T (cN ts) n), nm, .int (pool ts [3, n])] = xs3 at e3 w3 lx3
  clear t3 sN3 e2' w2' hL3 hW3 s4a lx2
  -- the fourth list
  refine ⟨_, rfl, _, rfl, _, rfl, o, ts, n, rfl, ho.mono s3, hf, hnm, hn18, fun H5 gp s5 n5 st5 => ?_⟩
  have s5a := s3.trans s5
  refine ⟨_, rfl, by show 2 ≤ sizeLine; decide, fun q1 hq1 => ⟨by show 1 ≤ sizeLine; decide, fun pl hpl => ?_⟩⟩
  have s6 := (same_new (u := .tup [.str "drink", .int 5]) hq1).trans (same_new (u := .lst [.ref q1]) hpl)
  have eq1 := upd_old (u := .lst [.ref q1]) (show upd H5 q1 (.tup [.str "drink", .int 5]) q1 = some (.tup [.str "drink", .int 5]) from upd_same) hpl
  have epl : upd (upd H5 q1 (.tup [.str "drink", .int 5])) pl (.lst [.ref q1]) pl = some (.lst [.ref q1]) := upd_same
  generalize upd (upd H5 q1 (.tup [.str "drink", .int 5])) pl (.lst [.ref q1]) = H6 at s6 eq1 epl
  have s6a := s5a.trans s6
  refine ⟨o, pl, ts, 9, [("drink", 5)], rfl, ho.mono s6a, hf, hnm, by decide, ⟨[q1], SqL.of epl, rfl, ?_⟩, by decide, ?_, fun H7 pr dr s7 pc ndr hpr => ?_⟩
  · intro i q y e1 e2
    match i, e1, e2 with
    | 0, e1, e2 =>
      cases e1
      cases e2
      exact SqT.of eq1
  · intro i y e
    match i, e with
    | 0, e =>
      cases e
      rfl
  refine ⟨pr, _, 2, _, rfl, rfl, hpr, rfl, ?_⟩
  have s7a := s6a.trans s7
  obtain ⟨ff, hff, edr⟩ := pc.ex
  have edr' : H7 dr = some (.dK (playK ts)) := by
    rw [edr]
    exact congrArg (fun z => some (HO.dK z)) (List.map_congr_left fun t m => by rw [hff t m]; rfl)
  have ndr' := s6a.free ndr
  clear hpr hff edr pc ndr
  obtain ⟨ps5, eg5, sp5⟩ := st5.ex
  refine ⟨_, rfl, x, dx, _, rfl, s7a _ _ S.ins, x, dx, a, c, l, rs, rfl, s7a _ _ S.ins, s7a _ _ S.lst, hrs, fun Lr nLr => ?_⟩
  have s8 := same_new (u := .lst rs) nLr
  have eLr : upd H7 Lr (.lst rs) Lr = some (.lst rs) := upd_same
  have nLr' := s7a.free nLr
  generalize upd H7 Lr (.lst rs) = H8 at s8 eLr
  have s8a := s7a.trans s8
  refine ⟨_, rfl, x, dx, _, rfl, s8a _ _ S.ins, lk_noo (by decide +kernel), ?_⟩
  dsimp only [tNil, tCons, tC]
  refine nth_obs (S.mono s8a) hf p1 fun H9 s9 => ?_
  have s9a := s8a.trans s9
  refine ⟨by show 4 ≤ sizeLine; decide, fun L4 hL4 => ?_⟩
  have s79 := s8.trans s9
  have s59 := (s6.trans s7).trans s79
  have ob := obsV_dp (K := K) (H := H9) (startN ts) (takeN g (startN ts)) (p : Nat) (offT g (startN ts) p) 1
  generalize eob : obsV (startN ts) (takeN g (startN ts)) (p : Nat) (offT g (startN ts) p) 1 = nb at ob
  have t4 : ElsAt K H H9 [.ref gp, .ref dr, .ref Lr, nb] [.l ((gAll ts 0 (roundsL (cN ts) n)).map stepD), .m (playK ts), .l rd, .d (vD nb)] :=
    .cons ⟨_, _, rfl, s59 _ _ eg5, dps_mono s59 (sta_dp sp5), s3.free n5⟩ (.cons ⟨_, rfl, s79 _ _ edr', ndr'⟩ (.cons ⟨_, _, rfl, s9 _ _ eLr, dps_mono s9a hrd, nLr'⟩ (.cons ob.1 .nil)))
  have w3' := (s5.trans s59) _ _ w3
  have e3' := e3.mono (s5.trans s59)
  clear ndr' edr' eg5 sp5 st5 s8 eLr nLr nLr' s8a s9 s79 s59 s7a s7 s6 s6a eq1 epl s5 s5a n5 s3 e3 w3 hq1 hpl ob
  refine ⟨W3, L4, _, _, rfl, rfl, upd_old w3' hL4, upd_same, Nat.le_of_lt (small3 (by rw [lx3]; show 15 + 4 ≤ 100000; decide)), fun W4 hW4 => ?_⟩
  have sN4 := (same_new (u := .lst [.ref gp, .ref dr, .ref Lr, nb]) hL4).trans (same_new (u := .lst (xs3 ++ [.ref gp, .ref dr, .ref Lr, nb])) hW4)
  have e4 := ElsAt.app (t4.mono sN4) (e3'.mono sN4)
  have s4 := s9a.trans sN4
  have w4 : upd (upd H9 L4 (.lst [.ref gp, .ref dr, .ref Lr, nb])) W4 (.lst (xs3 ++ [.ref gp, .ref dr, .ref Lr, nb])) W4 = _ := upd_same
  have lx4 : (xs3 ++ [V.ref gp, .ref dr, .ref Lr, nb]).length = 19 := by rw [List.length_append, lx3]; rfl
  generalize upd (upd H9 L4 (.lst [.ref gp, .ref dr, .ref Lr, nb])) W4 (.lst (xs3 ++ [.ref gp, .ref dr, .ref Lr, nb])) = HG at e4 s4 w4
  generalize xs3 ++ [V.ref gp, .ref dr, .ref Lr, nb] = xs4 at e4 w4 lx4
  clear t4 sN4 e3' w3' hL4 hW4 s9a lx3
  -- the last
  have hnf : PySem.W.notFirst K (He.ga K "Offer") (.ref (He.ga K "Offer")) = true := by simp [PySem.W.notFirst]
  refine ⟨_, rfl, _, rfl, _, rfl, o, dy, fy, o, dy, fy, rfl, rfl, s4 _ _ oi, s4 _ _ oi, hnf, o, o, ts, ts, rfl, ho.mono s4, hf, ho.mono s4, hf, fun H5 b1 s5 hb1 => ?_⟩
  have s5a := s4.trans s5
  refine ⟨_, rfl, _, rfl, o, dy, fy, o, dy, fy, rfl, rfl, s5a _ _ oi, s5a _ _ oi, hnf, o, o, ts, ts, rfl, ho.mono s5a, hf, ho.mono s5a, hf, fun H6 b2 s6 hb2 => ?_⟩
  have s6a := s5a.trans s6
  refine ⟨_, rfl, o, dy, fy, rfl, s6a _ _ oi, o, ts, rfl, ho.mono s6a, hf, fun H7 s7 => ⟨_, rfl, ?_⟩⟩
  have s7a := s6a.trans s7
  refine ⟨_, rfl, o, dy, fy, rfl, s7a _ _ oi, on _ (by decide +kernel), o, ts, 9, rfl, ho.mono s7a, hf, by decide, fun H8 d9 s8 n8 f8 => ?_⟩
  have s8a := s7a.trans s8
  refine ⟨by show 4 ≤ sizeLine; decide, fun L5 hL5 => ?_⟩
  have q1 : b1 = true := hb1.mpr fun n => Nat.le_refl _
  have q2 : b2 = false := by
    cases b2 with
    | false => rfl
    | true =>
      obtain ⟨_, m, hm⟩ := hb2.mp rfl
      exact absurd hm (Nat.lt_irrefl _)
  subst q1 q2
  have t5 : ElsAt K H H8 [.bl true, .bl false, .bl (ts.any fun t => decide (0 < t.l)), .ref d9] [.d (.bool true), .d (.bool false), .d (.bool (ts.any fun t => decide (0 < t.l))), .m (madeK ts (D (cN ts) 9))] :=
    .cons (.bl _) (.cons (.bl _) (.cons (.bl _) (.cons ⟨_, rfl, f8, s7a.free n8⟩ .nil)))
  have w4' := (s5.trans (s6.trans (s7.trans s8))) _ _ w4
  have e4' := e4.mono (s5.trans (s6.trans (s7.trans s8)))
  refine ⟨W4, L5, _, _, rfl, rfl, upd_old w4' hL5, upd_same, Nat.le_of_lt (small3 (by rw [lx4]; show 19 + 4 ≤ 100000; decide)), fun W5 hW5 => ?_⟩
  have sN5 := same_new (u := .lst [.bl true, .bl false, .bl (ts.any fun t => decide (0 < t.l)), .ref d9]) hL5
  exact k _ W5 _ cr nm nb (s8a.trans sN5) hW5 hcr hnm5 eob.symm (ElsAt.app (t5.mono sN5) (e4'.mono sN5))
end
end EB

namespace EB
open PySem PySem.Spec PyProof.Rows L2
theorem Lev.up {n : Nat} {d : PyData} (h : Lev n d) : Lev (n + 1) d := by
  induction h with
  | non => exact .non
  | bl b => exact .bl b
  | int i => exact .int i
  | str z => exact .str z
  | lst _ hl ih => exact .lst ih hl
  | tup _ hl ih => exact .tup ih hl
section
variable {P : Program} {w : World} {K : PySem.W.Frag} {mg : Str → Option Value} {base : Heap} (T : Tx K mg)
include T
def spAlikeA (K : PySem.W.Frag) : Sp := fun vs H Q _ => ∃ (a b : Addr) (xs ys : List V) (B1 B2 : Hp) (es : List El), vs = [.ref a, .ref b] ∧ H a = some (.lst xs) ∧ H b = some (.lst ys) ∧ ElsAt K B1 H xs es ∧ ElsAt K B2 H ys es ∧ (∀ e ∈ es, ElOk e) ∧ es.length ≤ 1000 ∧ ∀ H', Same H H' → Q (.bl true) H'
theorem ok_alikeA : FnR P w K mg base CX0 7 (a_law_alike K) (spAlikeA K) := by
  have IH : FnR P w K mg base CX0 6 (a_law_alike K) (fun vs H Q E => spAlike K 4 vs H Q E ∨ spAlikeD K vs H Q E) := fnR_or (j := 5) (k := 6) (ok_law_alike T) (ok_alikeD T)
  refine fnR0 (d := d_law_alike) T.F_law_alike sc_law_alike rfl (fun _ _ _ _ _ _ us hl => match us, hl with | [_, _], _ => rfl) (fun vs H Q E h => ?_) (fun cdv A outer s H vs Q E hr h => ?_)
  · obtain ⟨_, _, _, _, _, _, _, rfl, _⟩ := h
    rfl
  obtain ⟨a, b, xs, ys, B1, B2, es, rfl, ea, eb, hx, hy, hok, hlen, k⟩ := h
  have hsa : SqQ K H true a xs := SqL.of ea
  have hsb : SqQ K H true b ys := SqL.of eb
  refine ⟨_, pss_cons (ps_if (pt_val (pe_callB call_isi (by rfl) T.n_isinstance (by decide +kernel) (pa_cons (pv 1) (pa_cons (pe_bltn (v := .ty "dict") (u := .type "dict") rfl T.n_dict (by decide +kernel) rfl) pa_nil)))) pss_never pss_nil) (pss_cons (ps_if (pt_val (pe_callB call_isiT (by rfl) T.n_isinstance (by decide +kernel) (pa_cons (pv 1) (pa_cons (pe_tup (pa_cons (pe_bltn (v := .ty "tuple") (u := .type "tuple") rfl T.n_tuple (by decide +kernel) rfl) (pa_cons (pe_bltn (v := .ty "list") (u := .type "list") rfl T.n_list (by decide +kernel) rfl) pa_nil))) pa_nil)))) (pss_cons (ps_if (PW.pt (pw_or (pt_not (pt_val (pe_callB call_isiT (by rfl) T.n_isinstance (by decide +kernel) (pa_cons (pv 0) (pa_cons (pe_tup (pa_cons (pe_bltn (v := .ty "tuple") (u := .type "tuple") rfl T.n_tuple (by decide +kernel) rfl) (pa_cons (pe_bltn (v := .ty "list") (u := .type "list") rfl T.n_list (by decide +kernel) rfl) pa_nil))) pa_nil))))) (pw_or1 (pt_cmpR op_ne (pe_callB call_isi (by rfl) T.n_isinstance (by decide +kernel) (pa_cons (pv 0) (pa_cons (pe_bltn (v := .ty "list") (u := .type "list") rfl T.n_list (by decide +kernel) rfl) pa_nil))) (pe_callB call_isi (by rfl) T.n_isinstance (by decide +kernel) (pa_cons (pv 1) (pa_cons (pe_bltn (v := .ty "list") (u := .type "list") rfl T.n_list (by decide +kernel) rfl) pa_nil))) (nomark _))))) (pss_one (ps_ret pe_bl)) pss_nil) (pss_cons (ps_if (pt_cmpR op_ne (pe_callB call_len_seq (by rfl) T.n_len PySem.boot_len (pa_cons (pv 0) pa_nil)) (pe_callB call_len_seq (by rfl) T.n_len PySem.boot_len (pa_cons (pv 1) pa_nil)) (nomark _)) (pss_one (ps_ret pe_bl)) pss_nil) (pss_one (ps_ret (pe_cmpR (op_eqD hr.units) (pe_lc (own := [("_law_k", 2)]) rfl sc_law_alike.nd (pi_range1 rfl T.n_range (pa_cons (pe_callB call_len_seq (by rfl) T.n_len PySem.boot_len (pa_cons (pv 1) pa_nil)) pa_nil)) (blkOk_by (own := [("_law_k", 2)]) (N := N_law_alike) (sc := defScope s_law_alike) (by decide +kernel)) (fun _ _ _ _ _ => (pg_name (i := 2) sc_law_alike.nd rfl (Or.inl rfl) (.inr rfl))) (fun _ _ _ _ _ => (pts_one (pt_not (pt_val (pe_cR IH hr T.F_law_alike.kp T.g_law_alike pass0 (pa_cons (pe_ix (ix_seqK (K := K) rfl) (pv 0) (pv 2) (fun _ _ => rfl)) (pa_cons (pe_ix (ix_seqK (K := K) rfl) (pv 1) (pv 2) (fun _ _ => rfl)) pa_nil))))))) (fun _ _ _ _ _ => (pv 2))) (pe_lst pa_nil) (nomark _)))))) pss_nil) pss_never), ?_⟩
  have la : xs.length = es.length := Paired.length hx
  have lb : ys.length = es.length := Paired.length hy
  refine ⟨_, rfl, .ref b, .ty "dict", _, _, false, rfl, ClsV.ty "dict", hsb.ty, kitD true, false, rfl, iteF ?_⟩
  refine ⟨_, rfl, by show 2 ≤ sizeLine; decide, fun t1 h1 => ⟨.ref b, t1, _, _, _, true, rfl, upd_same, .cons (ClsV.ty "tuple") (.cons (ClsV.ty "list") .nil), (hsb.mono (same_new h1)).ty, isTL true, true, rfl, iteT ?_⟩⟩
  have s1 : Same H (upd H t1 (.tup [.ty "tuple", .ty "list"])) := same_new h1
  generalize upd H t1 (.tup [.ty "tuple", .ty "list"]) = H1 at s1
  refine ⟨_, rfl, by show 2 ≤ sizeLine; decide, fun t2 h2 => ⟨.ref a, t2, _, _, _, true, rfl, upd_same, .cons (ClsV.ty "tuple") (.cons (ClsV.ty "list") .nil), (hsa.mono (s1.trans (same_new h2))).ty, isTL true, true, rfl, iteF ?_⟩⟩
  have s2 : Same H (upd H1 t2 (.tup [.ty "tuple", .ty "list"])) := s1.trans (same_new h2)
  generalize upd H1 t2 (.tup [.ty "tuple", .ty "list"]) = H2 at s2
  refine ⟨_, rfl, .ref a, .ty "list", _, _, true, rfl, ClsV.ty "list", (hsa.mono s2).ty, kitL true, _, rfl, .ref b, .ty "list", _, _, true, rfl, ClsV.ty "list", (hsb.mono s2).ty, kitL true, rfl, _, rfl, ?_⟩
  rw [decide_eq_true rfl]
  refine iteF ?_
  refine ⟨_, rfl, a, _, rfl, (hsa.mono s2).or, _, rfl, b, _, rfl, (hsb.mono s2).or, rfl, _, rfl, ?_⟩
  rw [la, lb, decide_eq_true rfl]
  refine iteF ?_
  refine ⟨_, rfl, b, _, rfl, (hsb.mono s2).or, _, rfl, ?_, ?_, fun D hD => ?_⟩
  · have h62 : (10000 : Int) < 2 ^ 62 := by decide
    rw [lb]
    omega
  · have h62 : (10000 : Int) < 2 ^ 62 := by decide
    rw [lb]
    omega
  refine lc_range (lo := 0) (n := ((ys.length : Nat) : Int).toNat) (fun i H3 => Same H2 H3 ∧ H3 D = some (.lst [])) ⟨same_new hD, upd_same⟩ ?_ ?_
  · rintro i H3 hi ⟨s3, e3⟩
    have hi2 : i < es.length := by omega
    obtain ⟨v1, ev⟩ : ∃ v1, xs[i]? = some v1 := ⟨_, List.getElem?_eq_getElem (by omega)⟩
    obtain ⟨v2, eu⟩ : ∃ v2, ys[i]? = some v2 := ⟨_, List.getElem?_eq_getElem (by omega)⟩
    obtain ⟨e, ee, he1⟩ := LiI.paired_get hx ev
    obtain ⟨e', ee', he2⟩ := LiI.paired_get hy eu
    rw [ee] at ee'
    cases ee'
    have s23 := s2.trans s3
    have ok := hok e (List.mem_of_getElem? ee)
    refine ⟨rfl, _, rfl, _, rfl, (hsa.mono s23).ix (at_of (Int.zero_add _) ev) ?_⟩
    refine ⟨_, rfl, _, rfl, (hsb.mono s23).ix (at_of (Int.zero_add _) eu) ?_⟩
    cases e with
    | d d => exact .inl ⟨v1, v2, d, rfl, dp_mono s23 he1, dp_mono s23 he2, ok.2.up.up, fun H4 s4 => ⟨true, rfl, iteF ⟨s3.trans s4, s4 _ _ e3⟩⟩⟩
    | l ds =>
      obtain ⟨p, us, rfl, ep, dp, _⟩ := he1
      obtain ⟨q, vs, rfl, eq, dq, _⟩ := he2
      exact .inl ⟨.ref p, .ref q, .list ds, rfl, .lst (SqL.of (s23 _ _ ep)) (dps_mono s23 dp), .lst (SqL.of (s23 _ _ eq)) (dps_mono s23 dq), .lst (fun d hd => (ok.2.1 d hd).up) ok.2.2, fun H4 s4 => ⟨true, rfl, iteF ⟨s3.trans s4, s4 _ _ e3⟩⟩⟩
    | m kvs =>
      obtain ⟨p, rfl, ep, _⟩ := he1
      obtain ⟨q, rfl, eq, _⟩ := he2
      exact .inr ⟨p, q, kvs, rfl, s23 _ _ ep, s23 _ _ eq, ok.1, ok.2, fun H4 s4 => ⟨true, rfl, iteF ⟨s3.trans s4, s4 _ _ e3⟩⟩⟩
  rintro H3 ⟨s3, e3⟩
  refine ⟨Nat.zero_le _, fun E2 hE2 => ?_⟩
  exact ⟨.list [], .list [], Dp.lst (SqL.of (upd_old e3 hE2)) .nil, Dp.lst (SqL.of upd_same) .nil, shapedN, shapedN, k _ (s2.trans (s3.trans (same_new hE2)))⟩
end
end EB

namespace EB
open PySem PySem.Spec PyProof.Rows L2
theorem obs_okN {K : PySem.W.Frag} {H : Hp} {a x dx : Addr} {ts : List Tr} {R : Hp → Prop} {E : XK} (ho : OfAt K H a ts) (hf : Fair ts) (nx : H x = none) (nd : H dx = none) (ned : dx ≠ x)
    (k : ∀ H' c lo, Same H H' → H' x = some (.ins (He.ga K "BottleObserver") dx (obf a c lo)) → CandNew K (upd H lo (.lst [])) H' c (startN ts) (early0 ts) 1 [0] → H' lo = some (.lst []) → H lo = none → R H') : spObsI K [.ref x, .ref a] (upd (upd H dx (.own x)) x (.ins (He.ga K "BottleObserver") dx [])) (fun v H2 => v = .non ∧ R H2) E := by
  have s : Same H (upd (upd H dx (.own x)) x (.ins (He.ga K "BottleObserver") dx [])) := (same_new nd).trans (same_new (by rw [upd_ne ned.symm]; exact nx))
  exact ⟨x, a, dx, H, ts, rfl, s, nx, upd_same, ho, hf, fun H' c l s' h1 h2 h3 h4 => ⟨rfl, k H' c l s' h1 h2 h3 h4⟩⟩
theorem ElAt.hid {K : PySem.W.Frag} {H0 B H : Hp} {h l : Addr} {x : V} {e : El} (g : HS H0 H h l) (nh : ∀ b, B b = none → b ≠ h ∧ b ≠ l) (ok : ElOk e) (hE : ElAt K B H x e) : ElAt K B (hid2 H h l) x e := by
  cases e with
  | d d => exact dp_tups (fun a xs t => g.tup t) ok.1 hE
  | l ds =>
    obtain ⟨a, vs, h1, h2, h3, h4⟩ := hE
    exact ⟨a, vs, h1, HS.keep (H0 := H0) h2 (nh a h4).1 (nh a h4).2, dps_tups (fun a xs t => g.tup t) ok.1 h3, h4⟩
  | m kvs =>
    obtain ⟨a, h1, h2, h3⟩ := hE
    exact ⟨a, h1, HS.keep (H0 := H0) h2 (nh a h3).1 (nh a h3).2, h3⟩
theorem ElsAt.hid {K : PySem.W.Frag} {H0 B H : Hp} {h l : Addr} (g : HS H0 H h l) (nh : ∀ b, B b = none → b ≠ h ∧ b ≠ l) : ∀ {xs : List V} {es : List El}, (∀ e ∈ es, ElOk e) → ElsAt K B H xs es → ElsAt K B (hid2 H h l) xs es
  | _, _, _, .nil => .nil
  | _, _, ok, .cons r t => .cons (r.hid g nh (ok _ (List.mem_cons_self ..))) (ElsAt.hid g nh (fun e m => ok e (List.mem_cons_of_mem _ m)) t)
/-- a result on its way: lists and dicts may have been changed -/
def Kd (K : PySem.W.Frag) (B G : Hp) (V2 : Addr) (m : Nat) (x : V) : El → Prop
  | .d d => Dp K G x d ∧ noL d = true
  | .l _ => ∃ a zs, x = .ref a ∧ G a = some (.lst zs) ∧ zs.length ≤ m ∧ B a = none ∧ a ≠ V2
  | .m _ => ∃ a kvs, x = .ref a ∧ G a = some (.dK kvs) ∧ B a = none
theorem Kd.up {K : PySem.W.Frag} {B G : Hp} {V2 : Addr} {m : Nat} {x : V} {e : El} (h : Kd K B G V2 m x e) : Kd K B G V2 (m + 1) x e := by
  cases e with
  | d d => exact h
  | l ds =>
    obtain ⟨a, zs, h1, h2, h3, h4⟩ := h
    exact ⟨a, zs, h1, h2, by omega, h4⟩
  | m kvs => exact h
theorem sqT_updL {K : PySem.W.Frag} {H : Hp} {a D : Addr} {xs ys : List V} {o : HO} (e : H D = some (.lst ys)) (h : SqT K H a xs) : SqT K (upd H D o) a xs := by
  rcases h with (h | ⟨u, h⟩) | h
  · exact .inl (.inl (by rw [upd_ne (ne_of h e (by intro z; cases z))]; exact h))
  · exact .inl (.inr ⟨u, by rw [upd_ne (ne_of h e (by intro z; cases z))]; exact h⟩)
  · exact .inr h
theorem Kd.list {K : PySem.W.Frag} {B G : Hp} {V2 b : Addr} {m : Nat} {x : V} {e : El} {zs ys : List V} (h : Kd K B G V2 m x e) (eb : G b = some (.lst zs)) (hl : ys.length ≤ m + 1) : Kd K B (upd G b (.lst ys)) V2 (m + 1) x e := by
  cases e with
  | d d => exact ⟨dp_tups (fun a xs t => sqT_updL eb t) h.2 h.1, h.2⟩
  | l ds =>
    obtain ⟨a, us, h1, h2, h3, h4⟩ := h
    by_cases q : a = b
    · exact ⟨a, ys, h1, by rw [q, upd_same], hl, h4⟩
    · exact ⟨a, us, h1, by rw [upd_ne q]; exact h2, by omega, h4⟩
  | m kvs =>
    obtain ⟨a, us, h1, h2, h3⟩ := h
    exact ⟨a, us, h1, by rw [upd_ne (ne_of h2 eb (by intro z; cases z))]; exact h2, h3⟩
theorem Kd.dict {K : PySem.W.Frag} {B G : Hp} {V2 b : Addr} {m : Nat} {x : V} {e : El} {zs ys : List (Key × V)} (h : Kd K B G V2 m x e) (eb : G b = some (.dK zs)) : Kd K B (upd G b (.dK ys)) V2 (m + 1) x e := by
  cases e with
  | d d => exact ⟨dp_tups (fun a xs t => sqT_updK eb t) h.2 h.1, h.2⟩
  | l ds =>
    obtain ⟨a, us, h1, h2, h3, h4⟩ := h
    exact ⟨a, us, h1, by rw [upd_ne (ne_of h2 eb (by intro z; cases z))]; exact h2, by omega, h4⟩
  | m kvs =>
    obtain ⟨a, us, h1, h2, h3⟩ := h
    by_cases q : a = b
    · exact ⟨a, ys, h1, by rw [q, upd_same], h3⟩
    · exact ⟨a, us, h1, by rw [upd_ne q]; exact h2, h3⟩
theorem dp_ty {K : PySem.W.Frag} {G : Hp} {x : V} {d : PyData} (n : noL d = true) (h : Dp K G x d) : ∃ t : Value, TyX K G x t ∧ PySem.W.kitOne K t (.type "list") = some false ∧ PySem.W.kitOne K t (.type "dict") = some false := by
  cases h with
  | non => exact ⟨_, .base .non, kit_ty (by decide +kernel), kit_ty (by decide +kernel)⟩
  | bl b => exact ⟨_, .base (.bl b), kit_ty (by decide +kernel), kit_ty (by decide +kernel)⟩
  | int i => exact ⟨_, .base (.int i), kit_ty (by decide +kernel), kit_ty (by decide +kernel)⟩
  | str z => exact ⟨_, .base (.str z), kit_ty (by decide +kernel), kit_ty (by decide +kernel)⟩
  | lst _ _ =>
    rw [noL] at n
    cases n
  | tup h _ => exact ⟨_, tyT h, kit_ty (by decide +kernel), kit_ty (by decide +kernel)⟩
theorem left_shaped {k : Str} (i : Int) (h : PyData.strOk k = true) : SeqAt.shaped (.list [.tuple [.str "left", .str k, .int i]]) = true := by
  unfold SeqAt.shaped
  rw [Bool.and_eq_true, decide_eq_true_eq]
  have h2 : PyData.strOk "left" = true := by decide +kernel
  refine ⟨by simp only [PyData.canLay0, PyData.canLayAll0, h, h2, Bool.and_true], ?_⟩
  simp only [PyData.depthAll, PyData.depth]
  omega
theorem kds_of {K : PySem.W.Frag} {B Hm G : Hp} {V2 : Addr} (nV : Hm V2 = none) (s : Same Hm G) : ∀ {xs : List V} {es : List El}, (∀ e ∈ es, ElOk e) → ElsAt K B Hm xs es → Paired (Kd K B G V2 10000) xs es
  | _, _, _, .nil => .nil
  | x :: _, e :: _, ok, .cons r t => .cons (by
      have o := ok e (List.mem_cons_self ..)
      cases e with
      | d d => exact ⟨dp_mono s r, o.1⟩
      | l ds =>
        obtain ⟨a, vs, h1, h2, h3, h4⟩ := r
        exact ⟨a, vs, h1, s _ _ h2, by rw [dps_len h3]; exact o.2.2, h4, ne_of_none h2 nV⟩
      | m kvs =>
        obtain ⟨a, h1, h2, h3⟩ := r
        exact ⟨a, kvs, h1, s _ _ h2, h3⟩) (kds_of nV s (fun e m => ok e (List.mem_cons_of_mem _ m)) t)
theorem at_heap {R : V → Hp → Prop} {v : V} {H1 H2 : Hp} (e : H1 = H2) (h : R v H1) : R v H2 := e ▸ h
theorem play_nice {ts : List Tr} (h : (ts.map Tr.k).Nodup) : KNice (playK ts) := by
  refine ⟨?_, fun p hp => ?_, fun p hp => ?_⟩
  · unfold playK
    rw [List.map_map]
    unfold List.Nodup at h ⊢
    rw [List.pairwise_map] at h ⊢
    exact h.imp fun n e => n (Sum.inr.inj e)
  · obtain ⟨t, _, rfl⟩ := List.mem_map.mp hp
    exact ⟨_, rfl⟩
  · obtain ⟨t, _, rfl⟩ := List.mem_map.mp hp
    exact ⟨_, rfl⟩
theorem allE_ok {K : PySem.W.Frag} {ts : List Tr} {n cr : Nat} {nm nb : V} {rd : List PyData} (f : Fair ts) (hnm : nmOk ts) (hn : n ≤ 1000000000000000000) (h1 : nmV ts nm) (h2 : noL (vD nb) = true ∧ Lev 2 (vD nb)) (h3 : noLA rd = true ∧ (∀ d ∈ rd, Lev 2 d) ∧ rd.length ≤ 10000) : ∀ e ∈ allE ts n cr nm nb rd, ElOk e := by
  have hl := f.g.1
  have hints : ∀ ns : List Int, ns.length ≤ 10000 → ElOk (.l (ns.map PyData.int)) := fun ns h => ⟨noLA_ints ns, fun d hd => by
    obtain ⟨i, _, rfl⟩ := List.mem_map.mp hd
    exact .int i, by rw [List.length_map]; exact h⟩
  have made : ∀ d, ElOk (.m (madeK ts d)) := fun d => ⟨(madeK_nice ts d).1, Nat.le_trans (madeK_nice ts d).2 hl⟩
  have sc : ∀ d : PyData, noL d = true → Lev 2 d → ElOk (.d d) := fun d a b => ⟨a, b⟩
  have nt : ∀ t, noL (trD t) = true := fun t => by simp [trD, noL, noLA]
  have nst : ∀ x, noL (stepD x) = true := fun t => by simp [stepD, noL, noLA]
  have lt : ∀ t, Lev 1 (trD t) := fun t => .tup (fun d hd => by
    simp only [List.mem_cons, List.not_mem_nil, or_false] at hd
    rcases hd with rfl | rfl | rfl
    · exact .str _
    · exact .int _
    · exact .int _) (by show 3 ≤ 10000; decide)
  have lst : ∀ x, Lev 2 (stepD x) := fun t => .tup (fun d hd => by
    simp only [List.mem_cons, List.not_mem_nil, or_false] at hd
    rcases hd with rfl | rfl
    · exact .str _
    · exact .int _) (by show 2 ≤ 10000; decide)
  unfold allE
  simp only [List.cons_append, List.nil_append, List.forall_mem_cons, List.not_mem_nil, false_implies, implies_true, and_true]
  refine ⟨sc _ ?_ ?_, sc _ ?_ ?_, sc _ ?_ ?_, sc _ (by simp [noL]) (.int _), sc _ (by simp [noL]) (.int _), sc _ (by simp [noL]) (.int _), sc _ (by simp [noL]) (.bl _), made _, ⟨(leftK_nice ts _).1, Nat.le_trans (leftK_nice ts _).2 hl⟩, hints _ (Nat.le_trans (roundsL_len f hn) (by decide)), sc _ (by simp [noL]) (.int _), hints _ ?_, sc _ (by simp [noL]) (.int _), (h1.dp (K := K) (H := fun _ => none)).2, sc _ (by simp [noL]) (.int _), ⟨noLA_map nst _, ?_, ?_⟩, ⟨play_nice hnm.1, ?_⟩, h3, h2, sc _ (by simp [noL]) (.bl _), sc _ (by simp [noL]) (.bl _), sc _ (by simp [noL]) (.bl _), made _⟩
  · rw [noL]
    exact noLA_map nt _
  · refine .tup (fun d hd => ?_) (by rw [List.length_map]; omega)
    obtain ⟨t, _, rfl⟩ := List.mem_map.mp hd
    exact lt t
  · rw [noL]
    exact noLA_map (fun z => by simp [noL]) _
  · refine .tup (fun d hd => ?_) (by rw [List.length_map, List.length_map]; omega)
    obtain ⟨t, _, rfl⟩ := List.mem_map.mp hd
    exact .str _
  · simp [noL, noLA]
  · refine .tup (fun d hd => ?_) (by show 2 ≤ 10000; decide)
    simp only [List.mem_cons, List.not_mem_nil, or_false] at hd
    rcases hd with rfl | rfl <;> exact .int _
  · rw [List.length_map]
    exact Nat.le_trans (missL_len _ _ _) (by decide)
  · intro d hd
    obtain ⟨x, _, rfl⟩ := List.mem_map.mp hd
    exact lst x
  · rw [List.length_map]
    have h4 := gAll_len hl (roundsL (cN ts) n) 0
    have h5 := roundsL_len f hn
    omega
  · unfold playK
    rw [List.length_map]
    exact hl
section
variable {w : World} {K : PySem.W.Frag} {mg : Str → Option Value} {base : Heap} (T : Tx K mg)
include T
def spLaw (K : PySem.W.Frag) : Sp := fun vs H Q _ => ∃ (a : Addr) (ns : List Int), vs = [.ref a] ∧ SqL K H a (ns.map V.int) ∧ ns.length ≤ 63 ∧ ∀ H', Q (.bl true) H'
theorem ok_law (hK : K.In base) : FnOk PX w K mg base CX0 13 (a_law K) T.fd_law ["_law_script"] (spLaw K) := by
  refine fnK0 (d := d_law) T.F_law sc_law (fun vs H Q E h => ?_) (fun cdv A outer s H vs Q E hr h => ?_)
  · obtain ⟨a, ns, rfl, _⟩ := h
    rfl
  obtain ⟨a, ns, rfl, hS, hl, k⟩ := h
  refine ⟨_, (pss_cons (ps_set (i := 1) sc_law.nd rfl (Or.inl rfl) (pe_cR (ok_law_mix T) (hr.mono (by decide)) T.F_law_mix.kp T.g_law_mix pass0 (pa_cons (pv 0) (pa_cons pe_int pa_nil)))) (pss_cons (ps_par (i := 2) (j := 3) (by rfl) sc_law.nd rfl rfl (by decide) rfl rfl (pa_cons (pe_cR (ok_law_offer T) (hr.mono (by decide)) T.F_law_offer.kp T.g_law_offer pass0 (pa_cons (pe_cR (ok_law_trades T) (hr.mono (by decide)) T.F_law_trades.kp T.g_law_trades pass0 (pa_cons (pv 1) (pa_cons pe_int (pa_cons pe_int pa_nil)))) pa_nil)) (pa_cons (pe_cR (ok_law_next T) (hr.mono (by decide)) T.F_law_next.kp T.g_law_next pass0 (pa_cons (pv 1) (pa_cons (pe_ix ix_list (pe_lst (pa_cons pe_int (pa_cons (pe_op op_pow pe_int pe_int) pa_nil))) (pe_cR (ok_law_next T) (hr.mono (by decide)) T.F_law_next.kp T.g_law_next pass0 (pa_cons (pv 1) (pa_cons pe_int pa_nil))) (fun _ _ => rfl)) pa_nil))) pa_nil)) (by rfl)) (pss_cons (ps_par (i := 4) (j := 5) (by rfl) sc_law.nd rfl rfl (by decide) rfl rfl (pa_cons (StX.pe_makeR T.mk_BottleObserver (ok_BottleObserver_init T) (hr.mono (by decide)) (by rfl) T.g_BottleObserver pass0 (pa_cons (pv 2) pa_nil)) (pa_cons (pe_dget (hu_of hr) (pe_methR (pv 2) T.k_Offer T.m_Offer_left_over (ok_Offer_left_over T) (hr.mono (by decide)) pass0 (pa_cons pe_int pa_nil)) (pe_ix ix_tup (pe_prop (pv 2) T.k_Offer T.p_Offer_kinds (ok_Offer_kinds T) (hr.mono (by decide)) (b_Offer_kinds T) .nil pass0 rfl) pe_int (fun _ _ => rfl)) (fun _ _ => rfl)) pa_nil)) (by rfl)) (pss_cons (ps_expr (pe_methR (pv 4) T.k_BottleObserver T.m_BottleObserver_see_left (okX_BottleObserver_see_left T hK) (hr.mono (by decide)) passG (pa_cons (pe_ix ix_tup (pe_prop (pv 2) T.k_Offer T.p_Offer_kinds (ok_Offer_kinds T) (hr.mono (by decide)) (b_Offer_kinds T) .nil pass0 rfl) pe_int (fun _ _ => rfl)) (pa_cons (pv 5) pa_nil)))) (pss_cons (ps_set (i := 6) sc_law.nd rfl (Or.inl rfl) (pe_cR (ok_law_all T hK) (hr.mono (by decide)) T.F_law_all.kp T.g_law_all pass0 (pa_cons (pv 2) (pa_cons (pv 4) (pa_cons (pv 3) pa_nil))))) (pss_cons (ps_for PassesOwn.never rfl (pi_range1 rfl T.n_range (pa_cons (pe_op op_add pe_int (pe_cR (ok_law_next T) (hr.mono (by decide)) T.F_law_next.kp T.g_law_next pass0 (pa_cons (pv 1) (pa_cons pe_int pa_nil)))) pa_nil)) (pg_name (i := 7) sc_law.nd rfl (Or.inl rfl)) (pss_cons (ps_set (i := 8) sc_law.nd rfl (Or.inl rfl) (pe_cR (ok_law_all T hK) (hr.mono (by decide)) T.F_law_all.kp T.g_law_all pass0 (pa_cons (pv 2) (pa_cons (pv 4) (pa_cons (pv 3) pa_nil))))) (pss_cons (ps_if (PW.pt (pw_or (pt_not (pt_val (pe_cR (ok_alikeA T) (hr.mono (by decide)) T.F_law_alike.kp T.g_law_alike pass0 (pa_cons (pv 8) (pa_cons (pv 6) pa_nil))))) (pw_or1 (pt_cmpR (op_neD hr.units) (pe_prop (pv 4) T.k_BottleObserver T.p_BottleObserver_records (ok_BottleObserver_records T) (hr.mono (by decide)) (b_BottleObserver_records T) .nil pass0 rfl) (pe_lst (pa_cons (pe_tup (pa_cons pe_str (pa_cons (pe_ix ix_tup (pe_prop (pv 2) T.k_Offer T.p_Offer_kinds (ok_Offer_kinds T) (hr.mono (by decide)) (b_Offer_kinds T) .nil pass0 rfl) pe_int (fun _ _ => rfl)) (pa_cons (pv 5) pa_nil)))) pa_nil)) (nomark _))))) (pss_one (ps_ret pe_bl)) pss_nil) (pss_cons (ps_for PassesOwn.never rfl (pi_list (pv 8)) (pg_name (i := 9) sc_law.nd rfl (Or.inl rfl)) (pss_one (ps_if (pt_val (pe_callB call_isi (by rfl) T.n_isinstance (by decide +kernel) (pa_cons (pv 9) (pa_cons (pe_bltn (v := .ty "list") (u := .type "list") rfl T.n_list (by decide +kernel) rfl) pa_nil)))) (pss_one (ps_expr (pe_bm PySem.F.plainAttrs_list PySem.F.slot_list_append PySem.F.type_list_append mt_append (pv 9) (pa_cons pe_int pa_nil)))) (pss_one (ps_if (pt_val (pe_callB call_isi (by rfl) T.n_isinstance (by decide +kernel) (pa_cons (pv 9) (pa_cons (pe_bltn (v := .ty "dict") (u := .type "dict") rfl T.n_dict (by decide +kernel) rfl) pa_nil)))) (pss_one (ps_expr (pe_dclear (pv 9)))) pss_nil))))) (pss_one (ps_set (i := 6) sc_law.nd rfl (Or.inl rfl) (pe_ifExp (pt_cmpR op_eq (pv 7) pe_int (nomark _)) (pe_cR (ok_law_all T hK) (hr.mono (by decide)) T.F_law_all.kp T.g_law_all pass0 (pa_cons (pv 2) (pa_cons (pv 4) (pa_cons (pv 3) pa_nil)))) (pv 6)))))))) (pss_one (ps_ret pe_bl)))))))), ?_⟩
  refine ⟨_, rfl, a, ns, 14, rfl, hS, hl, by decide, by decide, fun H1 h l hs1 => ?_⟩
  refine ⟨_, rfl, h, l, 2, 6, H, rfl, by decide, by decide, by decide, by decide, hs1, fun H3 p ts hs3 tr3 hne dr => ?_⟩
  have hf := dr.fair
  have hnm := dr.nm
  refine ⟨p, ts, rfl, tr3, hf, hne, hnm, fun H4 o s4 of4 => ?_⟩
  have hs4 := hs3.grow s4
  have oB := HS.of_ hs3 s4 of4
  refine ⟨_, rfl, _, _, rfl, rfl, ⟨by decide, by decide, by decide⟩, by show 2 ≤ sizeLine; decide, fun L nL => ?_⟩
  dsimp only [tC, tNil, tCons]
  rw [show (10 : Int) ^ Int.toNat 17 = 100000000000000000 from rfl]
  have dL := hs4.new nL
  have hs5 := hs4.grow (same_new (u := .lst [.int 50, .int 100000000000000000]) nL)
  have eL : upd H4 L (.lst [.int 50, .int 100000000000000000]) L = some (.lst [.int 50, .int 100000000000000000]) := upd_same
  have oB5 := oB.mono (hid2_mono (h := h) (l := l) (same_new (u := .lst [.int 50, .int 100000000000000000]) nL))
  generalize upd H4 L (.lst [.int 50, .int 100000000000000000]) = H5 at hs5 eL oB5
  refine ⟨_, rfl, h, l, 2, hid2 H5 h l, rfl, by decide, by decide, hs5.re, fun H6 r hs6 r0 r1 => ?_⟩
  have eL6 := hs6.same _ _ (HS.keep (H0 := H) eL dL.1 dL.2)
  have oB6 := oB5.mono hs6.sub
  have hs6' := hs5.down hs6
  obtain ⟨lim, elim, l0, l1⟩ : ∃ lim : Int, atI [V.int 50, V.int 100000000000000000] r = some (.int lim) ∧ 0 < lim ∧ lim ≤ 100000000000000000 := by
    rcases (show r = 0 ∨ r = 1 by omega) with z | z
    · exact ⟨50, by rw [z]; rfl, by decide, by decide⟩
    · exact ⟨100000000000000000, by rw [z]; rfl, by decide, by decide⟩
  refine ⟨L, _, _, _, rfl, rfl, SqL.of eL6, elim, h, l, lim, hid2 H6 h l, rfl, l0, by omega, hs6'.re, fun H8 m0 hs8 m1 m2 => ?_⟩
  have oB8 := oB6.mono hs8.sub
  obtain ⟨n, rfl⟩ := Int.eq_ofNat_of_zero_le m1
  have hn : n ≤ 100000000000000000 := by omega
  have hs8' := hs8.re
  clear hs8 hs6 hs6' hs5 oB oB5 oB6 eL eL6 elim l0 l1 m1 m2 dL nL hs4 s4 of4 hs3 hs1 r0 r1
  generalize hB : hid2 H8 h l = B at hs8' oB8
  clear hB
  obtain ⟨dy, fy, oi, on⟩ := oB8.ins
  obtain ⟨t0, et0⟩ : ∃ t0, ts[0]? = some t0 := ⟨_, List.getElem?_eq_getElem (List.length_pos_iff.mpr hne)⟩
  have ht0 := List.mem_of_getElem? et0
  refine ⟨_, _, rfl, ?_⟩
  -- the observer
  refine ⟨_, rfl, fun x dx nx nd ned => obs_okN (oB8.mono hs8'.same) hf nx nd ned fun H9 c lo s9 e9 cn elo nlo => ?_⟩
  have sB9 := hs8'.same.trans s9
  refine ⟨_, rfl, o, dy, fy, rfl, sB9 _ _ oi, on _ (by decide +kernel), o, ts, 9, rfl, oB8.mono sB9, hf, by decide, fun H10 pd s10 hpd => ?_⟩
  have sB10 := sB9.trans s10
  have hkd : t0.k ∈ ts.map Tr.k := List.mem_map.mpr ⟨t0, ht0, rfl⟩
  obtain ⟨cv, cv0, cv1, ecv⟩ := left_has hf.g hkd (D (cN ts) 9)
  refine ⟨_, rfl, o, dy, fy, rfl, sB10 _ _ oi, o, ts, rfl, oB8.mono sB10, hf.g.1, fun H11 kp s11 hkp => ⟨kp, _, 0, _, rfl, rfl, hkp, at_of (j := 0) rfl (by rw [List.getElem?_map, List.getElem?_map, et0]; rfl), pd, .int cv, rfl, ?_, ?_⟩⟩
  · have z := DGet.k (k := .inr t0.k) (s11 _ _ hpd)
    rw [ecv] at z
    exact z
  refine ⟨_, _, rfl, ?_⟩
  have sB11 := sB10.trans s11
  have s911 := s10.trans s11
  clear s10 s11 sB10 hpd hkp sB9
  -- what is left of nine
  refine ⟨_, rfl, x, dx, _, rfl, s911 _ _ e9, lk_noo (by decide +kernel), _, rfl, o, dy, fy, rfl, sB11 _ _ oi, o, ts, rfl, oB8.mono sB11, hf.g.1, fun H12 kq s12 hkq => ⟨kq, _, 0, _, rfl, rfl, hkq, at_of (j := 0) rfl (by rw [List.getElem?_map, List.getElem?_map, et0]; rfl), _, rfl, x, t0.k, cv, rfl, dx, o, c, lo, ts, fun _ => true, 1, [], ?_, hf, by decide, by decide, ?_, hkd, fun hc => ?_, fun hc H13 c' r s13 cn' nc' er nr => ?_⟩⟩
  · exact ⟨(s911.trans s12) _ _ e9, oB8.mono (sB11.trans s12), by rw [← early0_take, offs0_take]; exact cn.at_.mono (s911.trans s12), (s911.trans s12) _ _ elo, fun n _ => rfl, by decide⟩
  · rw [Nat.lcm_one_left]
    exact Nat.le_trans (span_pos2 hf _).2 (by decide)
  · exfalso
    have hb : (fun i => (fun _ => true) i && agB ts (.left t0.k cv) i) 9 = true := by
      show decide (valV (leftK ts (D (cN ts) 9)) (.inr t0.k) = some (.int cv)) = true
      exact decide_eq_true ecv
    have h1 := cnt_mono (fun i => (fun _ => true) i && agB ts (.left t0.k cv) i) (show 9 + 1 ≤ 1000000000000000001 by omega)
    rw [cnt_t hb] at h1
    omega
  have sB13 := sB11.trans (s12.trans s13)
  have e13 := (s911.trans (s12.trans s13)) _ _ e9
  have elo13 := (s911.trans (s12.trans s13)) _ _ elo
  have e12 := (s911.trans s12) _ _ e9
  have elo12 := (s911.trans s12) _ _ elo
  obtain ⟨dc, ea, oa, c1, c2, c3, c4, c5, c6⟩ := cn'.ex
  rw [Nat.lcm_one_left] at c1 c3
  have xlo : x ≠ lo := ne_of e13 elo13 (by intro z; cases z)
  have nxh := hs8'.new nx
  have nloh := hs8'.new nlo
  have hs13 := hs8'.grow (s9.trans (s911.trans (s12.trans s13)))
  have hsA := (hs13.mut (o := .ins (He.ga K "BottleObserver") dx (obf o c' lo)) (hs8'.same.free nx) nxh.1 nxh.2).mut (o := .lst ([] ++ [V.ref r])) (hs8'.same.free nlo) nloh.1 nloh.2
  have new : ∀ b u, H13 b = some u → H12 b = none → upd (upd H13 x (.ins (He.ga K "BottleObserver") dx (obf o c' lo))) lo (.lst ([] ++ [V.ref r])) b = some u := fun b u z n => by
    rw [upd_ne (ne_of_none elo12 n).symm, upd_ne (ne_of_none e12 n).symm]
    exact z
  have hs12 := hs8'.grow (s9.trans (s911.trans s12))
  have a1 := new _ _ c1 c4
  have a2 := new _ _ c2 c5
  have a3 := new _ _ c3 c6
  have a4 := new _ _ er nr
  have n2 := hs12.new c5
  have n3 := hs12.new c6
  have n1 := hs12.new c4
  have a5 : upd (upd H13 x (.ins (He.ga K "BottleObserver") dx (obf o c' lo))) lo (.lst ([] ++ [V.ref r])) x = some (.ins (He.ga K "BottleObserver") dx (obf o c' lo)) := by rw [upd_ne xlo, upd_same]
  have a6 : upd (upd H13 x (.ins (He.ga K "BottleObserver") dx (obf o c' lo))) lo (.lst ([] ++ [V.ref r])) lo = some (.lst [V.ref r]) := upd_same
  have P2 := span_pos2 hf (.left t0.k cv)
  have mk : ∀ G, Same B G → G x = some (.ins (He.ga K "BottleObserver") dx (obf o c' lo)) → G lo = some (.lst [V.ref r]) → G c' = some (.ins (He.ga K "Candidates") dc (cfs (startN ts) ea ((En.left t0.k cv).span ts : Nat) oa)) → G ea = some (.lst ((takeN (fun i => (fun _ => true) i && agB ts (En.left t0.k cv) i) (startN ts)).map V.int)) → G oa = some (.lst ((offT (fun i => (fun _ => true) i && agB ts (En.left t0.k cv) i) (startN ts) ((En.left t0.k cv).span ts)).map V.int)) → Sees K G x dx o c' lo ts (fun i => (fun _ => true) i && agB ts (.left t0.k cv) i) ((En.left t0.k cv).span ts) [V.ref r] :=
    fun G b1 b2 b3 b4 b5 b6 => ⟨b2, oB8.mono b1, ⟨dc, ea, oa, b4, SqL.of b5, SqL.of b6⟩, b3, agB_rpt hf (.left t0.k cv), P2.1⟩
  generalize eHA : upd (upd H13 x _) lo _ = HA
  rw [show upd (upd H13 x (.ins (He.ga K "BottleObserver") dx (obf o c' lo))) lo (.lst ([] ++ [V.ref r])) = HA from eHA] at a1 a2 a3 a4 a5 a6 hsA
  clear eHA
  have SA := mk HA hsA.same a5 a6 a1 a2 a3
  clear c1 c2 c3 c4 c5 c6 new hs12 hs13 er nr nc' cn' s13 e12 elo12 e13 elo13 s12 hkq sB13 sB11 s911 hc cn elo nlo e9 s9 nx nd ned hs8'
  have rA : ∀ r' G, SqT K G r' (En.left t0.k cv).vs → DpAll K G [V.ref r'] [.tuple [.str "left", .str t0.k, .int cv]] := fun r' G hG => .cons (.tup hG (.cons (.str _) (.cons (.str _) (.cons (.int _) .nil)))) .nil
  obtain ⟨rd, erd⟩ : ∃ rd : List PyData, rd = [.tuple [.str "left", .str t0.k, .int cv]] := ⟨_, rfl⟩
  have okrd : noLA rd = true ∧ (∀ d ∈ rd, Lev 2 d) ∧ rd.length ≤ 10000 := by
    rw [erd]
    refine ⟨by simp [noLA, noL], fun d hd => ?_, by show 1 ≤ 10000; decide⟩
    rw [List.mem_singleton.mp hd]
    refine .tup (fun e he => ?_) (by show 3 ≤ 10000; decide)
    simp only [List.mem_cons, List.not_mem_nil, or_false] at he
    rcases he with rfl | rfl | rfl
    · exact .str _
    · exact .str _
    · exact .int _
  have shr : SeqAt.shaped (.list rd) = true := by
    rw [erd]
    refine left_shaped _ ?_
    have hm := hkd
    rw [dr.ks] at hm
    exact (by decide +kernel : ∀ k ∈ kinds3, PyData.strOk k = true) _ (List.mem_of_mem_take hm)
  rw [← erd] at rA
  have hn18 : n ≤ 1000000000000000000 := by omega
  have p4 : (En.left t0.k cv).span ts ≤ 1000000 := Nat.le_trans P2.2 (by decide)
  refine ⟨_, rfl, _, rfl, _, rfl, o, x, dx, o, c', lo, ts, n, _, _, _, rd, rfl, oB8.mono hsA.same, hf, hnm, hn, SA, p4, (by show 1 ≤ 1000; decide), rA _ _ (SqT.of a4), fun Hn W xs cr nm nb sp nW hcr hnm5 hnb hE => ?_⟩
  have okE := allE_ok (K := K) (cr := cr) (nm := nm) (nb := nb) (rd := rd) hf hnm hn18 hnm5 (by rw [hnb]; exact (obsV_dp (K := K) (H := Hn) _ _ _ _ _).2) okrd
  have hsp := hsA.grow sp
  have nWh := hsp.new nW
  have hsW := hsp.grow (same_new (u := .lst xs) nW)
  have sAW := sp.trans (same_new (u := .lst xs) nW)
  have eW : upd Hn W (.lst xs) W = some (.lst xs) := upd_same
  have hEW := hE.mono (same_new (u := .lst xs) nW)
  generalize upd Hn W (.lst xs) = Hk at hsW sAW eW hEW
  have hEC := ElsAt.hid hsW (fun b z => hsA.new z) okE hEW
  have eWC := HS.keep (H0 := B) eW nWh.1 nWh.2
  obtain ⟨mm, ii, nns, g1, g2, _⟩ := hsA.ex
  have c1' := HS.keep (H0 := B) (sAW _ _ a1) n1.1 n1.2
  have c2' := HS.keep (H0 := B) (sAW _ _ a2) n2.1 n2.2
  have c3' := HS.keep (H0 := B) (sAW _ _ a3) n3.1 n3.2
  have c4' := HS.keepT hsW (sAW _ _ a4)
  have c5' := HS.keep (H0 := B) (sAW _ _ a5) nxh.1 nxh.2
  have c6' := HS.keep (H0 := B) (sAW _ _ a6) nloh.1 nloh.2
  have SC := mk _ hsW.sub c5' c6' c1' c2' c3'
  have oC := oB8.mono hsW.sub
  have oiC := hsW.sub _ _ oi
  dsimp only [gName]
  refine ⟨_, rfl, h, l, 3, hid2 Hk h l, rfl, by decide, by decide, hsW.re, fun Hd z hsd z0 z1 => ?_⟩
  have sCd := hsd.same
  generalize hid2 Hk h l = C at hEC eWC c1' c2' c3' c4' c5' c6' SC oC oiC sCd hsd
  clear hsd hsW sAW eW hEW hE hsp sp nW nWh hsA a1 a2 a3 a4 a5 a6 SA g1 g2 mk n1 n2 n3 nxh nloh oi oB8
  generalize (fun i => (fun _ => true) i && agB ts (.left t0.k cv) i) = g at SC hnb
  generalize (En.left t0.k cv).span ts = P at SC hnb p4
  clear c1' c2' c3'
  refine ⟨_, _, rfl, rfl, 1 + z, rfl, by omega, by omega, for_range (n := (1 + z).toNat) (fun i σ G => Same C G ∧ ∃ (W : Addr) (xs : List V) (Bk : Hp) (x7 x8 x9 : Option V), G W = some (.lst xs) ∧ ElsAt K Bk G xs (allE ts n cr nm nb rd) ∧ σ = [some (.ref a), some (.ref h), some (.ref o), some (.int (n : Nat)), some (.ref x), some (.int cv), some (.ref W), x7, x8, x9]) ⟨sCd, W, xs, HA, none, none, none, sCd _ _ eWC, hEC.mono sCd, rfl⟩ ?_ ?_⟩
  · clear hEC eWC W xs sCd
    rintro i σ G hi ⟨sG, W, xs, Bk, x7, x8, x9, eW, hE, rfl⟩
    refine ⟨_, rfl, _, rfl, _, rfl, o, x, dx, o, c', lo, ts, n, P, g, [.ref r], rd, rfl, oC.mono sG, hf, hnm, hn, SC.mono sG, p4, (by show 1 ≤ 1000; decide), rA _ _ (SqT.of (sG _ _ c4')), fun Hm V2 ys cr2 nm2 nb2 sp nV hcr2 hnm2 hnb2 hF => ?_⟩
    obtain rfl : cr2 = cr := hcr2.uniq hcr
    obtain rfl : nm2 = nm := hnm2.uniq hf hnm5
    obtain rfl : nb2 = nb := hnb2.trans hnb.symm
    have sq := sp.trans (same_new (u := .lst ys) nV)
    have eV : upd Hm V2 (.lst ys) V2 = some (.lst ys) := upd_same
    have hFq := hF.mono (same_new (u := .lst ys) nV)
    have hVne : ∀ a u, Hm a = some u → a ≠ V2 := fun a u e => ne_of_none e nV
    have smq : Same Hm (upd Hm V2 (.lst ys)) := same_new nV
    generalize upd Hm V2 (.lst ys) = Hq at sq eV hFq smq
    dsimp only [gName]
    have hlen : (allE ts n cr2 nm2 nb2 rd).length ≤ 1000 := by
      unfold allE
      simp
    refine ⟨_, rfl, _, rfl, V2, W, ys, xs, G, Bk, _, rfl, eV, sq _ _ eW, hFq, hE.mono sq, okE, hlen, fun H5 s5 => ⟨true, rfl, ?_⟩⟩
    refine iteF ?_
    have sG5 := sq.trans s5
    have s05 := sG.trans sG5
    -- the records
    refine ⟨_, rfl, x, dx, _, rfl, s05 _ _ c5', x, dx, o, c', lo, [.ref r], rfl, s05 _ _ c5', s05 _ _ c6', (by show 1 ≤ 1000; decide), fun Lr nLr => ?_⟩
    have s6 := same_new (u := .lst [V.ref r]) nLr
    have eLr : upd H5 Lr (.lst [V.ref r]) Lr = some (.lst [V.ref r]) := upd_same
    generalize upd H5 Lr (.lst [V.ref r]) = H6 at s6 eLr
    have s06 := s05.trans s6
    refine ⟨_, rfl, o, dy, fy, rfl, s06 _ _ oiC, o, ts, rfl, oC.mono s06, hf.g.1, fun H7 kq s7 hkq => ⟨kq, _, 0, _, rfl, rfl, hkq, at_of (j := 0) rfl (by rw [List.getElem?_map, List.getElem?_map, et0]; rfl), _, rfl, by show 3 ≤ sizeLine; decide, fun q nq => ⟨by show 1 ≤ sizeLine; decide, fun Lq nLq => ⟨.list rd, .list rd, .lst (SqL.of (upd_old (upd_old (s7 _ _ eLr) nq) nLq)) (rA _ _ ?_), .lst (SqL.of upd_same) (rA _ _ (SqT.of (upd_old upd_same nLq))), shr, shr, _, rfl, ?_⟩⟩⟩⟩
    · exact SqT.of (upd_old (upd_old (s7 _ _ (s06 _ _ c4')) nq) nLq)
    rw [SeqAt.eqv_refl _ (by unfold SeqAt.shaped at shr; exact (Bool.and_eq_true_iff.mp shr).1)]
    refine iteF ?_
    have s8 := s6.trans (s7.trans ((same_new (u := .tup [.str "left", .str t0.k, .int cv]) nq).trans (same_new (u := .lst [.ref q]) nLq)))
    generalize upd (upd H7 q (.tup [.str "left", .str t0.k, .int cv])) Lq (.lst [.ref q]) = H8 at s8
    have sG8 := sG5.trans s8
    have kd0 : Paired (Kd K G H8 V2 10000) ys (allE ts n cr2 nm2 nb2 rd) := kds_of nV (smq.trans (s5.trans s8)) okE hF
    have eV8 := (s5.trans s8) _ _ eV
    clear hF hFq smq eV s7 s6 hkq nLr nq nLq eLr hVne sq s5 s8 sG5 s05 s06 nV sp
    -- the results are changed
    refine ⟨_, rfl, V2, rfl, ⟨_, SqL.of eV8⟩, ?_⟩
    refine for_list (K := K) (a := V2) (xs := ys) (fun j σ G2 => Same G G2 ∧ G2 V2 = some (.lst ys) ∧ Paired (Kd K G G2 V2 (10000 + j)) ys (allE ts n cr2 nm2 nb2 rd) ∧ ∃ x9, σ = [some (.ref a), some (.ref h), some (.ref o), some (.int (n : Nat)), some (.ref x), some (.int cv), some (.ref W), some (.int (0 + (i : Int))), some (.ref V2), x9]) ⟨sG8, eV8, kd0, x9, rfl⟩ (fun j σ G2 _ q => SqL.of q.2.1) ?_ ?_
    · rintro j y σ G2 hy ⟨sG2, eV2, kd, y9, rfl⟩
      have hj := lt_of_at hy
      have lys : ys.length ≤ 1000 := by rw [Paired.length kd]; exact hlen
      obtain ⟨e, ee, hk⟩ := LiI.paired_get kd hy
      cases e with
      | d d =>
        obtain ⟨ty, h1, h2, h3⟩ := dp_ty hk.2 hk.1
        refine ⟨_, rfl, y, .ty "list", _, _, false, rfl, ClsV.ty "list", h1, h2, false, rfl, iteF ?_⟩
        refine ⟨_, rfl, y, .ty "dict", _, _, false, rfl, ClsV.ty "dict", h1, h3, false, rfl, iteF ?_⟩
        exact ⟨sG2, eV2, Paired.mapP kd fun _ _ e => e.up, _, rfl⟩
      | l ds =>
        obtain ⟨b, zs, rfl, hb, hl, hnb1, hbV⟩ := hk
        refine ⟨_, rfl, .ref b, .ty "list", _, _, true, rfl, ClsV.ty "list", tyL (SqL.of hb), kitL true, true, rfl, iteT ?_⟩
        refine ⟨_, rfl, .inl ⟨rfl, _, SqL.of hb⟩, b, zs, _, rfl, rfl, hb, small3 (by omega), ?_⟩
        refine ⟨same_mut sG2 hnb1, by rw [upd_ne hbV.symm]; exact eV2, Paired.mapP kd fun _ _ e => e.list hb (by rw [List.length_append]; show zs.length + 1 ≤ _; omega), _, rfl⟩
      | m kvs =>
        obtain ⟨b, us, rfl, hb, hnb1⟩ := hk
        refine ⟨_, rfl, .ref b, .ty "list", _, _, false, rfl, ClsV.ty "list", .base (.dK hb), kit_ty (by decide +kernel), false, rfl, iteF ?_⟩
        refine ⟨_, rfl, .ref b, .ty "dict", _, _, true, rfl, ClsV.ty "dict", .base (.dK hb), kit_ty (by decide +kernel), true, rfl, iteT ?_⟩
        refine ⟨_, rfl, .inr (.inr (.inl ⟨rfl, .inl ⟨_, hb⟩⟩)), b, us, rfl, rfl, hb, ?_⟩
        refine ⟨same_mut sG2 hnb1, by rw [upd_ne (ne_of eV2 hb (by intro z; cases z))]; exact eV2, Paired.mapP kd fun _ _ e => e.dict hb, _, rfl⟩
    rintro σ G2 ⟨sG2, eV2, kd, y9, rfl⟩
    have sC2 := sG.trans sG2
    refine ⟨_, rfl, rfl, _, rfl, ite2 (fun _ => ?_) (fun _ => ?_)⟩
    · refine ⟨_, rfl, _, rfl, _, rfl, o, x, dx, o, c', lo, ts, n, P, g, [.ref r], rd, rfl, oC.mono sC2, hf, hnm, hn, SC.mono sC2, p4, (by show 1 ≤ 1000; decide), rA _ _ (SqT.of (sC2 _ _ c4')), fun Hm3 V3 zs cr3 nm3 nb3 sp3 nV3 hcr3 hnm3 hnb3 hF3 => ?_⟩
      obtain rfl : cr3 = cr2 := hcr3.uniq hcr
      obtain rfl : nm3 = nm2 := hnm3.uniq hf hnm5
      obtain rfl : nb3 = nb2 := hnb3.trans hnb.symm
      exact ⟨sC2.trans (sp3.trans (same_new nV3)), V3, zs, G2, _, _, _, upd_same, hF3.mono (same_new nV3), rfl⟩
    · exact ⟨_, rfl, sC2, W, xs, Bk, _, _, _, sG2 _ _ eW, hE.mono sG2, rfl⟩
  · rintro σ G _
    exact k G
end
end EB

namespace EB
open PySem PySem.Spec PyProof.Rows L2
theorem facts {w : World} {K : PySem.W.Frag} {h : Heap} {mg : Str → Option Value} {f : Addr} (X : K.In h) (G : h.Ns mainGlobals mg) (hfa : mg ("law" : Str) = some (.ref f)) (c : Says fas moreB dds K) :
    ∃ fd : FuncData, (∀ (s : Shared) (v : Value), BindsTo s fd ⟨[v], []⟩ [("_law_script", v)]) ∧ ∀ base : Heap, K.In base → base.Ns mainGlobals mg → FnOk PX w K mg base CX0 13 f fd ["_law_script"] (spLaw K) := by
  obtain ⟨T⟩ := tx_of X G c
  have e := hfa.symm.trans T.g_law
  cases e
  have b := FunD.bindsA (ps := ["_law_script"]) (show FunD K d_law.nm d_law.ql (defArgs d_law.st) (defBody d_law.st) (defScope d_law.st) [] [] (d_law.adr K) T.fd_law from T.F_law) fun _ _ _ _ _ _ us hl => match us, hl with | [_], _ => rfl
  exact ⟨T.fd_law, fun s v => b s [v] rfl, fun base hK _ => ok_law T hK⟩
end EB
open PySem PySem.W PySem.Calls PyProof.Rows in
theorem PySem.Challenge.cw_emptiesback_k14_repeated_calls_holds : PySem.Challenge.rw_emptiesback_k14_repeated_calls.Holds := by
  w_on; o_law
  refine HandSHeadRun.head_imp (r := OpenLaw.row PySem.Challenge.rw_emptiesback_k14_repeated_calls) (q := view (OpenLaw.row PySem.Challenge.rw_emptiesback_k14_repeated_calls).prog [0, 53]) (H := EB.hk) (ob := EB.ob) (M := 12000) (loose := EB.loose) (d := HandSHeadRun.topDef (OpenLaw.row PySem.Challenge.rw_emptiesback_k14_repeated_calls).prog 53) (kwd := [])
    EB.ob_eq EB.run (by kernel_rfl) (by kernel_rfl) (by kernel_rfl) (by rfl) (by first | assumption | decide +kernel) (by decide +kernel) ⟨rfl, rfl, rfl, rfl, rfl, by decide +kernel⟩ ?hw ?hc
  case hw => w_witness2
  case hc =>
    refine L2.walk_ofE (l := PySem.Challenge.rw_emptiesback_k14_repeated_calls) (n := 63) (k := 13) (x := "_law_script") (CX := L2.CX0) rfl (by decide) (by kernel_rfl) ⟨rfl, by decide, by decide⟩ ?F (fun _ _ _ _ z => z)
    intro w mg fa h Y G hmg0
    obtain ⟨K, KX, c⟩ := Y
    have hmg : mg ("law" : PySem.Str) = some (.ref fa) := by
      have e : (HandSHeadRun.topDef (OpenLaw.row PySem.Challenge.rw_emptiesback_k14_repeated_calls).prog 53).name = ("law" : PySem.Str) := by kernel_rfl
      rw [← e]
      exact hmg0
    obtain ⟨fd, hb, hF⟩ := EB.facts (w := w) KX G hmg c
    exact ⟨K, fd, EB.spLaw K, KX, hb, fun H a ns hl _ hS => ⟨a, ns, rfl, hS, hl, fun _ => rfl⟩, hF⟩

