import PyProof.Rows.All
import Wide.All
import OpenK.AllK
import Wide.FinOn
import KE.KStateDown
import KE.KMathGC
import HandS.ForMost
import HandS.More
import HandS.WordsExc
import HandS.Defaults
import HandS.Property
import HandS.ClsMeth
import HandS.Star
import HandS.Gcd
import HandS.Wide
import HandS.IsInst
import HandS.Walk
import HandS.Style
import HandS.TupAny
import HandS.DictComp
import HandS.Head0
import HandS.Head1
import HandS.Head2
import HandS.HeadEnd
import HandS.HeadHook1
import HandS.HeadHook2
import HandS.Exc
import HandS.ExcInit
import HandS.FStr
import KE.KExcSuper
import HandS.ExcOwn
import HandS.ExcField
import HandS.ExcIs
import KE.KExcIs
import HandS.SetFor
import HandS.Lambda
import HandS.HeadHook4
import HandS.HeadWalk
import KE.GoesEnum
import KE.KTupSum
import HandS.NoneIn
import HandS.SlotsOwn
import HandS.Sort
import HandS.Iter
import HandS.GenList
import HandS.Head3
import HandS.Conv
import PySem.Challenge.RW_emptiesback_k12_whole_bottles_nobody_cou
set_option Elab.async false
set_option linter.all false
set_option maxRecDepth 100000
set_option maxHeartbeats 0
/-! What every law here leans on: calls by positional promises, facts of the head, a heap that only grows. -/
namespace EB
open PySem PySem.Spec PyProof.Rows L2
section
variable {X : Cx} {CX : CXT} {k : Nat} {f C : Addr} {sp : Sp} {E : XK} {x m : Str} {e o : Expr} {es : List Expr} {ta : TE} {t : TA} {p pos apos : Pos}
/-- the promise sp asked of the values of the arguments -/
def tCR (sp : Sp) (E : XK) (t : TA) : TE := fun σ H Q => t σ H fun vs H1 => sp vs H1 Q E
theorem pe_cR (F : FnR X.prog X.w X.K X.mg X.base CX k f sp) (hr : Room k X.A) (hk : PySem.W.keepIn X.K (.ref f) = true) (hm : X.mg x = some (.ref f)) (hx : Passes CX X E) (ha : PA X (e :: es) t) (hg : Gl X x := by rfl)
    (hd : (x == ("__debug__" : Str)) = false := by decide) (he : starEach (e :: es) X.env = (false, eval e X.env) :: starEach es X.env := by rfl) (hp : (backTo pos (starEach es X.env)).any (·.1) = false := by rfl) :
    PE X (.Call (.Name x p) (e :: es) [] pos) (tCR sp E t) := by
  constructor
  intro pins s σ H Q I h
  refine wpAny_Call_Name_kw (ld_glob I hg hm ?_ hd)
  refine PySem.W.callWith_K (h₀ := X.base) I.ok.mod.kin hk (thn (ha.run pos pins s σ H _ I h) fun us s1 ⟨vs, H1, I1, r, q⟩ => ⟨I1.kIn, wpAny_call (run_fnR F hr hx I1 r q)⟩) he hp
/-- a method without arguments -/
def tM0 (C : Addr) (m : Str) (sp : Sp) (E : XK) (ta : TE) : TE := fun σ H Q => ta σ H fun x H1 => ∃ a dx fs, x = .ref a ∧ H1 a = some (.ins C dx fs) ∧ fs.lookup m = none ∧ sp [x] H1 Q E
end
/-- a tuple as the target of a comprehension -/
theorem pg_tupB {X : Cx} {s : Shared} {H : Hp} {scope : Scope} {cenv : Env} {fp : List Addr} {es : List Expr} {k : Nat} {t : TGs} {n : Nat} {pos : Pos} (h : PGs (X.blk s H scope cenv fp) es t) (hc : X.calm = true := by rfl)
    (hn : (assignEach es cenv).length = n := by rfl) (hst : (assignEach es cenv).findIdx? (·.1) = none := by rfl) : PG (X.blk s H scope cenv fp) (.Tuple es k pos) (gTup X.K n t) := pg_tup (X := X.blk s H scope cenv fp) hc h hn hst
/-! ### a heap that only grows -/
theorem same_new {H : Hp} {q : Addr} {u : HO} (h : H q = none) : Same H (upd H q u) := fun b o e => by
  rw [upd_ne (ne_of_none e h)]
  exact e
theorem same_mut {H0 H : Hp} {q : Addr} {u : HO} (s : Same H0 H) (h : H0 q = none) : Same H0 (upd H q u) := fun b o e => by
  rw [upd_ne (ne_of_none e h)]
  exact s b o e
theorem Same.tup {K : PySem.W.Frag} {H H' : Hp} {a : Addr} {xs : List V} (e : Same H H') (h : SqT K H a xs) : SqT K H' a xs := by
  rcases h with (h | ⟨o, h⟩) | h
  · exact .inl (.inl (e _ _ h))
  · exact .inl (.inr ⟨o, e _ _ h⟩)
  · exact .inr h
theorem upd_old {H : Hp} {a q : Addr} {o u : HO} (h : H a = some o) (n : H q = none) : upd H q u a = some o := by
  rw [upd_ne (ne_of_none h n)]
  exact h
/-! ### the head's facts -/
/-- the object of a def -/
def fdAt (K : PySem.W.Frag) (a : Addr) : Option FuncData := match K.lookup a with
  | some o => (match o.data with
    | .func fd => some fd
    | _ => none)
  | none => none
abbrev FS : Type := Str × Str × Arguments × FuncBody × Scope × Addr × List (Str × Addr) × Addr
def fsOf (fd : FuncData) : FS := (fd.name, fd.qualname, fd.params, fd.body, fd.scope, fd.globals, fd.closure, fd.builtins)
/-- one def of the text: where it is found, what it is -/
structure DD where
  adr : PySem.W.Frag → Addr
  nm : Str
  ql : Str
  st : Stmt
  df : List He.Dv := []
  cl : Bool := false
def DD.fs (d : DD) : FS := (d.nm, d.ql, defArgs d.st, .stmts (defBody d.st), defScope d.st, mainGlobals, [], builtinsNs)
/-- cl: the def sees __class__ from outside; its closure is looked at apart -/
def DD.obs (K : PySem.W.Frag) (d : DD) : Option FS := (fdAt K (d.adr K)).map fun fd => if d.cl then fsOf { fd with closure := [] } else fsOf fd
def DD.ok (K : PySem.W.Frag) (d : DD) : Bool := PySem.W.keepIn K (.ref (d.adr K)) && (match fdAt K (d.adr K) with
  | some fd => PySem.W.codeIn K fd.code d.ql && He.dflB K fd.defaults (d.df.map (He.Dv.v K))
  | none => false)
/-- the def d, its function's data fd -/
abbrev FnP (K : PySem.W.Frag) (d : DD) (fd : FuncData) : Prop := FunD K d.nm d.ql (defArgs d.st) (defBody d.st) (defScope d.st) (d.df.map (He.Dv.v K)) [] (d.adr K) fd
theorem DD.fun {K : PySem.W.Frag} {d : DD} (hcl : d.cl = false) (e : d.obs K = some d.fs) (c : d.ok K = true) : ∃ fd, FnP K d fd := by
  obtain ⟨kp, c2⟩ := Bool.and_eq_true_iff.mp c
  unfold DD.obs at e
  cases q : fdAt K (d.adr K) with
  | none =>
    rw [q] at e
    cases e
  | some fd =>
    rw [q] at e c2
    rw [hcl] at e
    obtain ⟨c3, c4⟩ := Bool.and_eq_true_iff.mp c2
    unfold fdAt at q
    cases l : K.lookup (d.adr K) with
    | none =>
      rw [l] at q
      cases q
    | some o =>
      rw [l] at q
      obtain ⟨oc, od, dt, osl⟩ := o
      cases dt with
      | func fd' =>
        have ef : fd' = fd := Option.some.inj q
        subst ef
        have e2 : fsOf fd' = d.fs := Option.some.inj e
        obtain ⟨n1, n2, n3, n4, n5, n6, n7, n8, n9, n10, n11, n12, n13, n14, n15⟩ := fd'
        simp only [fsOf, DD.fs, Prod.mk.injEq] at e2
        obtain ⟨h1, h2, h3, h4, h5, h6, h7, h8⟩ := e2
        subst h1 h2 h3 h4 h5 h6 h7 h8
        exact ⟨_, ⟨oc, od, n8, n9, n10, n11, n12, n13, n14, osl, rfl, l, c3, He.dflB_ok c4, .inl rfl⟩, kp⟩
      | _ => cases q
/-- a property's getter -/
def propG (K : PySem.W.Frag) (C p : Addr) : Addr := match PySem.W.recIn K p "property" with
  | some (.ref g :: _) => g
  | _ => 0
def okProp (K : PySem.W.Frag) (x f : Str) : Bool :=
  He.eqO (PySem.W.findIn K (.ref (He.ga K x)) f) (some (some (.ref (He.ma K (He.ga K x) f)))) && (He.eqO (PySem.W.specialIn K (.ref (He.ma K (He.ga K x) f)) "__get__") (some (some (.builtin "property.__get__"))) &&
  (decide (PySem.W.takesIn K (.ref (He.ma K (He.ga K x) f)) = some true) && (match PySem.W.recIn K (He.ma K (He.ga K x) f) "property" with
    | some (.ref g :: _) => decide (g = propG K (He.ga K x) (He.ma K (He.ga K x) f))
    | _ => false)))
theorem okProp_of {K : PySem.W.Frag} {x f : Str} (h : okProp K x f = true) : PropOf K (He.ga K x) f (He.ma K (He.ga K x) f) (propG K (He.ga K x) (He.ma K (He.ga K x) f)) := by
  obtain ⟨h1, h⟩ := Bool.and_eq_true_iff.mp h
  obtain ⟨h2, h⟩ := Bool.and_eq_true_iff.mp h
  obtain ⟨h3, h4⟩ := Bool.and_eq_true_iff.mp h
  refine ⟨He.eqO_ok h1, He.eqO_ok h2, of_decide_eq_true h3, ?_⟩
  split at h4
  · rename_i g rest e
    exact ⟨rest, by rw [e, ← of_decide_eq_true h4]⟩
  · cases h4
def okCallO (K : PySem.W.Frag) (x : Str) : Bool :=
  He.eqO (PySem.W.findIn K (.ref (He.ga K x)) "__call__") (some (some (.ref (He.ma K (He.ga K x) "__call__")))) && (PySem.W.isFn K (.ref (He.ma K (He.ga K x) "__call__")) && PySem.W.fnIn K (He.ma K (He.ga K x) "__call__"))
theorem okCallO_of {K : PySem.W.Frag} {x : Str} (h : okCallO K x = true) : StX.CallO K (He.ga K x) (He.ma K (He.ga K x) "__call__") := by
  obtain ⟨h1, h⟩ := Bool.and_eq_true_iff.mp h
  obtain ⟨h2, h3⟩ := Bool.and_eq_true_iff.mp h
  exact ⟨He.eqO_ok h1, h2, h3⟩
def okBlt (K : PySem.W.Frag) (x : Str) (id : String) : Bool := He.eqO (PySem.W.nsIn K mainGlobals x) (some (some (.builtin id)))
theorem okBlt_of {K : PySem.W.Frag} {h : Heap} {mg : Str → Option Value} {x : Str} {id : String} (X : K.In h) (G : h.Ns mainGlobals mg) (c : okBlt K x id = true) : mg x = some (.builtin id) := PySem.W.mg_of X G (He.eqO_ok c)
/-- all that is looked at behind the top -/
abbrev Seen : Type := Bool × List (Option FS)
def seen (fa : List He.Fa) (more : PySem.W.Frag → Bool) (ds : List DD) (K : PySem.W.Frag) : Seen := ((fa.all fun f => f.ok K) && (more K && ds.all fun d => d.ok K), ds.map fun d => d.obs K)
def want (ds : List DD) : Seen := (true, ds.map fun d => some d.fs)
def Says (fa : List He.Fa) (more : PySem.W.Frag → Bool) (ds : List DD) (K : PySem.W.Frag) : Prop := seen fa more ds K = want ds
def hook (n : Nat) (fa : List He.Fa) (more : PySem.W.Frag → Bool) (ds : List DD) : PySem.W.Hook where
  α := Seen
  obs := fun s => seen fa more ds (He.frG s.heap.get? (cStatics :: He.asD s.heap.get? n))
  val := fun _ => want ds
  says := fun _ h => ∃ K : PySem.W.Frag, K.In h ∧ Says fa more ds K
  of := fun _ _ e => ⟨_, He.frG_in, e⟩
  keeps := fun _ _ _ ⟨K, hK, c⟩ k => ⟨K, PySem.W.Frag.In.keeps hK k, c⟩
section
variable {fa : List He.Fa} {more : PySem.W.Frag → Bool} {ds : List DD} {K : PySem.W.Frag}
theorem Says.bools (c : Says fa more ds K) : (∀ f ∈ fa, f.ok K = true) ∧ more K = true ∧ ∀ d ∈ ds, d.ok K = true := by
  have c1 : ((fa.all fun f => f.ok K) && (more K && ds.all fun d => d.ok K)) = true := congrArg (fun z : Seen => z.1) c
  obtain ⟨c2, c3⟩ := Bool.and_eq_true_iff.mp c1
  obtain ⟨c4, c5⟩ := Bool.and_eq_true_iff.mp c3
  exact ⟨fun f h => List.all_eq_true.mp c2 f h, c4, fun d h => List.all_eq_true.mp c5 d h⟩
theorem Says.fact (c : Says fa more ds K) (i : Nat) {f : He.Fa} (h : fa[i]? = some f := by rfl) : f.ok K = true := c.bools.1 f (List.mem_of_getElem? h)
theorem Says.fn0 (c : Says fa more ds K) (i : Nat) {d : DD} (h : ds[i]? = some d := by rfl) : d.obs K = some d.fs ∧ d.ok K = true := by
  have e : ds.map (fun d => d.obs K) = ds.map fun d => some d.fs := congrArg (fun z : Seen => z.2) c
  have e2 : (ds.map fun d => d.obs K)[i]? = (ds.map fun d => some d.fs)[i]? := by rw [e]
  rw [List.getElem?_map, List.getElem?_map, h] at e2
  exact ⟨Option.some.inj e2, c.bools.2.2 d (List.mem_of_getElem? h)⟩
theorem Says.fn (c : Says fa more ds K) (i : Nat) {d : DD} (h : ds[i]? = some d := by rfl) (hcl : d.cl = false := by rfl) : ∃ fd, FnP K d fd := DD.fun hcl (c.fn0 i h).1 (c.fn0 i h).2
end
end EB
namespace EB
open PySem PySem.Spec PyProof.Rows L2
theorem pe_cI {X : Cx} {x : Str} {i : Int} {pos : Pos} (hm : ∃ t, X.mg x = some (.int i t)) (hg : Gl X x := by rfl) (hd : (x == ("__debug__" : Str)) = false := by decide) : PE X (.Name x pos) (tC (.int i)) := by
  obtain ⟨t, h⟩ := hm
  exact pe_glob hg h ⟨t, rfl⟩ hd
theorem pe_cS {X : Cx} {x z : Str} {pos : Pos} (hm : ∃ t, X.mg x = some (.str z t)) (hg : Gl X x := by rfl) (hd : (x == ("__debug__" : Str)) = false := by decide) : PE X (.Name x pos) (tC (.str z)) := by
  obtain ⟨t, h⟩ := hm
  exact pe_glob hg h ⟨t, rfl⟩ hd
theorem pe_cC {X : Cx} {x : Str} {C : Addr} {pos : Pos} (hm : X.mg x = some (.ref C)) (hg : Gl X x := by rfl) (hd : (x == ("__debug__" : Str)) = false := by decide) : PE X (.Name x pos) (tC (.ref C)) := pe_glob hg hm rfl hd
/-- a constant of a class, read off the class -/
def okRead (K : PySem.W.Frag) (x : Str) : Bool := PySem.W.readsIn K (He.ga K x) (.type "type") && He.eqO (PySem.W.specialIn K (.ref (He.ga K x)) "__getattribute__") (some (some (.builtin "type.__getattribute__")))
theorem okRead_of {K : PySem.W.Frag} {x : Str} (h : okRead K x = true) : ClX.CRead K (He.ga K x) (.type "type") := by
  obtain ⟨h1, h2⟩ := Bool.and_eq_true_iff.mp h
  exact ⟨h1, He.eqO_ok h2⟩
def okCVal (K : PySem.W.Frag) (x f : Str) (v : V) : Bool := match PySem.W.findCls K (.ref (He.ga K x)) (.type "type") f with
  | some (.val u) => He.relB v u
  | _ => false
theorem okCVal_of {K : PySem.W.Frag} {x f : Str} {v : V} (h : okCVal K x f v = true) : ∃ u, ClX.CVal K (He.ga K x) (.type "type") f v u := by
  unfold okCVal at h
  split at h
  · rename_i u e
    exact ⟨u, e, He.relB_ok h⟩
  · cases h
/-! ### the same rules with the written part named: within a comprehension it may not hang on the block -/
section
variable {X : Cx} {K : PySem.W.Frag}
theorem ix_listK (h : X.K = K) : IxR X (rIxL K) := h ▸ ix_list
theorem ix_seqK (h : X.K = K) : IxR X (rIx K) := h ▸ ix_seq
theorem ix_tupK (h : X.K = K) : IxR X (rIxT K) := h ▸ ix_tup
theorem sl_listK (h : X.K = K) : SlR X (rSlL K) := h ▸ sl_list
theorem sl_tupAK (h : X.K = K) : SlR X (rSlA K) := h ▸ sl_tupA
theorem op_catAK (h : X.K = K) : OpR X (binaryOp .Add) (rCatA K) := h ▸ op_catA
theorem op_in_seqK (h : X.K = K) : OpR X (compareOp .In) (rIn K false) := h ▸ op_in_seq
theorem op_notIn_seqK (h : X.K = K) : OpR X (compareOp .NotIn) (rIn K true) := h ▸ op_notIn_seq
def rLenK (K : PySem.W.Frag) : List V → Hp → VK → Prop := fun xs H Q => ∃ p ys, xs = [.ref p] ∧ (SqL K H p ys ∨ SqT K H p ys) ∧ Q (.int ys.length) H
theorem call_len_seqK (h : X.K = K) : CallR X (.builtin "len") (rLenK K) := h ▸ call_len_seq
theorem cr_sumK (hc : X.calm = true) (h : X.K = K) : CallR X (.builtin "sum") (rSum K) := h ▸ cr_sum hc
theorem pi_listK {tg l : Expr} {tl : TE} (h : X.K = K) (hl : PE X l tl) : PI X tg l (iList K tl) := h ▸ pi_list hl
theorem pi_tupK {tg l : Expr} {tl : TE} (h : X.K = K) (hl : PE X l tl) : PI X tg l (iTup K tl) := h ▸ pi_tup hl
theorem pe_fldK {e : Expr} {f : Str} {ta : TE} {pos : Pos} (h : X.K = K) (he : PE X e ta) (hb : attributeBase e f X.env (eval e X.env) = eval e X.env) : PE X (.Attribute e f pos) (tFld K ta f) := h ▸ pe_fld he hb
end
end EB

/-! an own exception's __init__ that says super().__init__(text) and then keeps one field -/
namespace EB
open PySem PySem.Spec PyProof.Rows L2
/-- its names: two parameters, __class__ from outside, super the built-in -/
structure SupS (p : Str) (sc : Scope) : Prop where
  kind : sc.kind = .function
  co : sc.isCoroutine = false
  gen : sc.isGenerator = false
  cls : sc.names.lookup ("__class__" : Str) = some .free
  sup : sc.names.lookup ("super" : Str) = some .globalImplicit
  self : sc.names.lookup ("self" : Str) = some .local
  par : sc.names.lookup p = some .local
  own : ∀ y ∈ sc.names, y.2 ≠ .cell ∧ (y.2 = .free → y.1 = ("__class__" : Str))
  ne : ("self" : Str) ≠ p
abbrev supEnv (qual : Str) (scope : Scope) (L f : Addr) (cd : Value) (cc : Addr) : Env := PySem.W.ksEnv qual scope L f cd cc
/-- the context of its body -/
def supCx (CX : CXT) (P : Program) (w : World) (K : PySem.W.Frag) (mg : Str → Option Value) (base : Heap) (p qual : Str) (scope : Scope) (f : Addr) (cd : Value) (cc : Addr) (A : Around) (outer : List Env) (s : Shared) (H : Hp) (E : XK) : Cx where
  prog := P
  w := w
  K := K
  mg := mg
  base := base
  A := A.deeper (supEnv qual scope s.heap.objs.size f cd cc)
  N := ["self", p]
  s_0 := s
  H_0 := H
  env := supEnv qual scope s.heap.objs.size f cd cc
  outer := outer
  stack := supEnv qual scope s.heap.objs.size f cd cc :: outer
  ex := []
  fn := fun _ => false
  calm := true
  pn := []
  xe := fun e s' => wpAny (model P w) (A.deeper (supEnv qual scope s.heap.objs.size f cd cc)) (leaving (supEnv qual scope s.heap.objs.size f cd cc) e) (fun _ s'' => CX outer H s E e s'') (fun e' s'' => CX outer H s E e' s'') s'
section
variable {CX : CXT} {P : Program} {w : World} {K : PySem.W.Frag} {mg : Str → Option Value} {base : Heap} {p qual : Str} {scope : Scope} {f cc : Addr} {cd : Value} {A : Around} {outer : List Env} {s : Shared} {H : Hp} {E : XK}
theorem sup_start {h₁ : Heap} {tk : Nat} {v0 v1 : V} {u0 u1 : Value} (S : SupS p scope) (hd : A.handled = none) (e0 : Env0 P w K mg base A outer s H) (hc : ∃ v, base.IsCell cc v) (r0 : RelV v0 u0) (r1 : RelV v1 u1)
    (hns : h₁.Ns s.heap.objs.size fun y => ([("self", u0), (p, u1)] : List (Str × Value)).reverse.lookup y) (kp : ∀ b o, s.heap.get? b = some o → h₁.get? b = some o) :
    Inv (supCx CX P w K mg base p qual scope f cd cc A outer s H E) [] [some v0, some v1] H { s with heap := h₁, toks := tk } := by
  have cl : ∀ {x : Str} {c : Addr}, ([("__class__", cc)] : List (Str × Addr)).lookup x = some c → x = ("__class__" : Str) ∧ c = cc := fun {x c} e => by
    simp only [List.lookup] at e
    split at e
    · rename_i z
      exact ⟨beq_iff_eq.mp z, (Option.some.inj e).symm⟩
    · cases e
  obtain ⟨v, oc, hoc, hdc⟩ := hc
  have bc := e0.bs cc oc hoc
  have noA : ∀ b : Addr, b ∉ (supCx CX P w K mg base p qual scope f cd cc A outer s H E).ex := fun b z => absurd (show b ∈ ([] : List Addr) from z) (by simp)
  refine ⟨⟨e0.mod, S.kind, rfl, rfl, Nat.le_refl _, fun y z c e1 e2 => (cl e1).1.trans (cl e2).1.symm, fun y hy => ?_, fun y c z _ => Bool.noConfusion (show false = true from z), fun _ => hd, Around.frames_deeper e0.frames, .inr ⟨rfl, rfl⟩, fun b z => absurd z (noA b), e0.bs, e0.bsz, fun b _ _ => noA b,
      fun b z => absurd z (noA b), e0.funs, e0.frf⟩,
    rfl, e0.bare, Un.kept kp, ⟨_, hns, fun i y v e1 e2 e3 => ?_⟩, fun y c e => ?_, e0.hok.fresh (Nat.le_refl _), fun y c e => ?_, fun q hq => absurd (show q ∈ ([] : List (Addr × Obj)) ++ [] from hq) (by simp), e0.hok.kept kp, rfl⟩
  · have hy : scope.names.lookup y = some .cell ∨ scope.names.lookup y = some .free := hy
    rcases hy with hy | hy
    · exact absurd rfl (S.own _ (PySem.mem_of_lookup hy)).1
    · have z := (S.own _ (PySem.mem_of_lookup hy)).2 rfl
      dsimp only at z
      subst z
      exact ⟨cc, rfl⟩
  · have e1 : (["self", p] : List Str)[i]? = some y := e1
    match i, e1, e2 with
    | 0, e1, e2 =>
      cases e1
      cases e2
      refine ⟨u0, r0, .inl ⟨S.self, ?_⟩⟩
      have ne : (("self" : Str) == p) = false := by simpa using S.ne
      show List.lookup ("self" : Str) [(p, u1), ("self", u0)] = some u0
      simp only [List.lookup, ne, beq_self_eq_true]
    | 1, e1, e2 =>
      cases e1
      cases e2
      refine ⟨u1, r1, .inl ⟨S.par, ?_⟩⟩
      show List.lookup p [(p, u1), ("self", u0)] = some u1
      simp only [List.lookup, beq_self_eq_true]
    | i + 2, e1, _ => exact nomatch e1
  · obtain ⟨_, rfl⟩ := cl e
    exact ⟨v, oc, kp _ _ bc.1, hdc⟩
  · obtain ⟨_, rfl⟩ := cl e
    exact bc.2
/-- what the written part says of such a def f, its code, its cell, its class -/
structure SupF (P : Program) (K : PySem.W.Frag) (mg : Str → Option Value) (qual : Str) (params : Arguments) (body : List Stmt) (scope : Scope) (f : Addr) (fd : FuncData) (C cda cc : Addr) : Prop where
  fn : ∃ oc od kV doc pm an ct osl, fd = PySem.W.ksFn "__init__" qual params body scope .none kV doc pm an (.ref cda) ct cc ∧ K.lookup f = some ⟨oc, od, .func fd, osl⟩
  cd : PySem.W.codeIn K (.ref cda) qual = true
  code : ∃ ccl cdd vs ccs file tf, K.lookup cda = some ⟨ccl, cdd, .fields vs, ccs⟩ ∧ vs[2]? = some (.str file tf) ∧ ((P.main.file : Str) == file) = true
  cell : ∃ cl cld csl, K.lookup cc = some ⟨cl, cld, .cell (some (.ref C)), csl⟩
  par : ∃ ar, (params.posonlyargs ++ params.args).head? = some ar ∧ ar.arg = ("self" : Str)
  top : (P.main.scope.names.lookup ("super" : Str)).isSome = false
  mgs : mg "super" = none
  cls : ∃ cd, PySem.W.clsIn K C = some cd
  self : PySem.W.mroIn K C (.ref C) = some true
  init : PySem.W.ks_superIn K C C "__init__" = some (some (.builtin "ValueError.__init__"))
  val : PySem.W.subIn K (.ref C) (.type "ValueError") = some true
  opq : PySem.W.nsIn K cStatics "thirdparty.any" = some none
  oex : OexC K C
theorem boot_super : bootBuiltins "super" = some (.type "super") := by decide +kernel
section
variable {cda C a : Addr} {params : Arguments} {body : List Stmt} {fd : FuncData} {pins : List (Addr × Obj)} {σ : L2.St} {H1 : Hp} {s1 : Shared} {x1 : Option V} {e : Expr} {es : List Expr} {t : TA} {p0 p1 p2 p3 pos : Pos} {pl : Sem Bool} {R : Hp → Prop}
theorem sup_stmt (S : SupS p scope) (F : SupF P K mg qual params body scope f fd C cda cc) (I : Inv (supCx CX P w K mg base p qual scope f (.ref cda) cc A outer s H E) pins [some (.ref a), x1] H1 s1) (ea : H1 a = some (exo a C none))
    (ha : PA (supCx CX P w K mg base p qual scope f (.ref cda) cc A outer s H E) (e :: es) t) (ht : t [some (.ref a), x1] H1 fun vs H2 => vs.length ≤ 1000 ∧ H2 a = some (exo a C none) ∧ R H2)
    (he : starEach (e :: es) (supEnv qual scope s.heap.objs.size f (.ref cda) cc) = (false, eval e (supEnv qual scope s.heap.objs.size f (.ref cda) cc)) :: starEach es (supEnv qual scope s.heap.objs.size f (.ref cda) cc) := by rfl) (hpl : (backTo pos (starEach es (supEnv qual scope s.heap.objs.size f (.ref cda) cc))).any (·.1) = false := by rfl)
    (hc : eval (.Call (.Attribute (.Call (.Name "super" p0) [] [] p1) "__init__" p2) (e :: es) [] pos) (supEnv qual scope s.heap.objs.size f (.ref cda) cc) = (do
      let ov ← attributeBase (.Call (.Name "super" p0) [] [] p1) "__init__" (supEnv qual scope s.heap.objs.size f (.ref cda) cc) (eval (.Call (.Name "super" p0) [] [] p1) (supEnv qual scope s.heap.objs.size f (.ref cda) cc))
      standAt p2.atName
      let (g, first) ← holding [ov] (getMethod ov "__init__" pl)
      callWith pos g first (backTo pos (starEach (e :: es) (supEnv qual scope s.heap.objs.size f (.ref cda) cc))) []) := by rfl)
    (hi : interactive (supEnv qual scope s.heap.objs.size f (.ref cda) cc) = false := by rfl)
    (hsw : swapsWith (.Call (.Attribute (.Call (.Name "super" p0) [] [] p1) "__init__" p2) (e :: es) [] pos) none p3.line (supEnv qual scope s.heap.objs.size f (.ref cda) cc) = pure false := by rfl) :
    PySem.wpAt (model P w) (A.deeper (supEnv qual scope s.heap.objs.size f (.ref cda) cc)) (.func body (supEnv qual scope s.heap.objs.size f (.ref cda) cc))
      (exec (.Expr (.Call (.Attribute (.Call (.Name "super" p0) [] [] p1) "__init__" p2) (e :: es) [] pos) p3) (supEnv qual scope s.heap.objs.size f (.ref cda) cc))
      (fun fl s' => fl = .next ∧ ∃ H2, Inv (supCx CX P w K mg base p qual scope f (.ref cda) cc A outer s H E) pins [some (.ref a), x1] H2 s' ∧ R H2)
      (supCx CX P w K mg base p qual scope f (.ref cda) cc A outer s H E).xe s1 := by
  obtain ⟨oc, od, kV, doc, pm, an, ct, osl, rfl, lk⟩ := F.fn
  obtain ⟨ccl, cdd, vs, ccs, file, tf, hcode, hvs, hfile⟩ := F.code
  obtain ⟨cl, cld, csl, hcell⟩ := F.cell
  obtain ⟨ar, hp, har⟩ := F.par
  obtain ⟨cdD, hD⟩ := F.cls
  have X : K.In s1.heap := I.kIn
  obtain ⟨oD, hD1, hD2⟩ : ∃ oD, s1.heap.get? C = some oD ∧ oD.data = .cls cdD := by
    unfold PySem.W.clsIn at hD
    split at hD
    · rename_i c d cd' sl ho
      cases hD
      exact ⟨_, X _ _ ho, rfl⟩
    · cases hD
  obtain ⟨t1, hox⟩ := exo_at I.hok ea
  refine ks_wpAt_Expr_any (ks_wpAt_MethodCall (pl := pl) ?_ hc) hi hsw
  refine ks_wpAt_super_base (env := supEnv qual scope s.heap.objs.size f (.ref cda) cc) S.sup S.cls rfl rfl (X _ _ lk) rfl hp rfl (X _ _ hcode) rfl hvs hfile F.top ?_
  obtain ⟨mb, hb1, hb2⟩ := I.mod.blt
  refine PySem.W.ks_loadName_global S.kind S.sup (PySem.Calls.loadGlobal_builtin (I.mod.glob.keeps I.bk) F.mgs (hb1.keeps I.bk) ((hb2 _ (by decide)).trans boot_super) ⟨rfl, ?_⟩)
  refine wpAny_loadName_free S.kind S.cls rfl ⟨_, X _ _ hcell, rfl⟩ ?_
  obtain ⟨m, hns, hl⟩ := I.loc
  obtain ⟨u, ru, hu⟩ := hl 0 "self" (.ref a) rfl rfl (.inl S.self)
  obtain rfl : u = Value.ref a := ru
  have hm : m "self" = some (.ref a) := by
    rcases hu with ⟨_, z⟩ | ⟨z, _⟩
    · exact z
    · have z : scope.names.lookup ("self" : Str) = some NameKind.cell ∨ scope.names.lookup ("self" : Str) = some NameKind.free := z
      rw [S.self] at z
      rcases z with z | z <;> cases z
  refine wpAny_loadName_local S.kind (show scope.names.lookup ar.arg = some .local by rw [har]; exact S.self) hns (by rw [har]; exact hm) ?_
  obtain ⟨hh, g, d, tk, os⟩ := s1
  refine ks_wpAny_isType_cls hD1 hD2 ⟨rfl, ?_⟩
  refine ks_wpAny_call_super hD1 hD2 hox rfl (fun c z => nomatch z) (PySem.W.looks_mroIn X F.self) (fun h' e1 k1 => ?_)
  have I1 := ClX.pin_new (t' := tk) I k1 (Nat.le_refl _) e1 (fun v z => nomatch z)
  have X1 : K.In h' := X.keeps k1
  have J1 : PySem.W.InstAt h' a _ C none := ⟨k1 _ _ hox, rfl, rfl, trivial⟩
  have hin := F.init
  unfold PySem.W.ks_superIn at hin
  rw [hD] at hin
  refine PySem.W.kxs_getMethod PySem.W.kxs_ValueError e1 (PySem.W.looks_opaque X1 F.opq) (l₀ := cdD.mro) (fun A Q E s k q => wpAny_bind ((PySem.W.looks_clsIn X1 hD) A _ E s k (wpAny_pure q))) rfl X1 hin (J1.type.andThen (PySem.W.looks_subIn X1 F.val)) (PySem.W.ks_ne X1 J1 hD) rfl ?_
  have I2 := ClX.pin_new (o := PySem.W.kxs_mw "ValueError.__init__" a) (h' := h'.push (PySem.W.kxs_mw "ValueError.__init__" a)) (t' := tk + 1) I1 (fun _ _ z => Heap.get?_push_of_some _ z) (Nat.le_refl _) (Heap.get?_push_size h' rfl) (fun v z => nomatch z)
  have hA : wpAny _ _ (spliced (backTo pos (starEach (e :: es) (supEnv qual scope s.heap.objs.size f (.ref cda) cc)))) _ _ _ := ha.run pos _ _ _ _ _ I2 ht
  rw [he] at hA ⊢
  refine PySem.W.kxs_callWith (i := "ValueError.__init__") (x := a) (by show (false || (backTo pos (starEach es (supEnv qual scope s.heap.objs.size f (.ref cda) cc))).any (·.1)) = false; rw [hpl]; rfl) (PySem.Calls.evalArgs_plain (thn hA fun us s3 ⟨vs2, H3, I3, r3, hz, ea3, hR⟩ => ?_))
  have hu := ClX.pin_at I3
  refine ⟨hu, ?_⟩
  have hlen : us.length ≤ sizeLine := by
    rw [← Paired.length r3, sizeLine_eq]
    omega
  obtain ⟨t3, hox3⟩ := exo_at I3.hok ea3
  obtain ⟨nm, q, N', bs, bm, sn, sub, ab, col, dd, k0, k1', k2, k3, k5, hC, hbm⟩ := F.oex.cls
  obtain ⟨hh3, g3, d3, tk3, os3⟩ := s3
  refine wpAny_call (codeAny_of_tree ?_)
  show wpAny _ _ (callAny (.ref h'.objs.size) ⟨us, []⟩) _ _ _
  simp only [callAny]
  refine wpAny_bind (wpAny_load hu ?_)
  simp only [PySem.W.kxs_mw, show (Value.type "method-wrapper" == Value.type "method" || Value.type "method-wrapper" == Value.type "builtin_function_or_method" || Value.type "method-wrapper" == Value.type "method-wrapper") = true by decide, if_true]
  refine PySem.W.KFB.if_so (by decide) ?_
  refine wpAny_bind (PySem.W.check_bound_init PySem.F.excBase_ValueError.toExcCallFacts (I3.kIn _ _ hC) hox3 rfl ?_)
  refine wpAny_bind (wpAny_pure (wpAny_pure ?_))
  refine ⟨plainId_quiet PySem.F.excBase_ValueError.init.plain _, codeAny_builtin PySem.F.excBase_ValueError.initEntry ?_⟩
  refine PySem.W.exc_init_tree (cls := .ref C) (t0 := t3) (dv := none) (c2 := .none) (c3 := .none) (b4 := .bool false) hox3 hlen fun h4 k4 e4 _ => ?_
  have J := I3.write (t' := tk3) (x := a) (e := a) (o := exo a C none) (by rw [ea3]; exact True.intro) (.inl rfl) k4 ⟨_, e4⟩ (exo_ok e4)
  have eu : upd H3 a (exo a C none) = H3 := by
    funext b
    by_cases hb : b = a
    · rw [hb, upd_same, ea3]
    · rw [upd_ne hb]
  rw [eu] at J
  exact ⟨trivial, H3, ClX.unpin (ClX.unpin J), hR⟩
/-- such a def, by its two statements -/
theorem sup_of {k : Nat} {st : Stmt} {tA : TA} {tB : TS} (S : SupS p scope) (F : SupF P K mg qual params [.Expr (.Call (.Attribute (.Call (.Name "super" p0) [] [] p1) "__init__" p2) (e :: es) [] pos) p3, st] scope f fd C cda cc)
    (hcell : ∃ v, base.IsCell cc v)
    (ha : ∀ (A : Around) (outer : List Env) (s : Shared) (H : Hp) (E : XK), PA (supCx CX P w K mg base p qual scope f (.ref cda) cc A outer s H E) (e :: es) tA)
    (hst : ∀ (A : Around) (outer : List Env) (s : Shared) (H : Hp) (E : XK), PSs (supCx CX P w K mg base p qual scope f (.ref cda) cc A outer s H E) [st] tB)
    (he : ∀ L, starEach (e :: es) (supEnv qual scope L f (.ref cda) cc) = (false, eval e (supEnv qual scope L f (.ref cda) cc)) :: starEach es (supEnv qual scope L f (.ref cda) cc) := by intro _; rfl) (hpl : ∀ L, (backTo pos (starEach es (supEnv qual scope L f (.ref cda) cc))).any (·.1) = false := by intro _; rfl)
    (hc : ∀ L, eval (.Call (.Attribute (.Call (.Name "super" p0) [] [] p1) "__init__" p2) (e :: es) [] pos) (supEnv qual scope L f (.ref cda) cc) = (do
      let ov ← attributeBase (.Call (.Name "super" p0) [] [] p1) "__init__" (supEnv qual scope L f (.ref cda) cc) (eval (.Call (.Name "super" p0) [] [] p1) (supEnv qual scope L f (.ref cda) cc))
      standAt p2.atName
      let (g, first) ← holding [ov] (getMethod ov "__init__" pl)
      callWith pos g first (backTo pos (starEach (e :: es) (supEnv qual scope L f (.ref cda) cc))) []) := by intro _; rfl)
    (hi : ∀ L, interactive (supEnv qual scope L f (.ref cda) cc) = false := by intro _; rfl)
    (hsw : ∀ L, swapsWith (.Call (.Attribute (.Call (.Name "super" p0) [] [] p1) "__init__" p2) (e :: es) [] pos) none p3.line (supEnv qual scope L f (.ref cda) cc) = pure false := by intro _; rfl) :
    FnOk P w K mg base CX (k + 1) f fd ["self", p] (fun vs H Q _ => ∃ (a : Addr) (v : V), vs = [.ref a, v] ∧ H a = some (exo a C none) ∧
      tA [some (.ref a), some v] H fun ws H2 => ws.length ≤ 1000 ∧ H2 a = some (exo a C none) ∧ tB { nx := fun _ H' => Q .non H', rt := Q } [some (.ref a), some v] H2) := by
  have F0 := F
  obtain ⟨oc, od, kV, doc, pm, an, ct, osl, rfl, lk⟩ := F.fn
  refine ⟨fun vs H Q E h => ?_, fun A outer s H args us vs Q E hr e0 hb r hsp => ?_⟩
  · obtain ⟨a, v, rfl, _⟩ := h
    rfl
  obtain ⟨a, v, rfl, ea, ht⟩ := hsp
  have KX : K.In s.heap := e0.mod.kin.keeps fun b o e => (e0.bs b o e).1
  have lim : s.heap.NoLimit := e0.mod.nolimit.keeps fun b o e => (e0.bs b o e).1
  cases r with
  | @cons _ u0 _ ur ra rw' =>
  cases rw' with
  | @cons _ u1 _ ur' rb rn =>
  cases rn
  have hloc : ∀ x ∈ (["self", p] : List Str).zip [u0, u1], scope.names.lookup x.1 = some .local := fun x hx => by
    have hx : x ∈ [(("self" : Str), u0), (p, u1)] := hx
    simp only [List.mem_cons, List.not_mem_nil, or_false] at hx
    rcases hx with rfl | rfl
    · exact S.self
    · exact S.par
  refine ks_codeAny_call_defAt (body := [.Expr (.Call (.Attribute (.Call (.Name "super" p0) [] [] p1) "__init__" p2) (e :: es) [] pos) p3, st]) (binds := (["self", p] : List Str).zip [u0, u1]) hr.depth (KX _ _ lk) rfl lim (PySem.W.codeRec_of KX F.cd) rfl hb (fun x hx => (S.own x hx).1) hloc (fun h₁ hns kp => ?_) S.co S.gen S.kind
  have I : Inv (supCx CX P w K mg base p qual scope f (.ref cda) cc A outer s H E) [] [some (.ref a), some v] H { s with heap := h₁, toks := s.toks + 2 } := sup_start S hr.hd e0 hcell ra rb hns kp
  refine ks_wpAt_execs_cons (ks_wpAt_mono (sup_stmt S F0 I ea (ha A outer s H E) ht (he _) (hpl _) (hc _) (hi _) (hsw _)) (fun fl s' h => ?_) fun _ _ z => z)
  obtain ⟨rfl, H2, I2, h2⟩ := h
  refine wpAt_of_wpAny (wpAny_mono ((hst A outer s H E).run [] s' _ H2 _ I2 h2) (fun fl s2 hs => ?_) fun _ _ z => z)
  have fin : ∀ {σ' : L2.St} {H' : Hp} {v' : V} {u : Value}, Inv (supCx CX P w K mg base p qual scope f (.ref cda) cc A outer s H E) [] σ' H' s2 → RelV v' u → Q v' H' → CE outer P w H s Q u s2 :=
    fun {σ' H' v' u} J rv q => ⟨v', H', J.os, J.bare, J.base, J.hok, rv, q⟩
  cases fl with
  | ret u =>
    obtain ⟨v', σ', H', J, rv, q⟩ := hs
    exact fin J rv q
  | next =>
    obtain ⟨σ', H', J, q⟩ := hs
    exact fin (v' := V.non) (u := Value.none) J rfl q
  | brk =>
    obtain ⟨_, _, _, q⟩ := hs
    exact False.elim q
  | cont =>
    obtain ⟨_, _, _, q⟩ := hs
    exact False.elim q
end
end
end EB

/-! what the head says of own exceptions, as Bools -/
namespace EB
open PySem PySem.Spec PyProof.Rows L2
def okOexCls (K : PySem.W.Frag) (C : Addr) : Bool := match K.lookup C with
  | some ⟨.type t, _, .cls cd, sl⟩ => decide (t = "type") && (match cd.mro, sl.toList with
    | .ref C' :: bm, [_, _, _, _, some (.builtin n), _] => decide (C' = C) && (decide (n = "ValueError.__new__") && (!cd.hasDel && (cd.hasDict && PySem.HandSPX.refsVE bm)))
    | _, _ => false)
  | _ => false
def okOex (K : PySem.W.Frag) (C : Addr) : Bool := okOexCls K C && (He.eqO (PySem.W.findIn K (.ref C) "__setattr__") (some (some (.builtin "object.__setattr__"))) && (decide (PySem.W.subIn K (.ref C) (.type "BaseException") = some true) &&
  (decide (PySem.W.typeIn K (.ref C) = some (.type "type")) && PySem.W.keepIn K (.ref C))))
theorem okOexCls_of {K : PySem.W.Frag} {C : Addr} (h : okOexCls K C = true) : ∃ nm q N bs bm sn sub ab col dd k0 k1 k2 k3 k5, K.lookup C = some (excClassObj nm q C N bs bm true sn sub ab col dd k0 k1 k2 k3 k5 "ValueError.__new__") ∧ PySem.HandSPX.refsVE bm = true := by
  unfold okOexCls at h
  split at h
  · rename_i t dd cd sl ho
    obtain ⟨h1, h⟩ := Bool.and_eq_true_iff.mp h
    have h1 : t = "type" := of_decide_eq_true h1
    split at h
    · rename_i C' bm k0 k1 k2 k3 n k5 hm hs
      obtain ⟨h2, h⟩ := Bool.and_eq_true_iff.mp h
      obtain ⟨h3, h⟩ := Bool.and_eq_true_iff.mp h
      obtain ⟨h4, h⟩ := Bool.and_eq_true_iff.mp h
      obtain ⟨h5, h6⟩ := Bool.and_eq_true_iff.mp h
      have h2 : C' = C := of_decide_eq_true h2
      have h3 : n = "ValueError.__new__" := of_decide_eq_true h3
      obtain ⟨nm, bs, mro, ns, qn, hd, sn, sub, ab, col, del⟩ := cd
      dsimp only at hm h4 h5
      have hdel : del = false := by
        cases del with
        | false => rfl
        | true => cases h4
      have hsl : sl = #[k0, k1, k2, k3, some (.builtin n), k5] := by
        obtain ⟨l⟩ := sl
        simp only at hs
        rw [hs]
      subst h1 h2 h3 hm hdel hsl
      have h5 : hd = true := h5
      subst h5
      exact ⟨nm, qn, ns, bs, bm, sn, sub, ab, col, dd, k0, k1, k2, k3, k5, ho, h6⟩
    · cases h
  · cases h
theorem okOex_of {K : PySem.W.Frag} {C : Addr} (h : okOex K C = true) : OexC K C := by
  obtain ⟨h1, h⟩ := Bool.and_eq_true_iff.mp h
  obtain ⟨h2, h⟩ := Bool.and_eq_true_iff.mp h
  obtain ⟨h3, h⟩ := Bool.and_eq_true_iff.mp h
  obtain ⟨h4, h5⟩ := Bool.and_eq_true_iff.mp h
  exact ⟨okOexCls_of h1, He.eqO_ok h2, of_decide_eq_true h3, of_decide_eq_true h4, h5⟩
/-- the def's code object, its cell -/
def codeA (K : PySem.W.Frag) (a : Addr) : Addr := match fdAt K a with
  | some fd => (match fd.code with
    | .ref c => c
    | _ => 0)
  | none => 0
def cellA (K : PySem.W.Frag) (a : Addr) : Addr := match fdAt K a with
  | some fd => (match fd.closure with
    | [(_, c)] => c
    | _ => 0)
  | none => 0
def okSup (K : PySem.W.Frag) (x file : Str) (a : Addr) : Bool :=
  (match fdAt K a with
    | some fd => (match fd.closure with
      | [(n, _)] => decide (n = ("__class__" : Str))
      | _ => false) && (match fd.code with
      | .ref _ => true
      | _ => false)
    | none => false) &&
  ((match K.lookup (codeA K a) with
    | some ⟨_, _, .fields vs, _⟩ => (match (vs[2]? : Option Value) with
      | some (Value.str f _) => decide (f = file)
      | _ => false)
    | _ => false) &&
  ((match K.lookup (cellA K a) with
    | some ⟨_, _, .cell (some (.ref D)), _⟩ => decide (D = He.ga K x)
    | _ => false) &&
  ((PySem.W.clsIn K (He.ga K x)).isSome && (decide (PySem.W.mroIn K (He.ga K x) (.ref (He.ga K x)) = some true) && (He.eqO (PySem.W.ks_superIn K (He.ga K x) (He.ga K x) "__init__") (some (some (.builtin "ValueError.__init__"))) &&
  (decide (PySem.W.subIn K (.ref (He.ga K x)) (.type "ValueError") = some true) && (decide (PySem.W.nsIn K cStatics "thirdparty.any" = some none) && okOex K (He.ga K x))))))))
/-- all of it but the def's text -/
structure SupG (K : PySem.W.Frag) (file : Str) (a C : Addr) : Prop where
  code : ∃ ccl cdd vs ccs tf, K.lookup (codeA K a) = some ⟨ccl, cdd, .fields vs, ccs⟩ ∧ vs[2]? = some (.str file tf)
  cell : ∃ cl cld csl, K.lookup (cellA K a) = some ⟨cl, cld, .cell (some (.ref C)), csl⟩
  fd : ∀ fd, fdAt K a = some fd → fd.closure = [(("__class__" : Str), cellA K a)] ∧ fd.code = .ref (codeA K a)
  cls : ∃ cd, PySem.W.clsIn K C = some cd
  self : PySem.W.mroIn K C (.ref C) = some true
  init : PySem.W.ks_superIn K C C "__init__" = some (some (.builtin "ValueError.__init__"))
  val : PySem.W.subIn K (.ref C) (.type "ValueError") = some true
  opq : PySem.W.nsIn K cStatics "thirdparty.any" = some none
  oex : OexC K C
theorem okSup_of {K : PySem.W.Frag} {x file : Str} {a : Addr} (h : okSup K x file a = true) : SupG K file a (He.ga K x) := by
  obtain ⟨h1, h⟩ := Bool.and_eq_true_iff.mp h
  obtain ⟨h2, h⟩ := Bool.and_eq_true_iff.mp h
  obtain ⟨h3, h⟩ := Bool.and_eq_true_iff.mp h
  obtain ⟨h4, h⟩ := Bool.and_eq_true_iff.mp h
  obtain ⟨h5, h⟩ := Bool.and_eq_true_iff.mp h
  obtain ⟨h6, h⟩ := Bool.and_eq_true_iff.mp h
  obtain ⟨h7, h⟩ := Bool.and_eq_true_iff.mp h
  obtain ⟨h8, h9⟩ := Bool.and_eq_true_iff.mp h
  refine ⟨?_, ?_, fun fd e => ?_, Option.isSome_iff_exists.mp h4, of_decide_eq_true h5, He.eqO_ok h6, of_decide_eq_true h7, of_decide_eq_true h8, okOex_of h9⟩
  · split at h2
    · rename_i o1 o2 vs o3 e
      split at h2
      · rename_i f tk e2
        rw [of_decide_eq_true h2] at e2
        exact ⟨_, _, vs, _, tk, e, e2⟩
      · cases h2
    · cases h2
  · split at h3
    · rename_i o1 o2 D o3 e
      rw [of_decide_eq_true h3] at e
      exact ⟨_, _, _, e⟩
    · cases h3
  · unfold cellA codeA
    rw [e] at h1 ⊢
    obtain ⟨k1, k2⟩ := Bool.and_eq_true_iff.mp h1
    refine ⟨?_, ?_⟩
    · clear h1 k2
      dsimp only
      split at k1
      · rename_i n c e2
        rw [e2, of_decide_eq_true k1]
      · cases k1
    · clear h1 k1
      dsimp only
      split at k2
      · rename_i c e2
        rw [e2]
      · cases k2
theorem DD.funS {P : Program} {K : PySem.W.Frag} {mg : Str → Option Value} {d : DD} {file x : Str} {ar : Arg} (hcl : d.cl = true) (hdf : d.df = []) (hn : d.nm = ("__init__" : Str)) (e : d.obs K = some d.fs) (c : d.ok K = true) (g : SupG K file (d.adr K) (He.ga K x))
    (hfile : ((P.main.file : Str) == file) = true) (htop : (P.main.scope.names.lookup ("super" : Str)).isSome = false) (hmg : mg "super" = none) (hp : ((defArgs d.st).posonlyargs ++ (defArgs d.st).args).head? = some ar) (har : ar.arg = ("self" : Str)) :
    ∃ fd, SupF P K mg d.ql (defArgs d.st) (defBody d.st) (defScope d.st) (d.adr K) fd (He.ga K x) (codeA K (d.adr K)) (cellA K (d.adr K)) := by
  obtain ⟨kp, c2⟩ := Bool.and_eq_true_iff.mp c
  unfold DD.obs at e
  cases q : fdAt K (d.adr K) with
  | none =>
    rw [q] at e
    cases e
  | some fd =>
    obtain ⟨g1, g2⟩ := g.fd fd q
    rw [q] at e c2
    rw [hcl] at e
    obtain ⟨c3, c4⟩ := Bool.and_eq_true_iff.mp c2
    unfold fdAt at q
    cases l : K.lookup (d.adr K) with
    | none =>
      rw [l] at q
      cases q
    | some o =>
      rw [l] at q
      obtain ⟨oc, od, dt, osl⟩ := o
      cases dt with
      | func fd' =>
        have ef : fd' = fd := Option.some.inj q
        subst ef
        have e2 : fsOf { fd' with closure := [] } = d.fs := Option.some.inj e
        obtain ⟨n1, n2, n3, n4, n5, n6, n7, n8, n9, n10, n11, n12, n13, n14, n15⟩ := fd'
        simp only [fsOf, DD.fs, Prod.mk.injEq] at e2
        obtain ⟨h1, h2, h3, h4, h5, h6, h7, h8⟩ := e2
        dsimp only at g1 g2 c3
        rw [hn] at h1
        subst h1 h2 h3 h4 h5 h6 h8
        obtain ⟨ccl, cdd, vs, ccs, tf, k1, k2⟩ := g.code
        have hdv : n8 = .none := by
          have z := He.dflB_ok c4
          rw [hdf] at z
          rcases z with ⟨_, h⟩ | ⟨h, _⟩
          · exact h
          · exact absurd rfl h
        subst hdv
        refine ⟨_, ⟨oc, od, n9, n10, n11, n12, n14, osl, ?_, l⟩, by rw [← g2]; exact c3, ⟨ccl, cdd, vs, ccs, file, tf, k1, k2, hfile⟩, g.cell, ⟨ar, hp, har⟩, htop, hmg, g.cls, g.self, g.init, g.val, g.opq, g.oex⟩
        rw [g1, g2]
      | _ => cases q
end EB

/-! an own exception class: what the head says of it -/
namespace EB
open PySem PySem.Spec PyProof.Rows L2
abbrev bmV : List Value := [.type "ValueError", .type "Exception", .type "BaseException", .type "object"]
structure ExcG (K : PySem.W.Frag) (x : Str) (C : Addr) : Prop where
  keep : PySem.W.keepIn K (.ref C) = true
  base : PySem.W.subIn K (.ref C) (.type "BaseException") = some true
  ty : PySem.W.typeIn K (.ref C) = some (.type "type")
  self : PySem.W.subIn K (.ref C) (.ref C) = some true
  trade : PySem.W.subIn K (.ref C) (.ref (He.ga K "TradeError")) = some true
  val : PySem.W.subIn K (.ref C) (.type "ValueError") = some true
  isc : PySem.W.isClsIn K C = true
structure ExcN (K : PySem.W.Frag) (x : Str) (C : Addr) : Prop extends ExcG K x C where
  own : PySem.W.excIn K C bmV "ValueError.__new__" = true
structure ExcI (K : PySem.W.Frag) (x : Str) (C : Addr) : Prop extends ExcG K x C where
  ini : PySem.W.findIn K (.ref C) "__init__" = some (some (.ref (He.ma K C "__init__")))
  tyi : PySem.W.typeIn K (.ref (He.ma K C "__init__")) = some (.type "function")
  idx : PySem.W.findIn K (.ref C) "index" = some none
def okExc0 (K : PySem.W.Frag) (C : Addr) : Bool := PySem.W.keepIn K (.ref C) && (decide (PySem.W.subIn K (.ref C) (.type "BaseException") = some true) && (decide (PySem.W.typeIn K (.ref C) = some (.type "type")) && (decide (PySem.W.subIn K (.ref C) (.ref C) = some true) &&
  (decide (PySem.W.subIn K (.ref C) (.ref (He.ga K "TradeError")) = some true) && (decide (PySem.W.subIn K (.ref C) (.type "ValueError") = some true) && PySem.W.isClsIn K C)))))
def okExc (K : PySem.W.Frag) (x : Str) : Bool := okExc0 K (He.ga K x) && PySem.W.excIn K (He.ga K x) bmV "ValueError.__new__"
def okExcI (K : PySem.W.Frag) (x : Str) : Bool := okExc0 K (He.ga K x) && (He.eqO (PySem.W.findIn K (.ref (He.ga K x)) "__init__") (some (some (.ref (He.ma K (He.ga K x) "__init__")))) &&
  (decide (PySem.W.typeIn K (.ref (He.ma K (He.ga K x) "__init__")) = some (.type "function")) && decide (PySem.W.findIn K (.ref (He.ga K x)) "index" = some none)))
theorem okExc_of {K : PySem.W.Frag} {x : Str} (h : okExc K x = true) : ExcN K x (He.ga K x) := by
  obtain ⟨h, h0⟩ := Bool.and_eq_true_iff.mp h
  obtain ⟨h1, h⟩ := Bool.and_eq_true_iff.mp h
  obtain ⟨h2, h⟩ := Bool.and_eq_true_iff.mp h
  obtain ⟨h3, h⟩ := Bool.and_eq_true_iff.mp h
  obtain ⟨h4, h⟩ := Bool.and_eq_true_iff.mp h
  obtain ⟨h5, h⟩ := Bool.and_eq_true_iff.mp h
  obtain ⟨h6, h7⟩ := Bool.and_eq_true_iff.mp h
  exact ⟨⟨h1, of_decide_eq_true h2, of_decide_eq_true h3, of_decide_eq_true h4, of_decide_eq_true h5, of_decide_eq_true h6, h7⟩, h0⟩
theorem okExcI_of {K : PySem.W.Frag} {x : Str} (h : okExcI K x = true) : ExcI K x (He.ga K x) := by
  obtain ⟨h, h0⟩ := Bool.and_eq_true_iff.mp h
  obtain ⟨k1, k⟩ := Bool.and_eq_true_iff.mp h0
  obtain ⟨k2, k3⟩ := Bool.and_eq_true_iff.mp k
  obtain ⟨h1, h⟩ := Bool.and_eq_true_iff.mp h
  obtain ⟨h2, h⟩ := Bool.and_eq_true_iff.mp h
  obtain ⟨h3, h⟩ := Bool.and_eq_true_iff.mp h
  obtain ⟨h4, h⟩ := Bool.and_eq_true_iff.mp h
  obtain ⟨h5, h⟩ := Bool.and_eq_true_iff.mp h
  obtain ⟨h6, h7⟩ := Bool.and_eq_true_iff.mp h
  exact ⟨⟨h1, of_decide_eq_true h2, of_decide_eq_true h3, of_decide_eq_true h4, of_decide_eq_true h5, of_decide_eq_true h6, h7⟩, He.eqO_ok k1, of_decide_eq_true k2, of_decide_eq_true k3⟩
end EB

/-! isinstance of a caught error of an own class, with or without fields of its own -/
namespace EB
open PySem PySem.Spec PyProof.Rows L2
def okExcC (K : PySem.W.Frag) (D : Addr) : Bool := He.eqO (PySem.W.findIn K (.ref D) "__getattribute__") (some (some (.builtin "BaseException.__getattribute__"))) && (decide (PySem.W.findIn K (.ref D) "__getattr__" = some none) && (decide (PySem.W.subIn K (.ref D) (.type "BaseException") = some true) &&
  (PySem.W.hasDictIn K D && (He.eqO (PySem.W.findIn K (.ref D) "__class__") (some (some (.builtin "object.__class__"))) && (He.eqO (PySem.W.specialIn K (.builtin "object.__class__") "__get__") (some (some (.builtin "getset_descriptor.__get__"))) &&
  (decide (PySem.W.takesIn K (.builtin "object.__class__") = some true) && decide (PySem.W.mroIn K D (.type "object") = some true)))))))
theorem okExcC_of {K : PySem.W.Frag} {D : Addr} (h : okExcC K D = true) : ExcC K D ∧ XfC K D := by
  obtain ⟨h1, h⟩ := Bool.and_eq_true_iff.mp h
  obtain ⟨h2, h⟩ := Bool.and_eq_true_iff.mp h
  obtain ⟨h3, h⟩ := Bool.and_eq_true_iff.mp h
  obtain ⟨h4, h⟩ := Bool.and_eq_true_iff.mp h
  obtain ⟨h5, h⟩ := Bool.and_eq_true_iff.mp h
  obtain ⟨h6, h⟩ := Bool.and_eq_true_iff.mp h
  obtain ⟨h7, h8⟩ := Bool.and_eq_true_iff.mp h
  exact ⟨⟨He.eqO_ok h1, of_decide_eq_true h2, of_decide_eq_true h3, h4, He.eqO_ok h5, He.eqO_ok h6, of_decide_eq_true h7, of_decide_eq_true h8⟩, ⟨He.eqO_ok h1, of_decide_eq_true h2, of_decide_eq_true h3, h4⟩⟩
/-- isinstance(e, c), e the exception that the suite holds, of the class cls, its dict d -/
def rIsX (K : PySem.W.Frag) (cls : Value) (d : Option Addr) (a : Addr) : List V → Hp → VK → Prop := fun xs H Q => ∃ (D : Addr) (c : V) (cv : Value) (b : Bool), cls = .ref D ∧ ExcC K D ∧ (d = none ∨ ∃ dd fs, d = some dd ∧ H dd = some (.xd fs)) ∧
  xs = [.ref a, c] ∧ (∀ u, RelV c u → u = cv) ∧ PySem.W.kitOne K (.ref D) cv = some b ∧ Q (.bl b) H
theorem call_isX {X : Cx} {a : Addr} {oe : Obj} {cls : Value} {d : Option Addr} {pn : List (Addr × Obj)} (hz : Zc cls d oe) (hf : ∃ vs, oe.data = .fields vs) : CallR (X.suite a ((a, oe) :: pn)) (.builtin "isinstance") (rIsX X.K cls d a) := by
  intro pins s σ H xs us Q I r h
  obtain ⟨D, c, cv, b, rfl, C, hd, rfl, hcv, e, q⟩ := h
  cases r with
  | cons rx rr =>
    cases rr with
    | cons rt rr =>
      cases rr
      cases rx
      have ec := hcv _ rt
      subst ec
      obtain ⟨hget, _⟩ := I.pin (a, oe) (List.mem_append.mpr (.inl List.mem_cons_self))
      obtain ⟨vs, hv⟩ := hf
      obtain ⟨od, J⟩ : ∃ od, PySem.W.InstAt s.heap a oe D od := by
        obtain ⟨oc, odd, oda, osl⟩ := oe
        obtain ⟨h1, h2⟩ := hz
        dsimp only at h1 h2 hv
        subst h1 h2 hv
        rcases hd with rfl | ⟨dd, fs, rfl, ed⟩
        · exact ⟨none, hget, rfl, rfl, trivial⟩
        · have hx : ObjOk X.prog X.w H s.heap dd (.xd fs) := I.hok dd _ ed
          obtain ⟨mA, hns, hr⟩ := hx
          obtain ⟨od, ho, hl⟩ := lookIn_ns hns
          exact ⟨some od, hget, rfl, rfl, ho⟩
      have hcl : (PySem.W.clsIn X.K D).isSome = true := by
        obtain ⟨cd, hc, _⟩ := PySem.W.any_some C.hd
        rw [hc]
        rfl
      exact PySem.W.kia_one (PySem.W.kitx_exc hcl C.hg C.hk C.hs C.ha C.hn C.ht C.hm) I.kIn J e (fun z => nomatch z) fun tk => ⟨.bl b, H, I.kept (t' := tk) fun _ _ z => z, rfl, q⟩
/-- which of the six kinds of errors it is -/
def kindsX : List Str := ["Contradiction", "InvalidNumber", "InvalidOffer", "InvalidStep", "TooGenerous", "UnknownKind"]
def okKit (K : PySem.W.Frag) (x : Str) : Bool := (kindsX.all fun y => decide (PySem.W.kitOne K (.ref (He.ga K x)) (.ref (He.ga K y)) = some (decide (x = y)))) && decide (PySem.W.kitOne K (.ref (He.ga K x)) (.type "ValueError") = some true)
structure KitX6 (K : PySem.W.Frag) (x : Str) : Prop where
  own : ∀ y ∈ kindsX, PySem.W.kitOne K (.ref (He.ga K x)) (.ref (He.ga K y)) = some (decide (x = y))
  val : PySem.W.kitOne K (.ref (He.ga K x)) (.type "ValueError") = some true
theorem okKit_of {K : PySem.W.Frag} {x : Str} (h : okKit K x = true) : KitX6 K x := by
  obtain ⟨h1, h2⟩ := Bool.and_eq_true_iff.mp h
  exact ⟨fun y hy => of_decide_eq_true (List.all_eq_true.mp h1 y hy), of_decide_eq_true h2⟩
/-- xs.count(y), flat items -/
def rCntV (K : PySem.W.Frag) : V → List V → Hp → VK → Prop := fun x xs H Q => ∃ (p : Addr) (ys : List V) (y : V), x = .ref p ∧ xs = [y] ∧ SqL K H p ys ∧ flatV y = true ∧ ys.all flatV = true ∧ Q (.int ((ys.countP fun z => eqV z y : Nat) : Int)) H
theorem count_eqU {x : V} : ∀ {xs : List V} {us : List Value}, Vals xs us → xs.all flatV = true → us.countP (eqU x) = xs.countP fun y => eqV y x
  | _, _, .nil, _ => rfl
  | y :: xs, u :: us, .cons r t, f => by
    rw [List.all_cons, Bool.and_eq_true] at f
    rw [List.countP_cons, List.countP_cons, eqU_of r f.1, count_eqU t f.2]
theorem mt_countV {X : Cx} : MtR X "list.count" (rCntV X.K) := by
  intro pins s σ H x xs v us Q I rx rxs h
  obtain ⟨p, ys, y, rfl, rfl, hs, fy, fys, q⟩ := h
  cases rx
  cases rxs with
  | cons ry rt =>
    rename_i uy ut
    cases rt
    obtain ⟨its, rv, ⟨⟨cls, dd, data, sl⟩, n, ho, hc, hdn, hd⟩, hlen⟩ := I.list hs
    simp only at hc hd
    subst hc hd
    refine call_meets PySem.F.slot_list_count ⟨_, ho, rfl⟩ PySem.F.entry_list_count (PySem.F.args_list_count_2 _ _)
      (SeqAt.list_countAt p its.toArray n dd sl uy (eqU y)) ⟨ho, fun u' hu' => mem_eqAt ry fy rv fys u' (by simpa using hu'), ?_⟩
    refine ⟨.int ((ys.countP fun z => eqV z y : Nat) : Int), H, I.tok _, ⟨s.toks, ?_⟩, q⟩
    show Value.int ((its.toArray.toList.countP (eqU y) : Nat) : Int) s.toks = _
    rw [show its.toArray.toList = its from rfl, count_eqU rv fys]
end EB

/-! A law that makes lambdas: the tables of code objects, in the heap and at the head. -/
namespace EB
open PySem PySem.Spec PyProof.Rows L2
/-- the head's facts and the tables of the defs tf: empty, not in K -/
structure SaysL (fa : List He.Fa) (more : PySem.W.Frag → Bool) (ds : List DD) (tf : List He.Defn) (h : Heap) (K : PySem.W.Frag) : Prop where
  t : Says fa more ds K
  hd : ∀ p ∈ tf, PySem.W.codeHdIn K (He.cT K p).1 (He.cT K p).2 = true
  out : ∀ p ∈ tf, K.lookup (He.cT K p).2 = none
  empty : ∀ p ∈ tf, h.get? (He.cT K p).2 = some { cls := .none, data := .fields #[] }
abbrev SeenL : Type := Seen × Bool
def obsL (fa : List He.Fa) (more : PySem.W.Frag → Bool) (ds : List DD) (tf : List He.Defn) (g : Addr → Option Obj) (as : List Addr) : SeenL := (seen fa more ds (He.frT g as), He.tabsB g tf (He.frT g as))
theorem saysL_of {fa : List He.Fa} {more : PySem.W.Frag → Bool} {ds : List DD} {tf : List He.Defn} {h : Heap} {as : List Addr} (e : obsL fa more ds tf h.get? as = (want ds, true)) : SaysL fa more ds tf h (He.frT h.get? as) := by
  have e1 : seen fa more ds (He.frT h.get? as) = want ds := congrArg (fun z : SeenL => z.1) e
  have h2 : He.tabsB h.get? tf (He.frT h.get? as) = true := congrArg (fun z : SeenL => z.2) e
  have key : ∀ p ∈ tf, PySem.W.codeHdIn (He.frT h.get? as) (He.cT (He.frT h.get? as) p).1 (He.cT (He.frT h.get? as) p).2 = true ∧ ∃ o, h.get? (He.cT (He.frT h.get? as) p).2 = some o ∧ He.emptyTab o = true := fun p hp => by
    obtain ⟨h3, h4⟩ := Bool.and_eq_true_iff.mp (List.all_eq_true.mp h2 p hp)
    refine ⟨h3, ?_⟩
    cases q : h.get? (He.cT (He.frT h.get? as) p).2 with
    | none =>
      rw [q] at h4
      cases h4
    | some o =>
      rw [q] at h4
      exact ⟨o, rfl, h4⟩
  exact ⟨e1, fun p hp => (key p hp).1, fun p hp => by
    obtain ⟨_, o, q, z⟩ := key p hp
    exact He.frT_none q z, fun p hp => by
    obtain ⟨_, o, q, z⟩ := key p hp
    rw [q, He.emptyTab_eq z]⟩
def hookL (n : Nat) (fa : List He.Fa) (more : PySem.W.Frag → Bool) (ds : List DD) (tf : List He.Defn) : PySem.W.Hook where
  α := SeenL
  obs := fun s => obsL fa more ds tf s.heap.get? (cStatics :: He.asD s.heap.get? n)
  val := fun _ => (want ds, true)
  says := fun _ h => ∃ K : PySem.W.Frag, K.In h ∧ SaysL fa more ds tf h K
  of := fun _ _ e => ⟨_, He.frT_in, saysL_of e⟩
  keeps := fun _ _ _ ⟨K, hK, c⟩ k => ⟨K, PySem.W.Frag.In.keeps hK k, ⟨c.t, c.hd, c.out, fun p hp => k _ _ (c.empty p hp)⟩⟩
section
variable {P : Program} {w : World} {K : PySem.W.Frag} {mg : Str → Option Value} {base : Heap}
/-- a def whose code object is known -/
theorem fnCK0 {d : DD} {fd : FuncData} {N ps : List Str} {k : Nat} {sp : Sp} {c : Addr} (F : FnP K d fd) (hc : fd.code = .ref c) (S : FnScope N ps (defScope d.st)) (len : ∀ vs H Q E, sp vs H Q E → vs.length = ps.length)
    (hbody : ∀ (A : Around) (outer : List Env) (s : Shared) (H : Hp) (vs : List V) (Q : VK) (E : XK), Room k (A.deeper (envOfC d.ql (defScope d.st) s.heap.objs.size (d.adr K) (.ref c))) → sp vs H Q E →
      ∃ t, PSs (cxOf CX0 P w K mg base N d.ql (defScope d.st) (d.adr K) (.ref c) A outer s H E).nox (defBody d.st) t ∧ t { nx := fun _ H' => Q .non H', rt := Q } (start N vs) H) :
    FnOk P w K mg base CX0 (k + 1) (d.adr K) fd ps sp := by
  obtain ⟨oc, od, dV, kV, doc, pm, an, cdv, ct, osl, rfl, lk, hcd, _, _⟩ := F.ex
  obtain rfl : cdv = .ref c := hc
  refine fn_of lk hcd S len fun A outer s H vs Q E hr hsp => ?_
  obtain ⟨t, h1, h2⟩ := hbody A outer s H vs Q E hr hsp
  exact ⟨t, h1.nox, h2⟩
theorem code_of {d : DD} {fd : FuncData} (F : FnP K d fd) : ∃ oc od osl c, K.lookup (d.adr K) = some ⟨oc, od, .func fd, osl⟩ ∧ fd.code = .ref c := by
  obtain ⟨oc, od, dV, kV, doc, pm, an, cdv, ct, osl, rfl, lk, hcd, _, _⟩ := F.ex
  obtain ⟨c, rfl⟩ := He.codeIn_ref hcd
  exact ⟨oc, od, osl, c, lk, rfl⟩
end
/-! ### the heap without its tables -/
def nt (H : Hp) : Hp := fun b => match H b with
  | some (.tbl _) => none
  | o => o
theorem nt_same {H : Hp} : Same (nt H) H := fun b o e => by
  unfold nt at e
  split at e
  · cases e
  · exact e
theorem nt_no {H : Hp} {b : Addr} {ps : Array Value} : nt H b ≠ some (.tbl ps) := fun e => by
  unfold nt at e
  split at e
  · cases e
  · rename_i h
    exact h ps e
theorem nt_at {H : Hp} {b : Addr} {o : HO} (e : H b = some o) (h : ∀ ps, o ≠ .tbl ps) : nt H b = some o := by
  unfold nt
  rw [e]
  cases o with
  | tbl ps => exact absurd rfl (h ps)
  | _ => rfl
theorem nt_ext {H H1 : Hp} (e : LamX.ExtN H H1) : Same (nt H) H1 := fun b o z => e b o (nt_same b o z) fun ps q => by
  rw [q] at z
  exact nt_no z
/-- a heap that knows no table -/
def NoT (H : Hp) : Prop := ∀ b ps, H b ≠ some (.tbl ps)
theorem nt_noT {H : Hp} : NoT (nt H) := fun b ps => nt_no
theorem same_nt {B H : Hp} (n : NoT B) (s : Same B H) : Same B (nt H) := fun b o e => nt_at (s b o e) fun ps q => n b ps (by rw [e, q])
theorem tabS_same {H H' : Hp} {P : Addr} {q : Str} (t : LamX.TabS H P q) (s : Same H H') : LamX.TabS H' P q := t.ext s
end EB

namespace EB
/-! Counting the numbers that a test takes. -/
def cnt (g : Nat → Bool) : Nat → Nat
  | 0 => 0
  | n + 1 => cnt g n + if g n = true then 1 else 0
theorem cnt_s (g : Nat → Bool) (n : Nat) : cnt g (n + 1) = cnt g n + if g n = true then 1 else 0 := rfl
theorem cnt_t {g : Nat → Bool} {n : Nat} (h : g n = true) : cnt g (n + 1) = cnt g n + 1 := by
  rw [cnt_s, if_pos h]
theorem cnt_add (g : Nat → Bool) (a : Nat) : ∀ b, cnt g (a + b) = cnt g a + cnt (fun i => g (a + i)) b
  | 0 => rfl
  | b + 1 => by
    rw [← Nat.add_assoc, cnt_s, cnt_add g a b, cnt_s]
    omega
theorem cnt_congr {g f : Nat → Bool} : ∀ n, (∀ i, i < n → g i = f i) → cnt g n = cnt f n
  | 0, _ => rfl
  | n + 1, h => by rw [cnt_s, cnt_s, cnt_congr n (fun i hi => h i (Nat.lt_succ_of_lt hi)), h n (Nat.lt_succ_self n)]
theorem cnt_mono (g : Nat → Bool) {m n : Nat} (h : m ≤ n) : cnt g m ≤ cnt g n := by
  obtain ⟨k, rfl⟩ : ∃ k, n = m + k := ⟨n - m, by omega⟩
  rw [cnt_add]
  omega
theorem cnt_le (g : Nat → Bool) : ∀ n, cnt g n ≤ n
  | 0 => Nat.le_refl _
  | n + 1 => by
    have := cnt_le g n
    rw [cnt_s]
    split <;> omega
theorem cnt_filter (g : Nat → Bool) : ∀ n, ((List.range n).filter g).length = cnt g n
  | 0 => rfl
  | n + 1 => by
    rw [List.range_succ, List.filter_append, List.length_append, cnt_filter g n, cnt_s, List.filter_cons]
    split <;> rfl
/-- two numbers with the same count before them are the same -/
theorem cnt_inj {g : Nat → Bool} {a b : Nat} (ha : g a = true) (hb : g b = true) (e : cnt g a = cnt g b) : a = b := by
  rcases Nat.lt_trichotomy a b with h | h | h
  · have h1 := cnt_mono g (show a + 1 ≤ b from h)
    rw [cnt_t ha] at h1
    omega
  · exact h
  · have h1 := cnt_mono g (show b + 1 ≤ a from h)
    rw [cnt_t hb] at h1
    omega
theorem filter_get (g : Nat → Bool) : ∀ (n i : Nat) (b : Nat), ((List.range n).filter g)[i]? = some b → g b = true ∧ cnt g b = i ∧ b < n
  | 0, i, b, h => by cases h
  | n + 1, i, b, h => by
    rw [List.range_succ, List.filter_append] at h
    rcases Nat.lt_or_ge i ((List.range n).filter g).length with z | z
    · rw [List.getElem?_append_left z] at h
      have h1 := filter_get g n i b h
      exact ⟨h1.1, h1.2.1, by omega⟩
    · rw [List.getElem?_append_right z, List.filter_cons] at h
      split at h
      · rename_i hg
        cases hk : i - ((List.range n).filter g).length with
        | zero =>
          rw [hk] at h
          cases h
          rw [cnt_filter] at hk z
          exact ⟨hg, by omega, by omega⟩
        | succ k =>
          rw [hk] at h
          cases h
      · cases h
/-- from s on it repeats -/
def Rpt (g : Nat → Bool) (s p : Nat) : Prop := ∀ n, s ≤ n → g (n + p) = g n
theorem Rpt.many {g : Nat → Bool} {s p : Nat} (h : Rpt g s p) : ∀ k n, s ≤ n → g (n + k * p) = g n
  | 0, n, _ => by rw [Nat.zero_mul, Nat.add_zero]
  | k + 1, n, hn => by
    rw [show n + (k + 1) * p = (n + k * p) + p by rw [Nat.succ_mul]; omega, h _ (by omega), h.many k n hn]
theorem Rpt.modp {g : Nat → Bool} {s p : Nat} (h : Rpt g s p) (m : Nat) : g (s + m) = g (s + m % p) := by
  have e := Nat.mod_add_div m p
  have h1 := h.many (m / p) (s + m % p) (by omega)
  rw [show s + m % p + m / p * p = s + m by rw [Nat.mul_comm]; omega] at h1
  exact h1
theorem Rpt.mul {g : Nat → Bool} {s p : Nat} (h : Rpt g s p) (k : Nat) : Rpt g s (k * p) := fun n hn => h.many k n hn
theorem Rpt.and {g f : Nat → Bool} {s p : Nat} (h : Rpt g s p) (k : Rpt f s p) : Rpt (fun n => g n && f n) s p := fun n hn => by
  show (g (n + p) && f (n + p)) = (g n && f n)
  rw [h n hn, k n hn]
theorem Rpt.cnt {g : Nat → Bool} {s p : Nat} (h : Rpt g s p) : ∀ k r, EB.cnt g (s + k * p + r) = EB.cnt g s + k * EB.cnt (fun i => g (s + i)) p + EB.cnt (fun i => g (s + i)) r := by
  have one : ∀ k, EB.cnt g (s + k * p) = EB.cnt g s + k * EB.cnt (fun i => g (s + i)) p := by
    intro k
    induction k with
    | zero => simp
    | succ k ih =>
      rw [show s + (k + 1) * p = (s + k * p) + p by rw [Nat.succ_mul]; omega, cnt_add, ih, Nat.succ_mul]
      rw [cnt_congr (g := fun i => g (s + k * p + i)) (f := fun i => g (s + i)) p (fun i _ => by rw [show s + k * p + i = (s + i) + k * p by omega]; exact h.many k _ (by omega))]
      omega
  intro k r
  rw [cnt_add, one]
  rw [cnt_congr (g := fun i => g (s + k * p + i)) (f := fun i => g (s + i)) r (fun i _ => by rw [show s + k * p + i = (s + i) + k * p by omega]; exact h.many k _ (by omega))]
/-- the numbers below a bound that are taken, as the program keeps them -/
def takeN (g : Nat → Bool) (n : Nat) : List Int := ((List.range n).filter g).map fun i : Nat => (i : Int)
theorem takeN_len (g : Nat → Bool) (n : Nat) : (takeN g n).length = cnt g n := by
  unfold takeN
  rw [List.length_map, cnt_filter]
theorem takeN_s (g : Nat → Bool) (n : Nat) : takeN g (n + 1) = takeN g n ++ if g n = true then [(n : Int)] else [] := by
  unfold takeN
  rw [List.range_succ, List.filter_append, List.map_append, List.filter_cons]
  split <;> rfl
theorem takeN_mem {g : Nat → Bool} {n : Nat} {x : Int} (h : x ∈ takeN g n) : ∃ i : Nat, x = i ∧ i < n ∧ g i = true := by
  unfold takeN at h
  obtain ⟨i, m, rfl⟩ := List.mem_map.mp h
  obtain ⟨m1, m2⟩ := List.mem_filter.mp m
  exact ⟨i, rfl, List.mem_range.mp m1, m2⟩
theorem takeN_le (g : Nat → Bool) (t : Nat) : ∀ n, ((takeN g n).filter fun x => decide (x ≤ (t : Int))).length = cnt g (min n (t + 1))
  | 0 => by rw [Nat.zero_min]; rfl
  | n + 1 => by
    rw [takeN_s, List.filter_append, List.length_append, takeN_le g t n]
    by_cases z : n ≤ t
    · rw [show min n (t + 1) = n by omega, show min (n + 1) (t + 1) = n + 1 by omega, cnt_s]
      split
      · rw [List.filter_cons, if_pos (decide_eq_true (by omega))]
        rfl
      · rfl
    · rw [show min n (t + 1) = t + 1 by omega, show min (n + 1) (t + 1) = t + 1 by omega]
      split
      · rw [List.filter_cons, if_neg (by simp; omega)]
        rfl
      · rfl
theorem takeN_get {g : Nat → Bool} {n i : Nat} (h : i < cnt g n) : ∃ b : Nat, (takeN g n).getD i 0 = (b : Int) ∧ g b = true ∧ cnt g b = i ∧ b < n := by
  have hl : i < ((List.range n).filter g).length := by rw [cnt_filter]; exact h
  have e := List.getElem?_eq_getElem hl
  refine ⟨_, ?_, filter_get g n i _ e⟩
  unfold takeN
  rw [List.getD_eq_getElem?_getD, List.getElem?_map, e]
  rfl
theorem takeN_filter (g f : Nat → Bool) (n : Nat) : (takeN g n).filter (fun x => f x.toNat) = takeN (fun i => g i && f i) n := by
  induction n with
  | zero => rfl
  | succ n ih =>
    rw [takeN_s, takeN_s, List.filter_append, ih]
    congr 1
    cases hg : g n <;> cases hf : f n <;> simp [hf]
theorem takeN_congr {g f : Nat → Bool} : ∀ n, (∀ i, i < n → g i = f i) → takeN g n = takeN f n
  | 0, _ => rfl
  | n + 1, h => by rw [takeN_s, takeN_s, takeN_congr n (fun i hi => h i (Nat.lt_succ_of_lt hi)), h n (Nat.lt_succ_self n)]
theorem takeN_add (g : Nat → Bool) (a : Nat) : ∀ b, takeN g (a + b) = takeN g a ++ (takeN (fun i => g (a + i)) b).map fun x => (a : Int) + x
  | 0 => by
    show takeN g a = takeN g a ++ []
    rw [List.append_nil]
  | b + 1 => by
    rw [← Nat.add_assoc, takeN_s, takeN_add g a b, takeN_s, List.map_append, ← List.append_assoc]
    congr 1
    cases hg : g (a + b)
    · simp [hg]
    · simp [hg]
end EB

/-! enumerate over a tuple; lcm. -/
namespace EB
open PySem PySem.Spec PyProof.Rows L2
def rLcm : List V → Hp → VK → Prop := fun vs H Q => ∃ x y : Int, vs = [.int x, .int y] ∧ x.natAbs < 2 ^ 64 ∧ y.natAbs < 2 ^ 64 ∧ Q (.int ((x.natAbs.lcm y.natAbs : Nat) : Int)) H
theorem cr_lcm {X : Cx} : CallR X (.builtin "math.lcm") rLcm := by
  rintro pins s σ H vs us Q I r ⟨x, y, rfl, hx, hy, q⟩
  obtain ⟨t, u, rfl⟩ := Vals.int2 r
  exact PySem.W.mc_lcm hx hy fun _ => ⟨.int _, H, I.tok _, ⟨_, rfl⟩, q⟩
/-- sum of a tuple of ints -/
def rSumT (K : PySem.W.Frag) : List V → Hp → VK → Prop := fun vs H Q => ∃ (a : Addr) (ns : List Int), vs = [V.ref a] ∧ SqT K H a (ns.map V.int) ∧ Q (.int ns.sum) H
theorem cr_sumT {X : Cx} (hc : X.calm = true) : CallR X (.builtin "sum") (rSumT X.K) := by
  rintro pins s σ H vs us Q I r ⟨a, ns, rfl, hs, q⟩
  obtain ⟨its, rv, ht, _⟩ := I.tuple hs
  rw [Vals.ref1 r]
  have hi : IntsAre its ns := rv.ints
  obtain ⟨xs, e⟩ := hi.allInts.items
  have hn : numsOf (intItems xs).toList = ns := by
    rw [← e]
    exact hi.numsOf
  rw [nums_intItems] at hn
  have ht2 : s.heap.IsTuple a (intItems xs) := by
    rw [← e]
    exact ht
  refine PySem.W.ktm_sumG (I.ok.hd hc) ht2 fun h' tk t' hk => ?_
  rw [preSum_eq, List.take_of_length_le (by simp), hn]
  exact ⟨.int _, H, I.kept hk, ⟨_, rfl⟩, q⟩
/-- o.m(), a positional promise -/
theorem pe_methR0 {X : Cx} {CX : CXT} {k : Nat} {C f : Addr} {m : Str} {sp : Sp} {E : XK} {o : Expr} {ta : TE} {apos pos : Pos} {pl : Sem Bool} (he : PE X o ta) (c : Cls X.K C) (hm : Meth X.K C m f) (F : FnR X.prog X.w X.K X.mg X.base CX k f sp) (hr : Room k X.A) (hx : Passes CX X E)
    (ht : eval (.Call (.Attribute o m apos) [] [] pos) X.env = (do
      let v ← eval o X.env
      standAt apos.atName
      let (g, fst) ← holding [v] (getMethod v m pl)
      callWith pos g fst (backTo pos (starEach [] X.env)) (backToKw pos (keywordEach [] X.env))) := by rfl) : PE X (.Call (.Attribute o m apos) [] [] pos) (tM0 C m sp E ta) := by
  constructor
  intro pins s σ H Q I h
  refine PySem.W.methodCall_KW (pl := pl) (thn (he.run pins s σ H _ I h) fun u s1 ⟨x, H1, I1, rx, a, dx, fs, ex, ea, l, q⟩ => ?_) ht
  subst ex
  obtain rfl : u = Value.ref a := rx
  refine getmeth_ok I1 ea c hm l ?_
  exact PySem.W.callWith_K0 (first := [.ref a]) I1.kIn hm.kp (wpAny_call (run_fnR (us := [.ref a]) (vs := [.ref a]) F hr hx I1 (.cons rfl .nil) q))
theorem meets_enumV {v : Value} {o : Obj} {G : Heap → Prop} (B : Begins v o G) :
    Meets (Builtin.«enumerate.__new__» ⟨[.type "enumerate", v], []⟩) (fun _ R s => G s.heap ∧
      R (.ok (.ret (.ref (s.heap.push o).objs.size))) { s with heap := (s.heap.push o).push { cls := .type "enumerate", data := .fields #[.none, .bool false, .ref s.heap.objs.size, rawInt 0, .none, .none] } }) :=
  .of_wp fun prog w A R s h => by
    obtain ⟨hp, g, d, tk, os⟩ := s
    obtain ⟨h1, h⟩ := h
    have hsub := sub_enumerate
    have q1 : ∀ {A' : Around} {E : Value → Shared → Prop} {Q : Value → Shared → Prop}, Q (.ref hp.objs.size) ⟨hp.push o, g, d, tk, os⟩ → wpAny (model prog w) A' (pyIter v) Q E ⟨hp, g, d, tk, os⟩ :=
      fun q => B.iter prog w _ _ ⟨hp, g, d, tk, os⟩ _ h1 q
    wp_walk using q1
    refine wpAny_stack_any fun st => wpAny_pure ?_
    split
    · rename_i c _ _ _ _ _
      cases (c == Value.type "enumerate")
      · wp_walk using q1
        exact ⟨_, rfl, h⟩
      · wp_walk using q1
        exact ⟨_, rfl, h⟩
    · wp_walk using q1
      exact ⟨_, rfl, h⟩
theorem call_enumT {prog : Program} {w : World} {A : Around} {E : Value → Shared → Prop} {s : Shared} {a : Addr} {its : Array Value} {Q : Value → Shared → Prop} (ht : s.heap.IsTuple a its)
    (h : ∀ h', IsEnum h' (s.heap.objs.size + 1) s.heap.objs.size 0 .none → h'.IsTupleIter s.heap.objs.size a 0 → (∀ b o, s.heap.get? b = some o → h'.get? b = some o) → Q (.ref (s.heap.objs.size + 1)) { s with heap := h' }) :
    wpAny (model prog w) A (call (.type "enumerate") [.ref a]) Q E s := by
  refine callType_new F.called_enumerate (by decide) (F.typeCall_enumerate_1 _) (F.newCall_enumerate_1 _) (fun obj => F.args_object_init_2 obj _) F.entry_enumerate_new (meets_enumV (begins_tuple a its)) ⟨ht, ?_⟩
  have hz : (s.heap.push { cls := .type "tuple_iterator", data := .fields #[.ref a, .int 0 0] }).objs.size = s.heap.objs.size + 1 := Heap.size_push ..
  show _ ∧ _
  rw [hz]
  have he : IsEnum ((s.heap.push { cls := .type "tuple_iterator", data := .fields #[.ref a, .int 0 0] }).push { cls := .type "enumerate", data := .fields #[.none, .bool false, .ref s.heap.objs.size, rawInt 0, .none, .none] }) (s.heap.objs.size + 1) s.heap.objs.size 0 .none := by
    have z := Heap.get?_push_size (s.heap.push { cls := .type "tuple_iterator", data := .fields #[.ref a, .int 0 0] }) (o := { cls := .type "enumerate", data := .fields #[.none, .bool false, .ref s.heap.objs.size, rawInt 0, .none, .none] }) rfl
    rw [hz] at z
    exact z
  exact ⟨⟨_, he, rfl⟩, h _ he ⟨_, Heap.get?_push_of_some _ (Heap.get?_push_size _ rfl), rfl, rfl⟩ fun b o x => Heap.get?_push_of_some _ (Heap.get?_push_of_some _ x)⟩
/-- the tuple at a as it stands at each turn, each item in a new pair with its place -/
def ItE (K : PySem.W.Frag) (a : Addr) : It :=
  ⟨fun i H => ∃ (xs : List V) (x : V), SqT K H a xs ∧ xs[i]? = some x, fun i H v H' => ∃ q x, v = .ref q ∧ H q = none ∧ H' = upd H q (.tup [.int (i : Nat), x]) ∧ ∀ xs, SqT K H a xs → xs[i]? = some x,
    fun i H => ∃ xs : List V, SqT K H a xs ∧ xs.length = i⟩
theorem turn_E {P : Program} {w : World} {K : PySem.W.Frag} {elts : List Expr} {kk : Nat} {tpos : Pos} (a e it : Addr) :
    Turn P w K (.Tuple elts kk tpos) (ItE K a) [e, it] e (fun i h => (∃ old, IsEnum h e it ((i : Nat) : Int) old) ∧ h.IsTupleIter it a i ∧ e ≠ it ∧ a ≠ it ∧ a ≠ e) where
  mem := by simp
  obj := fun i h st b hb => by
    obtain ⟨⟨old, he⟩, ⟨o, ho, hc, hd⟩, _⟩ := st
    rcases (show b = e ∨ b = it by simpa using hb) with rfl | rfl
    · exact ⟨_, he, fun v q => nomatch q⟩
    · exact ⟨o, ho, fun v q => by rw [hd] at q; cases q⟩
  keep := fun i h h' st k => by
    obtain ⟨⟨old, he⟩, hi, hne⟩ := st
    exact ⟨⟨old, k e (by simp) _ he⟩, hi.at fun o q => k it (by simp) o q, hne⟩
  item := by
    intro X hP hw hK hc i pins s σ H E I hf st hg
    subst hP hw hK
    obtain ⟨⟨old, he⟩, hit, hne, hai, hae⟩ := st
    obtain ⟨xs, x, hq, hx⟩ := hg
    obtain ⟨its, rv, p, hz⟩ := I.tuple hq
    obtain ⟨u, hu, ru⟩ := rv.get hx
    have hlt : i < its.toArray.size := by
      have z := (List.getElem?_eq_some_iff.mp hu).1
      simpa using z
    have hel : e < s.heap.objs.size := Heap.lt_size he
    have hil : it < s.heap.objs.size := by
      obtain ⟨_, q, _⟩ := hit
      exact Heap.lt_size q
    have p' : s.heap.IsTuple a its.toArray := p
    refine wpAny_pyNext_enum_itemC (Draws.tuple (prog := X.prog) (w := X.w) (show X.A.in1.handled = none from I.ok.hd hc) it a hai its.toArray) he ⟨hit, p'⟩ hlt hne (by simp [hne, Ne.symm hae]) fun u' h' tk hu' ho hs' hT hsz hk => ?_
    have eu : u' = u := by
      have z : its.toArray[i]? = some u' := hu'
      rw [show its.toArray[i]? = some u by simpa using hu] at z
      exact (Option.some.inj z).symm
    subst eu
    refine ⟨_, rfl, wpAny_letOwnedTupleGo_enum (s := { s with heap := h', toks := tk + 1 }) ho fun h'' he' sb => ?_⟩
    have hT2 : h''.get? s.heap.objs.size = some { cls := .type "tuple", data := .seq #[.int i tk, u'] } := (sb.2 _ (Nat.ne_of_gt hel)).trans hT
    have new : ObjOk X.prog X.w (upd H s.heap.objs.size (.tup [.int (i : Nat), x])) h'' s.heap.objs.size (.tup [.int (i : Nat), x]) := by
      refine ⟨?_, [.int i tk, u'], .cons ⟨_, rfl⟩ (.cons ru .nil), ⟨_, hT2, rfl, _, rfl⟩⟩
      show 2 ≤ sizeLine
      decide
    have I1 : Inv X pins σ (upd H s.heap.objs.size (.tup [.int (i : Nat), x])) { s with heap := h'', toks := tk + 1 } := by
      refine I.turnedNew (ch := [e, it]) (fun b ob hb q => ?_) hf (Nat.le_refl _) new
      have b1 : b ≠ e := fun z => hb (by simp [z])
      have b2 : b ≠ it := fun z => hb (by simp [z])
      exact (sb.2 b b1).trans (hk b ob b1 b2 q)
    refine ⟨.ref s.heap.objs.size, _, I1, rfl, ⟨_, x, rfl, I.hok.fresh (Nat.le_refl _), rfl, fun ys hy => ?_⟩, ⟨⟨u', ?_⟩, ?_, hne, hai, hae⟩, fun b hb => ?_⟩
    · rw [I.tuple_inj hy hq]
      exact hx
    · rw [show ((i + 1 : Nat) : Int) = (i : Int) + 1 by omega]
      exact he'
    · exact hs'.1.at fun o q => (sb.2 it (Ne.symm hne)).trans q
    · have hb' : b < s.heap.objs.size := by
        rcases (show b = e ∨ b = it by simpa using hb) with rfl | rfl
        · exact hel
        · exact hil
      rw [upd_ne (Nat.ne_of_lt hb')]
      exact (hf b hb).1
  done := by
    intro X hP hw hK hc i pins s σ H E I hf st hg
    subst hP hw hK
    obtain ⟨⟨old, he⟩, hit, hne, hai, hae⟩ := st
    obtain ⟨xs, hq, hx⟩ := hg
    obtain ⟨its, rv, p, hz⟩ := I.tuple hq
    obtain ⟨f0, f1, f2, f3, f4, f5⟩ := hf it (by simp)
    have hl := rv.length
    have p' : s.heap.IsTuple a its.toArray := p
    have es : its.toArray.size = i := by
      rw [List.size_toArray]
      omega
    refine wpAny_pyNext_enum_endD (Draws.tuple (prog := X.prog) (w := X.w) (show X.A.in1.handled = none from I.ok.hd hc) it a hai its.toArray) he ?_ fun h' eb => ⟨rfl, I.turned (t' := s.toks) (fun b o hb q => eb b o hb q) f0 f1 f3 f4 f5⟩
    rw [es]
    exact ⟨hit, p'⟩
  self := fun A i s Q E st h => by
    obtain ⟨⟨_, he⟩, _⟩ := st
    exact wpAny_pyIter_enum he h
def iEnumT (K : PySem.W.Frag) (ta : TA) : TI := fun σ H R => ta σ H fun vs H1 => ∃ a xs, vs = [.ref a] ∧ SqT K H1 a xs ∧ R (ItE K a) H1
theorem pi_enumT {X : Cx} {e : Expr} {ta : TA} {p pos tpos : Pos} {elts : List Expr} {kk : Nat} (hg : Gl X "enumerate") (hm : X.mg "enumerate" = none) (ha : PA X [e] ta) (hs : starEach [e] X.env = [(false, eval e X.env)] := by rfl) :
    PI X (.Tuple elts kk tpos) (.Call (.Name "enumerate" p) [e] [] pos) (iEnumT X.K ta) := by
  constructor
  intro pins s σ H R I h
  refine Call_ (ld_blt I hg hm boot_enumerate (PyProof.Rows.callWith_type1 (thn (ha.run pos pins s σ H _ I h) fun us s1 ⟨vs, H1, I1, r1, q1⟩ => ?_) hs rfl))
  obtain ⟨a, xs, rfl, hq, q⟩ := q1
  cases r1 with
  | cons r rr =>
    cases rr
    cases r
    obtain ⟨its, rv, p', hz⟩ := I1.tuple hq
    have al : a < s1.heap.objs.size := by
      obtain ⟨_, z, _⟩ := (show s1.heap.IsTuple a its.toArray from p')
      exact Heap.lt_size z
    refine call_enumT (show s1.heap.IsTuple a its.toArray from p') fun h' he hit hk => wpAny_pyIter_enum he ?_
    have I2 : Inv X pins σ H1 { s1 with heap := h' } := I1.kept (t' := s1.toks) hk
    refine ⟨s1.heap.objs.size + 1, [s1.heap.objs.size + 1, s1.heap.objs.size], _, _, H1, rfl, I2, turn_E a (s1.heap.objs.size + 1) s1.heap.objs.size, ⟨⟨.none, he⟩, hit, Nat.succ_ne_self _, Nat.ne_of_lt al, Nat.ne_of_lt (Nat.lt_succ_of_lt al)⟩, fun b hb => ?_, q⟩
    have hle : s1.heap.objs.size ≤ b := by
      rcases (show b = s1.heap.objs.size + 1 ∨ b = s1.heap.objs.size by simpa using hb) with z | z
      · rw [z]
        exact Nat.le_add_right _ _
      · rw [z]
        exact Nat.le_refl _
    exact I1.fpOk hle (I1.hok.fresh hle)
theorem walk_enumT {K : PySem.W.Frag} {a : Addr} {xs : List V} : Walk (ItE K a) xs.length (fun H => SqT K H a xs) (YPair (fun i => some (.int (i : Nat))) (fun i => xs[i]?)) where
  goes := fun i H hi hs => ⟨xs, xs[i], hs, List.getElem?_eq_getElem hi⟩
  stops := fun H hs => ⟨xs, hs, rfl⟩
  yields := fun i H x H' hi hs h => by
    obtain ⟨q, y, e1, e2, e3, e4⟩ := h
    exact ⟨q, .int (i : Nat), y, e1, e2, e3, rfl, e4 xs hs⟩
end EB
namespace EB
open PySem PySem.Spec PyProof.Rows L2
section
variable {X : Cx} {CX : CXT} {k : Nat} {C g : Addr} {sp : Sp} {E : XK}
/-- x in o, o an instance whose class says __contains__ -/
def rInO (C : Addr) (neg : Bool) (sp : Sp) (E : XK) : R2 := fun x y H Q => ∃ a dx fs, y = .ref a ∧ H a = some (.ins C dx fs) ∧ sp [y, x] H (fun z H' => ∃ b, z = .bl b ∧ Q (.bl (if neg then !b else b)) H') E
theorem op_inO (hs : PySem.W.findIn X.K (.ref C) "__contains__" = some (some (.ref g))) (hf : PySem.W.isFn X.K (.ref g) = true) (F : FnR X.prog X.w X.K X.mg X.base CX k g sp) (hr : Room k X.A) (hx : Passes CX X E) : OpR X (compareOp .In) (rInO C false sp E) := by
  rintro pins s σ H x y v u Q I rx ry ⟨a, dx, fs, rfl, ha, q⟩
  cases (show u = Value.ref a from ry)
  obtain ⟨ox, od, J, _⟩ := StX.insC_at I (.inr ⟨dx, fs, ha⟩)
  obtain ⟨m, hF⟩ := I.fr
  refine PySem.W.in_K hF I.ok.mod.kin J hs hf (thn (wpAny_call (run_fnR (us := [.ref a, v]) (vs := [.ref a, x]) F hr hx I (.cons rfl (.cons rx .nil)) q)) fun w' s' hz => ?_)
  obtain ⟨z, H', I', rz, b, rfl, qb⟩ := hz
  exact thn (tru_ok (X := X) pins s' σ H' (.bl b) w' (fun k H'' => k = b ∧ H'' = H') I' rz ⟨b, rfl, rfl, rfl⟩) fun k s'' ⟨H'', I'', e1, e2⟩ => by
    subst e1 e2
    exact ⟨.bl k, H'', I'', rfl, qb⟩
theorem op_notInO (hs : PySem.W.findIn X.K (.ref C) "__contains__" = some (some (.ref g))) (hf : PySem.W.isFn X.K (.ref g) = true) (F : FnR X.prog X.w X.K X.mg X.base CX k g sp) (hr : Room k X.A) (hx : Passes CX X E) : OpR X (compareOp .NotIn) (rInO C true sp E) := by
  rintro pins s σ H x y v u Q I rx ry ⟨a, dx, fs, rfl, ha, q⟩
  cases (show u = Value.ref a from ry)
  obtain ⟨ox, od, J, _⟩ := StX.insC_at I (.inr ⟨dx, fs, ha⟩)
  obtain ⟨m, hF⟩ := I.fr
  refine PySem.W.notIn_K hF I.ok.mod.kin J hs hf (thn (wpAny_call (run_fnR (us := [.ref a, v]) (vs := [.ref a, x]) F hr hx I (.cons rfl (.cons rx .nil)) q)) fun w' s' hz => ?_)
  obtain ⟨z, H', I', rz, b, rfl, qb⟩ := hz
  exact thn (tru_ok (X := X) pins s' σ H' (.bl b) w' (fun k H'' => k = b ∧ H'' = H') I' rz ⟨b, rfl, rfl, rfl⟩) fun k s'' ⟨H'', I'', e1, e2⟩ => by
    subst e1 e2
    exact ⟨.bl (!k), H'', I'', rfl, qb⟩
/-- x op y, both instances; the class of x says op -/
def rCmpO (K : PySem.W.Frag) (C : Addr) (sp : Sp) (E : XK) : R2 := fun x y H Q => ∃ a dx fs b dy gs, x = .ref a ∧ y = .ref b ∧ H a = some (.ins C dx fs) ∧ H b = some (.ins C dy gs) ∧ PySem.W.notFirst K C (.ref C) = true ∧ sp [x, y] H Q E
theorem op_cmpO {op : CmpOp} (hop : ∀ a b, compareOp op a b = richCompare op a b) (hs : PySem.W.findIn X.K (.ref C) (cmpInfo op).2.1 = some (some (.ref g))) (hf : PySem.W.isFn X.K (.ref g) = true) (F : FnR X.prog X.w X.K X.mg X.base CX k g sp)
    (hr : Room k X.A) (hx : Passes CX X E) : OpR X (compareOp op) (rCmpO X.K C sp E) := by
  rintro pins s σ H x y v u Q I rx ry ⟨a, dx, fs, b, dy, gs, rfl, rfl, ha, hb, hn, q⟩
  cases (show v = Value.ref a from rx)
  cases (show u = Value.ref b from ry)
  obtain ⟨_, _, J, _⟩ := StX.insC_at I (.inr ⟨dx, fs, ha⟩)
  obtain ⟨_, _, J', _⟩ := StX.insC_at I (.inr ⟨dy, gs, hb⟩)
  obtain ⟨m, hF⟩ := I.fr
  rw [hop]
  refine PySem.W.cmp_K (op := op) (tb := .ref C) hr.units0 hF I.ok.mod.kin J J'.type hn hs hf (thn (wpAny_call (run_fnR (us := [.ref a, .ref b]) (vs := [.ref a, .ref b]) F hr hx I (.cons rfl (.cons rfl .nil)) q)) fun w' s' hz => ?_)
  obtain ⟨z, H', I', rz, qz⟩ := hz
  exact SlX.cmpback rz ⟨z, H', I', rz, qz⟩
end
end EB
namespace EB
open PySem PySem.Spec PyProof.Rows L2
section
variable {X : Cx} {CX : CXT} {k : Nat} {C g : Addr} {sp : Sp} {E : XK} {fe e : Expr} {es : List Expr} {tf : TE} {t : TA} {pos : Pos}
/-- o(e, ..), o an instance; its reading names no context -/
def tCallI (C : Addr) (sp : Sp) (E : XK) (tf : TE) (t : TA) : TE := fun σ H Q => tf σ H fun y H1 => ∃ a, y = V.ref a ∧ t σ H1 fun vs H2 => (∃ dx fs, H2 a = some (.ins C dx fs)) ∧ sp (V.ref a :: vs) H2 Q E
theorem pe_callI (hf : PE X fe tf) (c : StX.CallO X.K C g) (F : FnR X.prog X.w X.K X.mg X.base CX k g sp) (hr : Room k X.A) (hx : Passes CX X E) (ha : PA X (e :: es) t)
    (ht : eval (.Call fe (e :: es) [] pos) X.env = (do callWith pos (← eval fe X.env) [] (backTo pos (starEach (e :: es) X.env)) (backToKw pos (keywordEach [] X.env))) := by rfl)
    (hs : starEach (e :: es) X.env = (false, eval e X.env) :: starEach es X.env := by rfl) (hp : (backTo pos (starEach es X.env)).any (·.1) = false := by rfl) : PE X (.Call fe (e :: es) [] pos) (tCallI C sp E tf t) := by
  constructor
  intro pins s σ H Q I h
  refine Call_ (thn (hf.run pins s σ H _ I h) fun u s1 ⟨y, H1, I1, ry, a, ey, q⟩ => ?_) ht
  subst ey
  obtain rfl : u = Value.ref a := ry
  refine StX.callO_with (thn (ha.run pos pins s1 σ H1 _ I1 q) fun us s2 ⟨vs, H2, I2, r, hi, q2⟩ => ?_) hs hp
  obtain ⟨ox, od, J, hd⟩ := StX.insC_at I2 (.inr hi)
  exact ⟨⟨C, ox, od, J, hd⟩, StX.run_callO c F hr hx I2 (.inr hi) r q2⟩
end
end EB

namespace EB
/-! ### costs -/
structure CF (c : Nat → Int) (P B : Nat) : Prop where
  zero : c 0 = 0
  step : ∀ d, c (d + 1) ≤ c d + 1
  per : ∀ d, c (d + P) = c d + B
  ppos : 0 < P
  ten : ∀ d : Nat, (d : Int) ≤ 10 * c d
  sub : ∀ x y, c (x + y) ≤ c x + c y
namespace CF
variable {c : Nat → Int} {P B : Nat}
theorem bpos (h : CF c P B) : 0 < B := by
  have h1 := h.ten P
  have h2 := h.per 0
  have h3 := h.zero
  have h4 := h.ppos
  rw [Nat.zero_add, h3] at h2
  omega
theorem nonneg (h : CF c P B) (d : Nat) : 0 ≤ c d := by
  have := h.ten d
  omega
theorem le_self (h : CF c P B) : ∀ d : Nat, c d ≤ d
  | 0 => by rw [h.zero]; exact Int.le_refl _
  | d + 1 => by
    have h1 := h.le_self d
    have h2 := h.step d
    push_cast
    omega
theorem steps (h : CF c P B) (d : Nat) : ∀ k : Nat, c (d + k) ≤ c d + k
  | 0 => by simp
  | k + 1 => by
    have h1 := h.steps d k
    have h2 := h.step (d + k)
    rw [← Nat.add_assoc]
    push_cast
    omega
theorem perm (h : CF c P B) (d : Nat) : ∀ k : Nat, c (d + k * P) = c d + k * B
  | 0 => by simp
  | k + 1 => by
    have h1 := h.perm d k
    have h2 := h.per (d + k * P)
    rw [Nat.succ_mul, ← Nat.add_assoc, h2, h1]
    push_cast
    rw [Int.add_mul]
    omega
end CF
/-- the number of drinks of n bottles -/
def IsD (c : Nat → Int) (n d : Nat) : Prop := (n : Int) ≤ c d ∧ ∀ j, j < d → c j < n
theorem IsD.uniq {c : Nat → Int} {n d e : Nat} (h : IsD c n d) (g : IsD c n e) : d = e := by
  rcases Nat.lt_trichotomy d e with q | q | q
  · have := g.2 d q
    have := h.1
    omega
  · exact q
  · have := h.2 e q
    have := g.1
    omega
theorem least (p : Nat → Prop) [DecidablePred p] : ∀ n, p n → ∃ d, p d ∧ ∀ j, j < d → ¬ p j := by
  intro n
  induction n using Nat.strongRecOn with
  | ind n ih =>
    intro hn
    by_cases q : ∃ j, j < n ∧ p j
    · obtain ⟨j, hj, pj⟩ := q
      exact ih j hj pj
    · exact ⟨n, hn, fun j hj pj => q ⟨j, hj, pj⟩⟩
theorem CF.exD {c : Nat → Int} {P B : Nat} (h : CF c P B) (n : Nat) : ∃ d, IsD c n d := by
  have h1 : (n : Int) ≤ c (10 * n) := by
    have := h.ten (10 * n)
    push_cast at this
    omega
  obtain ⟨d, hd, hj⟩ := least (fun d => (n : Int) ≤ c d) (10 * n) h1
  exact ⟨d, hd, fun j q => by have := hj j q; omega⟩
open Classical in
noncomputable def D (c : Nat → Int) (n : Nat) : Nat := if h : ∃ d, IsD c n d then Classical.choose h else 0
/-- the greatest cost up to d -/
def T (c : Nat → Int) : Nat → Int
  | 0 => c 0
  | d + 1 => if c (d + 1) > T c d then c (d + 1) else T c d
namespace CF
variable {c : Nat → Int} {P B : Nat}
theorem D_is (h : CF c P B) (n : Nat) : IsD c n (D c n) := by
  have e := h.exD n
  unfold D
  rw [dif_pos e]
  exact Classical.choose_spec e
theorem D_eq (h : CF c P B) {n d : Nat} (g : IsD c n d) : D c n = d := (h.D_is n).uniq g
theorem D_cost (h : CF c P B) (n : Nat) : c (D c n) = n := by
  have g := h.D_is n
  cases e : D c n with
  | zero =>
    rw [e] at g
    have g1 := g.1
    rw [h.zero] at g1 ⊢
    omega
  | succ d =>
    rw [e] at g
    have g1 := g.1
    have g2 := g.2 d (Nat.lt_succ_self d)
    have g3 := h.step d
    omega
theorem D_zero (h : CF c P B) : D c 0 = 0 := h.D_eq ⟨by rw [h.zero]; exact Int.le_refl _, fun j q => absurd q (Nat.not_lt_zero j)⟩
theorem D_ge (h : CF c P B) (n : Nat) : n ≤ D c n := by
  have := h.D_cost n
  have := h.le_self (D c n)
  omega
theorem D_le_ten (h : CF c P B) (n : Nat) : D c n ≤ 10 * n := by
  have := h.D_cost n
  have := h.ten (D c n)
  omega
theorem D_lt (h : CF c P B) {n m : Nat} (q : n < m) : D c n < D c m := by
  have h1 := h.D_is n
  have h2 := h.D_cost m
  have h3 := h.D_cost n
  apply Nat.lt_of_not_le
  intro z
  rcases Nat.lt_or_eq_of_le z with z | z
  · have := h1.2 _ z
    omega
  · rw [z] at h2
    omega
theorem D_mono (h : CF c P B) {n m : Nat} (q : n ≤ m) : D c n ≤ D c m := by
  rcases Nat.lt_or_eq_of_le q with q | q
  · exact Nat.le_of_lt (h.D_lt q)
  · rw [q]; exact Nat.le_refl _
theorem D_super (h : CF c P B) (a b : Nat) : D c a + D c b ≤ D c (a + b) := by
  apply Nat.le_of_not_lt
  intro q
  have ca := h.D_cost a
  have cb := h.D_cost b
  have cab := h.D_cost (a + b)
  have ha := h.D_is a
  have hb := h.D_is b
  by_cases z : D c (a + b) < D c a
  · have := ha.2 _ z
    push_cast at cab
    omega
  · cases e : D c a with
    | zero =>
      rw [e] at ca q
      rw [h.zero] at ca
      have : a = 0 := by omega
      rw [this, Nat.zero_add, Nat.zero_add] at q
      exact Nat.lt_irrefl _ q
    | succ x =>
      rw [e] at q z ha
      have hx := ha.2 x (Nat.lt_succ_self x)
      obtain ⟨y, hy⟩ : ∃ y, D c (a + b) = x + y := ⟨D c (a + b) - x, by omega⟩
      have hs := h.sub x y
      rw [hy] at cab q
      push_cast at cab
      rcases Nat.lt_or_ge y (D c b) with w | w
      · have := hb.2 y w
        omega
      · have : y = D c b := by omega
        rw [this, cb] at hs
        rw [this] at cab
        omega
/-! ### the greatest cost -/
theorem T_ge (c : Nat → Int) : ∀ {d j : Nat}, j ≤ d → c j ≤ T c d
  | 0, j, q => by
    have : j = 0 := by omega
    rw [this]
    exact Int.le_refl _
  | d + 1, j, q => by
    unfold T
    rcases Nat.lt_or_eq_of_le q with q | q
    · have := T_ge c (d := d) (j := j) (by omega)
      split <;> omega
    · rw [q]
      split <;> omega
theorem T_at (c : Nat → Int) : ∀ d : Nat, ∃ j, j ≤ d ∧ T c d = c j
  | 0 => ⟨0, Nat.le_refl _, rfl⟩
  | d + 1 => by
    unfold T
    split
    · exact ⟨d + 1, Nat.le_refl _, rfl⟩
    · obtain ⟨j, q, e⟩ := T_at c d
      exact ⟨j, by omega, e⟩
theorem T_mono (c : Nat → Int) {d e : Nat} (q : d ≤ e) : T c d ≤ T c e := by
  obtain ⟨j, hj, ej⟩ := T_at c d
  rw [ej]
  exact T_ge c (by omega)
theorem T_eq (c : Nat → Int) {d : Nat} {t : Int} (h1 : ∃ j, j ≤ d ∧ c j = t) (h2 : ∀ j, j ≤ d → c j ≤ t) : T c d = t := by
  obtain ⟨j, hj, ej⟩ := h1
  obtain ⟨i, hi, ei⟩ := T_at c d
  have := T_ge c hj
  have := h2 i hi
  omega
theorem T_nonneg (h : CF c P B) (d : Nat) : 0 ≤ T c d := by
  have := T_ge c (Nat.zero_le d)
  rw [h.zero] at this
  exact this
theorem T_step (h : CF c P B) (d : Nat) : T c (d + 1) ≤ T c d + 1 := by
  show (if c (d + 1) > T c d then c (d + 1) else T c d) ≤ T c d + 1
  have := T_ge c (Nat.le_refl d)
  have := h.step d
  split <;> omega
/-- n bottles give at most d drinks just if n is at most the greatest cost up to d -/
theorem D_le_iff (h : CF c P B) {n d : Nat} : D c n ≤ d ↔ (n : Int) ≤ T c d := by
  constructor
  · intro q
    have := T_ge c q
    rw [h.D_cost] at this
    exact this
  · intro q
    obtain ⟨j, hj, ej⟩ := T_at c d
    apply Nat.le_of_not_lt
    intro z
    have := (h.D_is n).2 j (by omega)
    omega
theorem T_per (h : CF c P B) {d : Nat} (q : P ≤ d + 1) : T c (d + P) = T c d + B := by
  refine T_eq c ?_ ?_
  · obtain ⟨j, hj, ej⟩ := T_at c d
    exact ⟨j + P, by omega, by rw [h.per, ej]⟩
  · intro j hj
    rcases Nat.lt_or_ge j P with z | z
    · have := T_ge c (d := d) (j := j) (by omega)
      omega
    · obtain ⟨i, rfl⟩ : ∃ i, j = i + P := ⟨j - P, by omega⟩
      rw [h.per]
      have := T_ge c (d := d) (j := i) (by omega)
      omega
theorem T_perk (h : CF c P B) {d : Nat} (q : P ≤ d + 1) : ∀ k : Nat, T c (d + k * P) = T c d + k * B
  | 0 => by simp
  | k + 1 => by
    have h1 := h.T_perk q k
    have h2 := h.T_per (d := d + k * P) (by omega)
    rw [Nat.succ_mul, ← Nat.add_assoc, h2, h1]
    push_cast
    rw [Int.add_mul]
    omega
/-- from T (P - 1) + 1 - B on, drinks repeat -/
theorem D_per (h : CF c P B) {n : Nat} (q : T c (P - 1) < n + B) : D c (n + B) = D c n + P := by
  refine h.D_eq ⟨?_, fun j hj => ?_⟩
  · rw [h.per, h.D_cost]
    push_cast
    exact Int.le_refl _
  · rcases Nat.lt_or_ge j P with z | z
    · have := T_ge c (d := P - 1) (j := j) (by omega)
      push_cast
      omega
    · obtain ⟨i, rfl⟩ : ∃ i, j = i + P := ⟨j - P, by omega⟩
      rw [h.per]
      have := (h.D_is n).2 i (by omega)
      push_cast
      omega
theorem D_perk (h : CF c P B) {n : Nat} (q : T c (P - 1) < n + B) : ∀ k : Nat, D c (n + k * B) = D c n + k * P
  | 0 => by simp
  | k + 1 => by
    have h1 := h.D_perk q k
    have h2 := h.D_per (n := n + k * B) (by push_cast; have : (0:Int) ≤ (k : Int) * B := Int.mul_nonneg (Int.natCast_nonneg _) (Int.natCast_nonneg _); omega)
    rw [Nat.succ_mul, ← Nat.add_assoc, h2, h1, Nat.succ_mul, Nat.add_assoc]
theorem D_per_not (h : CF c P B) {n : Nat} (q : (n : Int) + B ≤ T c (P - 1)) : D c (n + B) < D c n + P := by
  have := (h.D_le_iff (n := n + B) (d := P - 1)).mpr (by push_cast; exact q)
  have := h.ppos
  omega
end CF
end EB

/-! A range kept in a variable: made of one argument, walked. -/
namespace EB
open PySem PySem.Spec PyProof.Rows L2
section
variable {X : Cx} {tg : Expr}
theorem cr_range1 : CallR X (.type "range") (fun vs H Q => ∃ j, vs = [V.int j] ∧ ∀ p, H p = none → Q (.ref p) (upd H p (.rng 0 j))) := by
  intro pins s σ H vs us Q I r h
  obtain ⟨j, rfl, q⟩ := h
  obtain ⟨u1, rfl, rj⟩ := vals1 r
  obtain ⟨t, rfl⟩ := rj
  refine call_range_1 ⟨.ref s.heap.objs.size, upd H s.heap.objs.size (.rng 0 j), I.laid (fun b o e => Heap.get?_push_of_some _ e) (Nat.le_refl _) ?_, rfl, q _ (I.hok.fresh (Nat.le_refl _))⟩
  exact ⟨_, _, _, Heap.get?_push_size _ rfl⟩
def iRngV (tl : TE) : TI := fun σ H R => tl σ H fun x H1 => ∃ (a : Addr) (lo hi : Int), x = .ref a ∧ H1 a = some (.rng lo hi) ∧ (-(2 ^ 62) ≤ lo ∧ lo < 2 ^ 62 ∧ -(2 ^ 62) ≤ hi ∧ hi < 2 ^ 62) ∧ R (Itr lo (hi - lo).toNat) H1
theorem pi_rng {l : Expr} {tl : TE} (hl : PE X l tl) : PI X tg l (iRngV tl) := by
  refine ⟨fun pins s σ H R I h => ?_⟩
  refine thn (hl.run pins s σ H _ I h) fun v s1 ⟨x, H1, I1, r1, q1⟩ => ?_
  obtain ⟨a, lo, hi, e, ha, ⟨h1, h2, h3, h4⟩, q⟩ := q1
  subst e
  cases r1
  obtain ⟨t, u, w, ho⟩ := I1.hok a _ ha
  refine wpAny_pyIter_range (r := a) (a := lo) (b := hi) (c := 1) (t := t) (u := u) (v := w) ho (small_one h1 h2 h3 h4) ?_
  refine ⟨s1.heap.objs.size, [s1.heap.objs.size], _, _, H1, rfl, I1.kept (t' := s1.toks) fun b o e => Heap.get?_push_of_some _ e, turn_range _ lo (hi - lo).toNat, ?_, fun b hb => ?_, q⟩
  · have e1 : lo + ((0 : Nat) : Int) * 1 = lo := by simp
    have e2 : (((hi - lo).toNat : Nat) : Int) - ((0 : Nat) : Int) = Builtin.Range.rangeSize lo hi 1 := by rw [rangeSize_one]; split <;> omega
    show IsRangeIter _ _ (lo + ((0 : Nat) : Int) * 1) ((((hi - lo).toNat : Nat) : Int) - ((0 : Nat) : Int)) 1
    rw [e1, e2]
    exact Heap.get?_push_size _ rfl
  · have e : b = s1.heap.objs.size := by simpa using hb
    subst e
    exact I1.fpOk (Nat.le_refl _) (I1.hok.fresh (Nat.le_refl _))
end
/-! ### a comprehension with two generators: its walks, the body left open -/
theorem walk_lst {K : PySem.W.Frag} {a : Addr} {xs : List V} {H0 : Hp} {Q : Hp → Prop} {body : V → Hp → (Hp → Prop) → Prop} (Pv : Nat → Hp → Prop) (h0 : Pv 0 H0) (hl : ∀ i H, i ≤ xs.length → Pv i H → SqL K H a xs)
    (hs : ∀ i x H, xs[i]? = some x → Pv i H → body x H (Pv (i + 1))) (hd : ∀ H, Pv xs.length H → Q H) :
    ∃ W : Nat → Nat → Hp → Prop, (∃ m, W 0 m H0) ∧ ∀ i m H, W i m H → ((Itl K a).stop i H ∧ Q H) ∨ ((Itl K a).go i H ∧ ∃ Nx : Hp → Prop, (∀ H', Nx H' → ∃ m', m' < m ∧ W (i + 1) m' H') ∧ ∀ x H', (Itl K a).yld i H x H' → body x H' Nx) := by
  refine ⟨fun i m H => m = xs.length - i ∧ i ≤ xs.length ∧ Pv i H, ⟨xs.length, by simp, Nat.zero_le _, h0⟩, ?_⟩
  rintro i m H ⟨rfl, hi, p⟩
  have q := hl i H hi p
  by_cases hlt : i < xs.length
  · refine .inr ⟨⟨xs, xs[i], q, by simp [hlt]⟩, Pv (i + 1), fun H' p' => ⟨xs.length - (i + 1), by omega, rfl, hlt, p'⟩, fun x H' y => ?_⟩
    obtain ⟨e, y⟩ := y
    subst e
    exact hs i x _ (y xs q) p
  · have e : i = xs.length := by omega
    subst e
    exact .inl ⟨⟨xs, q, Nat.le_refl _⟩, hd H p⟩
theorem walk_r3 {lo c : Int} {n : Nat} {H0 : Hp} {Q : Hp → Prop} {body : V → Hp → (Hp → Prop) → Prop} (Pv : Nat → Hp → Prop) (h0 : Pv 0 H0) (hs : ∀ (i : Nat) H, i < n → Pv i H → body (.int (lo + (i : Nat) * c)) H (Pv (i + 1))) (hd : ∀ H, Pv n H → Q H) :
    ∃ W : Nat → Nat → Hp → Prop, (∃ m, W 0 m H0) ∧ ∀ i m H, W i m H → ((Itc lo c n).stop i H ∧ Q H) ∨ ((Itc lo c n).go i H ∧ ∃ Nx : Hp → Prop, (∀ H', Nx H' → ∃ m', m' < m ∧ W (i + 1) m' H') ∧ ∀ x H', (Itc lo c n).yld i H x H' → body x H' Nx) := by
  refine ⟨fun i m H => m = n - i ∧ i ≤ n ∧ Pv i H, ⟨n, by simp, Nat.zero_le _, h0⟩, ?_⟩
  rintro i m H ⟨rfl, hi, p⟩
  by_cases hlt : i < n
  · refine .inr ⟨hlt, Pv (i + 1), fun H' p' => ⟨n - (i + 1), by omega, rfl, hlt, p'⟩, fun x H' y => ?_⟩
    obtain ⟨e, y⟩ := y
    subst e y
    exact hs i _ hlt p
  · have e : i = n := by omega
    subst e
    exact .inl ⟨Nat.le_refl _, hd H p⟩
end EB

namespace PySem
open Sem (wp)
section
variable {prog : Program} {w : World} {A : Around} {R : GenEnd} {Y : Protocol} {n : Nat} {s₀ : Shared} {fs : List Frame} {s : Shared} {env : Env}
/-- what a loop's code does with an exception -/
def loopEx (env : Env) (x : Value) : Sem Fin := (do noteFrame x env; theTreesLotGoes x : Sem Unit).wrap (fun _ => .raise x) .raise id id
theorem seg_forLoop {target : Expr} {it : Value} {body : List Stmt}
    (h : wpAny (model prog w) (A.over (.forLoop target it body [] env) fs) (pyNext it) (fun r s₁ => match r with
        | none => Seg (model prog w) A R Y n s₀ (.forLoop target it body [] env) (.pure (.again (.block [] env))) fs s₁
        | some v => wpAny (model prog w) (A.over (.forLoop target it body [] env) fs) (letOwnedTupleGo target it v) (fun _ s₂ =>
            wpAny (model prog w) (A.over (.forLoop target it body [] env) fs) (assign target env v) (fun _ s₃ =>
              Seg (model prog w) A R Y n s₀ (.forLoop target it body [] env) ((execs body env).wrap (fun f => match f with
                | .next | .cont => .pure (.again (.forLoop target it body [] env))
                | .brk => .pure (.done .next)
                | .ret v => .pure (.done (.ret v))) (loopEx env) id id) fs s₃)
              (fun x s' => Seg (model prog w) A R Y n s₀ (.forLoop target it body [] env) (loopEx env x) fs s') s₂)
            (fun x s' => Seg (model prog w) A R Y n s₀ (.forLoop target it body [] env) (loopEx env x) fs s') s₁)
      (fun x s' => Seg (model prog w) A R Y n s₀ (.forLoop target it body [] env) (loopEx env x) fs s') s) :
    Seg (model prog w) A R Y n s₀ (.forLoop target it body [] env) ((model prog w).den (.forLoop target it body [] env)) fs s := by
  have ex : ∀ x, ((do noteFrame x env; theTreesLotGoes x : Sem Unit).bind fun _ => (Sem.raise x : Sem Fin)) = loopEx env x := fun x => by rw [Sem.bind_eq_wrap]; rfl
  show Seg _ A R Y n s₀ _ ((forTurn target it body [] env).onRaise (fun x => do noteFrame x env; theTreesLotGoes x)) fs s
  unfold forTurn
  rw [Sem.onRaise_eq_wrap]
  refine seg_at ?_
  show Seg _ A R Y n s₀ _ (Sem.wrap _ _ _ _ ((pyNext it).onRaise (fun _ => standAt { target.pos with line := 0 }) >>= _)) fs s
  rw [Sem.bind_eq_wrap', Sem.wrap_wrap]
  refine seg_wrap (wpAny_onRaise (wpAny_mono h (fun r s₁ h₁ => ?_) fun x s' hx => wpAny_standAt ?_))
  · cases r with
    | none => exact h₁
    | some v =>
      show Seg _ A R Y n s₀ _ (Sem.wrap _ _ _ _ (letOwnedTupleGo target it v >>= _)) fs s₁
      rw [Sem.bind_eq_wrap', Sem.wrap_wrap]
      refine seg_wrap (wpAny_mono h₁ (fun _ s₂ h₂ => ?_) fun x s' hx => ?_)
      · show Seg _ A R Y n s₀ _ (Sem.wrap _ _ _ _ (assign target env v >>= _)) fs s₂
        rw [Sem.bind_eq_wrap', Sem.wrap_wrap]
        refine seg_wrap (wpAny_mono h₂ (fun _ s₃ h₃ => ?_) fun x s' hx => ?_)
        · show Seg _ A R Y n s₀ _ (Sem.wrap _ _ _ _ (execs body env >>= _)) fs s₃
          rw [Sem.bind_eq_wrap', Sem.wrap_wrap]
          rw [Sem.wrap_congr (execs body env) _ _ (K' := fun f => match f with
            | .next | .cont => .pure (.again (.forLoop target it body [] env))
            | .brk => .pure (.done .next)
            | .ret v => .pure (.done (.ret v))) (H' := loopEx env) (fun f => by cases f <;> rfl) (fun e => by exact ex e)]
          exact h₃
        · show Seg _ A R Y n s₀ _ ((do noteFrame x env; theTreesLotGoes x : Sem Unit).bind fun _ => .raise x) fs s'
          rw [ex]
          exact hx
      · show Seg _ A R Y n s₀ _ ((do noteFrame x env; theTreesLotGoes x : Sem Unit).bind fun _ => .raise x) fs s'
        rw [ex]
        exact hx
  · show Seg _ A R Y n s₀ _ ((do noteFrame x env; theTreesLotGoes x : Sem Unit).bind fun _ => .raise x) fs s'
    rw [ex]
    exact hx
end
section
variable {M : Model} {A : Around} {R : GenEnd} {Y : Protocol} {n : Nat} {s₀ : Shared} {c : Code} {fs : List Frame} {s : Shared} {env : Env}
  {K : Flow → Sem Fin} {H : Value → Sem Fin} {gd : Bool → Bool} {lv : List Value → List Value}
theorem seg_For {target iter : Expr} {body : List Stmt} {pos : Pos}
    (h : wpAny M (A.over c fs) (eval iter env) (fun v s₁ => wpAny M (A.over c fs) (pyIter v) (fun it s₂ => ∀ p, Seg M A R Y n s₀ (.forLoop target it body [] env) (M.den (.forLoop target it body [] env))
      (.ret (fun r => ((match r with | .ok f => (.pure f : Sem Flow) | .error e => .raise e).onRaise fun (x : Value) => do
        if (← field x 1) == Value.none then unsupported "frame.own-activation:exception-without-traceback"
        setFlight x env.frame).wrap K H gd lv) none (gd false) (lv []) c p [] :: fs) s₂)
      (fun x s' => Seg M A R Y n s₀ c (H x) fs s') s₁) (fun x s' => Seg M A R Y n s₀ c (H x) fs s') s)
    (hs : ∀ x, foldedSetIterable iter env x = pure x) :
    Seg M A R Y n s₀ c ((exec (.For target iter body [] pos) env).wrap K H gd lv) fs s := by
  rw [exec_For]
  refine seg_at ?_
  show Seg M A R Y n s₀ c (Sem.wrap _ _ _ _ (eval iter env >>= _)) fs s
  rw [Sem.bind_eq_wrap', Sem.wrap_wrap]
  refine seg_wrap (wpAny_mono h (fun v s₁ h₁ => ?_) fun x s' hx => hx)
  show Seg M A R Y n s₀ c (Sem.wrap _ _ _ _ (foldedSetIterable iter env v >>= _)) fs s₁
  rw [hs v]
  refine seg_at ?_
  show Seg M A R Y n s₀ c (Sem.wrap _ _ _ _ (holding [v] (pyIter v) >>= _)) fs s₁
  rw [Sem.bind_eq_wrap', Sem.wrap_wrap]
  refine seg_wrap (wpAny_holding (wpAny_mono h₁ (fun it s₂ h₂ => ?_) fun x s' hx => hx))
  exact seg_call h₂
end
end PySem
namespace L2
open PySem PySem.Spec PyProof.Rows
section
variable {X : Cx} {c : Expr} {a b : List Stmt} {pos : Pos} {tc : TT} {t u : TGn}
def tGIf (tc : TT) (t u : TGn) : TGn := fun D ys σ H => tc σ H fun d H1 => if d = true then t D ys σ H1 else u D ys σ H1
theorem gs_if (hc : PT X c tc) (ha : GSs X a t) (hb : GSs X b u) : GS X (.If c a b pos) (tGIf tc t u) := by
  refine ⟨fun A S ip R n ys s₀ cc fs K J gd lv s σ H D g hn k hI ht => ?_⟩
  rw [exec_If]
  refine seg_at ?_
  show Seg _ _ _ _ _ _ _ (Sem.wrap _ _ _ _ (isTrue c X.env (eval c X.env) >>= fun z => if z = true then execs a X.env else execs b X.env)) _ _
  rw [Sem.bind_eq_wrap', Sem.wrap_wrap]
  obtain ⟨acc, cn, r, I⟩ := hI
  refine seg_wrap ?_
  rw [g.over]
  refine wpAny_mono (hc.run _ s σ H _ I ht) (fun z s' hz => ?_) fun x s' hx => k.exc n s₀ x s' hx
  obtain ⟨H1, I1, q1⟩ := hz
  cases z with
  | true => exact ha.run A S ip R n ys s₀ cc fs K J gd lv s' σ H1 D g hn k ⟨acc, cn, r, I1⟩ q1
  | false => exact hb.run A S ip R n ys s₀ cc fs K J gd lv s' σ H1 D g hn k ⟨acc, cn, r, I1⟩ q1
def tGFor (wi : TI) (g : TG) (tb : TGn) : TGn := fun D ys σ H => wi σ H fun J H2 => ∃ W : Nat → Nat → List V → L2.St → Hp → Prop, (∃ m, W 0 m ys σ H2) ∧ ∀ i m ys σ H, W i m ys σ H →
  (J.stop i H ∧ D.nx ys σ H) ∨ (J.go i H ∧ ∃ N : List V → L2.St → Hp → Prop, (∀ ys' σ' H', N ys' σ' H' → ∃ m', m' < m ∧ W (i + 1) m' ys' σ' H') ∧ ∀ x H', J.yld i H x H' → g x σ H' fun σ2 H2 => tb { D with nx := N, ct := N, bk := D.nx } ys σ2 H2)
theorem gs_for {tg iter : Expr} {body : List Stmt} {wi : TI} {g : TG} {tb : TGn} {pos : Pos} (hp : PassesOwn (model X.prog X.w) X.A X.env X.xe) (hc : X.calm = true) (hi : PI X tg iter wi) (hg : PG X tg g) (hb : GSs X body tb)
    (hs : ∀ x, foldedSetIterable iter X.env x = pure x := by intro _; rfl) : GS X (.For tg iter body [] pos) (tGFor wi g tb) := by
  refine ⟨fun A S ip R n ys s₀ c fs K J gd lv s σ H D gc hn k hI ht => ?_⟩
  obtain ⟨acc, cc, r, I⟩ := hI
  refine seg_For ?_ hs
  rw [gc.over]
  refine wpAny_mono (hi.run _ s σ H _ I ht) (fun v s1 h1 => ?_) fun x s' hx => k.exc n s₀ x s' hx
  refine wpAny_mono h1 (fun itv s2 h2 => ?_) fun x s' hx => k.exc n s₀ x s' hx
  obtain ⟨it, fp, tn, It, H2, rfl, I2, T, st2, f2, W, ⟨m0, w0⟩, turn⟩ := h2
  intro p
  have gl := fun (ip' : List (Addr × Obj)) (hip : ∀ q ∈ ip', q.1 ≠ S) (kk : Result → Sem PySem.Fin) (c' : Code) (hw : c'.weight = 0) (hu : c'.cUnits = 0) => ({ gc_loop (k := kk) (c' := c') (l := lv []) (kp := []) (p := p) gc hw hu with ip := hip } : GC X S ip' A c' (.ret kk none (gd false) (lv []) c p [] :: fs) id)
  have stat : ∀ {acc' : Array Value} {cc' : Nat} {H' : Hp}, (∀ b ∈ fp, H' b = none) → ∀ b ∈ fp, FpOk X ((S, lstObj acc' cc') :: ip) H' b := by
    intro acc' cc' H' hnn b hb
    obtain ⟨_, a1, a2, a3, a4, a5⟩ := f2 b hb
    refine ⟨hnn b hb, a1, a2, a3, a4, fun q hq => ?_⟩
    rcases List.mem_append.mp hq with z | z
    · exact a5 q (List.mem_append_left _ z)
    · rcases List.mem_cons.mp z with rfl | z
      · exact a5 (S, lstObj acc cc) (List.mem_append_right _ (List.mem_cons_self ..))
      · exact a5 q (List.mem_append_right _ (List.mem_cons_of_mem _ z))
  have fpS : ∀ b ∈ fp, b ≠ S := by
    intro b hb
    obtain ⟨_, _, _, _, _, a5⟩ := f2 b hb
    exact fun z => a5 (S, lstObj acc cc) (List.mem_append_right _ (List.mem_cons_self ..)) z.symm
  have loop : ∀ (m n i : Nat) (ys : List V) (s₀ s : Shared) (σ : L2.St) (H : Hp), n + ys.length = sizeLine → W i m ys σ H → GI X S ip ys σ H s → tn i s.heap → (∀ b ∈ fp, H b = none) →
      Seg (model X.prog X.w) A R (GY X S) n s₀ (.forLoop tg (.ref it) body [] X.env) ((model X.prog X.w).den (.forLoop tg (.ref it) body [] X.env))
        (.ret (fun r => ((match r with | .ok f => (.pure f : Sem Flow) | .error e => .raise e).onRaise (cameBack X.env)).wrap K J gd lv) none (gd false) (lv []) c p [] :: fs) s := by
    intro m
    induction m using Nat.strongRecOn with
    | ind m ih =>
      intro n i ys s₀ s σ H hn w hI st fr
      have ee : ∀ (n : Nat) (s₀ : Shared) (x : Value) (s' : Shared), X.xe x s' → Seg (model X.prog X.w) A R (GY X S) n s₀ (.forLoop tg (.ref it) body [] X.env) (loopEx X.env x)
          (.ret (fun r => ((match r with | .ok f => (.pure f : Sem Flow) | .error e => .raise e).onRaise (cameBack X.env)).wrap K J gd lv) none (gd false) (lv []) c p [] :: fs) s' := fun n s₀ x s' hx => by
        refine seg_wrap ?_
        rw [(gl ip gc.ip _ _ rfl rfl).over]
        refine wpAny_bind (wpAny_mono (hp x s' hx) (fun _ s'' hcb => wpAny_theTreesLotGoes ?_) fun y s'' hcb => ?_)
        · exact seg_leaf (.error x) (seg_cameBack gc k hcb)
        · exact seg_leaf (.error y) (seg_cameBack gc k hcb)
      refine seg_forLoop ?_
      rw [(gl ip gc.ip _ _ rfl rfl).over]
      obtain ⟨acc, cc, r, I⟩ := hI
      rcases turn i m ys σ H w with ⟨stop, qn⟩ | ⟨go, N, hN, step⟩
      · refine wpAny_mono (T.done X rfl rfl rfl hc i _ s σ H X.xe I (stat fr) st stop) (fun r' s4 ⟨hr, I4⟩ => ?_) fun x s' hx => ee n s₀ x s' hx
        subst hr
        refine seg_again rfl ?_
        exact seg_leaf (.ok .next) (k.ok n ys s₀ s4 .next hn ⟨σ, H, ⟨acc, cc, r, I4⟩, qn⟩)
      · refine wpAny_mono (T.item X rfl rfl rfl hc i _ s σ H X.xe I (stat fr) st go) (fun r' s4 ⟨u, hr, h4⟩ => ?_) fun x s' hx => ee n s₀ x s' hx
        subst hr
        refine wpAny_mono h4 (fun _ s5 ⟨x, H5, I5, r5, y5, st5, fr5⟩ => ?_) fun x s' hx => ee n s₀ x s' hx
        have I5' := I5.pinned (stat fr5) (T.obj _ _ st5)
        refine wpAny_mono (hg.run _ s5 σ H5 x u _ I5' r5 (step x H5 y5)) (fun _ s6 ⟨σ6, H6, I6, q6⟩ => ?_) fun x s' hx => ee n s₀ x s' hx
        have hip' : ∀ q ∈ ip ++ pinsAt fp s5.heap, q.1 ≠ S := fun q hq => (List.mem_append.mp hq).elim (gc.ip q) fun z => fpS _ (of_pinsAt z).1
        have again : ∀ (n' : Nat) (ys' : List V) (s₀' s7 : Shared), n' + ys'.length = sizeLine → (∃ σ7 H7, GI X S (ip ++ pinsAt fp s5.heap) ys' σ7 H7 s7 ∧ N ys' σ7 H7) → Seg (model X.prog X.w) A R (GY X S) n' s₀' (.forLoop tg (.ref it) body [] X.env) (.pure (.again (.forLoop tg (.ref it) body [] X.env)))
            (.ret (fun r => ((match r with | .ok f => (.pure f : Sem Flow) | .error e => .raise e).onRaise (cameBack X.env)).wrap K J gd lv) none (gd false) (lv []) c p [] :: fs) s7 := by
          rintro n' ys' s₀' s7 hn' ⟨σ7, H7, ⟨acc7, cc7, r7, I7⟩, n7⟩
          obtain ⟨m', hm, w7⟩ := hN ys' σ7 H7 n7
          have pin : ∀ b ∈ fp, ∀ o, s5.heap.get? b = some o → _ := fun b hb o e => I7.pin (b, o) (List.mem_append_right _ (List.mem_cons_of_mem _ (List.mem_append_right _ (mem_pinsAt hb e))))
          refine seg_again rfl (ih m' hm n' (i + 1) ys' s₀' s7 σ7 H7 hn' w7 ⟨acc7, cc7, r7, Inv.unpinned (pins := (S, lstObj acc7 cc7) :: ip) I7⟩ (T.keep _ _ _ st5 fun b hb o e => (pin b hb o e).1) fun b hb => ?_)
          obtain ⟨o, e, d⟩ := T.obj _ _ st5 b hb
          exact (pin b hb o e).2.1
        refine hb.run A S (ip ++ pinsAt fp s5.heap) R n ys s₀ _ _ _ _ id id s6 σ6 H6 { D with nx := N, ct := N, bk := D.nx } (gl _ hip' _ _ rfl rfl) hn ⟨fun n' ys' s₀' s7 f hn' hs => ?_, fun n' s₀' x s7 hx => ee n' s₀' x s7 hx⟩ ⟨acc, cc, r, I6⟩ q6
        cases f with
        | next => exact again n' ys' s₀' s7 hn' hs
        | cont => exact again n' ys' s₀' s7 hn' hs
        | brk =>
          obtain ⟨σ7, H7, ⟨acc7, cc7, r7, I7⟩, q7⟩ := hs
          exact seg_leaf (.ok .next) (k.ok n' ys' s₀' s7 .next hn' ⟨σ7, H7, ⟨acc7, cc7, r7, Inv.unpinned (pins := (S, lstObj acc7 cc7) :: ip) I7⟩, q7⟩)
        | ret v =>
          obtain ⟨x7, σ7, H7, ⟨acc7, cc7, r7, I7⟩, rv, q7⟩ := hs
          exact seg_leaf (.ok (.ret v)) (k.ok n' ys' s₀' s7 (.ret v) hn' ⟨x7, σ7, H7, ⟨acc7, cc7, r7, Inv.unpinned (pins := (S, lstObj acc7 cc7) :: ip) I7⟩, rv, q7⟩)
  exact loop m0 n 0 ys s₀ s2 σ H2 hn w0 ⟨acc, cc, r, I2⟩ st2 fun b hb => (f2 b hb).1
theorem gfor_range {lo : Int} {n : Nat} {g : TG} {tb : TGn} {D : GEnds} {ys : List V} {σ : L2.St} {H : Hp} (Pv : Nat → List V → L2.St → Hp → Prop) (h0 : Pv 0 ys σ H)
    (hs : ∀ i ys σ H, i < n → Pv i ys σ H → g (.int (lo + i)) σ H fun σ2 H2 => tb { D with nx := Pv (i + 1), ct := Pv (i + 1), bk := D.nx } ys σ2 H2) (hd : ∀ ys σ H, Pv n ys σ H → D.nx ys σ H) :
    ∃ W : Nat → Nat → List V → L2.St → Hp → Prop, (∃ m, W 0 m ys σ H) ∧ ∀ i m ys σ H, W i m ys σ H →
      ((Itr lo n).stop i H ∧ D.nx ys σ H) ∨ ((Itr lo n).go i H ∧ ∃ N : List V → L2.St → Hp → Prop, (∀ ys' σ' H', N ys' σ' H' → ∃ m', m' < m ∧ W (i + 1) m' ys' σ' H') ∧ ∀ x H', (Itr lo n).yld i H x H' → g x σ H' fun σ2 H2 => tb { D with nx := N, ct := N, bk := D.nx } ys σ2 H2) := by
  refine ⟨fun i m ys σ H => m = n - i ∧ i ≤ n ∧ Pv i ys σ H, ⟨n, by simp, Nat.zero_le _, h0⟩, ?_⟩
  rintro i m ys σ H ⟨rfl, hi, p⟩
  by_cases hlt : i < n
  · refine .inr ⟨hlt, Pv (i + 1), fun ys' σ' H' p' => ⟨n - (i + 1), by omega, rfl, hlt, p'⟩, fun x H' y => ?_⟩
    obtain ⟨e, y⟩ := y
    subst e y
    exact hs i ys σ _ hlt p
  · have e : i = n := by omega
    subst e
    exact .inl ⟨Nat.le_refl _, hd ys σ H p⟩
end
end L2

/-! t[::-1] of a tuple -/
namespace EBR
open PySem PySem.Spec PyProof.Rows L2
section
variable {prog : Program} {w : World} {A : Around} {E : Value → Shared → Prop} {s : Shared}
theorem applied_rev {sl : Addr} {vl vu vs : Value} {n : Nat} {Q : Int × Int × Nat → Shared → Prop} (hs : s.heap.IsSliceOf sl vl vu vs) (pl : IsPart vl none) (pu : IsPart vu none) (ps : IsPart vs (some (-1)))
    (h : Q ((n : Int) - 1, -1, n) s) : wpAny (model prog w) A (Builtin.Slice.sliceApplied (.ref sl) (pure (n : Int))) Q E s := by
  obtain ⟨os, hos, hcs, hds⟩ := id hs
  unfold Builtin.Slice.sliceApplied Builtin.Slice.sliceFields
  refine wpAny_bind (wpAny_bind (wpAny_field hos hds (x := vl) rfl (wpAny_bind (wpAny_field hos hds (x := vu) rfl (wpAny_bind (wpAny_field hos hds (x := vs) rfl (wpAny_pure ?_)))))))
  refine wpAny_bind (HT.slicePart_ ps ?_)
  show wpAny _ _ (if ((-1 : Int) == 0) = true then _ else _) _ _ s
  rw [if_neg (by decide)]
  refine wpAny_bind (HT.slicePart_ pl (wpAny_bind (HT.slicePart_ pu (wpAny_bind (wpAny_pure ?_)))))
  show wpAny _ _ (match Builtin.Slice.sliceAdjust none none (-1) (n : Int) with | (lo, hi) => pure (lo, (-1 : Int), Builtin.Slice.slicePlaces lo hi (-1))) _ _ s
  have ea : Builtin.Slice.sliceAdjust none none (-1) (n : Int) = ((n : Int) - 1, -1) := rfl
  have ep : Builtin.Slice.slicePlaces ((n : Int) - 1) (-1) (-1) = n := by
    unfold Builtin.Slice.slicePlaces
    rw [if_neg (by decide), Int.neg_neg, Int.ediv_one]
    split <;> omega
  rw [ea]
  show wpAny _ _ (pure ((n : Int) - 1, (-1 : Int), Builtin.Slice.slicePlaces ((n : Int) - 1) (-1) (-1))) _ _ s
  rw [ep]
  exact wpAny_pure h
theorem pick_rev (xs : Array Value) : ((List.range xs.size).filterMap fun (m : Nat) => xs[((xs.size : Int) - 1 + (m : Int) * -1).toNat]?).toArray = xs.toList.reverse.toArray := by
  have h1 := PySem.W.krv_all xs
  have h2 := PySem.W.krv_range xs.size
  have cong : ∀ (l : List Nat), (∀ m ∈ l, m < xs.size) → (l.filterMap fun (m : Nat) => xs[((xs.size : Int) - 1 + (m : Int) * -1).toNat]?) = l.filterMap ((xs[·]?) ∘ fun k => xs.size - 1 - k) := by
    intro l
    induction l with
    | nil => intro _; rfl
    | cons m l ih =>
      intro hl
      have hm := hl m (List.mem_cons_self ..)
      have e0 : ((xs.size : Int) - 1 + (m : Int) * -1).toNat = xs.size - 1 - m := by omega
      rw [List.filterMap_cons, List.filterMap_cons, ih fun k hk => hl k (List.mem_cons_of_mem _ hk)]
      rw [e0]
      rfl
  have e : ((List.range xs.size).filterMap fun (m : Nat) => xs[((xs.size : Int) - 1 + (m : Int) * -1).toNat]?) = ((List.range xs.size).map fun k => xs.size - 1 - k).filterMap (xs[·]?) := by
    rw [List.filterMap_map]
    exact cong _ fun m hm => List.mem_range.mp hm
  rw [e, h2, List.filterMap_reverse, h1]
theorem getItem_rev {t sl : Addr} {items : Array Value} {vl vu vs : Value} {Q : Value → Shared → Prop} (ht : IsTup s.heap t items) (hs : s.heap.IsSliceOf sl vl vu vs) (pl : IsPart vl none) (pu : IsPart vu none) (ps : IsPart vs (some (-1)))
    (h : Q (.ref s.heap.objs.size) { s with heap := s.heap.push { cls := .type "tuple", data := .seq items.toList.reverse.toArray } }) (hsz : items.size ≤ sizeLine) : wpAny (model prog w) A (getItem (.ref t) (.ref sl)) Q E s := by
  have hok : sizeOk (.seq items.toList.reverse.toArray) := by
    show items.toList.reverse.toArray.size ≤ sizeLine
    rw [List.size_toArray, List.length_reverse, Array.length_toList]
    exact hsz
  obtain ⟨os, hos, hcs, hds⟩ := id hs
  have hTs : s.TypeIs (.ref sl) "slice" := ⟨os, hos, hcs⟩
  unfold getItem
  try with_reducible refine wpAny_holding ?_
  first | refine wpAny_bind (wpAny_pure ?_) | skip
  refine wpAny_bind (wpAny_sequenceKey ht.typeIs (by decide) ?_)
  refine wpAny_bind (wpAny_callSpecial?_slot (name := Str.ofString "__getitem__") ht.typeIs PyProof.Rows.slot_tuple_getitem
    (wpAny_call_entry PyProof.Rows.slot_tuple_getitem ht.typeIs entry_tuple_getitem ?_ (args_tuple_getitem _ _)))
  show wpAny _ _ (Builtin.Tuple.tupleItemsOf (.ref t) >>= _) _ _ s
  refine wpAny_bind (tupleItemsOf_ ht ?_)
  refine wpAny_bind (wpAny_typeOf hTs ?_)
  rw [if_pos (by decide)]
  refine wpAny_bind (applied_rev hs pl pu ps ?_)
  have hno : ¬ ((((items.size : Int) - 1) == 0 && (-1 : Int) == 1 && items.size == items.size) = true) := by
    intro q
    rw [Bool.and_eq_true, Bool.and_eq_true] at q
    exact absurd q.1.2 (by decide)
  show wpAny _ _ (if (((items.size : Int) - 1) == 0 && (-1 : Int) == 1 && items.size == items.size) = true then _ else _) _ _ s
  rw [if_neg hno, pick_rev]
  first
    | exact wpAny_bind (m := Builtin.Tuple.tupleExact _) (wpAny_newObj_type (wpAny_pure ⟨_, rfl, wpAny_pure h⟩) hok)
    | exact wpAny_bind (m := Builtin.Tuple.tupleExact _) (wpAny_newObj_type (wpAny_bind (wpAny_pure (wpAny_pure ⟨_, rfl, wpAny_pure h⟩))) hok)
    | exact wpAny_bind (wpAny_bind (m := Builtin.Tuple.tupleExact _) (wpAny_newObj_type (wpAny_pure (wpAny_pure ⟨_, rfl, wpAny_pure h⟩)) hok))
    | exact wpAny_bind (wpAny_bind (m := Builtin.Tuple.tupleExact _) (wpAny_newObj_type (wpAny_pure ⟨_, rfl, wpAny_pure h⟩) hok))
end
end EBR
namespace EB
open PySem PySem.Spec PyProof.Rows L2
def tRevT (K : PySem.W.Frag) (te : TE) : TE := fun σ H Q => te σ H fun x H1 => ∃ a xs, x = .ref a ∧ SqT K H1 a xs ∧ ∀ p, H1 p = none → Q (.ref p) (upd H1 p (.tup xs.reverse))
theorem pe_revT {X : Cx} {e : Expr} {te : TE} {k : Nat} {p1 p2 p3 pos : Pos} (he : PE X e te) : PE X (.Subscript e (.Slice none none (some (.UnaryOp .USub (.Constant (.int 1) k p1) p2)) p3) pos) (tRevT X.K te) := by
  refine ⟨fun pins s σ H Q I h => ?_⟩
  refine Subscript_ (thn (he.run pins s σ H _ I h) fun v s1 ⟨x, H1, I1, r1, q1⟩ => ?_)
  obtain ⟨a, xs, ex, hx, q⟩ := q1
  subst ex
  cases r1
  have hst : PO X (some (.UnaryOp .USub (.Constant (.int 1) k p1) p2)) (tPart (tUn (rU fun i => .int (-i)) (tC (.int 1)))) := po_some (pe_un un_neg pe_int)
  refine wpAny_Slice (thn (po_none.run pins s1 σ H1 (fun o H2 => o = none ∧ H2 = H1) I1 ⟨rfl, rfl⟩) fun vl s2 ⟨l, H2, I2, pl, el, e2⟩ => ?_)
  subst el e2
  refine thn (po_none.run pins s2 σ H2 (fun o H3 => o = none ∧ H3 = H2) I2 ⟨rfl, rfl⟩) fun vu s3 ⟨u, H3, I3, pu, eu, e3⟩ => ?_
  subst eu e3
  refine thn (hst.run pins s3 σ H3 (fun o H4 => o = some (-1) ∧ H4 = H3) I3 ⟨1, rfl, -1, rfl, rfl, rfl⟩) fun vs s4 ⟨o, H4, I4, ps, eo, e4⟩ => ?_
  subst eo e4
  have I5 : Inv X pins σ H4 { s4 with heap := s4.heap.push { cls := .type "slice", data := .fields #[vl, vu, vs] } } := I4.kept (t' := s4.toks) fun b ob q => Heap.get?_push_of_some _ q
  obtain ⟨its, r, ht, hz⟩ := I5.tuple hx
  have hlen := r.length
  show wpAny (model X.prog X.w) X.A (subscriptTail e (.Slice none none (some (.UnaryOp .USub (.Constant (.int 1) k p1) p2)) p3) (.ref a) (.ref s4.heap.objs.size)) (EP X pins σ Q) X.xe { s4 with heap := s4.heap.push { cls := .type "slice", data := .fields #[vl, vu, vs] } }
  refine tail_any (ops := [.ref a, .ref s4.heap.objs.size]) ht.typeIs (PyProof.Rows.slot_tuple_getitem.lookup) ?_ (by with_unfolding_all rfl)
  refine EBR.getItem_rev ht (Heap.IsSliceOf.new _ vl vu vs) pl pu ps ?_ (by rw [List.size_toArray]; omega)
  refine ⟨.ref _, _, I5.laid (t' := s4.toks) (o := .tup xs.reverse) (fun b ob q => Heap.get?_push_of_some _ q) (Nat.le_refl _) ?_, rfl, q _ (I5.hok.fresh (Nat.le_refl _))⟩
  exact ⟨by rw [List.length_reverse]; exact hz, _, r.reverse, IsTup.new _ _⟩
end EB

/-! A list comprehension whose element may lean on the def's own state where the comprehension began. -/
namespace EB
open PySem PySem.Spec PyProof.Rows L2
section
variable {X : Cx} {elt tg iter : Expr} {scope : Scope} {own : List (Str × Nat)} {pos : Pos} {g : TG} {te : TE}
/-- what a turn of tLc (no test) asks -/
abbrev TurnL (own : List (Str × Nat)) (J : It) (g : TG) (te : TE) (σw : L2.St) (D : Addr) (Fin : Hp → Prop) (W : Nat → Nat → Hp → Prop) : Prop := ∀ i m G, W i m G → (J.stop i G ∧ Fin G) ∨ (J.go i G ∧ ∃ Nx : Hp → Prop, (∀ G', Nx G' → ∃ m', m' < m ∧ W (i + 1) m' G') ∧
  ∀ x G', J.yld i G x G' → g x σw G' fun σ2 G2 => wipe σ2 (own.map (·.2)) = σw ∧ te σ2 G2 fun y G4 => ∃ acc, G4 D = some (.lst acc) ∧ acc.length < sizeLine ∧ Nx (upd G4 D (.lst (acc ++ [y]))))
theorem lcS_loop {pins : List (Addr × Obj)} {σ : L2.St} {G : Hp} {sa sb : Shared} {ce : Env} {it D : Addr} {fp : List Addr} {tn : Nat → Heap → Prop} {J : It} {Fin : Hp → Prop} {W : Nat → Nat → Hp → Prop} {m0 : Nat} {R : Value → Shared → Prop}
    (calm : X.calm = true) (IA : Inv X pins σ G sa) (eC : ce.locals = sa.heap.objs.size) (IB : Inv (X.blk sa G scope ce fp) [] (wipe σ (own.map (·.2))) G sb) (T : Turn X.prog X.w X.K tg J fp it tn) (fpok : ∀ b ∈ fp, FpOk X pins G b) (first : tn 0 sb.heap)
    (w0 : W 0 m0 G) (turn : TurnL own J g te (wipe σ (own.map (·.2))) D Fin W) (pg : PG (X.blk sa G scope ce fp) tg g) (pe : PE (X.blk sa G scope ce fp) elt te)
    (out : ∀ s' m G', Inv X pins σ G' s' → Fin G' → s'.heap.Ns sa.heap.objs.size m → FpOk X pins G' sa.heap.objs.size → compPost (model X.prog X.w) X.A X.xe none R (.ref D) sa.heap.objs.size (.ok .next) s') :
    codeAny (model X.prog X.w) X.A (.compLoop (.ListComp elt [⟨tg, iter, [], 0⟩] scope pos) 0 (.ref it) (.ref D) ce) (compPost (model X.prog X.w) X.A X.xe none R (.ref D) sa.heap.objs.size) sb := by
  have still : ∀ {τ : L2.St} {G' : Hp} {s' : Shared}, Inv (X.blk sa G scope ce fp) [] τ G' s' → (∀ b ∈ fp, G' b = none) → ∀ b ∈ fp, FpOk (X.blk sa G scope ce fp) [] G' b := fun {τ G' s'} J' free b hb =>
    ⟨free b hb, (J'.ok.exf b hb).1, J'.ok.exfs b hb, .inl hb, fun x c e => (J'.ok.exf b hb).2 x c e, fun p z => by cases z⟩
  refine compLoop_any (fun left s' => ∃ i G', W i left G' ∧ tn i s'.heap ∧ (∀ b ∈ fp, G' b = none) ∧ Inv (X.blk sa G scope ce fp) [] (wipe σ (own.map (·.2))) G' s') (fun left st hI => ?_) m0 ⟨0, G, w0, first, fun b hb => (fpok b hb).1, IB⟩
  obtain ⟨i, GI, wI, tI, freeI, II⟩ := hI
  rcases turn i left GI wI with ⟨halt, fin⟩ | ⟨more, Nx, back, item⟩
  · refine thnF (T.done (X.blk sa G scope ce fp) rfl rfl rfl calm i [] st _ GI (fun _ _ => False) II (still II freeI) tI halt) fun r s6 ⟨er, I6⟩ => ?_
    subst er
    have up : Inv X pins σ GI s6 := IA.call' (ch := fp) I6.os I6.base I6.hok I6.bare fun b hb => let z := (fpok b hb).2; ⟨z.2.2.1, z.1, z.2.2.2.1, z.2.2.2.2⟩
    have noC : GI sa.heap.objs.size = none := by
      rw [← eC]
      exact I6.free
    obtain ⟨m, ns, _⟩ := I6.loc
    refine out s6 m GI up fin ?_ (IA.fpOk (Nat.le_refl _) noC)
    rw [← eC]
    exact ns
  · refine thnF (T.item (X.blk sa G scope ce fp) rfl rfl rfl calm i [] st _ GI (fun _ _ => False) II (still II freeI) tI more) fun r s6 ⟨u, er, h6⟩ => ?_
    subst er
    refine thnF h6 fun _ s7 ⟨x, G7, I7, rx, yx, t7, free7⟩ => ?_
    refine thnF (pg.run _ s7 _ G7 x u _ (I7.pinned (still I7 free7) (T.obj _ _ t7)) rx (item x G7 yx)) fun _ s8 ⟨τ, G8, I8, same, q8⟩ => ?_
    refine wpAny_tests_nil ?_
    simp only [if_true]
    refine thnF (pe.run _ s8 τ G8 _ I8 q8) fun z s9 ⟨y, G9, I9, ry, acc, atD, small, next⟩ => ?_
    refine app_ok (X := X.blk sa G scope ce fp) I9 atD small ry fun s10 I10 => ?_
    obtain ⟨left', lt, w'⟩ := back _ next
    have held : ∀ b ∈ fp, ∀ o, s7.heap.get? b = some o → s10.heap.get? b = some o ∧ (upd G9 D (.lst (acc ++ [y]))) b = none := fun b hb o e =>
      let z := I10.pin (b, o) (List.mem_append_right _ (List.mem_append_right _ (mem_pinsAt hb e)))
      ⟨z.1, z.2.1⟩
    refine ⟨left', lt, i + 1, _, w', T.keep _ _ _ t7 fun b hb o e => (held b hb o e).1, fun b hb => ?_, (I10.unpinned (pins := [])).weak (by rw [← same, wipe_length]) fun j v e => ?_⟩
    · obtain ⟨o, e, _⟩ := T.obj _ _ t7 b hb
      exact (held b hb o e).2
    · rw [← same] at e
      exact (wipe_some e).1
/-- the rule: te may depend on the def's slots, and be shown from its state where the block starts -/
theorem pe_lcS {wi : TI} {ts : L2.St → TE} (hc : X.calm = true) (hN : X.N.Nodup) (hi : PI X tg iter wi) (ok : BlkOk X.N X.env.scope scope own)
    (hg : ∀ (s : Shared) (H : Hp) (C : Addr) (cl : List (Str × Addr)) (fp : List Addr), PG (X.blk s H scope (compEnvC scope cl C X.env) fp) tg g)
    (he : ∀ (pins : List (Addr × Obj)) (σ : L2.St) (s : Shared) (H : Hp) (C : Addr) (cl : List (Str × Addr)) (fp : List Addr), Inv X pins σ H s → (∀ b ∈ fp, FpOk X pins H b) → PE (X.blk s H scope (compEnvC scope cl C X.env) fp) elt (ts σ))
    (hs : ∀ x, foldedSetIterable iter X.env x = pure x := by intro _; rfl) :
    PE X (.ListComp elt [⟨tg, iter, [], 0⟩] scope pos) (fun σ H Q => tLc wi g tYes (ts σ) (own.map (·.2)) σ H Q) := by
  refine ⟨fun pins s σ H Q I h => ?_⟩
  have clo : ∀ y ∈ scope.names, y.2 = .free → ∃ c, X.env.cells.lookup y.1 = some c := fun y hy e => I.ok.has _ ((ok.free y hy e).elim .inl .inr)
  rw [eval_ListComp]
  refine wpAny_comprehension_free (use := none) rfl hs (closure_ok clo) ok.kind (fun y hy e => by rw [ok.uniq y hy, e]) (thn (hi.run pins s σ H _ I h) fun v s1 hv => thn hv fun v2 s2 got => ?_)
  obtain ⟨it, fp, tn, J, G, rfl, IG, T, first, fpok, rest⟩ := got
  refine wpAny_newObj_type (newEnv_comp ?_) (by show 0 ≤ sizeLine; decide)
  obtain ⟨D, eD⟩ : ∃ D : Addr, s2.heap.objs.size = D := ⟨_, rfl⟩
  have GD : G D = none := IG.hok.fresh (Nat.le_of_eq eD)
  obtain ⟨W, ⟨m0, w0⟩, turn⟩ := rest D GD
  obtain ⟨sa, ea⟩ : ∃ sa : Shared, ({ s2 with heap := s2.heap.push { cls := .type "list", data := .seq ([] : List Value).toArray } } : Shared) = sa := ⟨_, rfl⟩
  have ha : sa.heap = s2.heap.push { cls := .type "list", data := .seq ([] : List Value).toArray } := by rw [← ea]
  have IA : Inv X pins σ (upd G D (.lst [])) sa := by
    rw [← ea]
    refine IG.laid (t' := s2.toks) (fun b o e => Heap.get?_push_of_some _ e) (Nat.le_of_eq eD) ⟨Nat.zero_le _, [], 0, .nil, ?_⟩
    rw [← eD]
    exact Heap.get?_push_size _ rfl
  have old : ∀ b ∈ fp, b < s2.heap.objs.size := fun b hb => by
    obtain ⟨o, e, _⟩ := T.obj _ _ first b hb
    exact Heap.lt_size e
  have fpA : ∀ b ∈ fp, FpOk X pins (upd G D (.lst [])) b := fun b hb => by
    refine ⟨?_, (fpok b hb).2⟩
    rw [upd_ne (fun z => Nat.lt_irrefl _ (by have := old b hb; rw [z, ← eD] at this; exact this))]
    exact (fpok b hb).1
  have fpB : ∀ b ∈ fp, FpOk X pins (upd G D (.lst [])) b ∧ b < sa.heap.objs.size := fun b hb => ⟨fpA b hb, by rw [ha, Heap.size_push]; exact Nat.lt_succ_of_lt (old b hb)⟩
  have IB := block_start IA ok hN fpB
  rw [eD, ea]
  have tA : tn 0 sa.heap := T.keep _ _ _ first fun b _ o e => by rw [ha]; exact Heap.get?_push_of_some _ e
  have tB : tn 0 (pushCells (sa.heap.push { cls := .type "dict", data := .dict #[] }) scope.names) := T.keep _ _ _ tA fun b _ o e => pushCells_keeps _ _ _ _ (Heap.get?_push_of_some _ e)
  have pg := hg sa (upd G D (.lst [])) sa.heap.objs.size (cellsFrom (sa.heap.objs.size + 1) scope.names (cloFrom X.env.cells scope.names [])) fp
  have pe := he pins σ sa (upd G D (.lst [])) sa.heap.objs.size (cellsFrom (sa.heap.objs.size + 1) scope.names (cloFrom X.env.cells scope.names [])) fp IA fpA
  refine codeAny_compStart_list (lcS_loop (sa := sa) (m0 := m0) (W := W) (Fin := fun G' => Q (.ref D) G') hc IA rfl IB T fpA tB w0 turn pg pe fun s' m G' I' q ns f => ?_) (T.self X.A 0 _ _ _ tB (lcS_loop (sa := sa) (m0 := m0) (W := W) (Fin := fun G' => Q (.ref D) G') hc IA rfl IB T fpA tB w0 turn pg pe fun s' m G' I' q ns f => ?_))
  · exact ⟨m, ns, fun h'' sb => ⟨.ref D, G', I'.turned (t' := s'.toks) (fun b o hb e => (sb.2 b hb).trans e) f.1 f.2.1 f.2.2.2.1 f.2.2.2.2.1 f.2.2.2.2.2, rfl, q⟩⟩
  · exact ⟨m, ns, fun h'' sb => ⟨.ref D, G', I'.turned (t' := s'.toks) (fun b o hb e => (sb.2 b hb).trans e) f.1 f.2.1 f.2.2.2.1 f.2.2.2.2.1 f.2.2.2.2.2, rfl, q⟩⟩
end
end EB

/-! Lambdas that are kept (in a list, say) and called later: each is tracked by its function object. -/
namespace EB
open PySem PySem.Spec PyProof.Rows L2
/-- a lambda's function, its defaults dV -/
abbrev fnL (name qual : Str) (params : Arguments) (body : Expr) (scope : Scope) (cl : List (Str × Addr)) (pm cdv ct dV : Value) : FuncData := { PySem.W.kla_fn name qual params body scope cl pm cdv ct with defaults := dV }
abbrev objL (qual : Str) (params : Arguments) (body : Expr) (scope : Scope) (cl : List (Str × Addr)) (pm : Value) (c : Value) (ct dV : Value) : Obj := { cls := .type "function", data := .func (fnL "<lambda>" qual params body scope cl pm c ct dV) }
section
variable {M : Model} {A : Around} {E : Value → Shared → Prop} {s : Shared} {qual : Str} {params : Arguments} {body : Expr} {scope : Scope} {env : Env} {c P : Addr} {ps : Array Value} {pos : Pos} {line : Nat} {mg : Str → Option Value} {cl : List (Str × Addr)} {dV : Value} {Q : Value → Shared → Prop}
theorem tailL_new (ec : closureFor scope env = pure cl) (eG : env.globals = mainGlobals) (ns : s.heap.Ns mainGlobals mg) (ek : env.code = .ref c) (cd : PySem.W.CodeHd s.heap c P) (tab : s.heap.get? P = some (PySem.W.tabObj ps)) (tr : TriplesOk ps.toList) (miss : codeAmong pos ps.toList = none)
    (nP : mainGlobals ≠ P) (bi : s.heap.BuiltinsAt mg P)
    (fin : ∀ c1 ct h1 k1, Heap.ExtBut P s.heap h1 → s.heap.objs.size ≤ c1 → c1 < h1.objs.size → h1.CodeRec (.ref c1) qual → h1.get? P = some (PySem.W.tabObj (ps ++ #[rawInt pos.line, rawInt pos.col, .ref c1])) →
      Q (.ref h1.objs.size) { s with heap := h1.push (objL qual params body scope cl ((mg "__name__").getD .none) (.ref c1) ct dV), toks := k1 }) :
    wpAny M A (makeTail "<lambda>" qual params (.expr body) scope env dV .none none pos line) Q E s := by
  obtain ⟨bm, ob, n1, n2, _, n3, n4, n5, n6, n7⟩ := bi
  unfold makeTail
  rw [ec, eG]
  refine wpAny_bind (wpAny_pure ?_)
  cases cl with
  | nil =>
    simp only [List.isEmpty_nil, if_true]
    refine wpAny_bind (wpAny_pure (wpAny_bind (wpAny_functionCodeX ek (cd.code tab tr) (cd.tab tab) miss fun c1 h1 k1 x1 g1 l1 _ r1 t1 _ => ?_)))
    have ns1 := ns.extBut x1 nP
    exact wpAny_bind (wpAny_builtinsFor ns1 n1 n2 (x1 _ _ n3 n4) n5 n6 n7 (wpAny_bind (wpAny_nsGet ns1 (wpAny_bind (wpAny_pure (wpAny_newObj_type (fin c1 .none h1 k1 x1 g1 l1 r1 t1.2) (by size_fits)))))))
  | cons y ys =>
    simp only [List.isEmpty_cons, Bool.false_eq_true, if_false]
    refine wpAny_bind (wpAny_newTextTuple (wpAny_bind (wpAny_functionCodeX ek ((cd.keeps fun b o e => Heap.get?_push_of_some _ e).code (Heap.get?_push_of_some _ tab) tr) ((cd.keeps fun b o e => Heap.get?_push_of_some _ e).tab (Heap.get?_push_of_some _ tab)) miss fun c1 h1 k1 x1 g1 l1 _ r1 t1 _ => ?_)))
    have ns1 := (ns.push _).extBut x1 nP
    have x2 : Heap.ExtBut P s.heap h1 := fun b o ne e => x1 b o ne (Heap.get?_push_of_some _ e)
    have g2 : s.heap.objs.size ≤ c1 := by
      rw [Heap.size_push] at g1
      exact Nat.le_of_succ_le g1
    exact wpAny_bind (wpAny_builtinsFor ns1 n1 n2 (x2 _ _ n3 n4) n5 n6 n7 (wpAny_bind (wpAny_nsGet ns1 (wpAny_bind (wpAny_pure (wpAny_newObj_type (fin c1 _ h1 k1 x2 g2 l1 r1 t1.2) (by size_fits)))))))
theorem tailL_hit {cv : Value} (ec : closureFor scope env = pure cl) (eG : env.globals = mainGlobals) (ns : s.heap.Ns mainGlobals mg) (ek : env.code = .ref c) (cd : PySem.W.CodeHd s.heap c P) (tab : s.heap.get? P = some (PySem.W.tabObj ps)) (tr : TriplesOk ps.toList) (hit : codeAmong pos ps.toList = some cv)
    (bi : s.heap.BuiltinsAt mg P)
    (fin : ∀ (ct : Value) (h1 : Heap) (k1 : Tok), (∀ b o, s.heap.get? b = some o → h1.get? b = some o) → s.heap.objs.size ≤ h1.objs.size →
      Q (.ref h1.objs.size) { s with heap := h1.push (objL qual params body scope cl ((mg "__name__").getD .none) cv ct dV), toks := k1 }) :
    wpAny M A (makeTail "<lambda>" qual params (.expr body) scope env dV .none none pos line) Q E s := by
  obtain ⟨bm, ob, n1, n2, _, n3, n4, n5, n6, n7⟩ := bi
  unfold makeTail
  rw [ec, eG]
  refine wpAny_bind (wpAny_pure ?_)
  cases cl with
  | nil =>
    simp only [List.isEmpty_nil, if_true]
    exact wpAny_bind (wpAny_pure (wpAny_bind (wpAny_functionCode_hit ek (cd.code tab tr) hit (wpAny_bind (wpAny_builtinsFor ns n1 n2 n4 n5 n6 n7 (wpAny_bind (wpAny_nsGet ns (wpAny_bind (wpAny_pure (wpAny_newObj_type (fin .none s.heap s.toks (fun _ _ e => e) (Nat.le_refl _)) (by size_fits)))))))))))
  | cons y ys =>
    simp only [List.isEmpty_cons, Bool.false_eq_true, if_false]
    have more : ∀ o : Obj, s.heap.objs.size ≤ (s.heap.push o).objs.size := fun o => by
      rw [Heap.size_push]
      exact Nat.le_succ _
    exact wpAny_bind (wpAny_newTextTuple (wpAny_bind (wpAny_functionCode_hit ek ((cd.keeps fun b o e => Heap.get?_push_of_some _ e).code (Heap.get?_push_of_some _ tab) tr) hit (wpAny_bind (wpAny_builtinsFor (ns.push _) n1 n2 (Heap.get?_push_of_some _ n4) n5 n6 n7 (wpAny_bind (wpAny_nsGet (ns.push _) (wpAny_bind (wpAny_pure (wpAny_newObj_type (fin _ _ s.toks (fun b o e => Heap.get?_push_of_some _ e) (more _)) (by size_fits)))))))))))
end
/-- the object at f, as it is made -/
def FunO (o : Obj) (f : Addr) : HO := .ext fun h => h.get? f = some o
/-- the tuple of the defaults -/
def DfOk (H : Hp) (dV : Value) (df : List (Str × Int)) : Prop := (df = [] ∧ dV = .none) ∨ ∃ (t : Addr) (a : Str) (n : Int), df = [(a, n)] ∧ dV = .ref t ∧ H t = some (.tup [.int n])
/-- the lambda of params, body, scope stands at f, made by the def of the context X -/
def LamAt (X : Cx) (H : Hp) (f : Addr) (params : Arguments) (body : Expr) (scope : Scope) (df : List (Str × Int)) : Prop := ∃ (c : Addr) (pm ct dV : Value), H f = some (FunO (objL (X.env.qual ++ "<lambda>") params body scope (cloFrom X.env.cells scope.names []) pm (.ref c) ct dV) f) ∧
  H c = some (LamX.CodeO c (X.env.qual ++ "<lambda>")) ∧ DfOk H dV df
theorem updN {H : Hp} {a b : Addr} {o : HO} (h : upd H a o b = none) : H b = none := by
  by_cases z : b = a
  · rw [z, upd_same] at h
    cases h
  · rw [upd_ne z] at h
    exact h
theorem funO_ne {o : Obj} {f : Addr} (ps : Array Value) : FunO o f ≠ .tbl ps := fun z => by
  unfold FunO at z
  cases z
theorem DfOk.ext {H H' : Hp} {dV : Value} {df : List (Str × Int)} (d : DfOk H dV df) (e : LamX.ExtN H H') : DfOk H' dV df := by
  rcases d with d | ⟨t, a, n, d1, d2, d3⟩
  · exact .inl d
  · exact .inr ⟨t, a, n, d1, d2, e _ _ d3 fun ps z => by cases z⟩
theorem LamAt.ext {X : Cx} {H H' : Hp} {f : Addr} {params : Arguments} {body : Expr} {scope : Scope} {df : List (Str × Int)} (l : LamAt X H f params body scope df) (e : LamX.ExtN H H') : LamAt X H' f params body scope df := by
  obtain ⟨c, pm, ct, dV, l1, l2, l3⟩ := l
  exact ⟨c, pm, ct, dV, e _ _ l1 funO_ne, e _ _ l2 LamX.codeO_ne, l3.ext e⟩
/-- how the defaults are written -/
def DfEv (X : Cx) (params : Arguments) (df : List (Str × Int)) : Prop := (df = [] ∧ defaultsOf params X.env = ([], [])) ∨ ∃ (a : Str) (n : Int) (e : Expr), df = [(a, n)] ∧ defaultsOf params X.env = ([eval e X.env], []) ∧ PE X.nox e (tC (.int n))
section
variable {X : Cx} {pins : List (Addr × Obj)} {σ : L2.St} {H : Hp} {s : Shared}
theorem lam_tail {T : List (Addr × Str)} {c P : Addr} {params : Arguments} {body : Expr} {scope : Scope} {pos : Pos} {dV : Value} {df : List (Str × Int)} {E : Value → Shared → Prop} {Q : Value → Shared → Prop} (I : Inv X pins σ H s) (TB : LamX.TabB X.base X.mg c P) (ek : X.env.code = .ref c)
    (hm : (P, X.env.qual ++ "<lambda>") ∈ T) (hu : ∀ p ∈ T, p.1 = P → p.2 = X.env.qual ++ "<lambda>") (hT : LamX.Tabs T H) (free : ∀ y ∈ scope.names, y.2 = .free → ∃ c, X.env.cells.lookup y.1 = some c) (hd : DfOk H dV df)
    (k : ∀ (f : Addr) (H1 : Hp) (s' : Shared), Inv X pins σ H1 s' → LamX.ExtN H H1 → LamX.Tabs T H1 → LamAt X H1 f params body scope df → H f = none → Q (.ref f) s') :
    wpAny (model X.prog X.w) X.A (makeTail "<lambda>" (X.env.qual ++ "<lambda>") params (.expr body) scope X.env dV .none none pos pos.line) Q E s := by
  obtain ⟨ps, atP, tr, known⟩ := hT _ hm
  have bi : s.heap.BuiltinsAt X.mg P := TB.bm.keeps I.bk
  have tab : s.heap.get? P = some (PySem.W.tabObj ps) := I.hok P _ atP
  cases hc : codeAmong pos ps.toList with
  | some cv =>
    obtain ⟨c1, rfl, atC⟩ := known pos cv hc
    refine tailL_hit (mg := X.mg) (closure_ok free) I.ok.glob (I.mod.glob.keeps I.bk) ek (TB.code.keeps I.bk) tab tr hc bi fun ct h1 k1 old big => ?_
    have nF : H h1.objs.size = none := I.hok.fresh big
    have J := (I.kept (h' := h1) (t' := k1) old).laid (a := h1.objs.size) (o := FunO _ h1.objs.size) (t' := k1) (fun b u e => Heap.get?_push_of_some (objL (X.env.qual ++ "<lambda>") params body scope (cloFrom X.env.cells scope.names []) ((X.mg "__name__").getD .none) (.ref c1) ct dV) e) (Nat.le_refl _)
      ⟨Heap.get?_push_size _ rfl, ⟨_, Heap.get?_push_size _ rfl⟩, fun g1 g2 e st => st _ e⟩
    have ex : LamX.ExtN H (upd H h1.objs.size (FunO (objL (X.env.qual ++ "<lambda>") params body scope (cloFrom X.env.cells scope.names []) ((X.mg "__name__").getD .none) (.ref c1) ct dV) h1.objs.size)) := LamX.ExtN.of (same_new nF)
    exact k _ _ _ J ex (hT.ext (same_new nF)) ⟨c1, _, ct, dV, upd_same, ex _ _ atC LamX.codeO_ne, hd.ext ex⟩ nF
  | none =>
    refine tailL_new (mg := X.mg) (closure_ok free) I.ok.glob (I.mod.glob.keeps I.bk) ek (TB.code.keeps I.bk) tab tr hc TB.gP bi fun c1 ct h1 k1 x1 big lt rec_ tab1 => ?_
    obtain ⟨c2, oc, vs, t, e2, at1, dt, nm⟩ := rec_
    cases e2
    have sz : s.heap.objs.size ≤ h1.objs.size := Nat.le_trans big (Nat.le_of_lt lt)
    have nC : H c1 = none := I.hok.fresh big
    have J1 := LamX.inv_table (t' := k1) (more := #[rawInt pos.line, rawInt pos.col, .ref c1]) (h' := h1) I atP (fun b o ne e => x1 b o ne e) tab1 big ⟨oc, vs, t, at1, dt, nm⟩
    have J := J1.laid (a := h1.objs.size) (o := FunO _ h1.objs.size) (t' := k1) (fun b u e => Heap.get?_push_of_some (objL (X.env.qual ++ "<lambda>") params body scope (cloFrom X.env.cells scope.names []) ((X.mg "__name__").getD .none) (.ref c1) ct dV) e) (Nat.le_refl _)
      ⟨Heap.get?_push_size _ rfl, ⟨_, Heap.get?_push_size _ rfl⟩, fun g1 g2 e st => st _ e⟩
    have nF : H h1.objs.size = none := I.hok.fresh sz
    have nF2 : upd (upd H P (.tbl (ps ++ #[rawInt pos.line, rawInt pos.col, .ref c1]))) c1 (LamX.CodeO c1 (X.env.qual ++ "<lambda>")) h1.objs.size = none := by
      rw [upd_ne (Nat.ne_of_gt lt), upd_ne (ne_of_none atP nF).symm]
      exact nF
    have ex : LamX.ExtN H (upd (upd (upd H P (.tbl (ps ++ #[rawInt pos.line, rawInt pos.col, .ref c1]))) c1 (LamX.CodeO c1 (X.env.qual ++ "<lambda>"))) h1.objs.size (FunO (objL (X.env.qual ++ "<lambda>") params body scope (cloFrom X.env.cells scope.names []) ((X.mg "__name__").getD .none) (.ref c1) ct dV) h1.objs.size)) := fun b o e ne => by
      rw [upd_ne (ne_of_none e nF), upd_ne (ne_of_none e nC), upd_ne fun z => ne ps (by rw [z, atP] at e; exact (Option.some.inj e).symm)]
      exact e
    have e1 : (ps ++ #[rawInt pos.line, rawInt pos.col, .ref c1]).toList = ps.toList ++ [rawInt pos.line, rawInt pos.col, .ref c1] := by simp
    have newC : upd (upd (upd H P (.tbl (ps ++ #[rawInt pos.line, rawInt pos.col, .ref c1]))) c1 (LamX.CodeO c1 (X.env.qual ++ "<lambda>"))) h1.objs.size (FunO (objL (X.env.qual ++ "<lambda>") params body scope (cloFrom X.env.cells scope.names []) ((X.mg "__name__").getD .none) (.ref c1) ct dV) h1.objs.size) c1 = some (LamX.CodeO c1 (X.env.qual ++ "<lambda>")) := by
      rw [upd_ne (Nat.ne_of_lt lt)]
      exact upd_same
    refine k _ _ _ J ex (fun p hp => ?_) ⟨c1, _, ct, dV, upd_same, newC, hd.ext ex⟩ nF
    by_cases hb : p.1 = P
    · rw [hu p hp hb, hb]
      refine ⟨_, (by rw [upd_ne (ne_of_none atP nF), upd_ne (ne_of_none atP nC)]; exact upd_same), (by rw [e1]; exact PySem.TriplesOk_snoc _ _ _ _ tr), fun p2 cv among => ?_⟩
      rw [e1] at among
      rcases LamX.among_app _ tr among with z | z
      · obtain ⟨c0, z1, z2⟩ := known p2 cv z
        exact ⟨c0, z1, ex _ _ z2 LamX.codeO_ne⟩
      · exact ⟨c1, z, newC⟩
    · obtain ⟨qs, z1, z2, z3⟩ := hT p hp
      refine ⟨qs, (by rw [upd_ne (ne_of_none z1 nF), upd_ne (ne_of_none z1 nC), upd_ne hb]; exact z1), z2, fun p2 cv among => ?_⟩
      obtain ⟨c0, y1, y2⟩ := z3 p2 cv among
      exact ⟨c0, y1, ex _ _ y2 LamX.codeO_ne⟩
/-- the lambda is made, its default (an int, if there is one) first -/
theorem lam_makeT {T : List (Addr × Str)} {c P : Addr} {params : Arguments} {body : Expr} {scope : Scope} {pos : Pos} {df : List (Str × Int)} {E : Value → Shared → Prop} {Q : Value → Shared → Prop} (I : Inv X pins σ H s) (TB : LamX.TabB X.base X.mg c P) (ek : X.env.code = .ref c)
    (hm : (P, X.env.qual ++ "<lambda>") ∈ T) (hu : ∀ p ∈ T, p.1 = P → p.2 = X.env.qual ++ "<lambda>") (hT : LamX.Tabs T H) (free : ∀ y ∈ scope.names, y.2 = .free → ∃ c, X.env.cells.lookup y.1 = some c) (hd : DfEv X params df)
    (k : ∀ (f : Addr) (H1 : Hp) (s' : Shared), Inv X pins σ H1 s' → LamX.ExtN H H1 → LamX.Tabs T H1 → LamAt X H1 f params body scope df → H f = none → Q (.ref f) s') :
    wpAny (model X.prog X.w) X.A (eval (.Lambda params body scope pos) X.env) Q E s := by
  rcases hd with ⟨rfl, e⟩ | ⟨a, n, ex, rfl, e, pe⟩
  · rw [arm_eval_Lambda, e]
    refine wpAny_bind (m := evalAll []) (wpAny_pure (wpAny_bind (wpAny_holding (wpAny_pure ?_))))
    rw [makeFunction_eq]
    simp only [List.zip_nil_right, List.filterMap_nil, List.isEmpty_nil, if_true, pure_bind]
    exact lam_tail I TB ek hm hu hT free (.inl ⟨rfl, rfl⟩) k
  · rw [arm_eval_Lambda, e]
    refine wpAny_bind (m := evalAll [eval ex X.env]) (wpAny_bind (m := eval ex X.env) (thnF (pe.run pins s σ H (fun v H1 => v = .int n ∧ H1 = H) (I.wish _) ⟨rfl, rfl⟩) fun u s1 ⟨v, H1, I1, rv, ev, eH⟩ => ?_))
    subst ev eH
    have I1 := I1.unwish
    refine wpAny_bind (wpAny_holding (wpAny_pure (wpAny_pure (wpAny_bind (wpAny_holding (wpAny_pure ?_))))))
    rw [makeFunction_eq]
    simp only [List.zip_nil_right, List.filterMap_nil, List.isEmpty_nil, List.isEmpty_cons, Bool.false_eq_true, if_false, if_true, pure_bind]
    refine wpAny_bind (wpAny_newTextTuple ?_)
    have nT : H1 s1.heap.objs.size = none := I1.hok.fresh (Nat.le_refl _)
    have I2 : Inv X pins σ (upd H1 s1.heap.objs.size (.tup [.int n])) { s1 with heap := s1.heap.push { cls := .type "tuple", data := .seq [u].toArray } } := I1.laid (t' := s1.toks) (fun b o e => Heap.get?_push_of_some _ e) (Nat.le_refl _) ⟨by show 1 ≤ sizeLine; decide, [u], .cons rv .nil, IsTup.new s1.heap _⟩
    exact lam_tail I2 TB ek hm hu (hT.ext (same_new nT)) free (.inr ⟨_, a, n, rfl, rfl, upd_same⟩) fun f H2 s2 J ex t l nf => k f H2 s2 J (LamX.ExtN.trans (LamX.ExtN.of (same_new nT)) ex) t l (updN nf)
end
/-! ### what stands at f is called -/
/-- captured names and globals; a name of its own is none of the def's -/
structure LamO (N : List Str) (sc scope : Scope) : Prop where
  kind : scope.kind = .function
  co : scope.isCoroutine = false
  gen : scope.isGenerator = false
  own : ∀ y ∈ scope.names, y.2 ≠ .cell ∧ (y.2 = .local → y.1 ∉ N)
  free : ∀ y ∈ scope.names, y.2 = .free → sc.names.lookup y.1 = some .cell ∨ sc.names.lookup y.1 = some .free
def lamOB (N : List Str) (sc scope : Scope) : Bool :=
  decide (scope.kind = .function) && (!scope.isCoroutine && (!scope.isGenerator && scope.names.all fun y => !decide (y.2 = .cell) && ((!decide (y.2 = .local) || !decide (y.1 ∈ N)) && (!decide (y.2 = .free) || (decide (sc.names.lookup y.1 = some .cell) || decide (sc.names.lookup y.1 = some .free))))))
theorem lamO_by {N : List Str} {sc scope : Scope} (h : lamOB N sc scope = true) : LamO N sc scope := by
  obtain ⟨h1, h⟩ := Bool.and_eq_true_iff.mp h
  obtain ⟨h2, h⟩ := Bool.and_eq_true_iff.mp h
  obtain ⟨h3, h4⟩ := Bool.and_eq_true_iff.mp h
  have each : ∀ y ∈ scope.names, y.2 ≠ .cell ∧ (y.2 = .local → y.1 ∉ N) ∧ (y.2 = .free → sc.names.lookup y.1 = some .cell ∨ sc.names.lookup y.1 = some .free) := fun y hy => by
    have z := List.all_eq_true.mp h4 y hy
    simp only [Bool.and_eq_true, Bool.or_eq_true, Bool.not_eq_true', decide_eq_true_eq, decide_eq_false_iff_not] at z
    exact ⟨z.1, fun e => z.2.1.resolve_left fun k => k e, fun e => z.2.2.resolve_left fun k => k e⟩
  exact ⟨of_decide_eq_true h1, by simpa using h2, by simpa using h3, fun y hy => ⟨(each y hy).1, (each y hy).2.1⟩, fun y hy => (each y hy).2.2⟩
section
variable {X : Cx} {pins : List (Addr × Obj)} {σ : L2.St} {H HZ : Hp} {s s1 : Shared}
theorem lam_start3 {A : Around} {outer : List Env} {E : XK} {scope : Scope} {f c1 : Addr} {h1 : Heap} {tk : Nat} {m : Str → Option Value} (I : Inv X pins σ H s) (L : LamO X.N X.env.scope scope) (e0 : Env0 X.prog X.w X.K X.mg X.base A outer s1 HZ) (hd : A.handled = none)
    (un : Un (frs X.stack) [] H HZ s.heap s1.heap) (ns : h1.Ns s1.heap.objs.size m) (old : ∀ b o, s1.heap.get? b = some o → h1.get? b = some o) :
    Inv (LamX.lamCx X A outer s1 HZ E scope f c1) [] σ HZ { s1 with heap := h1, toks := tk } := by
  have has : ∀ y ∈ scope.names, y.2 = .free → ∃ c, X.env.cells.lookup y.1 = some c := fun y hy e => I.ok.has _ (L.free y hy e)
  have back : ∀ {y : Str} {c : Addr}, (cloFrom X.env.cells scope.names []).lookup y = some c → X.env.cells.lookup y = some c := fun {y c} e => by
    rcases cloFrom_mem (PySem.mem_of_lookup e) with z | ⟨z1, z2⟩
    · cases z
    · obtain ⟨c2, ec⟩ := has _ z1 rfl
      have ec : X.env.cells.lookup y = some c2 := ec
      rw [ec] at z2
      rw [ec, z2] <;> rfl
  have there : ∀ {y : Str}, scope.names.lookup y = some .free → ∃ c, (cloFrom X.env.cells scope.names []).lookup y = some c := fun {y} e => mem_lookup (cloFrom_has (cells := X.env.cells) (acc := []) (PySem.mem_of_lookup e))
  have cellK : ∀ {c : Addr} {v : Option Value}, H c = none → s.heap.IsCell c v → h1.IsCell c v := fun {c v} n z => by
    obtain ⟨o, z1, z2⟩ := z
    obtain ⟨sl, z3⟩ := un.any z1 n List.not_mem_nil
    exact ⟨_, old _ _ z3, z2⟩
  have noex : ∀ b : Addr, b ∉ (LamX.lamCx X A outer s1 HZ E scope f c1).ex := fun b z => absurd (show b ∈ ([] : List Addr) from z) List.not_mem_nil
  have nocell : ∀ {y : Str}, scope.names.lookup y ≠ some .cell := fun {y} z => (L.own _ (PySem.mem_of_lookup z)).1 rfl
  have okL : (LamX.lamCx X A outer s1 HZ E scope f c1).Ok := ⟨e0.mod, L.kind, rfl, rfl, Nat.le_refl _, fun y z c a b => I.ok.inj y z c (back a) (back b), fun y hy => hy.elim (fun z => absurd z nocell) there, fun y c z _ => (nomatch (show false = true from z)), fun _ => hd, Around.frames_deeper e0.frames,
    .inr ⟨rfl, rfl⟩, fun b z => absurd z (noex b), e0.bs, e0.bsz, fun b _ _ => noex b, fun b z => absurd z (noex b), e0.funs, e0.frf⟩
  refine ⟨okL, rfl, e0.bare, Un.kept old, ⟨m, ns, fun i y v a1 a2 a3 => ?_⟩, fun y c e => ?_, e0.hok.fresh (Nat.le_refl _), fun y c e => ?_, fun p hp => (by cases hp), e0.hok.kept old, I.len⟩
  · have a3 : Vis scope y := a3
    have isF : scope.names.lookup y = some .free := by
      rcases a3 with z | z | z
      · exact absurd (List.mem_of_getElem? a1) ((L.own _ (PySem.mem_of_lookup z)).2 rfl)
      · exact absurd z nocell
      · exact z
    have up := L.free _ (PySem.mem_of_lookup isF) rfl
    obtain ⟨m2, _, look⟩ := I.loc
    obtain ⟨u, ru, q⟩ := look i y v a1 a2 (.inr up)
    obtain ⟨c2, e2⟩ := there isF
    refine ⟨u, ru, .inr ⟨.inr isF, c2, e2, ?_⟩⟩
    have e3 := back e2
    rcases q with ⟨z, _⟩ | ⟨_, c3, z1, z2⟩
    · have z : X.env.scope.names.lookup y = some .local := z
      rcases up with k | k
      · rw [show X.env.scope.names.lookup y = _ from k] at z
        cases z
      · rw [show X.env.scope.names.lookup y = _ from k] at z
        cases z
    · rw [e3] at z1
      cases z1
      exact cellK (I.freeC y _ e3) z2
  · obtain ⟨v, z⟩ := I.cell y c (back e)
    exact ⟨v, cellK (I.freeC y c (back e)) z⟩
  · obtain ⟨v, o, z, _⟩ := I.cell y c (back e)
    exact un.free c o z (I.freeC y c (back e)) List.not_mem_nil
/-- how such a lambda is bound when it is called without arguments -/
def BindL (params : Arguments) (body : Expr) (scope : Scope) (df : List (Str × Int)) : Prop :=
  (df = [] ∧ ∀ (q : Str) (cl : List (Str × Addr)) (pm cv ct : Value), bindArgs (fnL "<lambda>" q params body scope cl pm cv ct .none) ⟨[], []⟩ = pure []) ∨
  ∃ (a : Str) (n : Int), df = [(a, n)] ∧ scope.names.lookup a = some .local ∧ ∀ (q : Str) (cl : List (Str × Addr)) (pm cv ct : Value) (t : Addr) (u : Value), ∃ k : Option (Array Value) → Sem (List (Str × Value)),
    bindArgs (fnL "<lambda>" q params body scope cl pm cv ct (.ref t)) ⟨[], []⟩ = (seqItems? (.ref t) >>= k) ∧ k (some #[u]) = pure [(a, u)]
/-- x(), x the parameter that got the lambda -/
theorem pe_actT {CXg : CXT} {Eg : XK} {Ng : List Str} {qg : Str} {sg : Scope} {g f : Addr} {cdg : Value} {params : Arguments} {body : Expr} {scope : Scope} {df : List (Str × Int)} {k i : Nat} {a : Str} {pn : List (Addr × Obj)} {xe : Value → Shared → Prop} {W : WX} {E : XK} {tb : TE} {p1 p2 : Pos}
    (I : Inv X pins σ H s) (L : LamO X.N X.env.scope scope) (B : BindL params body scope df)
    (tk : Takes ((cxOf CXg X.prog X.w X.K X.mg X.base Ng qg sg g cdg X.A X.stack s H Eg).tr pn xe) W) (hW : ∀ cls d σ' H', E cls d H' → W cls d σ' H') (hr : Room (k + 1) (X.A.deeper (envOfC qg sg s.heap.objs.size g cdg)))
    (hbody : ∀ (A : Around) (outer : List Env) (s : Shared) (H : Hp) (c1 : Addr), Room k (A.deeper (LamX.lamEnv X scope s.heap.objs.size f c1)) → PE (LamX.lamCx X A outer s H E scope f c1) body tb)
    (hN : Ng[i]? = some a) (hv : Vis sg a) (hd : (a == ("__debug__" : Str)) = false := by decide) (hcd : (a == ("__classdict__" : Str)) = false := by decide) :
    PE ((cxOf CXg X.prog X.w X.K X.mg X.base Ng qg sg g cdg X.A X.stack s H Eg).tr pn xe) (.Call (.Name a p1) [] [] p2)
      (fun σZ HZ Q => σZ[i]? = some (some (.ref f)) ∧ LamAt X HZ f params body scope df ∧ tb σ HZ Q) := by
  refine ⟨fun pinsZ sZ σZ HZ Q IZ h => ?_⟩
  obtain ⟨here, at_, ht⟩ := h
  refine wpAny_Call_Name_kw (thn ((pe_var (pos := p1) (i := i) hN hv hd hcd).run pinsZ sZ σZ HZ (fun v H1 => v = .ref f ∧ H1 = HZ) IZ ⟨.ref f, here, rfl, rfl⟩) fun u s1 ⟨v, H1, I1, rv, ev, eH⟩ => ?_)
  subst ev eH
  obtain rfl : u = Value.ref f := rv
  obtain ⟨c1, pm, ct, dV, a1, a2, a3⟩ := at_
  have atF : s1.heap.get? f = some (objL (X.env.qual ++ "<lambda>") params body scope (cloFrom X.env.cells scope.names []) pm (.ref c1) ct dV) := (I1.hok f _ a1).1
  obtain ⟨⟨oc, vs, t, z1, z2, z3⟩, _, _⟩ := I1.hok c1 _ a2
  refine PySem.W.callWith_F0 ⟨_, _, _, _, atF⟩ ?_
  have start : ∀ (binds : List (Str × Value)), (∀ y ∈ binds, scope.names.lookup y.1 = some .local) → wpAny (model X.prog X.w) (X.A.deeper (envOfC qg sg s.heap.objs.size g cdg)).in1 (newFunctionEnv scope mainGlobals (cloFrom X.env.cells scope.names []) binds ((X.env.qual ++ "<lambda>") ++ ".<locals>.") (some f) (.ref c1) none builtinsNs)
      (fun env s2 => s2.heap.NoLimit ∧ codeAny (model X.prog X.w) (X.A.deeper (envOfC qg sg s.heap.objs.size g cdg)) (.expr body env) (CR (L2.CX X.prog X.w) (envOfC qg sg s.heap.objs.size g cdg :: X.stack) X.prog X.w H1 s1 Q E) s2)
      (fun e s' => CR (L2.CX X.prog X.w) (envOfC qg sg s.heap.objs.size g cdg :: X.stack) X.prog X.w H1 s1 Q E (.error e) s') s1 := fun binds hb => by
    refine wpAny_newFunctionEnv (fun y hy => (L.own y hy).1) hb (fun h1 ns same => ⟨I1.nolimit.fresh _ same, ?_⟩) L.kind
    have old : ∀ b o, s1.heap.get? b = some o → h1.get? b = some o := fun b o e => same.extBut b o (Nat.ne_of_lt (Heap.lt_size e)) (Heap.get?_push_of_some _ e)
    have J : Inv (LamX.lamCx X (X.A.deeper (envOfC qg sg s.heap.objs.size g cdg)) (envOfC qg sg s.heap.objs.size g cdg :: X.stack) s1 H1 E scope f c1) [] σ H1 { s1 with heap := h1, toks := s1.toks + binds.length } := lam_start3 I L I1.env0 hr.hd I1.base ns old
    show codeAny _ _ (.expr body (LamX.lamEnv X scope s1.heap.objs.size f c1)) _ _
    exact PySem.W.kla_codeExpr (wpAny_mono ((hbody _ _ s1 H1 c1 (hr.deeper _)).run [] _ _ H1 Q J ht) (fun w s' ⟨w2, H2, J2, r2, q2⟩ => ⟨w2, H2, J2.os, J2.bare, J2.base, J2.hok, r2, q2⟩) fun e s' q => q)
  have run : codeAny (model X.prog X.w) (X.A.deeper (envOfC qg sg s.heap.objs.size g cdg)) (.call (.ref f) ⟨[], []⟩) (CR (L2.CX X.prog X.w) (envOfC qg sg s.heap.objs.size g cdg :: X.stack) X.prog X.w H1 s1 Q E) s1 := by
    refine PySem.W.kla_callFunE hr.depth atF rfl L.co L.gen rfl ⟨c1, oc, vs, t, rfl, z1, z2, z3⟩ ?_
    rcases B with ⟨rfl, bind⟩ | ⟨b, n, rfl, loc, bind⟩
    · rcases a3 with ⟨_, rfl⟩ | ⟨_, _, _, z, _⟩
      · rw [bind]
        exact wpAny_pure (start [] fun y hy => absurd hy List.not_mem_nil)
      · cases z
    · rcases a3 with ⟨z, _⟩ | ⟨td, b2, n2, z, rfl, tup⟩
      · cases z
      · cases z
        obtain ⟨_, its, rel, isT⟩ := I1.hok td _ tup
        obtain ⟨u, rfl⟩ : ∃ u, its = [u] := by
          cases rel with
          | cons _ r =>
            cases r
            exact ⟨_, rfl⟩
        obtain ⟨kk, e1, e2⟩ := bind (X.env.qual ++ "<lambda>") (cloFrom X.env.cells scope.names []) pm (.ref c1) ct td u
        rw [e1]
        obtain ⟨ot, o1, _, n3, o3⟩ := isT
        refine wpAny_bind (wpAny_seqItems o1 o3 ?_)
        rw [e2]
        exact wpAny_pure (start [(b, u)] fun y hy => by rw [List.mem_singleton.mp hy]; exact loc)
  refine wpAny_call (codeAny_mono run fun r s' q => ?_)
  cases r with
  | error e => exact passes_call tk hW pinsZ σZ H1 s1 e s' I1 q
  | ok fl =>
    cases fl with
    | ret u => exact I1.after q
    | next => exact False.elim q
    | brk => exact False.elim q
    | cont => exact False.elim q
end
end EB

/-! Kept lambdas as values, and a def that calls the one it gets. -/
namespace EB
open PySem PySem.Spec PyProof.Rows L2
/-- the lambda at f, made by the def of X: its body reads as t -/
def Lam (X : Cx) (k : Nat) (H : Hp) (f : Addr) (t : XK → TE) : Prop := ∃ (params : Arguments) (body : Expr) (scope : Scope) (df : List (Str × Int)), LamAt X H f params body scope df ∧ LamO X.N X.env.scope scope ∧ BindL params body scope df ∧
  ∀ (A : Around) (outer : List Env) (s : Shared) (G : Hp) (E : XK) (c : Addr), Room k (A.deeper (LamX.lamEnv X scope s.heap.objs.size f c)) → PE (LamX.lamCx X A outer s G E scope f c) body (t E)
theorem Lam.ext {X : Cx} {k : Nat} {H H' : Hp} {f : Addr} {t : XK → TE} (l : Lam X k H f t) (e : LamX.ExtN H H') : Lam X k H' f t := by
  obtain ⟨a, b, c, d, l1, l2⟩ := l
  exact ⟨a, b, c, d, l1.ext e, l2⟩
theorem Lam.mono {X : Cx} {k : Nat} {H H' : Hp} {f : Addr} {t : XK → TE} (l : Lam X k H f t) (s : Same H H') : Lam X k H' f t := l.ext (LamX.ExtN.of s)
/-- the reading of a lambda as a value -/
def tLamV (X : Cx) (k : Nat) (T : List (Addr × Str)) (t : XK → TE) : TE := fun _ H Q => LamX.Tabs T H ∧ ∀ H1 f, LamX.ExtN H H1 → LamX.Tabs T H1 → Lam X k H1 f t → H f = none → Q (.ref f) H1
theorem pe_lamV {X : Cx} {k : Nat} {T : List (Addr × Str)} {c P : Addr} {params : Arguments} {body : Expr} {scope : Scope} {pos : Pos} {t : XK → TE} (df : List (Str × Int)) (TB : LamX.TabB X.base X.mg c P) (ek : X.env.code = .ref c)
    (hm : (P, X.env.qual ++ "<lambda>") ∈ T) (hu : ∀ p ∈ T, p.1 = P → p.2 = X.env.qual ++ "<lambda>") (L : LamO X.N X.env.scope scope) (D : DfEv X params df) (B : BindL params body scope df)
    (run : ∀ (f : Addr) (A : Around) (outer : List Env) (s : Shared) (G : Hp) (E : XK) (c : Addr), Room k (A.deeper (LamX.lamEnv X scope s.heap.objs.size f c)) → PE (LamX.lamCx X A outer s G E scope f c) body (t E)) :
    PE X (.Lambda params body scope pos) (tLamV X k T t) :=
  ⟨fun pins s σ H Q I h => lam_makeT I TB ek hm hu h.1 (fun y hy e => I.ok.has _ (L.free y hy e)) D fun f H1 s' J ex tb at_ nf => ⟨.ref f, H1, J, rfl, h.2 H1 f ex tb ⟨_, _, _, df, at_, L, B, run f⟩ nf⟩⟩
/-- what is asked of x(e), e a kept lambda of the def whose slots are σ -/
def tKept (X : Cx) (k : Nat) (TT : (XK → Hp → VK → Prop) → Hp → VK → Prop) (σ : L2.St) (te : TE) : TE := fun σ1 H Q => tCons te tNil σ1 H fun vs H1 => ∃ f t, vs = [.ref f] ∧ Lam X k H1 f t ∧ TT (fun E H' Q' => H' = H1 ∧ t E σ H' Q') H1 Q
section
variable {X Y : Cx} {TT : (XK → Hp → VK → Prop) → Hp → VK → Prop} {x a : Str} {g : Addr} {k : Nat} {pg : Arguments} {bg : List Stmt} {sg : Scope} {dV kV doc pm cdv ct oc : Value} {an od : Option Addr} {osl : Array (Option Value)} {Ng : List Str} {te : TE} {e : Expr} {p pos : Pos} {σ : L2.St}
/-- x(e) where the def's own state is at hand: in the def itself, or in a block of it -/
theorem pe_kept (back : ∀ (pins : List (Addr × Obj)) (σ1 : L2.St) (H : Hp) (s : Shared), Inv Y pins σ1 H s → ∃ pins0, Inv X pins0 σ H s) (eP : Y.prog = X.prog) (eW : Y.w = X.w) (eK : Y.K = X.K) (eM : Y.mg = X.mg) (eB : Y.base = X.base) (eA : Y.A = X.A) (eS : Y.stack = X.stack)
    (hg : Gl Y x) (hm : X.mg x = some (.ref g)) (hk : PySem.W.keepIn X.K (.ref g) = true)
    (lk : X.K.lookup g = some ⟨oc, od, .func (PySem.W.fnOf x x pg bg sg dV kV doc pm an cdv ct), osl⟩) (hcg : PySem.W.codeIn X.K cdv x = true) (hb : L2.Binds X.K (PySem.W.fnOf x x pg bg sg dV kV doc pm an cdv ct) [a] []) (Sg : FnScope Ng [a] sg) (hNg : Ng[0]? = some a) (hva : Vis sg a)
    (hG : LamX.GivesTo X Ng x sg g cdv bg a (X.env.qual ++ "<lambda>") TT) (hr : Room (k + 2) X.A) (he : PE Y e te)
    (hdb : (x == ("__debug__" : Str)) = false := by decide) (hd : (a == ("__debug__" : Str)) = false := by decide) (hcd : (a == ("__classdict__" : Str)) = false := by decide)
    (hse : starEach [e] Y.env = [(false, eval e Y.env)] := by rfl) : PE Y (.Call (.Name x p) [e] [] pos) (tKept X k TT σ te) := by
  refine ⟨fun pins s σ1 H Q I h => ?_⟩
  refine wpAny_Call_Name_kw (ld_glob I hg (eM ▸ hm) ?_ hdb)
  refine PySem.W.callWith_K (h₀ := Y.base) I.ok.mod.kin (eK ▸ hk) (thn ((pa_cons he pa_nil hse).run pos pins s σ1 H _ I h) fun us s1 ⟨vs, H1, I1, rv, q⟩ => ⟨I1.kIn, wpAny_call ?_⟩) hse (by rfl)
  obtain ⟨f, t, ev, ⟨params, body, scope, df, at_, L, B, run⟩, q⟩ := q
  obtain ⟨pins0, J⟩ := back _ _ _ _ I1
  subst ev
  obtain ⟨c1, pm1, ct1, dV1, a1, a2, a3⟩ := id at_
  obtain ⟨u, hu⟩ : ∃ u, us = [u] := by
    cases rv with
    | cons _ r =>
      cases r
      exact ⟨_, rfl⟩
  subst hu
  have room : Room (k + 2) Y.A := eA ▸ hr
  have rc : codeAny (model X.prog X.w) X.A (.call (.ref g) ⟨[u], []⟩) (CR CX0 X.stack X.prog X.w H1 s1 Q E0) s1 := by
    refine LamX.run_ofS (N := Ng) (ps := [a]) (us := [u]) (vs := [.ref f]) lk hcg Sg hr J.env0 (hb s1 [u] J.kIn rfl) rv rfl fun hr' => ?_
    obtain ⟨ts, h1, h2⟩ := hG f c1 s1 H1 Q (fun E H' Q' => H' = H1 ∧ t E σ H' Q') (fun W pn xe E p1 p2 tk hW => by
      have z := pe_actT (CXg := CX0) (Eg := E0) (qg := x) (cdg := cdv) (g := g) (tb := t E) (p1 := p1) (p2 := p2) (E := E) (i := 0) J L B tk hW hr' (fun A outer s G c => run A outer s G E c) hNg hva hd hcd
      exact ⟨fun pins2 s2 σ2 H2 Q2 I2 h2 => z.run pins2 s2 σ2 H2 Q2 I2 ⟨h2.1, by rw [h2.2.2.1]; exact at_, h2.2.2.2⟩⟩) a2 q
    exact ⟨ts, h1.nox, h2⟩
  rw [eP, eW, eA]
  refine codeAny_mono rc fun r s2 q2 => ?_
  cases r with
  | error e => exact (show False from q2).elim
  | ok fl =>
    cases fl with
    | ret u =>
      refine I1.after ?_
      rw [eP, eW, eS]
      exact q2
    | next => exact False.elim q2
    | brk => exact False.elim q2
    | cont => exact False.elim q2
end
end EB


namespace EB
open PySem PySem.Spec PyProof.Rows L2
def top (i : Nat) : Stmt := PySem.Challenge.pw_emptiesback_k12_whole_bottles_nobody_cou.main.body.getD i (.Pass ⟨0, 0, 0, 0⟩)
abbrev PX : Program := PySem.Challenge.pw_emptiesback_k12_whole_bottles_nobody_cou
abbrev s_Candidates_init : Stmt := inClass (top 3) 0
abbrev N_Candidates_init : List Str := ["self", "start", "early", "span", "offsets"]
theorem sc_Candidates_init : FnScope N_Candidates_init ["self", "start", "early", "span", "offsets"] (defScope s_Candidates_init) := ⟨rfl, rfl, rfl, by decide +kernel, rfl, by decide +kernel, by decide +kernel⟩
abbrev a_Candidates_init (K : PySem.W.Frag) : Addr := He.ma K (He.ga K "Candidates") "__init__"
def d_Candidates_init : DD := ⟨a_Candidates_init, "__init__", "Candidates.__init__", s_Candidates_init, [], false⟩
abbrev s_Candidates_narrowed : Stmt := inClass (top 3) 1
abbrev N_Candidates_narrowed : List Str := ["self", "fits", "span", "start", "early", "whole", "offsets", "number", "base", "offset"]
theorem sc_Candidates_narrowed : FnScope N_Candidates_narrowed ["self", "fits", "span"] (defScope s_Candidates_narrowed) := ⟨rfl, rfl, rfl, by decide +kernel, rfl, by decide +kernel, by decide +kernel⟩
abbrev a_Candidates_narrowed (K : PySem.W.Frag) : Addr := He.ma K (He.ga K "Candidates") "narrowed"
def d_Candidates_narrowed : DD := ⟨a_Candidates_narrowed, "narrowed", "Candidates.narrowed", s_Candidates_narrowed, [], false⟩
abbrev s_Candidates_many_within : Stmt := inClass (top 3) 2
abbrev N_Candidates_many_within : List Str := ["self", "last", "many", "turns", "rest", "number", "offset"]
theorem sc_Candidates_many_within : FnScope N_Candidates_many_within ["self", "last"] (defScope s_Candidates_many_within) := ⟨rfl, rfl, rfl, by decide +kernel, rfl, by decide +kernel, by decide +kernel⟩
abbrev a_Candidates_many_within (K : PySem.W.Frag) : Addr := He.ma K (He.ga K "Candidates") "many_within"
def d_Candidates_many_within : DD := ⟨a_Candidates_many_within, "many_within", "Candidates.many_within", s_Candidates_many_within, [], false⟩
abbrev s_Candidates_candidate : Stmt := inClass (top 3) 3
abbrev N_Candidates_candidate : List Str := ["self", "place", "turns", "rest"]
theorem sc_Candidates_candidate : FnScope N_Candidates_candidate ["self", "place"] (defScope s_Candidates_candidate) := ⟨rfl, rfl, rfl, by decide +kernel, rfl, by decide +kernel, by decide +kernel⟩
abbrev a_Candidates_candidate (K : PySem.W.Frag) : Addr := He.ma K (He.ga K "Candidates") "candidate"
def d_Candidates_candidate : DD := ⟨a_Candidates_candidate, "candidate", "Candidates.candidate", s_Candidates_candidate, [], false⟩
abbrev s_InvalidOffer_init : Stmt := inClass (top 6) 0
theorem sc_InvalidOffer_init : SupS "index" (defScope s_InvalidOffer_init) := ⟨rfl, rfl, rfl, rfl, rfl, rfl, rfl, by decide +kernel, by decide⟩
abbrev a_InvalidOffer_init (K : PySem.W.Frag) : Addr := He.ma K (He.ga K "InvalidOffer") "__init__"
def d_InvalidOffer_init : DD := ⟨a_InvalidOffer_init, "__init__", "InvalidOffer.__init__", s_InvalidOffer_init, [], true⟩
abbrev s_is_integer : Stmt := top 16
abbrev N_is_integer : List Str := ["value"]
theorem sc_is_integer : FnScope N_is_integer ["value"] (defScope s_is_integer) := ⟨rfl, rfl, rfl, by decide +kernel, rfl, by decide +kernel, by decide +kernel⟩
abbrev a_is_integer (K : PySem.W.Frag) : Addr := He.ga K "is_integer"
def d_is_integer : DD := ⟨a_is_integer, "is_integer", "is_integer", s_is_integer, [], false⟩
abbrev s_is_number : Stmt := top 17
abbrev N_is_number : List Str := ["value", "least", "most"]
theorem sc_is_number : FnScope N_is_number ["value", "least", "most"] (defScope s_is_number) := ⟨rfl, rfl, rfl, by decide +kernel, rfl, by decide +kernel, by decide +kernel⟩
abbrev a_is_number (K : PySem.W.Frag) : Addr := He.ga K "is_number"
def d_is_number : DD := ⟨a_is_number, "is_number", "is_number", s_is_number, [], false⟩
abbrev s_check_number : Stmt := top 18
abbrev N_check_number : List Str := ["value", "least", "most"]
theorem sc_check_number : FnScope N_check_number ["value", "least", "most"] (defScope s_check_number) := ⟨rfl, rfl, rfl, by decide +kernel, rfl, by decide +kernel, by decide +kernel⟩
abbrev a_check_number (K : PySem.W.Frag) : Addr := He.ga K "check_number"
def d_check_number : DD := ⟨a_check_number, "check_number", "check_number", s_check_number, [.int 0, .int 1000000000000000000], false⟩
abbrev s_is_label : Stmt := top 19
abbrev N_is_label : List Str := ["value", "letter"]
theorem sc_is_label : FnScope N_is_label ["value"] (defScope s_is_label) := ⟨rfl, rfl, rfl, by decide +kernel, rfl, by decide +kernel, by decide +kernel⟩
abbrev a_is_label (K : PySem.W.Frag) : Addr := He.ga K "is_label"
def d_is_label : DD := ⟨a_is_label, "is_label", "is_label", s_is_label, [], false⟩
abbrev s_is_kind : Stmt := top 20
abbrev N_is_kind : List Str := ["value"]
theorem sc_is_kind : FnScope N_is_kind ["value"] (defScope s_is_kind) := ⟨rfl, rfl, rfl, by decide +kernel, rfl, by decide +kernel, by decide +kernel⟩
abbrev a_is_kind (K : PySem.W.Frag) : Addr := He.ga K "is_kind"
def d_is_kind : DD := ⟨a_is_kind, "is_kind", "is_kind", s_is_kind, [], false⟩
abbrev s_cost_of : Stmt := top 22
abbrev N_cost_of : List Str := ["trades", "drinks", "_", "left", "needed"]
theorem sc_cost_of : FnScope N_cost_of ["trades", "drinks"] (defScope s_cost_of) := ⟨rfl, rfl, rfl, by decide +kernel, rfl, by decide +kernel, by decide +kernel⟩
abbrev a_cost_of (K : PySem.W.Frag) : Addr := He.ga K "cost_of"
def d_cost_of : DD := ⟨a_cost_of, "cost_of", "cost_of", s_cost_of, [], false⟩
abbrev s_drinks_of_period : Stmt := top 23
abbrev N_drinks_of_period : List Str := ["trades", "drinks", "_", "left", "needed"]
theorem sc_drinks_of_period : FnScope N_drinks_of_period ["trades"] (defScope s_drinks_of_period) := ⟨rfl, rfl, rfl, by decide +kernel, rfl, by decide +kernel, by decide +kernel⟩
abbrev a_drinks_of_period (K : PySem.W.Frag) : Addr := He.ga K "drinks_of_period"
def d_drinks_of_period : DD := ⟨a_drinks_of_period, "drinks_of_period", "drinks_of_period", s_drinks_of_period, [], false⟩
abbrev s_tops_of : Stmt := top 24
abbrev N_tops_of : List Str := ["costs", "tops", "top", "cost"]
theorem sc_tops_of : FnScope N_tops_of ["costs"] (defScope s_tops_of) := ⟨rfl, rfl, rfl, by decide +kernel, rfl, by decide +kernel, by decide +kernel⟩
abbrev a_tops_of (K : PySem.W.Frag) : Addr := He.ga K "tops_of"
def d_tops_of : DD := ⟨a_tops_of, "tops_of", "tops_of", s_tops_of, [], false⟩
abbrev s_firsts_of : Stmt := top 25
abbrev N_firsts_of : List Str := ["tops", "firsts", "drinks", "top"]
theorem sc_firsts_of : FnScope N_firsts_of ["tops"] (defScope s_firsts_of) := ⟨rfl, rfl, rfl, by decide +kernel, rfl, by decide +kernel, by decide +kernel⟩
abbrev a_firsts_of (K : PySem.W.Frag) : Addr := He.ga K "firsts_of"
def d_firsts_of : DD := ⟨a_firsts_of, "firsts_of", "firsts_of", s_firsts_of, [], false⟩
abbrev s_gaps_of : Stmt := top 26
abbrev N_gaps_of : List Str := ["tops", "firsts", "drinks", "top"]
theorem sc_gaps_of : FnScope N_gaps_of ["tops", "firsts"] (defScope s_gaps_of) := ⟨rfl, rfl, rfl, by decide +kernel, rfl, by decide +kernel, by decide +kernel⟩
abbrev a_gaps_of (K : PySem.W.Frag) : Addr := He.ga K "gaps_of"
def d_gaps_of : DD := ⟨a_gaps_of, "gaps_of", "gaps_of", s_gaps_of, [], false⟩
abbrev s_value_at : Stmt := top 27
abbrev N_value_at : List Str := ["table", "at", "span", "rise", "turns"]
theorem sc_value_at : FnScope N_value_at ["table", "at", "span", "rise"] (defScope s_value_at) := ⟨rfl, rfl, rfl, by decide +kernel, rfl, by decide +kernel, by decide +kernel⟩
abbrev a_value_at (K : PySem.W.Frag) : Addr := He.ga K "value_at"
def d_value_at : DD := ⟨a_value_at, "value_at", "value_at", s_value_at, [], false⟩
abbrev s_drunk_in_round : Stmt := top 29
abbrev N_drunk_in_round : List Str := ["offer", "number", "bottles"]
theorem sc_drunk_in_round : FnScope N_drunk_in_round ["offer", "number", "bottles"] (defScope s_drunk_in_round) := ⟨rfl, rfl, rfl, by decide +kernel, rfl, by decide +kernel, by decide +kernel⟩
abbrev a_drunk_in_round (K : PySem.W.Frag) : Addr := He.ga K "_drunk_in_round"
def d_drunk_in_round : DD := ⟨a_drunk_in_round, "_drunk_in_round", "_drunk_in_round", s_drunk_in_round, [], false⟩
abbrev s_BottleObserver_init : Stmt := inClass (top 30) 0
abbrev N_BottleObserver_init : List Str := ["self", "offer", "start"]
theorem sc_BottleObserver_init : FnScope N_BottleObserver_init ["self", "offer"] (defScope s_BottleObserver_init) := ⟨rfl, rfl, rfl, by decide +kernel, rfl, by decide +kernel, by decide +kernel⟩
abbrev a_BottleObserver_init (K : PySem.W.Frag) : Addr := He.ma K (He.ga K "BottleObserver") "__init__"
def d_BottleObserver_init : DD := ⟨a_BottleObserver_init, "__init__", "BottleObserver.__init__", s_BottleObserver_init, [], false⟩
abbrev s_BottleObserver_records : Stmt := inClass (top 30) 1
abbrev N_BottleObserver_records : List Str := ["self"]
theorem sc_BottleObserver_records : FnScope N_BottleObserver_records ["self"] (defScope s_BottleObserver_records) := ⟨rfl, rfl, rfl, by decide +kernel, rfl, by decide +kernel, by decide +kernel⟩
abbrev a_BottleObserver_records (K : PySem.W.Frag) : Addr := propG K (He.ga K "BottleObserver") (He.ma K (He.ga K "BottleObserver") "records")
def d_BottleObserver_records : DD := ⟨a_BottleObserver_records, "records", "BottleObserver.records", s_BottleObserver_records, [], false⟩
abbrev s_BottleObserver_accept : Stmt := inClass (top 30) 2
abbrev N_BottleObserver_accept : List Str := ["self", "fits", "span", "record", "narrowed", "remaining"]
theorem sc_BottleObserver_accept : FnScope N_BottleObserver_accept ["self", "fits", "span", "record"] (defScope s_BottleObserver_accept) := ⟨rfl, rfl, rfl, by decide +kernel, rfl, by decide +kernel, by decide +kernel⟩
abbrev a_BottleObserver_accept (K : PySem.W.Frag) : Addr := He.ma K (He.ga K "BottleObserver") "_accept"
def d_BottleObserver_accept : DD := ⟨a_BottleObserver_accept, "_accept", "BottleObserver._accept", s_BottleObserver_accept, [], false⟩
abbrev s_BottleObserver_see_left : Stmt := inClass (top 30) 3
abbrev N_BottleObserver_see_left : List Str := ["self", "kind", "count", "offer", "span", "seen", "fits", "bottles"]
theorem sc_BottleObserver_see_left : FnScope N_BottleObserver_see_left ["self", "kind", "count"] (defScope s_BottleObserver_see_left) := ⟨rfl, rfl, rfl, by decide +kernel, rfl, by decide +kernel, by decide +kernel⟩
abbrev a_BottleObserver_see_left (K : PySem.W.Frag) : Addr := He.ma K (He.ga K "BottleObserver") "see_left"
def d_BottleObserver_see_left : DD := ⟨a_BottleObserver_see_left, "see_left", "BottleObserver.see_left", s_BottleObserver_see_left, [], false⟩
abbrev s_BottleObserver_see_round : Stmt := inClass (top 30) 4
abbrev N_BottleObserver_see_round : List Str := ["self", "number", "parity", "offer", "span", "seen", "fits", "bottles"]
theorem sc_BottleObserver_see_round : FnScope N_BottleObserver_see_round ["self", "number", "parity"] (defScope s_BottleObserver_see_round) := ⟨rfl, rfl, rfl, by decide +kernel, rfl, by decide +kernel, by decide +kernel⟩
abbrev a_BottleObserver_see_round (K : PySem.W.Frag) : Addr := He.ma K (He.ga K "BottleObserver") "see_round"
def d_BottleObserver_see_round : DD := ⟨a_BottleObserver_see_round, "see_round", "BottleObserver.see_round", s_BottleObserver_see_round, [], false⟩
abbrev s_BottleObserver_count_up_to : Stmt := inClass (top 30) 5
abbrev N_BottleObserver_count_up_to : List Str := ["self", "last"]
theorem sc_BottleObserver_count_up_to : FnScope N_BottleObserver_count_up_to ["self", "last"] (defScope s_BottleObserver_count_up_to) := ⟨rfl, rfl, rfl, by decide +kernel, rfl, by decide +kernel, by decide +kernel⟩
abbrev a_BottleObserver_count_up_to (K : PySem.W.Frag) : Addr := He.ma K (He.ga K "BottleObserver") "count_up_to"
def d_BottleObserver_count_up_to : DD := ⟨a_BottleObserver_count_up_to, "count_up_to", "BottleObserver.count_up_to", s_BottleObserver_count_up_to, [], false⟩
abbrev s_BottleObserver_nth_possible : Stmt := inClass (top 30) 6
abbrev N_BottleObserver_nth_possible : List Str := ["self", "number", "bottles"]
theorem sc_BottleObserver_nth_possible : FnScope N_BottleObserver_nth_possible ["self", "number"] (defScope s_BottleObserver_nth_possible) := ⟨rfl, rfl, rfl, by decide +kernel, rfl, by decide +kernel, by decide +kernel⟩
abbrev a_BottleObserver_nth_possible (K : PySem.W.Frag) : Addr := He.ma K (He.ga K "BottleObserver") "nth_possible"
def d_BottleObserver_nth_possible : DD := ⟨a_BottleObserver_nth_possible, "nth_possible", "BottleObserver.nth_possible", s_BottleObserver_nth_possible, [], false⟩
abbrev s_is_trade : Stmt := top 33
abbrev N_is_trade : List Str := ["kind", "left", "needed"]
theorem sc_is_trade : FnScope N_is_trade ["kind", "left", "needed"] (defScope s_is_trade) := ⟨rfl, rfl, rfl, by decide +kernel, rfl, by decide +kernel, by decide +kernel⟩
abbrev a_is_trade (K : PySem.W.Frag) : Addr := He.ga K "_is_trade"
def d_is_trade : DD := ⟨a_is_trade, "_is_trade", "_is_trade", s_is_trade, [], false⟩
abbrev s_check_trades : Stmt := top 34
abbrev N_check_trades : List Str := ["trades", "kinds", "index", "kind", "left", "needed"]
theorem sc_check_trades : FnScope N_check_trades ["trades"] (defScope s_check_trades) := ⟨rfl, rfl, rfl, by decide +kernel, rfl, by decide +kernel, by decide +kernel⟩
abbrev a_check_trades (K : PySem.W.Frag) : Addr := He.ga K "_check_trades"
def d_check_trades : DD := ⟨a_check_trades, "_check_trades", "_check_trades", s_check_trades, [], false⟩
abbrev s_check_generosity : Stmt := top 35
abbrev N_check_generosity : List Str := ["trades", "whole", "_", "needed", "parts", "left"]
theorem sc_check_generosity : FnScope N_check_generosity ["trades"] (defScope s_check_generosity) := ⟨rfl, rfl, rfl, by decide +kernel, rfl, by decide +kernel, by decide +kernel⟩
abbrev a_check_generosity (K : PySem.W.Frag) : Addr := He.ga K "_check_generosity"
def d_check_generosity : DD := ⟨a_check_generosity, "_check_generosity", "_check_generosity", s_check_generosity, [], false⟩
abbrev s_Offer_init : Stmt := inClass (top 36) 2
abbrev N_Offer_init : List Str := ["self", "trades", "drinks", "kind", "left", "needed", "count"]
theorem sc_Offer_init : FnScope N_Offer_init ["self", "trades"] (defScope s_Offer_init) := ⟨rfl, rfl, rfl, by decide +kernel, rfl, by decide +kernel, by decide +kernel⟩
abbrev a_Offer_init (K : PySem.W.Frag) : Addr := He.ma K (He.ga K "Offer") "__init__"
def d_Offer_init : DD := ⟨a_Offer_init, "__init__", "Offer.__init__", s_Offer_init, [], false⟩
abbrev s_Offer_trades : Stmt := inClass (top 36) 4
abbrev N_Offer_trades : List Str := ["self"]
theorem sc_Offer_trades : FnScope N_Offer_trades ["self"] (defScope s_Offer_trades) := ⟨rfl, rfl, rfl, by decide +kernel, rfl, by decide +kernel, by decide +kernel⟩
abbrev a_Offer_trades (K : PySem.W.Frag) : Addr := propG K (He.ga K "Offer") (He.ma K (He.ga K "Offer") "trades")
def d_Offer_trades : DD := ⟨a_Offer_trades, "trades", "Offer.trades", s_Offer_trades, [], false⟩
abbrev s_Offer_kinds : Stmt := inClass (top 36) 5
abbrev N_Offer_kinds : List Str := ["self", "kind", "_"]
theorem sc_Offer_kinds : FnScope N_Offer_kinds ["self"] (defScope s_Offer_kinds) := ⟨rfl, rfl, rfl, by decide +kernel, rfl, by decide +kernel, by decide +kernel⟩
abbrev a_Offer_kinds (K : PySem.W.Frag) : Addr := propG K (He.ga K "Offer") (He.ma K (He.ga K "Offer") "kinds")
def d_Offer_kinds : DD := ⟨a_Offer_kinds, "kinds", "Offer.kinds", s_Offer_kinds, [], false⟩
abbrev s_Offer_period : Stmt := inClass (top 36) 6
abbrev N_Offer_period : List Str := ["self"]
theorem sc_Offer_period : FnScope N_Offer_period ["self"] (defScope s_Offer_period) := ⟨rfl, rfl, rfl, by decide +kernel, rfl, by decide +kernel, by decide +kernel⟩
abbrev a_Offer_period (K : PySem.W.Frag) : Addr := propG K (He.ga K "Offer") (He.ma K (He.ga K "Offer") "period")
def d_Offer_period : DD := ⟨a_Offer_period, "period", "Offer.period", s_Offer_period, [], false⟩
abbrev s_Offer_steady_from : Stmt := inClass (top 36) 7
abbrev N_Offer_steady_from : List Str := ["self", "bottles", "drinks"]
theorem sc_Offer_steady_from : FnScope N_Offer_steady_from ["self"] (defScope s_Offer_steady_from) := ⟨rfl, rfl, rfl, by decide +kernel, rfl, by decide +kernel, by decide +kernel⟩
abbrev a_Offer_steady_from (K : PySem.W.Frag) : Addr := propG K (He.ga K "Offer") (He.ma K (He.ga K "Offer") "steady_from")
def d_Offer_steady_from : DD := ⟨a_Offer_steady_from, "steady_from", "Offer.steady_from", s_Offer_steady_from, [], false⟩
abbrev s_Offer_drinks_for : Stmt := inClass (top 36) 8
abbrev N_Offer_drinks_for : List Str := ["self", "bottles", "span", "rise"]
theorem sc_Offer_drinks_for : FnScope N_Offer_drinks_for ["self", "bottles"] (defScope s_Offer_drinks_for) := ⟨rfl, rfl, rfl, by decide +kernel, rfl, by decide +kernel, by decide +kernel⟩
abbrev a_Offer_drinks_for (K : PySem.W.Frag) : Addr := He.ma K (He.ga K "Offer") "_drinks_for"
def d_Offer_drinks_for : DD := ⟨a_Offer_drinks_for, "_drinks_for", "Offer._drinks_for", s_Offer_drinks_for, [], false⟩
abbrev s_Offer_most_within : Stmt := inClass (top 36) 9
abbrev N_Offer_most_within : List Str := ["self", "drinks", "rise", "span"]
theorem sc_Offer_most_within : FnScope N_Offer_most_within ["self", "drinks"] (defScope s_Offer_most_within) := ⟨rfl, rfl, rfl, by decide +kernel, rfl, by decide +kernel, by decide +kernel⟩
abbrev a_Offer_most_within (K : PySem.W.Frag) : Addr := He.ma K (He.ga K "Offer") "_most_within"
def d_Offer_most_within : DD := ⟨a_Offer_most_within, "_most_within", "Offer._most_within", s_Offer_most_within, [], false⟩
abbrev s_Offer_call : Stmt := inClass (top 36) 10
abbrev N_Offer_call : List Str := ["self", "bottles"]
theorem sc_Offer_call : FnScope N_Offer_call ["self", "bottles"] (defScope s_Offer_call) := ⟨rfl, rfl, rfl, by decide +kernel, rfl, by decide +kernel, by decide +kernel⟩
abbrev a_Offer_call (K : PySem.W.Frag) : Addr := He.ma K (He.ga K "Offer") "__call__"
def d_Offer_call : DD := ⟨a_Offer_call, "__call__", "Offer.__call__", s_Offer_call, [], false⟩
abbrev s_Offer_left_over : Stmt := inClass (top 36) 12
abbrev N_Offer_left_over : List Str := ["self", "bottles", "drinks", "kind", "left", "needed"]
theorem sc_Offer_left_over : FnScope N_Offer_left_over ["self", "bottles"] (defScope s_Offer_left_over) := ⟨rfl, rfl, rfl, by decide +kernel, rfl, by decide +kernel, by decide +kernel⟩
abbrev a_Offer_left_over (K : PySem.W.Frag) : Addr := He.ma K (He.ga K "Offer") "left_over"
def d_Offer_left_over : DD := ⟨a_Offer_left_over, "left_over", "Offer.left_over", s_Offer_left_over, [], false⟩
abbrev s_Offer_add : Stmt := inClass (top 36) 20
abbrev N_Offer_add : List Str := ["self", "other", "trades"]
theorem sc_Offer_add : FnScope N_Offer_add ["self", "other"] (defScope s_Offer_add) := ⟨rfl, rfl, rfl, by decide +kernel, rfl, by decide +kernel, by decide +kernel⟩
abbrev a_Offer_add (K : PySem.W.Frag) : Addr := He.ma K (He.ga K "Offer") "__add__"
def d_Offer_add : DD := ⟨a_Offer_add, "__add__", "Offer.__add__", s_Offer_add, [], false⟩
abbrev s_Offer_sub : Stmt := inClass (top 36) 21
abbrev N_Offer_sub : List Str := ["self", "other", "trades", "trade"]
theorem sc_Offer_sub : FnScope N_Offer_sub ["self", "other"] (defScope s_Offer_sub) := ⟨rfl, rfl, rfl, by decide +kernel, rfl, by decide +kernel, by decide +kernel⟩
abbrev a_Offer_sub (K : PySem.W.Frag) : Addr := He.ma K (He.ga K "Offer") "__sub__"
def d_Offer_sub : DD := ⟨a_Offer_sub, "__sub__", "Offer.__sub__", s_Offer_sub, [], false⟩
abbrev s_Offer_getitem : Stmt := inClass (top 36) 22
abbrev N_Offer_getitem : List Str := ["self", "at", "kind", "left", "needed"]
theorem sc_Offer_getitem : FnScope N_Offer_getitem ["self", "at"] (defScope s_Offer_getitem) := ⟨rfl, rfl, rfl, by decide +kernel, rfl, by decide +kernel, by decide +kernel⟩
abbrev a_Offer_getitem (K : PySem.W.Frag) : Addr := He.ma K (He.ga K "Offer") "__getitem__"
def d_Offer_getitem : DD := ⟨a_Offer_getitem, "__getitem__", "Offer.__getitem__", s_Offer_getitem, [], false⟩
abbrev s_Offer_iter : Stmt := inClass (top 36) 23
abbrev N_Offer_iter : List Str := ["self"]
theorem sc_Offer_iter : FnScope N_Offer_iter ["self"] (defScope s_Offer_iter) := ⟨rfl, rfl, rfl, by decide +kernel, rfl, by decide +kernel, by decide +kernel⟩
abbrev a_Offer_iter (K : PySem.W.Frag) : Addr := He.ma K (He.ga K "Offer") "__iter__"
def d_Offer_iter : DD := ⟨a_Offer_iter, "__iter__", "Offer.__iter__", s_Offer_iter, [], false⟩
abbrev s_Offer_bool : Stmt := inClass (top 36) 24
abbrev N_Offer_bool : List Str := ["self", "_", "left"]
theorem sc_Offer_bool : FnScope N_Offer_bool ["self"] (defScope s_Offer_bool) := ⟨rfl, rfl, rfl, by decide +kernel, rfl, by decide +kernel, by decide +kernel⟩
abbrev a_Offer_bool (K : PySem.W.Frag) : Addr := He.ma K (He.ga K "Offer") "__bool__"
def d_Offer_bool : DD := ⟨a_Offer_bool, "__bool__", "Offer.__bool__", s_Offer_bool, [], false⟩
abbrev s_Offer_contains : Stmt := inClass (top 36) 25
abbrev N_Offer_contains : List Str := ["self", "x"]
theorem sc_Offer_contains : FnScope N_Offer_contains ["self", "x"] (defScope s_Offer_contains) := ⟨rfl, rfl, rfl, by decide +kernel, rfl, by decide +kernel, by decide +kernel⟩
abbrev a_Offer_contains (K : PySem.W.Frag) : Addr := He.ma K (He.ga K "Offer") "__contains__"
def d_Offer_contains : DD := ⟨a_Offer_contains, "__contains__", "Offer.__contains__", s_Offer_contains, [], false⟩
abbrev s_Offer_le : Stmt := inClass (top 36) 26
abbrev N_Offer_le : List Str := ["self", "other"]
theorem sc_Offer_le : FnScope N_Offer_le ["self", "other"] (defScope s_Offer_le) := ⟨rfl, rfl, rfl, by decide +kernel, rfl, by decide +kernel, by decide +kernel⟩
abbrev a_Offer_le (K : PySem.W.Frag) : Addr := He.ma K (He.ga K "Offer") "__le__"
def d_Offer_le : DD := ⟨a_Offer_le, "__le__", "Offer.__le__", s_Offer_le, [], false⟩
abbrev s_Offer_lt : Stmt := inClass (top 36) 27
abbrev N_Offer_lt : List Str := ["self", "other"]
theorem sc_Offer_lt : FnScope N_Offer_lt ["self", "other"] (defScope s_Offer_lt) := ⟨rfl, rfl, rfl, by decide +kernel, rfl, by decide +kernel, by decide +kernel⟩
abbrev a_Offer_lt (K : PySem.W.Frag) : Addr := He.ma K (He.ga K "Offer") "__lt__"
def d_Offer_lt : DD := ⟨a_Offer_lt, "__lt__", "Offer.__lt__", s_Offer_lt, [], false⟩
abbrev s_Offer_ge : Stmt := inClass (top 36) 28
abbrev N_Offer_ge : List Str := ["self", "other"]
theorem sc_Offer_ge : FnScope N_Offer_ge ["self", "other"] (defScope s_Offer_ge) := ⟨rfl, rfl, rfl, by decide +kernel, rfl, by decide +kernel, by decide +kernel⟩
abbrev a_Offer_ge (K : PySem.W.Frag) : Addr := He.ma K (He.ga K "Offer") "__ge__"
def d_Offer_ge : DD := ⟨a_Offer_ge, "__ge__", "Offer.__ge__", s_Offer_ge, [], false⟩
abbrev s_Offer_gt : Stmt := inClass (top 36) 29
abbrev N_Offer_gt : List Str := ["self", "other"]
theorem sc_Offer_gt : FnScope N_Offer_gt ["self", "other"] (defScope s_Offer_gt) := ⟨rfl, rfl, rfl, by decide +kernel, rfl, by decide +kernel, by decide +kernel⟩
abbrev a_Offer_gt (K : PySem.W.Frag) : Addr := He.ma K (He.ga K "Offer") "__gt__"
def d_Offer_gt : DD := ⟨a_Offer_gt, "__gt__", "Offer.__gt__", s_Offer_gt, [], false⟩
abbrev s_slack : Stmt := top 37
abbrev N_slack : List Str := ["one", "other", "bottles"]
theorem sc_slack : FnScope N_slack ["one", "other", "bottles"] (defScope s_slack) := ⟨rfl, rfl, rfl, by decide +kernel, rfl, by decide +kernel, by decide +kernel⟩
abbrev a_slack (K : PySem.W.Frag) : Addr := He.ga K "_slack"
def d_slack : DD := ⟨a_slack, "_slack", "_slack", s_slack, [], false⟩
abbrev s_repetition : Stmt := top 38
abbrev N_repetition : List Str := ["one", "other", "one_bottles", "one_drinks", "other_bottles", "other_drinks", "drinks", "span", "fall"]
theorem sc_repetition : FnScope N_repetition ["one", "other"] (defScope s_repetition) := ⟨rfl, rfl, rfl, by decide +kernel, rfl, by decide +kernel, by decide +kernel⟩
abbrev a_repetition (K : PySem.W.Frag) : Addr := He.ga K "_repetition"
def d_repetition : DD := ⟨a_repetition, "_repetition", "_repetition", s_repetition, [], false⟩
abbrev s_never_more : Stmt := top 39
abbrev N_never_more : List Str := ["one", "other", "start", "span", "fall", "bottles"]
theorem sc_never_more : FnScope N_never_more ["one", "other"] (defScope s_never_more) := ⟨rfl, rfl, rfl, by decide +kernel, rfl, by decide +kernel, by decide +kernel⟩
abbrev a_never_more (K : PySem.W.Frag) : Addr := He.ga K "_never_more"
def d_never_more : DD := ⟨a_never_more, "_never_more", "_never_more", s_never_more, [], false⟩
abbrev s_first_difference : Stmt := top 40
abbrev N_first_difference : List Str := ["one", "other", "start", "span", "fall", "bottles"]
theorem sc_first_difference : FnScope N_first_difference ["one", "other"] (defScope s_first_difference) := ⟨rfl, rfl, rfl, by decide +kernel, rfl, by decide +kernel, by decide +kernel⟩
abbrev a_first_difference (K : PySem.W.Frag) : Addr := He.ga K "first_difference"
def d_first_difference : DD := ⟨a_first_difference, "first_difference", "first_difference", s_first_difference, [], false⟩
abbrev s_law_mix : Stmt := top 42
abbrev N_law_mix : List Str := ["_law_script", "_law_seed", "_law_mixed", "_law_cell"]
theorem sc_law_mix : FnScope N_law_mix ["_law_script", "_law_seed"] (defScope s_law_mix) := ⟨rfl, rfl, rfl, by decide +kernel, rfl, by decide +kernel, by decide +kernel⟩
abbrev a_law_mix (K : PySem.W.Frag) : Addr := He.ga K "_law_mix"
def d_law_mix : DD := ⟨a_law_mix, "_law_mix", "_law_mix", s_law_mix, [], false⟩
abbrev s_law_next : Stmt := top 43
abbrev N_law_next : List Str := ["_law_h", "_law_limit", "_law_cell"]
theorem sc_law_next : FnScope N_law_next ["_law_h", "_law_limit"] (defScope s_law_next) := ⟨rfl, rfl, rfl, by decide +kernel, rfl, by decide +kernel, by decide +kernel⟩
abbrev a_law_next (K : PySem.W.Frag) : Addr := He.ga K "_law_next"
def d_law_next : DD := ⟨a_law_next, "_law_next", "_law_next", s_law_next, [], false⟩
abbrev s_law_alike : Stmt := top 44
abbrev N_law_alike : List Str := ["_law_found", "_law_due", "_law_k"]
theorem sc_law_alike : FnScope N_law_alike ["_law_found", "_law_due"] (defScope s_law_alike) := ⟨rfl, rfl, rfl, by decide +kernel, rfl, by decide +kernel, by decide +kernel⟩
abbrev a_law_alike (K : PySem.W.Frag) : Addr := He.ga K "_law_alike"
def d_law_alike : DD := ⟨a_law_alike, "_law_alike", "_law_alike", s_law_alike, [], false⟩
abbrev s_law_error : Stmt := top 45
abbrev N_law_error : List Str := ["_law_call", "e", "_law_kinds", "_law_name"]
theorem sc_law_error : FnScope N_law_error ["_law_call"] (defScope s_law_error) := ⟨rfl, rfl, rfl, by decide +kernel, rfl, by decide +kernel, by decide +kernel⟩
abbrev a_law_error (K : PySem.W.Frag) : Addr := He.ga K "_law_error"
def d_law_error : DD := ⟨a_law_error, "_law_error", "_law_error", s_law_error, [], false⟩
abbrev s_law_trades : Stmt := top 46
abbrev N_law_trades : List Str := ["_law_h", "_law_most", "_law_largest", "_law_found", "_law_worth", "_law_kind", "_law_needed", "_law_left"]
theorem sc_law_trades : FnScope N_law_trades ["_law_h", "_law_most", "_law_largest"] (defScope s_law_trades) := ⟨rfl, rfl, rfl, by decide +kernel, rfl, by decide +kernel, by decide +kernel⟩
abbrev a_law_trades (K : PySem.W.Frag) : Addr := He.ga K "_law_trades"
def d_law_trades : DD := ⟨a_law_trades, "_law_trades", "_law_trades", s_law_trades, [], false⟩
abbrev s_law_offer : Stmt := top 47
abbrev N_law_offer : List Str := ["_law_trades_here"]
theorem sc_law_offer : FnScope N_law_offer ["_law_trades_here"] (defScope s_law_offer) := ⟨rfl, rfl, rfl, by decide +kernel, rfl, by decide +kernel, by decide +kernel⟩
abbrev a_law_offer (K : PySem.W.Frag) : Addr := He.ga K "_law_offer"
def d_law_offer : DD := ⟨a_law_offer, "_law_offer", "_law_offer", s_law_offer, [], false⟩
abbrev s_law_buys : Stmt := top 48
abbrev N_law_buys : List Str := ["_law_trades_here", "_law_drinks", "_law_kind", "_law_left", "_law_needed"]
theorem sc_law_buys : FnScope N_law_buys ["_law_trades_here", "_law_drinks"] (defScope s_law_buys) := ⟨rfl, rfl, rfl, by decide +kernel, rfl, by decide +kernel, by decide +kernel⟩
abbrev a_law_buys (K : PySem.W.Frag) : Addr := He.ga K "_law_buys"
def d_law_buys : DD := ⟨a_law_buys, "_law_buys", "_law_buys", s_law_buys, [], false⟩
abbrev s_law_agrees : Stmt := top 49
abbrev N_law_agrees : List Str := ["_law_offer_here", "_law_bottles", "_law_told", "_law_word", "_law_one", "_law_count", "_law_size"]
theorem sc_law_agrees : FnScope N_law_agrees ["_law_offer_here", "_law_bottles", "_law_told"] (defScope s_law_agrees) := ⟨rfl, rfl, rfl, by decide +kernel, rfl, by decide +kernel, by decide +kernel⟩
abbrev a_law_agrees (K : PySem.W.Frag) : Addr := He.ga K "_law_agrees"
def d_law_agrees : DD := ⟨a_law_agrees, "_law_agrees", "_law_agrees", s_law_agrees, [], false⟩
abbrev s_law_first_right : Stmt := top 50
abbrev N_law_first_right : List Str := ["_law_offer_here", "_law_observer", "_law_told", "_law_good", "_law_last", "_law_n", "_law_k"]
theorem sc_law_first_right : FnScope N_law_first_right ["_law_offer_here", "_law_observer", "_law_told"] (defScope s_law_first_right) := ⟨rfl, rfl, rfl, by decide +kernel, rfl, by decide +kernel, by decide +kernel⟩
abbrev a_law_first_right (K : PySem.W.Frag) : Addr := He.ga K "_law_first_right"
def d_law_first_right : DD := ⟨a_law_first_right, "_law_first_right", "_law_first_right", s_law_first_right, [], false⟩
abbrev s_law : Stmt := top 51
abbrev N_law : List Str := ["_law_script", "_law_h", "_law_trades_here", "_law_offer_here", "_law_hidden", "_law_told", "_law_time", "_law_kind", "_law_kept", "_law_number", "_law_size", "_law_call", "_law_error_here", "_law_many", "_law_last", "_law_entry", "_law_observer", "_law_results", "_law_n"]
theorem sc_law : FnScope N_law ["_law_script"] (defScope s_law) := ⟨rfl, rfl, rfl, by decide +kernel, rfl, by decide +kernel, by decide +kernel⟩
abbrev a_law (K : PySem.W.Frag) : Addr := He.ga K "law"
def d_law : DD := ⟨a_law, "law", "law", s_law, [], false⟩
/-- what the top has left -/
structure Tx (K : PySem.W.Frag) (mg : Str → Option Value) where
  fd_Candidates_init : FuncData
  F_Candidates_init : FnP K d_Candidates_init fd_Candidates_init
  mk_Candidates : Mk K (He.ga K "Candidates") (a_Candidates_init K)
  fd_Candidates_narrowed : FuncData
  F_Candidates_narrowed : FnP K d_Candidates_narrowed fd_Candidates_narrowed
  m_Candidates_narrowed : Meth K (He.ga K "Candidates") "narrowed" (a_Candidates_narrowed K)
  fd_Candidates_many_within : FuncData
  F_Candidates_many_within : FnP K d_Candidates_many_within fd_Candidates_many_within
  m_Candidates_many_within : Meth K (He.ga K "Candidates") "many_within" (a_Candidates_many_within K)
  fd_Candidates_candidate : FuncData
  F_Candidates_candidate : FnP K d_Candidates_candidate fd_Candidates_candidate
  m_Candidates_candidate : Meth K (He.ga K "Candidates") "candidate" (a_Candidates_candidate K)
  S_InvalidOffer_init : ∃ fd, SupF PX K mg "InvalidOffer.__init__" (defArgs s_InvalidOffer_init) (defBody s_InvalidOffer_init) (defScope s_InvalidOffer_init) (a_InvalidOffer_init K) fd (He.ga K "InvalidOffer") (codeA K (a_InvalidOffer_init K)) (cellA K (a_InvalidOffer_init K))
  fd_is_integer : FuncData
  F_is_integer : FnP K d_is_integer fd_is_integer
  g_is_integer : mg "is_integer" = some (.ref (a_is_integer K))
  fd_is_number : FuncData
  F_is_number : FnP K d_is_number fd_is_number
  g_is_number : mg "is_number" = some (.ref (a_is_number K))
  fd_check_number : FuncData
  F_check_number : FnP K d_check_number fd_check_number
  g_check_number : mg "check_number" = some (.ref (a_check_number K))
  fd_is_label : FuncData
  F_is_label : FnP K d_is_label fd_is_label
  g_is_label : mg "is_label" = some (.ref (a_is_label K))
  fd_is_kind : FuncData
  F_is_kind : FnP K d_is_kind fd_is_kind
  g_is_kind : mg "is_kind" = some (.ref (a_is_kind K))
  fd_cost_of : FuncData
  F_cost_of : FnP K d_cost_of fd_cost_of
  g_cost_of : mg "cost_of" = some (.ref (a_cost_of K))
  fd_drinks_of_period : FuncData
  F_drinks_of_period : FnP K d_drinks_of_period fd_drinks_of_period
  g_drinks_of_period : mg "drinks_of_period" = some (.ref (a_drinks_of_period K))
  fd_tops_of : FuncData
  F_tops_of : FnP K d_tops_of fd_tops_of
  g_tops_of : mg "tops_of" = some (.ref (a_tops_of K))
  fd_firsts_of : FuncData
  F_firsts_of : FnP K d_firsts_of fd_firsts_of
  g_firsts_of : mg "firsts_of" = some (.ref (a_firsts_of K))
  fd_gaps_of : FuncData
  F_gaps_of : FnP K d_gaps_of fd_gaps_of
  g_gaps_of : mg "gaps_of" = some (.ref (a_gaps_of K))
  fd_value_at : FuncData
  F_value_at : FnP K d_value_at fd_value_at
  g_value_at : mg "value_at" = some (.ref (a_value_at K))
  fd_drunk_in_round : FuncData
  F_drunk_in_round : FnP K d_drunk_in_round fd_drunk_in_round
  g_drunk_in_round : mg "_drunk_in_round" = some (.ref (a_drunk_in_round K))
  fd_BottleObserver_init : FuncData
  F_BottleObserver_init : FnP K d_BottleObserver_init fd_BottleObserver_init
  mk_BottleObserver : Mk K (He.ga K "BottleObserver") (a_BottleObserver_init K)
  fd_BottleObserver_records : FuncData
  F_BottleObserver_records : FnP K d_BottleObserver_records fd_BottleObserver_records
  p_BottleObserver_records : PropOf K (He.ga K "BottleObserver") "records" (He.ma K (He.ga K "BottleObserver") "records") (a_BottleObserver_records K)
  fd_BottleObserver_accept : FuncData
  F_BottleObserver_accept : FnP K d_BottleObserver_accept fd_BottleObserver_accept
  m_BottleObserver_accept : Meth K (He.ga K "BottleObserver") "_accept" (a_BottleObserver_accept K)
  fd_BottleObserver_see_left : FuncData
  F_BottleObserver_see_left : FnP K d_BottleObserver_see_left fd_BottleObserver_see_left
  m_BottleObserver_see_left : Meth K (He.ga K "BottleObserver") "see_left" (a_BottleObserver_see_left K)
  fd_BottleObserver_see_round : FuncData
  F_BottleObserver_see_round : FnP K d_BottleObserver_see_round fd_BottleObserver_see_round
  m_BottleObserver_see_round : Meth K (He.ga K "BottleObserver") "see_round" (a_BottleObserver_see_round K)
  fd_BottleObserver_count_up_to : FuncData
  F_BottleObserver_count_up_to : FnP K d_BottleObserver_count_up_to fd_BottleObserver_count_up_to
  m_BottleObserver_count_up_to : Meth K (He.ga K "BottleObserver") "count_up_to" (a_BottleObserver_count_up_to K)
  fd_BottleObserver_nth_possible : FuncData
  F_BottleObserver_nth_possible : FnP K d_BottleObserver_nth_possible fd_BottleObserver_nth_possible
  m_BottleObserver_nth_possible : Meth K (He.ga K "BottleObserver") "nth_possible" (a_BottleObserver_nth_possible K)
  fd_is_trade : FuncData
  F_is_trade : FnP K d_is_trade fd_is_trade
  g_is_trade : mg "_is_trade" = some (.ref (a_is_trade K))
  fd_check_trades : FuncData
  F_check_trades : FnP K d_check_trades fd_check_trades
  g_check_trades : mg "_check_trades" = some (.ref (a_check_trades K))
  fd_check_generosity : FuncData
  F_check_generosity : FnP K d_check_generosity fd_check_generosity
  g_check_generosity : mg "_check_generosity" = some (.ref (a_check_generosity K))
  fd_Offer_init : FuncData
  F_Offer_init : FnP K d_Offer_init fd_Offer_init
  mk_Offer : Mk K (He.ga K "Offer") (a_Offer_init K)
  fd_Offer_trades : FuncData
  F_Offer_trades : FnP K d_Offer_trades fd_Offer_trades
  p_Offer_trades : PropOf K (He.ga K "Offer") "trades" (He.ma K (He.ga K "Offer") "trades") (a_Offer_trades K)
  fd_Offer_kinds : FuncData
  F_Offer_kinds : FnP K d_Offer_kinds fd_Offer_kinds
  p_Offer_kinds : PropOf K (He.ga K "Offer") "kinds" (He.ma K (He.ga K "Offer") "kinds") (a_Offer_kinds K)
  fd_Offer_period : FuncData
  F_Offer_period : FnP K d_Offer_period fd_Offer_period
  p_Offer_period : PropOf K (He.ga K "Offer") "period" (He.ma K (He.ga K "Offer") "period") (a_Offer_period K)
  fd_Offer_steady_from : FuncData
  F_Offer_steady_from : FnP K d_Offer_steady_from fd_Offer_steady_from
  p_Offer_steady_from : PropOf K (He.ga K "Offer") "steady_from" (He.ma K (He.ga K "Offer") "steady_from") (a_Offer_steady_from K)
  fd_Offer_drinks_for : FuncData
  F_Offer_drinks_for : FnP K d_Offer_drinks_for fd_Offer_drinks_for
  m_Offer_drinks_for : Meth K (He.ga K "Offer") "_drinks_for" (a_Offer_drinks_for K)
  fd_Offer_most_within : FuncData
  F_Offer_most_within : FnP K d_Offer_most_within fd_Offer_most_within
  m_Offer_most_within : Meth K (He.ga K "Offer") "_most_within" (a_Offer_most_within K)
  fd_Offer_call : FuncData
  F_Offer_call : FnP K d_Offer_call fd_Offer_call
  co_Offer : StX.CallO K (He.ga K "Offer") (a_Offer_call K)
  fd_Offer_left_over : FuncData
  F_Offer_left_over : FnP K d_Offer_left_over fd_Offer_left_over
  m_Offer_left_over : Meth K (He.ga K "Offer") "left_over" (a_Offer_left_over K)
  fd_Offer_add : FuncData
  F_Offer_add : FnP K d_Offer_add fd_Offer_add
  m_Offer_add : Meth K (He.ga K "Offer") "__add__" (a_Offer_add K)
  fd_Offer_sub : FuncData
  F_Offer_sub : FnP K d_Offer_sub fd_Offer_sub
  m_Offer_sub : Meth K (He.ga K "Offer") "__sub__" (a_Offer_sub K)
  fd_Offer_getitem : FuncData
  F_Offer_getitem : FnP K d_Offer_getitem fd_Offer_getitem
  m_Offer_getitem : Meth K (He.ga K "Offer") "__getitem__" (a_Offer_getitem K)
  fd_Offer_iter : FuncData
  F_Offer_iter : FnP K d_Offer_iter fd_Offer_iter
  m_Offer_iter : Meth K (He.ga K "Offer") "__iter__" (a_Offer_iter K)
  fd_Offer_bool : FuncData
  F_Offer_bool : FnP K d_Offer_bool fd_Offer_bool
  m_Offer_bool : Meth K (He.ga K "Offer") "__bool__" (a_Offer_bool K)
  fd_Offer_contains : FuncData
  F_Offer_contains : FnP K d_Offer_contains fd_Offer_contains
  m_Offer_contains : Meth K (He.ga K "Offer") "__contains__" (a_Offer_contains K)
  fd_Offer_le : FuncData
  F_Offer_le : FnP K d_Offer_le fd_Offer_le
  m_Offer_le : Meth K (He.ga K "Offer") "__le__" (a_Offer_le K)
  fd_Offer_lt : FuncData
  F_Offer_lt : FnP K d_Offer_lt fd_Offer_lt
  m_Offer_lt : Meth K (He.ga K "Offer") "__lt__" (a_Offer_lt K)
  fd_Offer_ge : FuncData
  F_Offer_ge : FnP K d_Offer_ge fd_Offer_ge
  m_Offer_ge : Meth K (He.ga K "Offer") "__ge__" (a_Offer_ge K)
  fd_Offer_gt : FuncData
  F_Offer_gt : FnP K d_Offer_gt fd_Offer_gt
  m_Offer_gt : Meth K (He.ga K "Offer") "__gt__" (a_Offer_gt K)
  fd_slack : FuncData
  F_slack : FnP K d_slack fd_slack
  g_slack : mg "_slack" = some (.ref (a_slack K))
  fd_repetition : FuncData
  F_repetition : FnP K d_repetition fd_repetition
  g_repetition : mg "_repetition" = some (.ref (a_repetition K))
  fd_never_more : FuncData
  F_never_more : FnP K d_never_more fd_never_more
  g_never_more : mg "_never_more" = some (.ref (a_never_more K))
  fd_first_difference : FuncData
  F_first_difference : FnP K d_first_difference fd_first_difference
  g_first_difference : mg "first_difference" = some (.ref (a_first_difference K))
  fd_law_mix : FuncData
  F_law_mix : FnP K d_law_mix fd_law_mix
  g_law_mix : mg "_law_mix" = some (.ref (a_law_mix K))
  fd_law_next : FuncData
  F_law_next : FnP K d_law_next fd_law_next
  g_law_next : mg "_law_next" = some (.ref (a_law_next K))
  fd_law_alike : FuncData
  F_law_alike : FnP K d_law_alike fd_law_alike
  g_law_alike : mg "_law_alike" = some (.ref (a_law_alike K))
  fd_law_error : FuncData
  F_law_error : FnP K d_law_error fd_law_error
  g_law_error : mg "_law_error" = some (.ref (a_law_error K))
  fd_law_trades : FuncData
  F_law_trades : FnP K d_law_trades fd_law_trades
  g_law_trades : mg "_law_trades" = some (.ref (a_law_trades K))
  fd_law_offer : FuncData
  F_law_offer : FnP K d_law_offer fd_law_offer
  g_law_offer : mg "_law_offer" = some (.ref (a_law_offer K))
  fd_law_buys : FuncData
  F_law_buys : FnP K d_law_buys fd_law_buys
  g_law_buys : mg "_law_buys" = some (.ref (a_law_buys K))
  fd_law_agrees : FuncData
  F_law_agrees : FnP K d_law_agrees fd_law_agrees
  g_law_agrees : mg "_law_agrees" = some (.ref (a_law_agrees K))
  fd_law_first_right : FuncData
  F_law_first_right : FnP K d_law_first_right fd_law_first_right
  g_law_first_right : mg "_law_first_right" = some (.ref (a_law_first_right K))
  fd_law : FuncData
  F_law : FnP K d_law fd_law
  g_law : mg "law" = some (.ref (a_law K))
  g_Offer : mg "Offer" = some (.ref (He.ga K "Offer"))
  k_Offer : Cls K (He.ga K "Offer")
  r_Offer : ClX.CRead K (He.ga K "Offer") (.type "type")
  na_trades : NoAttr K (He.ga K "Offer") "_trades"
  na_period : NoAttr K (He.ga K "Offer") "_period"
  na_tops : NoAttr K (He.ga K "Offer") "_tops"
  na_firsts : NoAttr K (He.ga K "Offer") "_firsts"
  na_gaps : NoAttr K (He.ga K "Offer") "_gaps"
  v_Offer_MAX_TRADES : ∃ u, ClX.CVal K (He.ga K "Offer") (.type "type") "MAX_TRADES" (.int 3) u
  v_Offer_MAX_NEEDED : ∃ u, ClX.CVal K (He.ga K "Offer") (.type "type") "MAX_NEEDED" (.int 12) u
  g_Candidates : mg "Candidates" = some (.ref (He.ga K "Candidates"))
  k_Candidates : Cls K (He.ga K "Candidates")
  na_start : NoAttr K (He.ga K "Candidates") "_start"
  na_early : NoAttr K (He.ga K "Candidates") "_early"
  na_span : NoAttr K (He.ga K "Candidates") "_span"
  na_offsets : NoAttr K (He.ga K "Candidates") "_offsets"
  g_BottleObserver : mg "BottleObserver" = some (.ref (He.ga K "BottleObserver"))
  k_BottleObserver : Cls K (He.ga K "BottleObserver")
  na_offer : NoAttr K (He.ga K "BottleObserver") "_offer"
  na_possible : NoAttr K (He.ga K "BottleObserver") "_possible"
  na_observations : NoAttr K (He.ga K "BottleObserver") "_observations"
  c_MAX_NUMBER : ∃ t, mg "MAX_NUMBER" = some (.int (1000000000000000000) t)
  c_MAX_LABEL_LENGTH : ∃ t, mg "MAX_LABEL_LENGTH" = some (.int (8) t)
  c_DRINK : ∃ t, mg "DRINK" = some (.str "drink" t)
  c_MAX_LEFT : ∃ t, mg "MAX_LEFT" = some (.int (12) t)
  n_len : mg "len" = none
  n_sum : mg "sum" = none
  n_max : mg "max" = none
  n_min : mg "min" = none
  n_all : mg "all" = none
  n_any : mg "any" = none
  n_isinstance : mg "isinstance" = none
  n_range : mg "range" = none
  n_enumerate : mg "enumerate" = none
  n_zip : mg "zip" = none
  n_list : mg "list" = none
  n_tuple : mg "tuple" = none
  n_int : mg "int" = none
  n_bool : mg "bool" = none
  n_str : mg "str" = none
  n_dict : mg "dict" = none
  n_divmod : mg "divmod" = none
  g_TradeError : mg "TradeError" = some (.ref (He.ga K "TradeError"))
  x_TradeError : ExcN K "TradeError" (He.ga K "TradeError")
  g_InvalidOffer : mg "InvalidOffer" = some (.ref (He.ga K "InvalidOffer"))
  x_InvalidOffer : ExcI K "InvalidOffer" (He.ga K "InvalidOffer")
  g_TooGenerous : mg "TooGenerous" = some (.ref (He.ga K "TooGenerous"))
  x_TooGenerous : ExcN K "TooGenerous" (He.ga K "TooGenerous")
  g_InvalidNumber : mg "InvalidNumber" = some (.ref (He.ga K "InvalidNumber"))
  x_InvalidNumber : ExcN K "InvalidNumber" (He.ga K "InvalidNumber")
  g_UnknownKind : mg "UnknownKind" = some (.ref (He.ga K "UnknownKind"))
  x_UnknownKind : ExcN K "UnknownKind" (He.ga K "UnknownKind")
  g_InvalidStep : mg "InvalidStep" = some (.ref (He.ga K "InvalidStep"))
  x_InvalidStep : ExcI K "InvalidStep" (He.ga K "InvalidStep")
  g_Contradiction : mg "Contradiction" = some (.ref (He.ga K "Contradiction"))
  x_Contradiction : ExcN K "Contradiction" (He.ga K "Contradiction")
  l_TradeError : ExcC K (He.ga K "TradeError") ∧ XfC K (He.ga K "TradeError")
  l_InvalidOffer : ExcC K (He.ga K "InvalidOffer") ∧ XfC K (He.ga K "InvalidOffer")
  l_Contradiction : ExcC K (He.ga K "Contradiction") ∧ XfC K (He.ga K "Contradiction")
  q_Contradiction : KitX6 K "Contradiction"
  n_super : mg "super" = none
  n_ValueError : mg "ValueError" = none
  b_gcd : mg "gcd" = some (.builtin "math.gcd")
  b_lcm : mg "lcm" = some (.builtin "math.lcm")
def fas : List He.Fa := [.mkr "Candidates",
  .meth "Candidates" "narrowed",
  .meth "Candidates" "many_within",
  .meth "Candidates" "candidate",
  .glo "is_integer",
  .glo "is_number",
  .glo "check_number",
  .glo "is_label",
  .glo "is_kind",
  .glo "cost_of",
  .glo "drinks_of_period",
  .glo "tops_of",
  .glo "firsts_of",
  .glo "gaps_of",
  .glo "value_at",
  .glo "_drunk_in_round",
  .mkr "BottleObserver",
  .meth "BottleObserver" "_accept",
  .meth "BottleObserver" "see_left",
  .meth "BottleObserver" "see_round",
  .meth "BottleObserver" "count_up_to",
  .meth "BottleObserver" "nth_possible",
  .glo "_is_trade",
  .glo "_check_trades",
  .glo "_check_generosity",
  .mkr "Offer",
  .meth "Offer" "_drinks_for",
  .meth "Offer" "_most_within",
  .meth "Offer" "left_over",
  .meth "Offer" "__add__",
  .meth "Offer" "__sub__",
  .meth "Offer" "__getitem__",
  .meth "Offer" "__iter__",
  .meth "Offer" "__bool__",
  .meth "Offer" "__contains__",
  .meth "Offer" "__le__",
  .meth "Offer" "__lt__",
  .meth "Offer" "__ge__",
  .meth "Offer" "__gt__",
  .glo "_slack",
  .glo "_repetition",
  .glo "_never_more",
  .glo "first_difference",
  .glo "_law_mix",
  .glo "_law_next",
  .glo "_law_alike",
  .glo "_law_error",
  .glo "_law_trades",
  .glo "_law_offer",
  .glo "_law_buys",
  .glo "_law_agrees",
  .glo "_law_first_right",
  .glo "law",
  .glo "Offer",
  .cls "Offer",
  .noat "Offer" "_trades",
  .noat "Offer" "_period",
  .noat "Offer" "_tops",
  .noat "Offer" "_firsts",
  .noat "Offer" "_gaps",
  .glo "Candidates",
  .cls "Candidates",
  .noat "Candidates" "_start",
  .noat "Candidates" "_early",
  .noat "Candidates" "_span",
  .noat "Candidates" "_offsets",
  .glo "BottleObserver",
  .cls "BottleObserver",
  .noat "BottleObserver" "_offer",
  .noat "BottleObserver" "_possible",
  .noat "BottleObserver" "_observations",
  .int "MAX_NUMBER" (1000000000000000000),
  .int "MAX_LABEL_LENGTH" (8),
  .str "DRINK" "drink",
  .int "MAX_LEFT" (12),
  .free "len",
  .free "sum",
  .free "max",
  .free "min",
  .free "all",
  .free "any",
  .free "isinstance",
  .free "range",
  .free "enumerate",
  .free "zip",
  .free "list",
  .free "tuple",
  .free "int",
  .free "bool",
  .free "str",
  .free "dict",
  .free "divmod",
  .glo "TradeError",
  .glo "InvalidOffer",
  .glo "TooGenerous",
  .glo "InvalidNumber",
  .glo "UnknownKind",
  .glo "InvalidStep",
  .glo "Contradiction",
  .free "super",
  .free "ValueError"]
def mores : List (PySem.W.Frag → Bool) := [fun K => okSup K "InvalidOffer" "/claim/cut.py" (a_InvalidOffer_init K),
  fun K => okProp K "BottleObserver" "records",
  fun K => okProp K "Offer" "trades",
  fun K => okProp K "Offer" "kinds",
  fun K => okProp K "Offer" "period",
  fun K => okProp K "Offer" "steady_from",
  fun K => okCallO K "Offer",
  fun K => okRead K "Offer",
  fun K => okCVal K "Offer" "MAX_TRADES" (.int 3),
  fun K => okCVal K "Offer" "MAX_NEEDED" (.int 12),
  fun K => okExc K "TradeError",
  fun K => okExcI K "InvalidOffer",
  fun K => okExc K "TooGenerous",
  fun K => okExc K "InvalidNumber",
  fun K => okExc K "UnknownKind",
  fun K => okExcI K "InvalidStep",
  fun K => okExc K "Contradiction",
  fun K => okExcC K (He.ga K "TradeError"),
  fun K => okExcC K (He.ga K "InvalidOffer"),
  fun K => okExcC K (He.ga K "Contradiction"),
  fun K => okKit K "Contradiction",
  fun K => okBlt K "gcd" "math.gcd",
  fun K => okBlt K "lcm" "math.lcm"]
def moreB (K : PySem.W.Frag) : Bool := mores.all fun f => f K
def dds : List DD := [d_Candidates_init, d_Candidates_narrowed, d_Candidates_many_within, d_Candidates_candidate, d_InvalidOffer_init, d_is_integer, d_is_number, d_check_number, d_is_label, d_is_kind, d_cost_of, d_drinks_of_period, d_tops_of, d_firsts_of, d_gaps_of, d_value_at, d_drunk_in_round, d_BottleObserver_init, d_BottleObserver_records, d_BottleObserver_accept, d_BottleObserver_see_left, d_BottleObserver_see_round, d_BottleObserver_count_up_to, d_BottleObserver_nth_possible, d_is_trade, d_check_trades, d_check_generosity, d_Offer_init, d_Offer_trades, d_Offer_kinds, d_Offer_period, d_Offer_steady_from, d_Offer_drinks_for, d_Offer_most_within, d_Offer_call, d_Offer_left_over, d_Offer_add, d_Offer_sub, d_Offer_getitem, d_Offer_iter, d_Offer_bool, d_Offer_contains, d_Offer_le, d_Offer_lt, d_Offer_ge, d_Offer_gt, d_slack, d_repetition, d_never_more, d_first_difference, d_law_mix, d_law_next, d_law_alike, d_law_error, d_law_trades, d_law_offer, d_law_buys, d_law_agrees, d_law_first_right, d_law]
theorem more_at {K : PySem.W.Frag} (h : moreB K = true) (i : Nat) {f : PySem.W.Frag → Bool} (e : mores[i]? = some f := by rfl) : f K = true := List.all_eq_true.mp h f (List.mem_of_getElem? e)
theorem tx_of {K : PySem.W.Frag} {h : Heap} {mg : Str → Option Value} (X : K.In h) (G : h.Ns mainGlobals mg) (c : Says fas moreB dds K) : Nonempty (Tx K mg) := by
  obtain ⟨fd_Candidates_init, F_Candidates_init⟩ := c.fn 0 (d := d_Candidates_init) rfl
  obtain ⟨fd_Candidates_narrowed, F_Candidates_narrowed⟩ := c.fn 1 (d := d_Candidates_narrowed) rfl
  obtain ⟨fd_Candidates_many_within, F_Candidates_many_within⟩ := c.fn 2 (d := d_Candidates_many_within) rfl
  obtain ⟨fd_Candidates_candidate, F_Candidates_candidate⟩ := c.fn 3 (d := d_Candidates_candidate) rfl
  obtain ⟨fd_is_integer, F_is_integer⟩ := c.fn 5 (d := d_is_integer) rfl
  obtain ⟨fd_is_number, F_is_number⟩ := c.fn 6 (d := d_is_number) rfl
  obtain ⟨fd_check_number, F_check_number⟩ := c.fn 7 (d := d_check_number) rfl
  obtain ⟨fd_is_label, F_is_label⟩ := c.fn 8 (d := d_is_label) rfl
  obtain ⟨fd_is_kind, F_is_kind⟩ := c.fn 9 (d := d_is_kind) rfl
  obtain ⟨fd_cost_of, F_cost_of⟩ := c.fn 10 (d := d_cost_of) rfl
  obtain ⟨fd_drinks_of_period, F_drinks_of_period⟩ := c.fn 11 (d := d_drinks_of_period) rfl
  obtain ⟨fd_tops_of, F_tops_of⟩ := c.fn 12 (d := d_tops_of) rfl
  obtain ⟨fd_firsts_of, F_firsts_of⟩ := c.fn 13 (d := d_firsts_of) rfl
  obtain ⟨fd_gaps_of, F_gaps_of⟩ := c.fn 14 (d := d_gaps_of) rfl
  obtain ⟨fd_value_at, F_value_at⟩ := c.fn 15 (d := d_value_at) rfl
  obtain ⟨fd_drunk_in_round, F_drunk_in_round⟩ := c.fn 16 (d := d_drunk_in_round) rfl
  obtain ⟨fd_BottleObserver_init, F_BottleObserver_init⟩ := c.fn 17 (d := d_BottleObserver_init) rfl
  obtain ⟨fd_BottleObserver_records, F_BottleObserver_records⟩ := c.fn 18 (d := d_BottleObserver_records) rfl
  obtain ⟨fd_BottleObserver_accept, F_BottleObserver_accept⟩ := c.fn 19 (d := d_BottleObserver_accept) rfl
  obtain ⟨fd_BottleObserver_see_left, F_BottleObserver_see_left⟩ := c.fn 20 (d := d_BottleObserver_see_left) rfl
  obtain ⟨fd_BottleObserver_see_round, F_BottleObserver_see_round⟩ := c.fn 21 (d := d_BottleObserver_see_round) rfl
  obtain ⟨fd_BottleObserver_count_up_to, F_BottleObserver_count_up_to⟩ := c.fn 22 (d := d_BottleObserver_count_up_to) rfl
  obtain ⟨fd_BottleObserver_nth_possible, F_BottleObserver_nth_possible⟩ := c.fn 23 (d := d_BottleObserver_nth_possible) rfl
  obtain ⟨fd_is_trade, F_is_trade⟩ := c.fn 24 (d := d_is_trade) rfl
  obtain ⟨fd_check_trades, F_check_trades⟩ := c.fn 25 (d := d_check_trades) rfl
  obtain ⟨fd_check_generosity, F_check_generosity⟩ := c.fn 26 (d := d_check_generosity) rfl
  obtain ⟨fd_Offer_init, F_Offer_init⟩ := c.fn 27 (d := d_Offer_init) rfl
  obtain ⟨fd_Offer_trades, F_Offer_trades⟩ := c.fn 28 (d := d_Offer_trades) rfl
  obtain ⟨fd_Offer_kinds, F_Offer_kinds⟩ := c.fn 29 (d := d_Offer_kinds) rfl
  obtain ⟨fd_Offer_period, F_Offer_period⟩ := c.fn 30 (d := d_Offer_period) rfl
  obtain ⟨fd_Offer_steady_from, F_Offer_steady_from⟩ := c.fn 31 (d := d_Offer_steady_from) rfl
  obtain ⟨fd_Offer_drinks_for, F_Offer_drinks_for⟩ := c.fn 32 (d := d_Offer_drinks_for) rfl
  obtain ⟨fd_Offer_most_within, F_Offer_most_within⟩ := c.fn 33 (d := d_Offer_most_within) rfl
  obtain ⟨fd_Offer_call, F_Offer_call⟩ := c.fn 34 (d := d_Offer_call) rfl
  obtain ⟨fd_Offer_left_over, F_Offer_left_over⟩ := c.fn 35 (d := d_Offer_left_over) rfl
  obtain ⟨fd_Offer_add, F_Offer_add⟩ := c.fn 36 (d := d_Offer_add) rfl
  obtain ⟨fd_Offer_sub, F_Offer_sub⟩ := c.fn 37 (d := d_Offer_sub) rfl
  obtain ⟨fd_Offer_getitem, F_Offer_getitem⟩ := c.fn 38 (d := d_Offer_getitem) rfl
  obtain ⟨fd_Offer_iter, F_Offer_iter⟩ := c.fn 39 (d := d_Offer_iter) rfl
  obtain ⟨fd_Offer_bool, F_Offer_bool⟩ := c.fn 40 (d := d_Offer_bool) rfl
  obtain ⟨fd_Offer_contains, F_Offer_contains⟩ := c.fn 41 (d := d_Offer_contains) rfl
  obtain ⟨fd_Offer_le, F_Offer_le⟩ := c.fn 42 (d := d_Offer_le) rfl
  obtain ⟨fd_Offer_lt, F_Offer_lt⟩ := c.fn 43 (d := d_Offer_lt) rfl
  obtain ⟨fd_Offer_ge, F_Offer_ge⟩ := c.fn 44 (d := d_Offer_ge) rfl
  obtain ⟨fd_Offer_gt, F_Offer_gt⟩ := c.fn 45 (d := d_Offer_gt) rfl
  obtain ⟨fd_slack, F_slack⟩ := c.fn 46 (d := d_slack) rfl
  obtain ⟨fd_repetition, F_repetition⟩ := c.fn 47 (d := d_repetition) rfl
  obtain ⟨fd_never_more, F_never_more⟩ := c.fn 48 (d := d_never_more) rfl
  obtain ⟨fd_first_difference, F_first_difference⟩ := c.fn 49 (d := d_first_difference) rfl
  obtain ⟨fd_law_mix, F_law_mix⟩ := c.fn 50 (d := d_law_mix) rfl
  obtain ⟨fd_law_next, F_law_next⟩ := c.fn 51 (d := d_law_next) rfl
  obtain ⟨fd_law_alike, F_law_alike⟩ := c.fn 52 (d := d_law_alike) rfl
  obtain ⟨fd_law_error, F_law_error⟩ := c.fn 53 (d := d_law_error) rfl
  obtain ⟨fd_law_trades, F_law_trades⟩ := c.fn 54 (d := d_law_trades) rfl
  obtain ⟨fd_law_offer, F_law_offer⟩ := c.fn 55 (d := d_law_offer) rfl
  obtain ⟨fd_law_buys, F_law_buys⟩ := c.fn 56 (d := d_law_buys) rfl
  obtain ⟨fd_law_agrees, F_law_agrees⟩ := c.fn 57 (d := d_law_agrees) rfl
  obtain ⟨fd_law_first_right, F_law_first_right⟩ := c.fn 58 (d := d_law_first_right) rfl
  obtain ⟨fd_law, F_law⟩ := c.fn 59 (d := d_law) rfl
  have cm := c.bools.2.1
  exact ⟨⟨fd_Candidates_init,
    F_Candidates_init,
    He.mkr_ok (c.fact 0 (f := .mkr "Candidates") rfl),
    fd_Candidates_narrowed,
    F_Candidates_narrowed,
    He.meth_ok (c.fact 1 (f := .meth "Candidates" "narrowed") rfl),
    fd_Candidates_many_within,
    F_Candidates_many_within,
    He.meth_ok (c.fact 2 (f := .meth "Candidates" "many_within") rfl),
    fd_Candidates_candidate,
    F_Candidates_candidate,
    He.meth_ok (c.fact 3 (f := .meth "Candidates" "candidate") rfl),
    DD.funS (d := d_InvalidOffer_init) rfl rfl rfl (c.fn0 4 (d := d_InvalidOffer_init) rfl).1 (c.fn0 4 (d := d_InvalidOffer_init) rfl).2 (okSup_of (more_at cm 0 (f := fun K => okSup K "InvalidOffer" "/claim/cut.py" (a_InvalidOffer_init K)) rfl)) (by decide +kernel) (by decide +kernel) (He.free_ok X G (c.fact 99 (f := .free "super") rfl)) rfl rfl,
    fd_is_integer,
    F_is_integer,
    He.glo_ok X G (c.fact 4 (f := .glo "is_integer") rfl),
    fd_is_number,
    F_is_number,
    He.glo_ok X G (c.fact 5 (f := .glo "is_number") rfl),
    fd_check_number,
    F_check_number,
    He.glo_ok X G (c.fact 6 (f := .glo "check_number") rfl),
    fd_is_label,
    F_is_label,
    He.glo_ok X G (c.fact 7 (f := .glo "is_label") rfl),
    fd_is_kind,
    F_is_kind,
    He.glo_ok X G (c.fact 8 (f := .glo "is_kind") rfl),
    fd_cost_of,
    F_cost_of,
    He.glo_ok X G (c.fact 9 (f := .glo "cost_of") rfl),
    fd_drinks_of_period,
    F_drinks_of_period,
    He.glo_ok X G (c.fact 10 (f := .glo "drinks_of_period") rfl),
    fd_tops_of,
    F_tops_of,
    He.glo_ok X G (c.fact 11 (f := .glo "tops_of") rfl),
    fd_firsts_of,
    F_firsts_of,
    He.glo_ok X G (c.fact 12 (f := .glo "firsts_of") rfl),
    fd_gaps_of,
    F_gaps_of,
    He.glo_ok X G (c.fact 13 (f := .glo "gaps_of") rfl),
    fd_value_at,
    F_value_at,
    He.glo_ok X G (c.fact 14 (f := .glo "value_at") rfl),
    fd_drunk_in_round,
    F_drunk_in_round,
    He.glo_ok X G (c.fact 15 (f := .glo "_drunk_in_round") rfl),
    fd_BottleObserver_init,
    F_BottleObserver_init,
    He.mkr_ok (c.fact 16 (f := .mkr "BottleObserver") rfl),
    fd_BottleObserver_records,
    F_BottleObserver_records,
    okProp_of (more_at cm 1 (f := fun K => okProp K "BottleObserver" "records") rfl),
    fd_BottleObserver_accept,
    F_BottleObserver_accept,
    He.meth_ok (c.fact 17 (f := .meth "BottleObserver" "_accept") rfl),
    fd_BottleObserver_see_left,
    F_BottleObserver_see_left,
    He.meth_ok (c.fact 18 (f := .meth "BottleObserver" "see_left") rfl),
    fd_BottleObserver_see_round,
    F_BottleObserver_see_round,
    He.meth_ok (c.fact 19 (f := .meth "BottleObserver" "see_round") rfl),
    fd_BottleObserver_count_up_to,
    F_BottleObserver_count_up_to,
    He.meth_ok (c.fact 20 (f := .meth "BottleObserver" "count_up_to") rfl),
    fd_BottleObserver_nth_possible,
    F_BottleObserver_nth_possible,
    He.meth_ok (c.fact 21 (f := .meth "BottleObserver" "nth_possible") rfl),
    fd_is_trade,
    F_is_trade,
    He.glo_ok X G (c.fact 22 (f := .glo "_is_trade") rfl),
    fd_check_trades,
    F_check_trades,
    He.glo_ok X G (c.fact 23 (f := .glo "_check_trades") rfl),
    fd_check_generosity,
    F_check_generosity,
    He.glo_ok X G (c.fact 24 (f := .glo "_check_generosity") rfl),
    fd_Offer_init,
    F_Offer_init,
    He.mkr_ok (c.fact 25 (f := .mkr "Offer") rfl),
    fd_Offer_trades,
    F_Offer_trades,
    okProp_of (more_at cm 2 (f := fun K => okProp K "Offer" "trades") rfl),
    fd_Offer_kinds,
    F_Offer_kinds,
    okProp_of (more_at cm 3 (f := fun K => okProp K "Offer" "kinds") rfl),
    fd_Offer_period,
    F_Offer_period,
    okProp_of (more_at cm 4 (f := fun K => okProp K "Offer" "period") rfl),
    fd_Offer_steady_from,
    F_Offer_steady_from,
    okProp_of (more_at cm 5 (f := fun K => okProp K "Offer" "steady_from") rfl),
    fd_Offer_drinks_for,
    F_Offer_drinks_for,
    He.meth_ok (c.fact 26 (f := .meth "Offer" "_drinks_for") rfl),
    fd_Offer_most_within,
    F_Offer_most_within,
    He.meth_ok (c.fact 27 (f := .meth "Offer" "_most_within") rfl),
    fd_Offer_call,
    F_Offer_call,
    okCallO_of (more_at cm 6 (f := fun K => okCallO K "Offer") rfl),
    fd_Offer_left_over,
    F_Offer_left_over,
    He.meth_ok (c.fact 28 (f := .meth "Offer" "left_over") rfl),
    fd_Offer_add,
    F_Offer_add,
    He.meth_ok (c.fact 29 (f := .meth "Offer" "__add__") rfl),
    fd_Offer_sub,
    F_Offer_sub,
    He.meth_ok (c.fact 30 (f := .meth "Offer" "__sub__") rfl),
    fd_Offer_getitem,
    F_Offer_getitem,
    He.meth_ok (c.fact 31 (f := .meth "Offer" "__getitem__") rfl),
    fd_Offer_iter,
    F_Offer_iter,
    He.meth_ok (c.fact 32 (f := .meth "Offer" "__iter__") rfl),
    fd_Offer_bool,
    F_Offer_bool,
    He.meth_ok (c.fact 33 (f := .meth "Offer" "__bool__") rfl),
    fd_Offer_contains,
    F_Offer_contains,
    He.meth_ok (c.fact 34 (f := .meth "Offer" "__contains__") rfl),
    fd_Offer_le,
    F_Offer_le,
    He.meth_ok (c.fact 35 (f := .meth "Offer" "__le__") rfl),
    fd_Offer_lt,
    F_Offer_lt,
    He.meth_ok (c.fact 36 (f := .meth "Offer" "__lt__") rfl),
    fd_Offer_ge,
    F_Offer_ge,
    He.meth_ok (c.fact 37 (f := .meth "Offer" "__ge__") rfl),
    fd_Offer_gt,
    F_Offer_gt,
    He.meth_ok (c.fact 38 (f := .meth "Offer" "__gt__") rfl),
    fd_slack,
    F_slack,
    He.glo_ok X G (c.fact 39 (f := .glo "_slack") rfl),
    fd_repetition,
    F_repetition,
    He.glo_ok X G (c.fact 40 (f := .glo "_repetition") rfl),
    fd_never_more,
    F_never_more,
    He.glo_ok X G (c.fact 41 (f := .glo "_never_more") rfl),
    fd_first_difference,
    F_first_difference,
    He.glo_ok X G (c.fact 42 (f := .glo "first_difference") rfl),
    fd_law_mix,
    F_law_mix,
    He.glo_ok X G (c.fact 43 (f := .glo "_law_mix") rfl),
    fd_law_next,
    F_law_next,
    He.glo_ok X G (c.fact 44 (f := .glo "_law_next") rfl),
    fd_law_alike,
    F_law_alike,
    He.glo_ok X G (c.fact 45 (f := .glo "_law_alike") rfl),
    fd_law_error,
    F_law_error,
    He.glo_ok X G (c.fact 46 (f := .glo "_law_error") rfl),
    fd_law_trades,
    F_law_trades,
    He.glo_ok X G (c.fact 47 (f := .glo "_law_trades") rfl),
    fd_law_offer,
    F_law_offer,
    He.glo_ok X G (c.fact 48 (f := .glo "_law_offer") rfl),
    fd_law_buys,
    F_law_buys,
    He.glo_ok X G (c.fact 49 (f := .glo "_law_buys") rfl),
    fd_law_agrees,
    F_law_agrees,
    He.glo_ok X G (c.fact 50 (f := .glo "_law_agrees") rfl),
    fd_law_first_right,
    F_law_first_right,
    He.glo_ok X G (c.fact 51 (f := .glo "_law_first_right") rfl),
    fd_law,
    F_law,
    He.glo_ok X G (c.fact 52 (f := .glo "law") rfl),
    He.glo_ok X G (c.fact 53 (f := .glo "Offer") rfl),
    He.cls_ok (c.fact 54 (f := .cls "Offer") rfl),
    okRead_of (more_at cm 7 (f := fun K => okRead K "Offer") rfl),
    He.noat_ok (c.fact 55 (f := .noat "Offer" "_trades") rfl),
    He.noat_ok (c.fact 56 (f := .noat "Offer" "_period") rfl),
    He.noat_ok (c.fact 57 (f := .noat "Offer" "_tops") rfl),
    He.noat_ok (c.fact 58 (f := .noat "Offer" "_firsts") rfl),
    He.noat_ok (c.fact 59 (f := .noat "Offer" "_gaps") rfl),
    okCVal_of (more_at cm 8 (f := fun K => okCVal K "Offer" "MAX_TRADES" (.int 3)) rfl),
    okCVal_of (more_at cm 9 (f := fun K => okCVal K "Offer" "MAX_NEEDED" (.int 12)) rfl),
    He.glo_ok X G (c.fact 60 (f := .glo "Candidates") rfl),
    He.cls_ok (c.fact 61 (f := .cls "Candidates") rfl),
    He.noat_ok (c.fact 62 (f := .noat "Candidates" "_start") rfl),
    He.noat_ok (c.fact 63 (f := .noat "Candidates" "_early") rfl),
    He.noat_ok (c.fact 64 (f := .noat "Candidates" "_span") rfl),
    He.noat_ok (c.fact 65 (f := .noat "Candidates" "_offsets") rfl),
    He.glo_ok X G (c.fact 66 (f := .glo "BottleObserver") rfl),
    He.cls_ok (c.fact 67 (f := .cls "BottleObserver") rfl),
    He.noat_ok (c.fact 68 (f := .noat "BottleObserver" "_offer") rfl),
    He.noat_ok (c.fact 69 (f := .noat "BottleObserver" "_possible") rfl),
    He.noat_ok (c.fact 70 (f := .noat "BottleObserver" "_observations") rfl),
    He.int_ok X G (c.fact 71 (f := .int "MAX_NUMBER" (1000000000000000000)) rfl),
    He.int_ok X G (c.fact 72 (f := .int "MAX_LABEL_LENGTH" (8)) rfl),
    He.str_ok X G (c.fact 73 (f := .str "DRINK" "drink") rfl),
    He.int_ok X G (c.fact 74 (f := .int "MAX_LEFT" (12)) rfl),
    He.free_ok X G (c.fact 75 (f := .free "len") rfl),
    He.free_ok X G (c.fact 76 (f := .free "sum") rfl),
    He.free_ok X G (c.fact 77 (f := .free "max") rfl),
    He.free_ok X G (c.fact 78 (f := .free "min") rfl),
    He.free_ok X G (c.fact 79 (f := .free "all") rfl),
    He.free_ok X G (c.fact 80 (f := .free "any") rfl),
    He.free_ok X G (c.fact 81 (f := .free "isinstance") rfl),
    He.free_ok X G (c.fact 82 (f := .free "range") rfl),
    He.free_ok X G (c.fact 83 (f := .free "enumerate") rfl),
    He.free_ok X G (c.fact 84 (f := .free "zip") rfl),
    He.free_ok X G (c.fact 85 (f := .free "list") rfl),
    He.free_ok X G (c.fact 86 (f := .free "tuple") rfl),
    He.free_ok X G (c.fact 87 (f := .free "int") rfl),
    He.free_ok X G (c.fact 88 (f := .free "bool") rfl),
    He.free_ok X G (c.fact 89 (f := .free "str") rfl),
    He.free_ok X G (c.fact 90 (f := .free "dict") rfl),
    He.free_ok X G (c.fact 91 (f := .free "divmod") rfl),
    He.glo_ok X G (c.fact 92 (f := .glo "TradeError") rfl),
    okExc_of (more_at cm 10 (f := fun K => okExc K "TradeError") rfl),
    He.glo_ok X G (c.fact 93 (f := .glo "InvalidOffer") rfl),
    okExcI_of (more_at cm 11 (f := fun K => okExcI K "InvalidOffer") rfl),
    He.glo_ok X G (c.fact 94 (f := .glo "TooGenerous") rfl),
    okExc_of (more_at cm 12 (f := fun K => okExc K "TooGenerous") rfl),
    He.glo_ok X G (c.fact 95 (f := .glo "InvalidNumber") rfl),
    okExc_of (more_at cm 13 (f := fun K => okExc K "InvalidNumber") rfl),
    He.glo_ok X G (c.fact 96 (f := .glo "UnknownKind") rfl),
    okExc_of (more_at cm 14 (f := fun K => okExc K "UnknownKind") rfl),
    He.glo_ok X G (c.fact 97 (f := .glo "InvalidStep") rfl),
    okExcI_of (more_at cm 15 (f := fun K => okExcI K "InvalidStep") rfl),
    He.glo_ok X G (c.fact 98 (f := .glo "Contradiction") rfl),
    okExc_of (more_at cm 16 (f := fun K => okExc K "Contradiction") rfl),
    okExcC_of (more_at cm 17 (f := fun K => okExcC K (He.ga K "TradeError")) rfl),
    okExcC_of (more_at cm 18 (f := fun K => okExcC K (He.ga K "InvalidOffer")) rfl),
    okExcC_of (more_at cm 19 (f := fun K => okExcC K (He.ga K "Contradiction")) rfl),
    okKit_of (more_at cm 20 (f := fun K => okKit K "Contradiction") rfl),
    He.free_ok X G (c.fact 99 (f := .free "super") rfl),
    He.free_ok X G (c.fact 100 (f := .free "ValueError") rfl),
    okBlt_of X G (more_at cm 21 (f := fun K => okBlt K "gcd" "math.gcd") rfl),
    okBlt_of X G (more_at cm 22 (f := fun K => okBlt K "lcm" "math.lcm") rfl)⟩⟩
end EB

namespace EB
open PySem PySem.Spec PyProof.Rows L2
abbrev R : PySem.W.OpenRow := PySem.W.OpenLaw.row PySem.Challenge.rw_emptiesback_k12_whole_bottles_nobody_cou
def tfs : List He.Defn := [("law", none)]
abbrev hk : PySem.W.Hook := hookL 5 fas moreB dds tfs
def ob (s : PySem.W.SharedT) : SeenL := obsL fas moreB dds tfs (HandSHeadRun.getT s) (cStatics :: He.asD (HandSHeadRun.getT s) 5)
theorem ob_eq (s : PySem.W.SharedT) : ob s = hk.obs s.abs := by
  have e : HandSHeadRun.getT s = s.abs.heap.get? := funext (HandSHeadRun.getT_eq s)
  unfold ob
  rw [e] <;> rfl
def loose0 : List Str := ["_wall", "__name__", "Candidates", "TradeError", "InvalidOffer", "TooGenerous", "UnknownKind", "InvalidNumber", "InvalidStep", "Contradiction", "MAX_NUMBER", "MAX_LABEL_LENGTH", "DRINK", "is_integer", "is_number", "check_number", "is_label", "is_kind", "cost_of", "drinks_of_period"]
def loose1 : List Str := ["tops_of", "firsts_of", "gaps_of", "value_at", "_drunk_in_round", "BottleObserver", "MAX_LEFT", "_is_trade", "_check_trades", "_check_generosity", "Offer", "_slack", "_repetition", "_never_more", "first_difference", "_law_mix", "_law_next", "_law_alike", "_law_error", "_law_trades"]
def loose2 : List Str := ["_law_offer", "_law_buys", "_law_agrees", "_law_first_right"]
def loose : List Str := loose0 ++ loose1 ++ loose2
theorem run (w : World) : HandSHeadRun.RunEqI R (PySem.W.view R.prog [0, 51]) hk ob 12000 loose w := by
  unfold HandSHeadRun.RunEqI
  kernel_rfl
end EB

namespace EB
open PySem PySem.Spec PyProof.Rows L2
/-! ### data -/
/-- one trade -/
structure Tr where
  k : Str
  l : Int
  n : Int
def Tr.vs (t : Tr) : List V := [.str t.k, .int t.l, .int t.n]
def Tr.ok (t : Tr) : Prop := 0 ≤ t.l ∧ t.l ≤ 12 ∧ 1 ≤ t.n ∧ t.n ≤ 12
structure TrAt (K : PySem.W.Frag) (H : Hp) (a : Addr) (ts : List Tr) : Prop where
  ex : ∃ ps : List Addr, SqT K H a (ps.map V.ref) ∧ ps.length = ts.length ∧ ∀ (i : Nat) (p : Addr) (t : Tr), ps[i]? = some p → ts[i]? = some t → SqT K H p t.vs
theorem TrAt.mono {K : PySem.W.Frag} {H H' : Hp} {a : Addr} {ts : List Tr} (s : Same H H') (h : TrAt K H a ts) : TrAt K H' a ts := by
  obtain ⟨ps, h1, h2, h3⟩ := h.ex
  exact ⟨ps, Same.tup s h1, h2, fun i p t a b => Same.tup s (h3 i p t a b)⟩
theorem TrAt.at_ {K : PySem.W.Frag} {H : Hp} {ts : List Tr} {ps : List Addr} {i : Nat} {x : V} (h2 : ps.length = ts.length) (h3 : ∀ (i : Nat) (p : Addr) (t : Tr), ps[i]? = some p → ts[i]? = some t → SqT K H p t.vs)
    (hx : (ps.map V.ref)[i]? = some x) : ∃ (p : Addr) (t : Tr), x = .ref p ∧ ps[i]? = some p ∧ ts[i]? = some t ∧ t ∈ ts ∧ i < ts.length ∧ SqT K H p t.vs := by
  rw [List.getElem?_map] at hx
  cases ep : ps[i]? with
  | none =>
    rw [ep] at hx
    cases hx
  | some p =>
    rw [ep] at hx
    cases hx
    have li : i < ts.length := by
      rw [← h2]
      exact (List.getElem?_eq_some_iff.mp ep).1
    have et : ts[i]? = some ts[i] := List.getElem?_eq_getElem li
    exact ⟨p, ts[i], rfl, rfl, et, List.getElem_mem li, li, h3 i p _ ep et⟩
def buys (ts : List Tr) (d : Int) : Int := (ts.map fun t => t.l * d / t.n).sum
def cost (ts : List Tr) (d : Int) : Int := d - buys ts d
def gds (ts : List Tr) : Prop := ts.length ≤ 3 ∧ ∀ t ∈ ts, t.ok
theorem small3 {n : Nat} (h : n ≤ 100000) : n < sizeLine := Nat.lt_of_le_of_lt h (by decide)
theorem int_at {ns : List Int} {i : Nat} {x : V} (h : (ns.map V.int)[i]? = some x) : ∃ c, ns[i]? = some c ∧ x = .int c := by
  rw [List.getElem?_map] at h
  cases e : ns[i]? with
  | none =>
    rw [e] at h
    cases h
  | some c =>
    rw [e] at h
    exact ⟨c, rfl, (Option.some.inj h).symm⟩
theorem lt_of_at {α : Type} {l : List α} {i : Nat} {x : α} (h : l[i]? = some x) : i < l.length := (List.getElem?_eq_some_iff.mp h).1
theorem take_at {α : Type} {l : List α} {i : Nat} {x : α} (h : l[i]? = some x) : l.take (i + 1) = l.take i ++ [x] := by
  rw [List.take_add_one, h]
  rfl
section
variable {P : Program} {w : World} {K : PySem.W.Frag} {mg : Str → Option Value} {base : Heap}
/-- a def that lets nothing out -/
theorem fnK0 {d : DD} {fd : FuncData} {N ps : List Str} {k : Nat} {sp : Sp} (F : FnP K d fd) (S : FnScope N ps (defScope d.st)) (len : ∀ vs H Q E, sp vs H Q E → vs.length = ps.length)
    (hbody : ∀ (cdv : Value) (A : Around) (outer : List Env) (s : Shared) (H : Hp) (vs : List V) (Q : VK) (E : XK), Room k (A.deeper (envOfC d.ql (defScope d.st) s.heap.objs.size (d.adr K) cdv)) → sp vs H Q E →
      ∃ t, PSs (cxOf CX0 P w K mg base N d.ql (defScope d.st) (d.adr K) cdv A outer s H E).nox (defBody d.st) t ∧ t { nx := fun _ H' => Q .non H', rt := Q } (start N vs) H) :
    FnOk P w K mg base CX0 (k + 1) (d.adr K) fd ps sp := FunD.ok F S len fun cdv A outer s H vs Q E hr h => by
  obtain ⟨t, h1, h2⟩ := hbody cdv A outer s H vs Q E hr h
  exact ⟨t, h1.nox, h2⟩
/-- .. without defaults -/
theorem fnR0 {d : DD} {fd : FuncData} {N ps : List Str} {k : Nat} {sp : Sp} (F : FnP K d fd) (S : FnScope N ps (defScope d.st)) (e : d.df = [])
    (b : ∀ (kV doc pm : Value) (an : Option Addr) (cdv ct : Value) (us : List Value), us.length = ps.length → bindArgs (PySem.W.fnOf d.nm d.ql (defArgs d.st) (defBody d.st) (defScope d.st) .none kV doc pm an cdv ct) ⟨us, []⟩ = pure (ps.zip us))
    (len : ∀ vs H Q E, sp vs H Q E → vs.length = ps.length)
    (hbody : ∀ (cdv : Value) (A : Around) (outer : List Env) (s : Shared) (H : Hp) (vs : List V) (Q : VK) (E : XK), Room k (A.deeper (envOfC d.ql (defScope d.st) s.heap.objs.size (d.adr K) cdv)) → sp vs H Q E →
      ∃ t, PSs (cxOf CX0 P w K mg base N d.ql (defScope d.st) (d.adr K) cdv A outer s H E).nox (defBody d.st) t ∧ t { nx := fun _ H' => Q .non H', rt := Q } (start N vs) H) :
    FnR P w K mg base CX0 (k + 1) (d.adr K) sp := by
  have F1 : FnOk P w K mg base CX0 (k + 1) (d.adr K) fd ps sp := FunD.ok F S len fun cdv A outer s H vs Q E hr h => by
    obtain ⟨t, h1, h2⟩ := hbody cdv A outer s H vs Q E hr h
    exact ⟨t, h1.nox, h2⟩
  have F2 : FunD K d.nm d.ql (defArgs d.st) (defBody d.st) (defScope d.st) [] [] (d.adr K) fd := by
    have z : FnP K d fd := F
    unfold FnP at z
    rw [e] at z
    exact z
  refine (F1.raw (F2.bindsN b) .nil).imp fun vs H Q E h => ?_
  rw [List.append_nil]
  exact h
end
def perS (d : Nat) (t : Tr) : Nat := d.lcm (t.n / ((t.l.natAbs.gcd t.n.natAbs : Nat) : Int)).natAbs
def per (ts : List Tr) : Nat := ts.foldl perS 1
theorem gcd_pos' {t : Tr} (ht : t.ok) : 0 < ((t.l.natAbs.gcd t.n.natAbs : Nat) : Int) ∧ ((t.l.natAbs.gcd t.n.natAbs : Nat) : Int) ≤ 12 := by
  obtain ⟨_, _, h3, h4⟩ := ht
  have h5 : 0 < t.n.natAbs := by omega
  have h6 : 0 < t.l.natAbs.gcd t.n.natAbs := Nat.gcd_pos_of_pos_right _ h5
  have h7 : t.l.natAbs.gcd t.n.natAbs ≤ t.n.natAbs := Nat.gcd_le_right _ h5
  omega
theorem quo_le {t : Tr} (ht : t.ok) : (t.n / ((t.l.natAbs.gcd t.n.natAbs : Nat) : Int)).natAbs ≤ 12 := by
  have h1 := gcd_pos' ht
  have h2 := ht.2.2.1
  have h3 := ht.2.2.2
  have h4 : 0 ≤ t.n / ((t.l.natAbs.gcd t.n.natAbs : Nat) : Int) := Int.ediv_nonneg (by omega) (by omega)
  have h5 : t.n / ((t.l.natAbs.gcd t.n.natAbs : Nat) : Int) ≤ t.n := Int.ediv_le_self _ (by omega)
  omega
theorem per_le : ∀ (ts : List Tr) (d : Nat), (∀ t ∈ ts, t.ok) → ts.foldl perS d ≤ d * 12 ^ ts.length
  | [], d, _ => by simp
  | t :: ts, d, h => by
    have h1 := per_le ts (perS d t) fun u hu => h u (List.mem_cons_of_mem _ hu)
    have h2 : perS d t ≤ d * 12 := Nat.le_trans (PySem.W.mc_lcm_le _ _) (Nat.mul_le_mul_left _ (quo_le (h t (List.mem_cons_self ..))))
    have h3 : perS d t * 12 ^ ts.length ≤ d * 12 * 12 ^ ts.length := Nat.mul_le_mul_right _ h2
    rw [List.foldl_cons, List.length_cons, Nat.pow_succ]
    rw [Nat.mul_assoc, Nat.mul_comm 12] at h3
    omega
theorem per_most {ts : List Tr} (h : gds ts) (i : Nat) : (ts.take i).foldl perS 1 ≤ 1728 := by
  have h1 := per_le (ts.take i) 1 fun t ht => h.2 t (List.mem_of_mem_take ht)
  have h2 : (ts.take i).length ≤ 3 := by
    rw [List.length_take]
    have := h.1
    omega
  have h3 : 12 ^ (ts.take i).length ≤ 12 ^ 3 := Nat.pow_le_pow_right (by omega) h2
  omega
section
variable {P : Program} {w : World} {K : PySem.W.Frag} {mg : Str → Option Value} {base : Heap} (T : Tx K mg)
include T
/-! ### patterns -/
def spCost (K : PySem.W.Frag) : Sp := fun vs H Q _ => ∃ (a : Addr) (ts : List Tr) (d : Int), vs = [.ref a, .int d] ∧ TrAt K H a ts ∧ gds ts ∧ ∀ H', Same H H' → Q (.int (cost ts d)) H'
theorem ok_cost_of : FnR P w K mg base CX0 1 (a_cost_of K) (spCost K) := by
  refine fnR0 (d := d_cost_of) T.F_cost_of sc_cost_of rfl (fun _ _ _ _ _ _ us hl => match us, hl with | [_, _], _ => rfl) (fun vs H Q E h => ?_) (fun cdv A outer s H vs Q E hr h => ?_)
  · obtain ⟨a, ts, d, rfl, _⟩ := h
    rfl
  obtain ⟨a, ts, d, rfl, hT, ⟨hlen, hok⟩, k⟩ := h
  obtain ⟨ps, h1, h2, h3⟩ := hT.ex
  refine ⟨_, (pss_one (ps_ret (pe_op op_sub (pv 1) (pe_callB (cr_sum rfl) (by rfl) T.n_sum (by decide +kernel) (pa_cons (pe_lc (own := [("_", 2), ("left", 3), ("needed", 4)]) rfl sc_cost_of.nd (pi_tup (pv 0)) (blkOk_by (own := [("_", 2), ("left", 3), ("needed", 4)]) (N := N_cost_of) (sc := defScope s_cost_of) (by decide +kernel)) (fun _ _ _ _ _ => (pg_tupB (n := 3) (pgs_cons (pg_name (i := 2) sc_cost_of.nd rfl (Or.inl rfl) (.inr rfl)) (pgs_cons (pg_name (i := 3) sc_cost_of.nd rfl (Or.inl rfl) (.inr rfl)) (pgs_cons (pg_name (i := 4) sc_cost_of.nd rfl (Or.inl rfl) (.inr rfl)) pgs_nil))))) (fun _ _ _ _ _ => pts_nil) (fun _ _ _ _ _ => (pe_op op_fdiv (pe_op op_mul (pv 3) (pv 1)) (pv 4)))) pa_nil))))), ?_⟩
  refine ⟨_, rfl, _, rfl, a, rfl, ⟨_, h1⟩, fun D hD => ?_⟩
  refine lc_tup (xs := ps.map V.ref) (fun i H1 => Same H H1 ∧ H D = none ∧ H1 D = some (.lst ((ts.take i).map fun t => V.int (t.l * d / t.n)))) ⟨same_new hD, hD, upd_same⟩ (fun i H1 _ q => Same.tup q.1 h1) ?_ ?_
  · rintro i x H1 hx ⟨s1, n1, e1⟩
    obtain ⟨p, t, rfl, ep, et, hm, li, hp⟩ := TrAt.at_ h2 h3 hx
    have ht := hok _ hm
    refine ⟨p, _, rfl, Same.tup s1 hp, rfl, _, _, rfl, _, _, rfl, _, _, rfl, rfl, rfl, ?_⟩
    refine ⟨_, rfl, _, rfl, _, _, rfl, rfl, .inl ⟨by have := ht.1; omega, by have := ht.2.1; omega⟩, _, rfl, _, _, rfl, rfl, ⟨by have := ht.2.2.1; omega, by have := ht.2.2.2; omega⟩, ?_⟩
    refine ⟨_, e1, small3 ?_, same_mut s1 n1, n1, ?_⟩
    · rw [List.length_map, List.length_take]
      omega
    · rw [upd_same, take_at et, List.map_append]
      rfl
  · rintro H1 ⟨s1, n1, e1⟩
    refine ⟨D, ts.map fun t => t.l * d / t.n, rfl, SqL.of ?_, ?_⟩
    · rw [e1, List.length_map, h2, List.take_length, List.map_map]
      rfl
    · exact ⟨_, _, rfl, rfl, k _ s1⟩
def spPer (K : PySem.W.Frag) : Sp := fun vs H Q _ => ∃ (a : Addr) (ts : List Tr), vs = [.ref a] ∧ TrAt K H a ts ∧ gds ts ∧ ∀ H', Same H H' → Q (.int (per ts : Nat)) H'
theorem ok_drinks_of_period : FnR P w K mg base CX0 1 (a_drinks_of_period K) (spPer K) := by
  refine fnR0 (d := d_drinks_of_period) T.F_drinks_of_period sc_drinks_of_period rfl (fun _ _ _ _ _ _ us hl => match us, hl with | [_], _ => rfl) (fun vs H Q E h => ?_) (fun cdv A outer s H vs Q E hr h => ?_)
  · obtain ⟨a, ts, rfl, _⟩ := h
    rfl
  obtain ⟨a, ts, rfl, hT, hg, k⟩ := h
  obtain ⟨ps, h1, h2, h3⟩ := hT.ex
  refine ⟨_, (pss_cons (ps_set (i := 1) sc_drinks_of_period.nd rfl (Or.inl rfl) pe_int) (pss_cons (ps_for PassesOwn.never rfl (pi_tup (pv 0)) (pg_tup rfl (pgs_cons (pg_name (i := 2) sc_drinks_of_period.nd rfl (Or.inl rfl)) (pgs_cons (pg_name (i := 3) sc_drinks_of_period.nd rfl (Or.inl rfl)) (pgs_cons (pg_name (i := 4) sc_drinks_of_period.nd rfl (Or.inl rfl)) pgs_nil)))) (pss_one (ps_set (i := 1) sc_drinks_of_period.nd rfl (Or.inl rfl) (pe_callBfun cr_lcm (by rfl) T.b_lcm (pa_cons (pv 1) (pa_cons (pe_op op_fdiv (pv 4) (pe_callBfun cr_gcd (by rfl) T.b_gcd (pa_cons (pv 3) (pa_cons (pv 4) pa_nil)))) pa_nil)))))) (pss_one (ps_ret (pv 1))))), ?_⟩
  refine ⟨_, rfl, a, rfl, ⟨_, h1⟩, for_tup (xs := ps.map V.ref) (fun i σ H1 => H1 = H ∧ ∃ x2 x3 x4, σ = [some (.ref a), some (.int (((ts.take i).foldl perS 1 : Nat) : Int)), x2, x3, x4]) ⟨rfl, _, _, _, rfl⟩ (fun i σ H1 _ q => by rw [q.1]; exact h1) ?_ ?_⟩
  · rintro i x σ H1 hx ⟨rfl, x2, x3, x4, rfl⟩
    obtain ⟨p, t, rfl, ep, et, hm, li, hp⟩ := TrAt.at_ h2 h3 hx
    have ht := hg.2 _ hm
    have hq := gcd_pos' ht
    refine ⟨p, _, rfl, hp, rfl, _, _, rfl, _, _, rfl, _, _, rfl, rfl, ?_⟩
    refine ⟨_, rfl, _, rfl, _, rfl, _, rfl, _, _, rfl, _, _, rfl, rfl, ⟨hq.1, by omega⟩, _, _, rfl, ?_, ?_, rfl, some (.str t.k), some (.int t.l), some (.int t.n), ?_⟩
    · have := per_most hg i
      exact Nat.lt_of_le_of_lt (by omega : _ ≤ 1728) (by decide)
    · exact Nat.lt_of_le_of_lt (quo_le ht) (by decide)
    · rw [take_at et, List.foldl_append]
      rfl
  · rintro σ H1 ⟨rfl, x2, x3, x4, rfl⟩
    refine ⟨_, rfl, ?_⟩
    have e : (ts.take (ps.map V.ref).length).foldl perS 1 = per ts := by
      rw [List.length_map, h2, List.take_length]
      rfl
    rw [e]
    exact k _ (Same.refl _)
end
end EB

namespace EB
open PySem PySem.Spec PyProof.Rows L2
/-! ### tables -/
def topsF : Int → List Int → List Int
  | _, [] => []
  | m, c :: cs => (if m < c then c else m) :: topsF (if m < c then c else m) cs
def topsM (m : Int) (cs : List Int) : Int := cs.foldl (fun m c => if m < c then c else m) m
theorem topsF_length : ∀ (m : Int) (cs : List Int), (topsF m cs).length = cs.length
  | _, [] => rfl
  | m, c :: cs => by
    show (topsF _ cs).length + 1 = _
    rw [topsF_length]
    rfl
theorem topsF_snoc : ∀ (m : Int) (cs : List Int) (c : Int), topsF m (cs ++ [c]) = topsF m cs ++ [topsM m (cs ++ [c])]
  | m, [], c => rfl
  | m, x :: cs, c => by
    show _ :: topsF _ (cs ++ [c]) = _ :: (topsF _ cs ++ _)
    rw [topsF_snoc]
    rfl
theorem topsM_snoc (m : Int) (cs : List Int) (c : Int) : topsM m (cs ++ [c]) = if topsM m cs < c then c else topsM m cs := by
  unfold topsM
  rw [List.foldl_append]
  rfl
/-- the first place of each value that a table reaches: what is there, what is still to be gone through from place i on -/
def firstsF : Nat → List Int → List Int → List Int
  | _, acc, [] => acc
  | i, acc, t :: ts => firstsF (i + 1) (if t = (acc.length : Int) then acc ++ [(i : Int)] else acc) ts
theorem firstsF_snoc : ∀ (i : Nat) (acc ts : List Int) (t : Int), firstsF i acc (ts ++ [t]) = if t = ((firstsF i acc ts).length : Int) then firstsF i acc ts ++ [((i + ts.length : Nat) : Int)] else firstsF i acc ts
  | i, acc, [], t => rfl
  | i, acc, x :: ts, t => by
    show firstsF (i + 1) _ (ts ++ [t]) = _
    rw [firstsF_snoc]
    have e : i + 1 + ts.length = i + (x :: ts).length := by
      rw [List.length_cons]
      omega
    rw [e]
    rfl
theorem firstsF_length : ∀ (i : Nat) (acc ts : List Int), (firstsF i acc ts).length ≤ acc.length + ts.length
  | _, acc, [] => Nat.le_refl _
  | i, acc, t :: ts => by
    have h := firstsF_length (i + 1) (if t = (acc.length : Int) then acc ++ [(i : Int)] else acc) ts
    have h2 : (if t = (acc.length : Int) then acc ++ [(i : Int)] else acc).length ≤ acc.length + 1 := by
      split
      · rw [List.length_append, List.length_singleton]
        exact Nat.le_refl _
      · exact Nat.le_succ _
    rw [List.length_cons]
    show (firstsF (i + 1) (if t = (acc.length : Int) then acc ++ [(i : Int)] else acc) ts).length ≤ _
    omega
def valueAt (xs : List Int) (at_ span rise : Int) : Int :=
  if at_ < xs.length then xs.getD at_.toNat 0 else xs.getD (at_ - ((at_ - xs.length) / span + 1) * span).toNat 0 + ((at_ - xs.length) / span + 1) * rise
theorem getD_at {xs : List Int} {i : Int} (h0 : 0 ≤ i) (h1 : i < xs.length) : atI (xs.map V.int) i = some (.int (xs.getD i.toNat 0)) := by
  have hi : i.toNat < xs.length := by omega
  refine at_of (j := i.toNat) (by omega) ?_
  rw [List.getElem?_map, List.getElem?_eq_getElem hi, List.getD_eq_getElem?_getD, List.getElem?_eq_getElem hi]
  rfl
/-- the places at which a table of first places does not lead back -/
def gapsF (fs : List Int) : Nat → List Int → List Int
  | _, [] => []
  | i, t :: ts => (if fs.getD t.toNat 0 = (i : Int) then [] else [(i : Int)]) ++ gapsF fs (i + 1) ts
theorem gapsF_snoc (fs : List Int) : ∀ (i : Nat) (ts : List Int) (t : Int), gapsF fs i (ts ++ [t]) = gapsF fs i ts ++ (if fs.getD t.toNat 0 = ((i + ts.length : Nat) : Int) then [] else [((i + ts.length : Nat) : Int)])
  | i, [], t => by
    show (if _ then _ else _) ++ [] = [] ++ _
    rw [List.append_nil, List.nil_append]
    rfl
  | i, x :: ts, t => by
    show _ ++ gapsF fs (i + 1) (ts ++ [t]) = _ ++ gapsF fs (i + 1) ts ++ _
    rw [gapsF_snoc, List.append_assoc]
    have e : i + 1 + ts.length = i + (x :: ts).length := by
      rw [List.length_cons]
      omega
    rw [e]
theorem gapsF_length (fs : List Int) : ∀ (i : Nat) (ts : List Int), (gapsF fs i ts).length ≤ ts.length
  | _, [] => Nat.le_refl _
  | i, t :: ts => by
    show ((if _ then _ else _) ++ gapsF fs (i + 1) ts).length ≤ ts.length + 1
    have := gapsF_length fs (i + 1) ts
    rw [List.length_append]
    split
    · simp only [List.length_nil]
      omega
    · simp only [List.length_singleton]
      omega
section
variable {P : Program} {w : World} {K : PySem.W.Frag} {mg : Str → Option Value} {base : Heap} (T : Tx K mg)
include T
def spTops (K : PySem.W.Frag) : Sp := fun vs H Q _ => ∃ (a : Addr) (cs : List Int), vs = [.ref a] ∧ SqL K H a (cs.map V.int) ∧ cs.length ≤ 10000 ∧ ∀ H' p, Same H H' → H p = none → H' p = some (.lst ((topsF 0 cs).map V.int)) → Q (.ref p) H'
theorem ok_tops_of : FnR P w K mg base CX0 1 (a_tops_of K) (spTops K) := by
  refine fnR0 (d := d_tops_of) T.F_tops_of sc_tops_of rfl (fun _ _ _ _ _ _ us hl => match us, hl with | [_], _ => rfl) (fun vs H Q E h => ?_) (fun cdv A outer s H vs Q E hr h => ?_)
  · obtain ⟨a, cs, rfl, _⟩ := h
    rfl
  obtain ⟨a, cs, rfl, hS, hl, k⟩ := h
  refine ⟨_, (pss_cons (ps_set (i := 1) sc_tops_of.nd rfl (Or.inl rfl) (pe_lst pa_nil)) (pss_cons (ps_set (i := 2) sc_tops_of.nd rfl (Or.inl rfl) pe_int) (pss_cons (ps_for PassesOwn.never rfl (pi_list (pv 0)) (pg_name (i := 3) sc_tops_of.nd rfl (Or.inl rfl)) (pss_cons (ps_if (pt_cmpR op_gt (pv 3) (pv 2) (nomark _)) (pss_one (ps_set (i := 2) sc_tops_of.nd rfl (Or.inl rfl) (pv 3))) pss_nil) (pss_one (ps_expr (pe_bm PySem.F.plainAttrs_list PySem.F.slot_list_append PySem.F.type_list_append mt_append (pv 1) (pa_cons (pv 2) pa_nil)))))) (pss_one (ps_ret (pv 1)))))), ?_⟩
  refine ⟨Nat.zero_le _, fun p hp => ?_⟩
  refine ⟨_, rfl, a, rfl, ⟨_, (same_new hp).seq hS⟩, for_list (K := K) (a := a) (xs := cs.map V.int) (fun i σ H1 => Same H H1 ∧ H1 p = some (.lst ((topsF 0 (cs.take i)).map V.int)) ∧ ∃ x, σ = [some (.ref a), some (.ref p), some (.int (topsM 0 (cs.take i))), x])
    ⟨same_new hp, upd_same, _, rfl⟩ (fun i σ H1 _ q => q.1.seq hS) ?_ ?_⟩
  · rintro i x σ H1 hx ⟨s1, e1, x3, rfl⟩
    obtain ⟨c, ec, rfl⟩ := int_at hx
    have hi := lt_of_at ec
    have e2 : topsM 0 (cs.take (i + 1)) = if topsM 0 (cs.take i) < c then c else topsM 0 (cs.take i) := by rw [take_at ec, topsM_snoc]
    have e3 : topsF 0 (cs.take (i + 1)) = topsF 0 (cs.take i) ++ [topsM 0 (cs.take (i + 1))] := by rw [take_at ec, topsF_snoc]
    have hz : ((topsF 0 (cs.take i)).map V.int).length < sizeLine := small3 (by rw [List.length_map, topsF_length, List.length_take]; omega)
    refine ⟨_, rfl, _, rfl, _, _, rfl, rfl, _, rfl, ite2 (fun hd => ?_) (fun hd => ?_)⟩
    · have hd : topsM 0 (cs.take i) < c := of_decide_eq_true hd
      rw [if_pos hd] at e2
      refine ⟨_, rfl, ?_⟩
      refine ⟨_, rfl, .inl ⟨rfl, _, SqL.of e1⟩, _, rfl, p, _, _, rfl, rfl, e1, hz, same_mut s1 hp, ?_, some (.int c), ?_⟩
      · rw [upd_same, e3, e2, List.map_append]
        rfl
      · rw [e2]
        rfl
    · have hd : ¬ topsM 0 (cs.take i) < c := fun z => hd (decide_eq_true z)
      rw [if_neg hd] at e2
      refine ⟨_, rfl, .inl ⟨rfl, _, SqL.of e1⟩, _, rfl, p, _, _, rfl, rfl, e1, hz, same_mut s1 hp, ?_, some (.int c), ?_⟩
      · rw [upd_same, e3, e2, List.map_append]
        rfl
      · rw [e2]
        rfl
  · rintro σ H1 ⟨s1, e1, x, rfl⟩
    refine ⟨_, rfl, k _ _ s1 hp ?_⟩
    rw [e1, List.length_map, List.take_length]
def spFirsts (K : PySem.W.Frag) : Sp := fun vs H Q _ => ∃ (a : Addr) (ts : List Int), vs = [.ref a] ∧ SqL K H a (ts.map V.int) ∧ ts.length ≤ 10000 ∧ ∀ H' p, Same H H' → H p = none → H' p = some (.lst ((firstsF 0 [] ts).map V.int)) → Q (.ref p) H'
theorem ok_firsts_of : FnR P w K mg base CX0 1 (a_firsts_of K) (spFirsts K) := by
  refine fnR0 (d := d_firsts_of) T.F_firsts_of sc_firsts_of rfl (fun _ _ _ _ _ _ us hl => match us, hl with | [_], _ => rfl) (fun vs H Q E h => ?_) (fun cdv A outer s H vs Q E hr h => ?_)
  · obtain ⟨a, cs, rfl, _⟩ := h
    rfl
  obtain ⟨a, ts, rfl, hS, hl, k⟩ := h
  refine ⟨_, (pss_cons (ps_set (i := 1) sc_firsts_of.nd rfl (Or.inl rfl) (pe_lst pa_nil)) (pss_cons (ps_for PassesOwn.never rfl (pi_enum (by rfl) T.n_enumerate (pa_cons (pv 0) pa_nil)) (pg_tup rfl (pgs_cons (pg_name (i := 2) sc_firsts_of.nd rfl (Or.inl rfl)) (pgs_cons (pg_name (i := 3) sc_firsts_of.nd rfl (Or.inl rfl)) pgs_nil))) (pss_one (ps_if (pt_cmpR op_eq (pv 3) (pe_callB call_len_seq (by rfl) T.n_len PySem.boot_len (pa_cons (pv 1) pa_nil)) (nomark _)) (pss_one (ps_expr (pe_bm PySem.F.plainAttrs_list PySem.F.slot_list_append PySem.F.type_list_append mt_append (pv 1) (pa_cons (pv 2) pa_nil)))) pss_nil))) (pss_one (ps_ret (pv 1))))), ?_⟩
  refine ⟨Nat.zero_le _, fun p hp => ?_⟩
  refine ⟨_, rfl, a, _, rfl, (same_new hp).seq hS, for_it (walk_enum (K := K) (a := a) (xs := ts.map V.int)) (fun i σ H1 => Same H H1 ∧ H1 p = some (.lst ((firstsF 0 [] (ts.take i)).map V.int)) ∧ ∃ x y, σ = [some (.ref a), some (.ref p), x, y])
    ⟨same_new hp, upd_same, _, _, rfl⟩ (fun i σ H1 _ q => q.1.seq hS) ?_ ?_⟩
  · rintro i x σ H1 H2 hi ⟨s1, e1, x2, x3, rfl⟩ ⟨q, u, v, rfl, nq, rfl, eu, ev⟩
    cases eu
    obtain ⟨c, ec, rfl⟩ := int_at ev
    have li := lt_of_at ec
    have hz : (firstsF 0 [] (ts.take i)).length ≤ 10000 := by
      have := firstsF_length 0 [] (ts.take i)
      rw [List.length_take] at this
      simp only [List.length_nil] at this
      omega
    have e3 := firstsF_snoc 0 [] (ts.take i) c
    rw [← take_at ec, List.length_take, Nat.min_eq_left (Nat.le_of_lt li), Nat.zero_add] at e3
    have e1' := upd_old (u := .tup [.int (i : Nat), .int c]) e1 nq
    refine ⟨q, _, rfl, SqT.of upd_same, rfl, _, _, rfl, _, _, rfl, rfl, ?_⟩
    refine ⟨_, rfl, _, rfl, p, _, rfl, .inl (SqL.of e1'), rfl, _, rfl, ?_⟩
    refine ite2 (fun hd => ?_) (fun hd => ?_)
    · have hd2 : c = ((firstsF 0 [] (ts.take i)).length : Int) := by
        have z := of_decide_eq_true hd
        rw [List.length_map] at z
        exact V.int.inj z
      rw [if_pos hd2] at e3
      refine ⟨_, rfl, .inl ⟨rfl, _, SqL.of e1'⟩, _, rfl, p, _, _, rfl, rfl, e1', small3 (by rw [List.length_map]; omega), same_mut (s1.trans (same_new nq)) hp, ?_, _, _, rfl⟩
      rw [upd_same, e3, List.map_append]
      rfl
    · have hd2 : ¬ c = ((firstsF 0 [] (ts.take i)).length : Int) := fun z => hd (decide_eq_true (by rw [List.length_map, z]))
      rw [if_neg hd2] at e3
      exact ⟨s1.trans (same_new nq), by rw [e1', e3], _, _, rfl⟩
  · rintro σ H1 ⟨s1, e1, x, y, rfl⟩
    refine ⟨_, rfl, k _ _ s1 hp ?_⟩
    rw [e1, List.length_map, List.take_length]
def spValue (K : PySem.W.Frag) : Sp := fun vs H Q _ => ∃ (a : Addr) (xs : List Int) (i span rise : Int), vs = [.ref a, .int i, .int span, .int rise] ∧ SqL K H a (xs.map V.int) ∧ 0 ≤ i ∧ 0 < span ∧ span < 10000 ∧ -(10000) < rise ∧ rise < 10000 ∧ span ≤ xs.length ∧
  Q (.int (valueAt xs i span rise)) H
theorem ok_value_at : FnR P w K mg base CX0 1 (a_value_at K) (spValue K) := by
  refine fnR0 (d := d_value_at) T.F_value_at sc_value_at rfl (fun _ _ _ _ _ _ us hl => match us, hl with | [_, _, _, _], _ => rfl) (fun vs H Q E h => ?_) (fun cdv A outer s H vs Q E hr h => ?_)
  · obtain ⟨a, xs, i, span, rise, rfl, _⟩ := h
    rfl
  obtain ⟨a, xs, i, span, rise, rfl, hS, h0, h1, h2, h3, h4, h5, k⟩ := h
  refine ⟨_, (pss_cons (ps_if (pt_cmpR op_lt (pv 1) (pe_callB call_len_seq (by rfl) T.n_len PySem.boot_len (pa_cons (pv 0) pa_nil)) (nomark _)) (pss_one (ps_ret (pe_ix ix_list (pv 0) (pv 1) (fun _ _ => rfl)))) pss_nil) (pss_cons (ps_set (i := 4) sc_value_at.nd rfl (Or.inl rfl) (pe_op op_add (pe_op op_fdiv (pe_op op_sub (pv 1) (pe_callB call_len_seq (by rfl) T.n_len PySem.boot_len (pa_cons (pv 0) pa_nil))) (pv 2)) pe_int)) (pss_one (ps_ret (pe_op op_add (pe_ix ix_list (pv 0) (pe_op op_sub (pv 1) (pe_op op_mul (pv 4) (pv 2))) (fun _ _ => rfl)) (pe_op op_mul (pv 4) (pv 3))))))), ?_⟩
  refine ⟨_, rfl, _, rfl, a, _, rfl, .inl hS, _, _, rfl, rfl, _, rfl, ite2 (fun hd => ?_) (fun hd => ?_)⟩
  · have hd : i < (xs.length : Int) := by
      have z := of_decide_eq_true hd
      rw [List.length_map] at z
      exact z
    refine ⟨_, rfl, _, rfl, a, _, _, _, rfl, rfl, hS, getD_at h0 hd, ?_⟩
    unfold valueAt at k
    rw [if_pos hd] at k
    exact k
  · have hd : ¬ i < (xs.length : Int) := fun z => hd (decide_eq_true (by rw [List.length_map]; exact z))
    unfold valueAt at k
    rw [if_neg hd] at k
    refine ⟨_, rfl, _, rfl, a, _, rfl, .inl hS, _, _, rfl, rfl, _, rfl, _, _, rfl, rfl, ⟨h1, by omega⟩, _, _, rfl, rfl, ?_⟩
    have em : i % span = i - i / span * span := by
      have := Int.emod_add_mul_ediv i span
      rw [Int.mul_comm] at this
      omega
    have f1 : (i - xs.length) / span * span ≤ i - xs.length := by
      have := Int.emod_add_mul_ediv (i - xs.length) span
      have := Int.emod_nonneg (i - xs.length) (show span ≠ 0 by omega)
      rw [Int.mul_comm]
      omega
    have f2 : i - xs.length < (i - xs.length) / span * span + span := by
      have := Int.emod_add_mul_ediv (i - xs.length) span
      have := Int.emod_lt_of_pos (i - xs.length) h1
      rw [Int.mul_comm]
      omega
    have f3 : ((i - xs.length) / span + 1) * span = (i - xs.length) / span * span + span := by rw [Int.add_mul, Int.one_mul]
    refine ⟨_, rfl, _, rfl, _, rfl, _, rfl, _, _, rfl, rfl, .inr ⟨by omega, by omega⟩, _, _, rfl, rfl, a, _, _, .int (xs.getD (i - ((i - (xs.length : Int)) / span + 1) * span).toNat 0), rfl, rfl, hS, ?_, ?_⟩
    · show atI (xs.map V.int) (i - ((i - ((xs.map V.int).length : Int)) / span + 1) * span) = _
      rw [List.length_map]
      refine getD_at ?_ ?_
      · omega
      · omega
    · refine ⟨_, rfl, _, rfl, _, _, rfl, rfl, .inr ⟨by omega, by omega⟩, _, _, rfl, rfl, ?_⟩
      rw [List.length_map]
      exact k
def spGaps (K : PySem.W.Frag) : Sp := fun vs H Q _ => ∃ (a b : Addr) (ts fs : List Int), vs = [.ref a, .ref b] ∧ SqL K H a (ts.map V.int) ∧ SqL K H b (fs.map V.int) ∧ ts.length ≤ 10000 ∧ (∀ t ∈ ts, 0 ≤ t ∧ t < fs.length) ∧
  ∀ H' p, Same H H' → H p = none → H' p = some (.lst ((gapsF fs 0 ts).map V.int)) → Q (.ref p) H'
theorem ok_gaps_of : FnR P w K mg base CX0 1 (a_gaps_of K) (spGaps K) := by
  refine fnR0 (d := d_gaps_of) T.F_gaps_of sc_gaps_of rfl (fun _ _ _ _ _ _ us hl => match us, hl with | [_, _], _ => rfl) (fun vs H Q E h => ?_) (fun cdv A outer s H vs Q E hr h => ?_)
  · obtain ⟨a, b, ts, fs, rfl, _⟩ := h
    rfl
  obtain ⟨a, b, ts, fs, rfl, hS, hF, hl, hb, k⟩ := h
  refine ⟨_, (pss_one (ps_ret (pe_lc (own := [("drinks", 2), ("top", 3)]) rfl sc_gaps_of.nd (pi_enum (by rfl) T.n_enumerate (pa_cons (pv 0) pa_nil)) (blkOk_by (own := [("drinks", 2), ("top", 3)]) (N := N_gaps_of) (sc := defScope s_gaps_of) (by decide +kernel)) (fun _ _ _ _ _ => (pg_tupB (n := 2) (pgs_cons (pg_name (i := 2) sc_gaps_of.nd rfl (Or.inl rfl) (.inr rfl)) (pgs_cons (pg_name (i := 3) sc_gaps_of.nd rfl (Or.inl rfl) (.inr rfl)) pgs_nil)))) (fun _ _ _ _ _ => (pts_one (pt_cmpR op_ne (pe_ix (ix_listK (K := K) rfl) (pv 1) (pv 3) (fun _ _ => rfl)) (pv 2) (nomark _)))) (fun _ _ _ _ _ => (pv 2))))), ?_⟩
  refine ⟨_, rfl, a, _, rfl, hS, fun D hD => ?_⟩
  refine lc_it (walk_enum (K := K) (a := a) (xs := ts.map V.int)) (fun i H1 => Same H H1 ∧ H1 D = some (.lst ((gapsF fs 0 (ts.take i)).map V.int))) ⟨same_new hD, upd_same⟩ (fun i H1 _ q => q.1.seq hS) ?_ ?_
  · rintro i x H1 H2 hi ⟨s1, e1⟩ ⟨q, u, v, rfl, nq, rfl, eu, ev⟩
    cases eu
    obtain ⟨c, ec, rfl⟩ := int_at ev
    have li := lt_of_at ec
    have hc := hb c (List.mem_of_getElem? ec)
    have e1' := upd_old (u := .tup [.int (i : Nat), .int c]) e1 nq
    have e3 := gapsF_snoc fs 0 (ts.take i) c
    rw [← take_at ec, List.length_take, Nat.min_eq_left (Nat.le_of_lt li), Nat.zero_add] at e3
    have hz : (gapsF fs 0 (ts.take i)).length ≤ 10000 := by
      have := gapsF_length fs 0 (ts.take i)
      rw [List.length_take] at this
      omega
    refine ⟨q, _, rfl, SqT.of upd_same, rfl, _, _, rfl, _, _, rfl, rfl, rfl, ?_⟩
    refine ⟨_, rfl, _, rfl, b, _, _, _, rfl, rfl, (s1.trans (same_new nq)).seq hF, getD_at hc.1 hc.2, _, rfl, rfl, _, rfl, ?_⟩
    refine ite2 (fun hd => ?_) (fun hd => ?_)
    · have hd2 : ¬ fs.getD c.toNat 0 = (i : Int) := fun z => by
        rw [z, decide_eq_true rfl] at hd
        cases hd
      rw [if_neg hd2] at e3
      refine ⟨_, rfl, _, e1', small3 (by rw [List.length_map]; omega), same_mut (s1.trans (same_new nq)) hD, ?_⟩
      rw [upd_same, e3, List.map_append]
      rfl
    · have hd2 : fs.getD c.toNat 0 = (i : Int) := by
        apply Classical.byContradiction
        intro z
        apply hd
        rw [decide_eq_false (fun y => z (V.int.inj y))]
        rfl
      rw [if_pos hd2, List.append_nil] at e3
      exact ⟨s1.trans (same_new nq), by rw [e1', e3]⟩
  · rintro H1 ⟨s1, e1⟩
    refine k _ _ s1 hD ?_
    rw [e1, List.length_map, List.take_length]
end
end EB

namespace EB
open PySem PySem.Spec PyProof.Rows L2
/-! ### checks -/
def signOk (c : Nat) : Bool := if (!decide ((⟨#[c]⟩ : Str).cps.toList < ("a" : Str).cps.toList)) = true then (!decide (("z" : Str).cps.toList < (⟨#[c]⟩ : Str).cps.toList)) else false
def labelOk (z : Str) : Bool := if (!(if decide ((1 : Int) ≤ z.length) = true then decide ((z.length : Int) ≤ 8) else false)) = true then false else (z.cps.toList.map signOk).all id
def kindOk (z : Str) : Bool := if labelOk z = true then !decide (z = "drink") else false
def numOk (i lo hi : Int) : Bool := if decide (lo ≤ i) = true then decide (i ≤ hi) else false
def trOk (t : Tr) : Bool := if kindOk t.k = true then (if numOk t.l 0 12 = true then numOk t.n 1 12 else false) else false
theorem numOk_iff {i lo hi : Int} : numOk i lo hi = true ↔ lo ≤ i ∧ i ≤ hi := by
  unfold numOk
  by_cases h : lo ≤ i
  · rw [decide_eq_true h, if_pos rfl]
    exact ⟨fun z => ⟨h, of_decide_eq_true z⟩, fun z => decide_eq_true z.2⟩
  · rw [decide_eq_false h, if_neg Bool.false_ne_true]
    exact ⟨fun z => absurd z Bool.false_ne_true, fun z => absurd z.1 h⟩
theorem trOk_of {t : Tr} (h : t.ok) (k : kindOk t.k = true) : trOk t = true := by
  unfold trOk
  rw [if_pos k, if_pos (numOk_iff.mpr ⟨h.1, h.2.1⟩)]
  exact numOk_iff.mpr ⟨h.2.2.1, h.2.2.2⟩
section
variable {P : Program} {w : World} {K : PySem.W.Frag} {mg : Str → Option Value} {base : Heap} (T : Tx K mg)
include T
def spIsInt : Sp := fun vs H Q _ => ∃ i : Int, vs = [.int i] ∧ Q (.bl true) H
theorem ok_is_integer : FnR P w K mg base CX0 1 (a_is_integer K) spIsInt := by
  refine fnR0 (d := d_is_integer) T.F_is_integer sc_is_integer rfl (fun _ _ _ _ _ _ us hl => match us, hl with | [_], _ => rfl) (fun vs H Q E h => ?_) (fun cdv A outer s H vs Q E hr h => ?_)
  · obtain ⟨i, rfl, _⟩ := h
    rfl
  obtain ⟨i, rfl, k⟩ := h
  refine ⟨_, (pss_one (ps_ret (pe_and (pe_callB call_isi (by rfl) T.n_isinstance (by decide +kernel) (pa_cons (pv 0) (pa_cons (pe_bltn (v := .ty "int") (u := .type "int") rfl T.n_int (by decide +kernel) rfl) pa_nil))) (pe_one (pe_not (pe_callB call_isi (by rfl) T.n_isinstance (by decide +kernel) (pa_cons (pv 0) (pa_cons (pe_bltn (v := .ty "bool") (u := .type "bool") rfl T.n_bool (by decide +kernel) rfl) pa_nil)))))))), ?_⟩
  refine ⟨_, rfl, .int i, .ty "int", _, _, true, rfl, ClsV.ty "int", .base (.int i), kit_ty (by decide +kernel), true, rfl, iteT ?_⟩
  exact ⟨_, rfl, .int i, .ty "bool", _, _, false, rfl, ClsV.ty "bool", .base (.int i), kit_ty (by decide +kernel), false, rfl, k⟩
def spIsNum : Sp := fun vs H Q _ => ∃ i lo hi : Int, vs = [.int i, .int lo, .int hi] ∧ Q (.bl (numOk i lo hi)) H
theorem ok_is_number : FnR P w K mg base CX0 2 (a_is_number K) spIsNum := by
  refine fnR0 (d := d_is_number) T.F_is_number sc_is_number rfl (fun _ _ _ _ _ _ us hl => match us, hl with | [_, _, _], _ => rfl) (fun vs H Q E h => ?_) (fun cdv A outer s H vs Q E hr h => ?_)
  · obtain ⟨i, lo, hi, rfl, _⟩ := h
    rfl
  obtain ⟨i, lo, hi, rfl, k⟩ := h
  refine ⟨_, (pss_one (ps_ret (pe_and (pe_cR (ok_is_integer T) (hr.mono (by decide)) T.F_is_integer.kp T.g_is_integer pass0 (pa_cons (pv 0) pa_nil)) (pe_one (pe_chain op_le op_le (pv 1) (pv 0) (pv 2)))))), ?_⟩
  refine ⟨_, rfl, i, rfl, true, rfl, iteT ?_⟩
  refine ⟨_, rfl, _, rfl, _, _, rfl, rfl, _, rfl, ?_⟩
  unfold numOk at k
  refine ite2 (fun hd => ?_) (fun hd => ?_)
  · rw [if_pos hd] at k
    exact ⟨_, rfl, _, _, rfl, rfl, k⟩
  · rw [if_neg hd] at k
    exact k
def spIsLabel : Sp := fun vs H Q _ => ∃ z : Str, vs = [.str z] ∧ z.length ≤ 1000 ∧ ∀ H', Same H H' → Q (.bl (labelOk z)) H'
theorem ok_is_label : FnR P w K mg base CX0 1 (a_is_label K) spIsLabel := by
  refine fnR0 (d := d_is_label) T.F_is_label sc_is_label rfl (fun _ _ _ _ _ _ us hl => match us, hl with | [_], _ => rfl) (fun vs H Q E h => ?_) (fun cdv A outer s H vs Q E hr h => ?_)
  · obtain ⟨z, rfl, _⟩ := h
    rfl
  obtain ⟨z, rfl, hz, k⟩ := h
  have hz2 : z.length ≤ sizeLine := Nat.le_trans hz (by decide)
  refine ⟨_, (pss_cons (ps_if (PW.pt (pw_or (pt_not (pt_val (pe_callB call_isi (by rfl) T.n_isinstance (by decide +kernel) (pa_cons (pv 0) (pa_cons (pe_bltn (v := .ty "str") (u := .type "str") rfl T.n_str (by decide +kernel) rfl) pa_nil))))) (pw_or1 (pt_not (pt_chain op_le op_le pe_int (pe_callB call_len_str (by rfl) T.n_len PySem.boot_len (pa_cons (pv 0) pa_nil)) (pe_cI T.c_MAX_LABEL_LENGTH)))))) (pss_one (ps_ret pe_bl)) pss_nil) (pss_one (ps_ret (pe_callB (cr_all rfl) (by rfl) T.n_all (by decide +kernel) (pa_cons (pe_lc (own := [("letter", 1)]) rfl sc_is_label.nd (pi_str (pv 0)) (blkOk_by (own := [("letter", 1)]) (N := N_is_label) (sc := defScope s_is_label) (by decide +kernel)) (fun _ _ _ _ _ => (pg_name (i := 1) sc_is_label.nd rfl (Or.inl rfl) (.inr rfl))) (fun _ _ _ _ _ => pts_nil) (fun _ _ _ _ _ => (pe_chain op_le_str op_le_str pe_str (pv 1) pe_str))) pa_nil))))), ?_⟩
  refine ⟨_, rfl, .str z, .ty "str", _, _, true, rfl, ClsV.ty "str", .base (.str z), kit_ty (by decide +kernel), true, rfl, ?_⟩
  show (if false = true then _ else _)
  refine iteF ?_
  have hlast : ∀ (c : Bool), (if decide ((1 : Int) ≤ z.length) = true then decide ((z.length : Int) ≤ 8) else false) = c → labelOk z = if (!c) = true then false else (z.cps.toList.map signOk).all id := by
    rintro c rfl
    rfl
  refine ⟨_, rfl, z, rfl, hz2, _, _, rfl, rfl, _, rfl, ?_⟩
  refine ite2 (fun h1 => ?_) (fun h1 => ?_)
  · rw [if_pos h1] at hlast
    refine ⟨_, _, rfl, rfl, _, rfl, ?_⟩
    by_cases h2 : (z.length : Int) ≤ 8
    · rw [decide_eq_true h2]
      rw [hlast true (decide_eq_true h2)] at k
      refine iteF ?_
      refine ⟨_, rfl, z, rfl, fun D hD => ?_⟩
      refine lc_it (walk_str (z := z)) (fun i H1 => Same H H1 ∧ H1 D = some (.lst ((z.cps.toList.take i).map fun c => V.bl (signOk c)))) ⟨same_new hD, upd_same⟩ (fun _ _ _ _ => True.intro) ?_ ?_
      · rintro i x H1 H2 hi ⟨s1, e1⟩ ⟨rfl, c, ec, rfl⟩
        have ec2 : z.cps.toList[i]? = some c := by
          rw [Array.getElem?_toList]
          exact ec
        have hz3 : ((z.cps.toList.take i).map fun c => V.bl (signOk c)).length < sizeLine := by
          rw [List.length_map, List.length_take]
          refine small3 ?_
          have h3 : i < z.cps.size := hi
          have h4 : z.cps.size = z.length := rfl
          omega
        refine ⟨rfl, _, rfl, _, _, rfl, rfl, _, rfl, ?_⟩
        have hs : signOk c = if (!decide ((⟨#[c]⟩ : Str).cps.toList < ("a" : Str).cps.toList)) = true then (!decide (("z" : Str).cps.toList < (⟨#[c]⟩ : Str).cps.toList)) else false := rfl
        refine ite2 (fun h5 => ?_) (fun h5 => ?_)
        · rw [if_pos h5] at hs
          refine ⟨_, _, rfl, rfl, _, e1, hz3, same_mut s1 hD, ?_⟩
          rw [upd_same, take_at ec2, List.map_append, ← hs]
          rfl
        · rw [if_neg h5] at hs
          refine ⟨_, e1, hz3, same_mut s1 hD, ?_⟩
          rw [upd_same, take_at ec2, List.map_append, ← hs]
          rfl
      · rintro H1 ⟨s1, e1⟩
        refine ⟨D, z.cps.toList.map signOk, rfl, SqL.of ?_, k _ s1⟩
        rw [e1, ← Array.length_toList, List.take_length, List.map_map]
        rfl
    · rw [decide_eq_false h2]
      rw [hlast false (decide_eq_false h2)] at k
      exact iteT (k _ (Same.refl _))
  · rw [if_neg h1] at hlast
    rw [hlast false rfl] at k
    exact ⟨false, rfl, iteT (k _ (Same.refl _))⟩
def spIsKind : Sp := fun vs H Q _ => ∃ z : Str, vs = [.str z] ∧ z.length ≤ 1000 ∧ ∀ H', Same H H' → Q (.bl (kindOk z)) H'
theorem ok_is_kind : FnR P w K mg base CX0 2 (a_is_kind K) spIsKind := by
  refine fnR0 (d := d_is_kind) T.F_is_kind sc_is_kind rfl (fun _ _ _ _ _ _ us hl => match us, hl with | [_], _ => rfl) (fun vs H Q E h => ?_) (fun cdv A outer s H vs Q E hr h => ?_)
  · obtain ⟨z, rfl, _⟩ := h
    rfl
  obtain ⟨z, rfl, hz, k⟩ := h
  refine ⟨_, (pss_one (ps_ret (pe_and (pe_cR (ok_is_label T) (hr.mono (by decide)) T.F_is_label.kp T.g_is_label pass0 (pa_cons (pv 0) pa_nil)) (pe_one (pe_cmpR op_ne (pv 0) (pe_cS T.c_DRINK) (nomark _)))))), ?_⟩
  refine ⟨_, rfl, z, rfl, hz, fun H1 s1 => ⟨_, rfl, ?_⟩⟩
  unfold kindOk at k
  refine ite2 (fun h1 => ?_) (fun h1 => ?_)
  · rw [if_pos h1] at k
    refine ⟨_, rfl, rfl, ?_⟩
    have e : decide (V.str z = V.str "drink") = decide (z = "drink") := decide_eq_decide.mpr ⟨V.str.inj, fun y => by rw [y]⟩
    show Q (V.bl !decide (V.str z = V.str "drink")) H1
    rw [e]
    exact k _ s1
  · rw [if_neg h1] at k
    exact k _ s1
def spIsTrade : Sp := fun vs H Q _ => ∃ t : Tr, vs = t.vs ∧ t.k.length ≤ 1000 ∧ ∀ H', Same H H' → Q (.bl (trOk t)) H'
theorem ok_is_trade : FnR P w K mg base CX0 3 (a_is_trade K) spIsTrade := by
  refine fnR0 (d := d_is_trade) T.F_is_trade sc_is_trade rfl (fun _ _ _ _ _ _ us hl => match us, hl with | [_, _, _], _ => rfl) (fun vs H Q E h => ?_) (fun cdv A outer s H vs Q E hr h => ?_)
  · obtain ⟨t, rfl, _⟩ := h
    rfl
  obtain ⟨t, rfl, hz, k⟩ := h
  obtain ⟨uE, hE⟩ := T.v_Offer_MAX_NEEDED
  refine ⟨_, (pss_one (ps_ret (pe_and (pe_cR (ok_is_kind T) (hr.mono (by decide)) T.F_is_kind.kp T.g_is_kind pass0 (pa_cons (pv 0) pa_nil)) (pe_and (pe_cR (ok_is_number T) (hr.mono (by decide)) T.F_is_number.kp T.g_is_number pass0 (pa_cons (pv 1) (pa_cons pe_int (pa_cons (pe_cI T.c_MAX_LEFT) pa_nil)))) (pe_one (pe_cR (ok_is_number T) (hr.mono (by decide)) T.F_is_number.kp T.g_is_number pass0 (pa_cons (pv 2) (pa_cons pe_int (pa_cons (ClX.pe_cval (pe_cC T.g_Offer)) pa_nil))))))))), ?_⟩
  refine ⟨_, rfl, t.k, rfl, hz, fun H1 s1 => ⟨_, rfl, ?_⟩⟩
  unfold trOk at k
  refine ite2 (fun h1 => ?_) (fun h1 => ?_)
  · rw [if_pos h1] at k
    refine ⟨_, rfl, t.l, 0, 12, rfl, _, rfl, ite2 (fun h2 => ?_) (fun h2 => ?_)⟩
    · rw [if_pos h2] at k
      exact ⟨_, rfl, He.ga K "Offer", _, _, _, rfl, T.r_Offer, hE, t.n, 1, 12, rfl, k _ s1⟩
    · rw [if_neg h2] at k
      exact k _ s1
  · rw [if_neg h1] at k
    exact k _ s1
end
end EB

namespace EB
open PySem PySem.Spec PyProof.Rows L2
/-! ### the mathematics of offers -/
abbrev cN (ts : List Tr) : Nat → Int := fun d => cost ts (d : Int)
def worth (ts : List Tr) : Int := (ts.map fun t => 27720 / t.n * t.l).sum
/-- a good offer: at most three trades in range, together not too generous -/
structure Fair (ts : List Tr) : Prop where
  g : gds ts
  w : 10 * worth ts ≤ 9 * 27720
theorem dvd_big {n : Int} (h1 : 1 ≤ n) (h2 : n ≤ 12) : n ∣ 27720 := by
  have h : n = 1 ∨ n = 2 ∨ n = 3 ∨ n = 4 ∨ n = 5 ∨ n = 6 ∨ n = 7 ∨ n = 8 ∨ n = 9 ∨ n = 10 ∨ n = 11 ∨ n = 12 := by omega
  rcases h with rfl | rfl | rfl | rfl | rfl | rfl | rfl | rfl | rfl | rfl | rfl | rfl <;> decide
theorem sum_map_le {α : Type} {f g : α → Int} : ∀ {l : List α}, (∀ x ∈ l, f x ≤ g x) → (l.map f).sum ≤ (l.map g).sum
  | [], _ => Int.le_refl _
  | a :: l, h => by
    have h1 := h a (List.mem_cons_self ..)
    have h2 := sum_map_le (l := l) fun x hx => h x (List.mem_cons_of_mem _ hx)
    rw [List.map_cons, List.map_cons, List.sum_cons, List.sum_cons]
    omega
theorem sum_map_eq {α : Type} {f g : α → Int} : ∀ {l : List α}, (∀ x ∈ l, f x = g x) → (l.map f).sum = (l.map g).sum
  | [], _ => rfl
  | a :: l, h => by
    rw [List.map_cons, List.map_cons, List.sum_cons, List.sum_cons, h a (List.mem_cons_self ..), sum_map_eq (l := l) fun x hx => h x (List.mem_cons_of_mem _ hx)]
theorem sum_map_add {α : Type} {f g : α → Int} : ∀ {l : List α}, (l.map fun x => f x + g x).sum = (l.map f).sum + (l.map g).sum
  | [] => rfl
  | a :: l => by
    rw [List.map_cons, List.map_cons, List.map_cons, List.sum_cons, List.sum_cons, List.sum_cons, sum_map_add (l := l)]
    omega
theorem sum_map_mul {α : Type} {f : α → Int} {k : Int} : ∀ {l : List α}, (l.map fun x => f x * k).sum = (l.map f).sum * k
  | [] => by simp
  | a :: l => by
    rw [List.map_cons, List.map_cons, List.sum_cons, List.sum_cons, sum_map_mul (l := l), Int.add_mul]
theorem fl_mono {l n x y : Int} (hl : 0 ≤ l) (hn : 0 < n) (h : x ≤ y) : l * x / n ≤ l * y / n := Int.ediv_le_ediv hn (Int.mul_le_mul_of_nonneg_left h hl)
theorem fl_super {l n x y : Int} (hn : 0 < n) : l * x / n + l * y / n ≤ l * (x + y) / n := by
  rw [Int.mul_add]
  have h1 := Int.ediv_mul_le (l * x) (Int.ne_of_gt hn)
  have h2 := Int.ediv_mul_le (l * y) (Int.ne_of_gt hn)
  refine Int.le_ediv_of_mul_le hn ?_
  rw [Int.add_mul]
  omega
theorem tr_pos {t : Tr} (h : t.ok) : 0 < t.n := by
  have := h.2.2.1
  omega
/-! periods -/
theorem quo_dvd {t : Tr} (h : t.ok) {d : Nat} : (t.n / ((t.l.natAbs.gcd t.n.natAbs : Nat) : Int)).natAbs ∣ d ↔ t.n ∣ t.l * (d : Int) := by
  obtain ⟨l, hl⟩ := Int.eq_ofNat_of_zero_le h.1
  obtain ⟨n, hn⟩ := Int.eq_ofNat_of_zero_le (Int.le_of_lt (tr_pos h))
  have hp := tr_pos h
  rw [hl, hn]
  rw [hn] at hp
  have hp2 : 0 < n := by omega
  simp only [Int.natAbs_natCast]
  have hg : 0 < l.gcd n := Nat.gcd_pos_of_pos_right _ hp2
  rw [← Int.natCast_ediv, Int.natAbs_natCast]
  have e1 : ((n : Int) ∣ (l : Int) * (d : Int)) ↔ n ∣ l * d := by
    rw [← Int.natCast_mul]
    exact Int.natCast_dvd_natCast
  rw [e1]
  have hn2 : n = n / l.gcd n * l.gcd n := (Nat.div_mul_cancel (Nat.gcd_dvd_right l n)).symm
  have hl2 : l = l / l.gcd n * l.gcd n := (Nat.div_mul_cancel (Nat.gcd_dvd_left l n)).symm
  have co : Nat.Coprime (n / l.gcd n) (l / l.gcd n) := (Nat.coprime_div_gcd_div_gcd hg).symm
  constructor
  · rintro ⟨k, rfl⟩
    refine ⟨l / l.gcd n * k, ?_⟩
    have : l * (n / l.gcd n * k) = (l / l.gcd n * l.gcd n) * (n / l.gcd n * k) := by rw [← hl2]
    rw [this]
    have : n * (l / l.gcd n * k) = (n / l.gcd n * l.gcd n) * (l / l.gcd n * k) := by rw [← hn2]
    rw [this]
    simp only [Nat.mul_comm, Nat.mul_left_comm, Nat.mul_assoc]
  · rintro ⟨k, hk⟩
    refine co.dvd_of_dvd_mul_left (⟨k, ?_⟩ : n / l.gcd n ∣ l / l.gcd n * d)
    refine Nat.eq_of_mul_eq_mul_right hg ?_
    have e2 : l / l.gcd n * d * l.gcd n = l / l.gcd n * l.gcd n * d := by simp only [Nat.mul_comm, Nat.mul_left_comm]
    have e3 : n / l.gcd n * k * l.gcd n = n / l.gcd n * l.gcd n * k := by simp only [Nat.mul_comm, Nat.mul_left_comm]
    rw [e2, e3, ← hl2, ← hn2]
    exact hk
theorem perF_dvd : ∀ (ts : List Tr) (p d : Nat), (∀ t ∈ ts, t.ok) → (ts.foldl perS p ∣ d ↔ p ∣ d ∧ ∀ t ∈ ts, t.n ∣ t.l * (d : Int))
  | [], p, d, _ => by simp
  | t :: ts, p, d, h => by
    rw [List.foldl_cons, perF_dvd ts (perS p t) d fun u hu => h u (List.mem_cons_of_mem _ hu)]
    have e : perS p t ∣ d ↔ p ∣ d ∧ t.n ∣ t.l * (d : Int) := by
      unfold perS
      rw [Nat.lcm_dvd_iff, quo_dvd (h t (List.mem_cons_self ..))]
    rw [e]
    constructor
    · rintro ⟨⟨a, b⟩, c⟩
      refine ⟨a, fun u hu => ?_⟩
      rcases List.mem_cons.mp hu with rfl | hu
      · exact b
      · exact c u hu
    · rintro ⟨a, b⟩
      exact ⟨⟨a, b t (List.mem_cons_self ..)⟩, fun u hu => b u (List.mem_cons_of_mem _ hu)⟩
/-- the period divides just the numbers of drinks that leave whole trades -/
theorem per_dvd {ts : List Tr} (h : gds ts) {d : Nat} : per ts ∣ d ↔ ∀ t ∈ ts, t.n ∣ t.l * (d : Int) := by
  unfold per
  rw [perF_dvd ts 1 d h.2]
  exact ⟨fun z => z.2, fun z => ⟨Nat.one_dvd d, z⟩⟩
theorem perF_pos : ∀ (ts : List Tr) (p : Nat), 0 < p → (∀ t ∈ ts, t.ok) → 0 < ts.foldl perS p
  | [], p, hp, _ => hp
  | t :: ts, p, hp, h => by
    rw [List.foldl_cons]
    refine perF_pos ts _ ?_ fun u hu => h u (List.mem_cons_of_mem _ hu)
    have ht := h t (List.mem_cons_self ..)
    refine Nat.lcm_pos hp ?_
    have h1 := gcd_pos' ht
    have hn := tr_pos ht
    have h3 : ((t.l.natAbs.gcd t.n.natAbs : Nat) : Int) ≤ t.n := by
      have := Nat.gcd_le_right t.l.natAbs (show 0 < t.n.natAbs by omega)
      omega
    have h4 : 0 < t.n / ((t.l.natAbs.gcd t.n.natAbs : Nat) : Int) := Int.ediv_pos_of_pos_of_dvd hn (by omega) (by
      have : t.l.natAbs.gcd t.n.natAbs ∣ t.n.natAbs := Nat.gcd_dvd_right _ _
      exact Int.dvd_natAbs.mp (Int.natCast_dvd_natCast.mpr this))
    omega
theorem per_pos {ts : List Tr} (h : gds ts) : 0 < per ts := perF_pos ts 1 (by omega) h.2
/-! costs -/
theorem ten_buys {ts : List Tr} (f : Fair ts) (d : Nat) : 10 * buys ts d ≤ 9 * (d : Int) := by
  have h1 : buys ts d * 27720 ≤ worth ts * d := by
    unfold buys worth
    rw [← sum_map_mul, ← sum_map_mul]
    refine sum_map_le fun t ht => ?_
    have hn := tr_pos (f.g.2 t ht)
    obtain ⟨q, hq⟩ := dvd_big (f.g.2 t ht).2.2.1 (f.g.2 t ht).2.2.2
    have e1 : 27720 / t.n = q := by
      rw [hq]
      exact Int.mul_ediv_cancel_left _ (Int.ne_of_gt hn)
    have hq0 : 0 ≤ q := by
      rw [← e1]
      exact Int.ediv_nonneg (by omega) (by omega)
    rw [e1, hq]
    have h2 := Int.ediv_mul_le (t.l * (d : Int)) (Int.ne_of_gt hn)
    have h3 := Int.mul_le_mul_of_nonneg_right h2 hq0
    have e2 : t.l * (d : Int) / t.n * (t.n * q) = t.l * (d : Int) / t.n * t.n * q := by rw [Int.mul_assoc]
    have e3 : q * t.l * (d : Int) = t.l * (d : Int) * q := by rw [Int.mul_assoc, Int.mul_comm]
    rw [e2, e3]
    exact h3
  have h2 : worth ts * d ≤ 24948 * (d : Int) := Int.mul_le_mul_of_nonneg_right (by have := f.w; omega) (by omega)
  omega
theorem buys_nonneg {ts : List Tr} (f : gds ts) (d : Nat) : 0 ≤ buys ts d := by
  have h : ((ts.map fun _ => (0 : Int))).sum ≤ buys ts d := sum_map_le fun t ht => Int.ediv_nonneg (Int.mul_nonneg (f.2 t ht).1 (by omega)) (Int.le_of_lt (tr_pos (f.2 t ht)))
  have e : ((ts.map fun _ => (0 : Int))).sum = 0 := by
    have : ∀ l : List Tr, ((l.map fun _ => (0 : Int))).sum = 0 := by
      intro l
      induction l with
      | nil => rfl
      | cons a l ih => rw [List.map_cons, List.sum_cons, ih]; rfl
    exact this ts
  omega
/-- the bottles of a period -/
def perB (ts : List Tr) : Nat := (cN ts (per ts)).toNat
theorem cf {ts : List Tr} (f : Fair ts) : CF (cN ts) (per ts) (perB ts) where
  zero := by
    show (0 : Int) - buys ts 0 = 0
    have : buys ts 0 = 0 := by
      unfold buys
      have e : (ts.map fun t => t.l * 0 / t.n).sum = ((ts.map fun _ => (0 : Int) * 0)).sum := sum_map_eq fun t _ => by rw [Int.mul_zero, Int.zero_ediv]; rfl
      rw [e, sum_map_mul, Int.mul_zero]
    omega
  step := fun d => by
    show ((d + 1 : Nat) : Int) - buys ts ((d + 1 : Nat) : Int) ≤ (d : Int) - buys ts d + 1
    have h : buys ts d ≤ buys ts ((d + 1 : Nat) : Int) := sum_map_le fun t ht => fl_mono (f.g.2 t ht).1 (tr_pos (f.g.2 t ht)) (by omega)
    omega
  per := fun d => by
    have e : buys ts ((d + per ts : Nat) : Int) = buys ts d + buys ts (per ts) := by
      unfold buys
      rw [← sum_map_add]
      refine sum_map_eq fun t ht => ?_
      have hd := (per_dvd f.g (d := per ts)).mp (Nat.dvd_refl _) t ht
      rw [Int.natCast_add, Int.mul_add]
      exact Int.add_ediv_of_dvd_right hd
    have h10 := ten_buys f (per ts)
    have hB : ((perB ts : Nat) : Int) = (per ts : Int) - buys ts (per ts) := by
      unfold perB cN cost
      omega
    show ((d + per ts : Nat) : Int) - buys ts ((d + per ts : Nat) : Int) = (d : Int) - buys ts d + (perB ts : Int)
    rw [e, hB]
    omega
  ppos := per_pos f.g
  ten := fun d => by
    have := ten_buys f d
    show (d : Int) ≤ 10 * ((d : Int) - buys ts d)
    omega
  sub := fun x y => by
    have e : buys ts x + buys ts y ≤ buys ts ((x + y : Nat) : Int) := by
      unfold buys
      rw [← sum_map_add]
      refine sum_map_le fun t ht => ?_
      rw [Int.natCast_add]
      exact fl_super (tr_pos (f.g.2 t ht))
    show ((x + y : Nat) : Int) - buys ts ((x + y : Nat) : Int) ≤ (x : Int) - buys ts x + ((y : Int) - buys ts y)
    omega
theorem perB_eq {ts : List Tr} (f : Fair ts) : ((perB ts : Nat) : Int) = cost ts (per ts) := by
  have h := (cf f).nonneg (per ts)
  unfold perB
  exact Int.toNat_of_nonneg h
theorem perB_le {ts : List Tr} (f : Fair ts) : perB ts ≤ per ts := by
  have h : cost ts (per ts) ≤ (per ts : Int) := (cf f).le_self (per ts)
  have e := perB_eq f
  omega
/-! tables -/
theorem tops_eq {c : Nat → Int} (h0 : c 0 = 0) : ∀ n : Nat, topsF 0 ((List.range (n + 1)).map c) = (List.range (n + 1)).map (T c) ∧ topsM 0 ((List.range (n + 1)).map c) = T c n
  | 0 => by
    constructor
    · show [if (0 : Int) < c 0 then c 0 else 0] = [c 0]
      rw [h0]
      rfl
    · show (if (0 : Int) < c 0 then c 0 else 0) = c 0
      rw [h0]
      rfl
  | n + 1 => by
    obtain ⟨h1, h2⟩ := tops_eq h0 n
    have e : topsM 0 ((List.range (n + 1 + 1)).map c) = T c (n + 1) := by
      rw [List.range_succ, List.map_append, List.map_singleton, topsM_snoc, h2]
      rfl
    refine ⟨?_, e⟩
    rw [List.range_succ, List.map_append, List.map_append, List.map_singleton, List.map_singleton, topsF_snoc, h1, ← e]
    rw [List.range_succ (n := n + 1), List.map_append, List.map_singleton]
theorem firsts_eq {c : Nat → Int} {P B : Nat} (h : CF c P B) : ∀ n : Nat, firstsF 0 [] ((List.range (n + 1)).map (T c)) = (List.range ((T c n).toNat + 1)).map fun k => ((D c k : Nat) : Int)
  | 0 => by
    have e : T c 0 = 0 := h.zero
    show (if T c 0 = ((([] : List Int)).length : Int) then [] ++ [((0 : Nat) : Int)] else []) = _
    rw [e]
    show [((0 : Nat) : Int)] = [((D c 0 : Nat) : Int)]
    rw [h.D_zero]
  | n + 1 => by
    have ih := firsts_eq h n
    have hs := h.T_step n
    have hm := CF.T_mono c (Nat.le_add_right n 1)
    have hn := h.T_nonneg n
    rw [List.range_succ, List.map_append, List.map_singleton, firstsF_snoc, ih]
    simp only [List.length_map, List.length_range, Nat.zero_add]
    by_cases q : T c (n + 1) = (((T c n).toNat + 1 : Nat) : Int)
    · rw [if_pos q]
      have e1 : (T c (n + 1)).toNat = (T c n).toNat + 1 := by omega
      rw [e1, List.range_succ (n := (T c n).toNat + 1), List.map_append, List.map_singleton]
      have e2 : D c ((T c n).toNat + 1) = n + 1 := by
        refine h.D_eq ⟨?_, fun j hj => ?_⟩
        · obtain ⟨j, hj, ej⟩ := CF.T_at c (n + 1)
          rcases Nat.lt_or_eq_of_le hj with z | z
          · have := CF.T_ge c (d := n) (j := j) (by omega)
            omega
          · rw [z] at ej
            omega
        · have := CF.T_ge c (d := n) (j := j) (by omega)
          push_cast
          omega
      rw [e2]
    · rw [if_neg q]
      have e1 : (T c (n + 1)).toNat = (T c n).toNat := by
        push_cast at q
        omega
      rw [e1]
theorem getD_map {f : Nat → Int} {n i : Nat} (h : i < n) : ((List.range n).map f).getD i 0 = f i := by
  rw [List.getD_eq_getElem?_getD, List.getElem?_map, List.getElem?_range h]
  rfl
/-- behind its end the table of the greatest costs goes on as it is said -/
theorem value_tops {c : Nat → Int} {P B : Nat} (h : CF c P B) (d : Nat) : valueAt ((List.range (2 * P)).map (T c)) d P B = T c d := by
  have hp := h.ppos
  unfold valueAt
  simp only [List.length_map, List.length_range]
  by_cases q : (d : Int) < ((2 * P : Nat) : Int)
  · rw [if_pos q, Int.toNat_natCast, getD_map (by omega)]
  · rw [if_neg q]
    obtain ⟨e, he⟩ : ∃ e, d = 2 * P + e := ⟨d - 2 * P, by omega⟩
    have e1 : (d : Int) - ((2 * P : Nat) : Int) = (e : Int) := by omega
    rw [e1, ← Int.natCast_ediv]
    have h1 := Nat.div_add_mod e P
    have h2 := Nat.mod_lt e hp
    have h3 : (e / P + 1) * P = P * (e / P) + P := by rw [Nat.add_mul, Nat.one_mul, Nat.mul_comm]
    have e2 : (d : Int) - (((e / P : Nat) : Int) + 1) * (P : Int) = ((P + e % P : Nat) : Int) := by
      have : (((e / P : Nat) : Int) + 1) * (P : Int) = (((e / P + 1) * P : Nat) : Int) := by push_cast; rfl
      rw [this]
      omega
    rw [e2, Int.toNat_natCast, getD_map (by omega)]
    have e3 : d = P + e % P + (e / P + 1) * P := by omega
    have h5 := h.T_perk (d := P + e % P) (by omega) (e / P + 1)
    rw [← e3] at h5
    rw [h5]
    push_cast
    rfl
theorem value_firsts {c : Nat → Int} {P B : Nat} (h : CF c P B) (n : Nat) : valueAt ((List.range ((T c (2 * P - 1)).toNat + 1)).map fun k => ((D c k : Nat) : Int)) n B P = ((D c n : Nat) : Int) := by
  have hp := h.ppos
  have hb := h.bpos
  have ht : T c (2 * P - 1) = T c (P - 1) + B := by
    have := h.T_per (d := P - 1) (by omega)
    rw [show P - 1 + P = 2 * P - 1 by omega] at this
    exact this
  have h0 := h.T_nonneg (P - 1)
  generalize hL : (T c (2 * P - 1)).toNat + 1 = L
  unfold valueAt
  simp only [List.length_map, List.length_range]
  by_cases q : (n : Int) < (L : Int)
  · rw [if_pos q, Int.toNat_natCast, getD_map (by omega)]
  · rw [if_neg q]
    obtain ⟨e, he⟩ : ∃ e, n = L + e := ⟨n - L, by omega⟩
    have e1 : (n : Int) - (L : Int) = (e : Int) := by omega
    rw [e1, ← Int.natCast_ediv]
    have h1 := Nat.div_add_mod e B
    have h2 := Nat.mod_lt e hb
    have h3 : (e / B + 1) * B = B * (e / B) + B := by rw [Nat.add_mul, Nat.one_mul, Nat.mul_comm]
    obtain ⟨g, hg⟩ : ∃ g, L = B + g := ⟨L - B, by omega⟩
    have e2 : (n : Int) - (((e / B : Nat) : Int) + 1) * (B : Int) = ((g + e % B : Nat) : Int) := by
      have : (((e / B : Nat) : Int) + 1) * (B : Int) = (((e / B + 1) * B : Nat) : Int) := by push_cast; rfl
      rw [this]
      omega
    rw [e2, Int.toNat_natCast, getD_map (by omega)]
    have e3 : n = g + e % B + (e / B + 1) * B := by omega
    have h5 := h.D_perk (n := g + e % B) (by omega) (e / B + 1)
    rw [← e3] at h5
    rw [h5]
    push_cast
    rfl
end EB

namespace EB
open PySem PySem.Spec PyProof.Rows L2
/-! ### what an offer is -/
def nmOk (ts : List Tr) : Prop := (ts.map Tr.k).Nodup ∧ ∀ t ∈ ts, kindOk t.k = true ∧ t.k.length ≤ 1000
def wholeS (d : Nat) (t : Tr) : Nat := d.lcm t.n.natAbs
def wholeF (ts : List Tr) : Nat := ts.foldl wholeS 1
theorem wholeF_le : ∀ (ts : List Tr) (d : Nat), (∀ t ∈ ts, t.ok) → ts.foldl wholeS d ≤ d * 12 ^ ts.length
  | [], d, _ => by simp
  | t :: ts, d, h => by
    have h1 := wholeF_le ts (wholeS d t) fun u hu => h u (List.mem_cons_of_mem _ hu)
    have ht := h t (List.mem_cons_self ..)
    have h2 : wholeS d t ≤ d * 12 := Nat.le_trans (PySem.W.mc_lcm_le _ _) (Nat.mul_le_mul_left _ (by have := ht.2.2.1; have := ht.2.2.2; omega))
    have h3 : wholeS d t * 12 ^ ts.length ≤ d * 12 * 12 ^ ts.length := Nat.mul_le_mul_right _ h2
    rw [List.foldl_cons, List.length_cons, Nat.pow_succ]
    rw [Nat.mul_assoc, Nat.mul_comm 12] at h3
    omega
theorem wholeF_most {ts : List Tr} (h : gds ts) (i : Nat) : (ts.take i).foldl wholeS 1 ≤ 1728 := by
  have h1 := wholeF_le (ts.take i) 1 fun t ht => h.2 t (List.mem_of_mem_take ht)
  have h2 : (ts.take i).length ≤ 3 := by
    rw [List.length_take]
    have := h.1
    omega
  have h3 : 12 ^ (ts.take i).length ≤ 12 ^ 3 := Nat.pow_le_pow_right (by omega) h2
  omega
theorem wholeF_dvd : ∀ (ts : List Tr) (d m : Nat), (ts.foldl wholeS d ∣ m ↔ d ∣ m ∧ ∀ t ∈ ts, t.n.natAbs ∣ m)
  | [], d, m => by simp
  | t :: ts, d, m => by
    rw [List.foldl_cons, wholeF_dvd ts (wholeS d t) m]
    unfold wholeS
    rw [Nat.lcm_dvd_iff]
    constructor
    · rintro ⟨⟨a, b⟩, c⟩
      refine ⟨a, fun u hu => ?_⟩
      rcases List.mem_cons.mp hu with rfl | hu
      · exact b
      · exact c u hu
    · rintro ⟨a, b⟩
      exact ⟨⟨a, b t (List.mem_cons_self ..)⟩, fun u hu => b u (List.mem_cons_of_mem _ hu)⟩
def parts (ts : List Tr) : Int := (ts.map fun t => (wholeF ts : Int) / t.n * t.l).sum
theorem parts_fair {ts : List Tr} (g : gds ts) : 10 * parts ts ≤ 9 * (wholeF ts : Int) ↔ 10 * worth ts ≤ 9 * 27720 := by
  have hd : wholeF ts ∣ 27720 := by
    refine (wholeF_dvd ts 1 27720).mpr ⟨Nat.one_dvd _, fun t ht => ?_⟩
    have := dvd_big (g.2 t ht).2.2.1 (g.2 t ht).2.2.2
    exact Int.natAbs_dvd_natAbs.mpr this
  obtain ⟨k, hk⟩ := hd
  have hk0 : 0 < k := by
    rcases Nat.eq_zero_or_pos k with z | z
    · rw [z] at hk
      omega
    · exact z
  have hw : worth ts = parts ts * k := by
    unfold worth parts
    rw [← sum_map_mul]
    refine sum_map_eq fun t ht => ?_
    have hn := tr_pos (g.2 t ht)
    have h1 : t.n.natAbs ∣ wholeF ts := ((wholeF_dvd ts 1 (wholeF ts)).mp (Nat.dvd_refl _)).2 t ht
    obtain ⟨q, hq⟩ := h1
    have hq2 : (wholeF ts : Int) = t.n * (q : Int) := by
      rw [hq]
      push_cast
      rw [Int.natAbs_of_nonneg (Int.le_of_lt hn)]
    have e1 : (wholeF ts : Int) / t.n = q := by
      rw [hq2]
      exact Int.mul_ediv_cancel_left _ (Int.ne_of_gt hn)
    have e2 : (27720 : Int) / t.n = (q : Int) * k := by
      have : (27720 : Int) = t.n * ((q : Int) * k) := by
        have z : (27720 : Int) = ((wholeF ts * k : Nat) : Int) := by rw [← hk]; rfl
        rw [z]
        push_cast
        rw [hq2, Int.mul_assoc]
      rw [this]
      exact Int.mul_ediv_cancel_left _ (Int.ne_of_gt hn)
    rw [e1, e2, Int.mul_assoc, Int.mul_assoc, Int.mul_comm (k : Int)]
  have hz : (27720 : Int) = (wholeF ts : Int) * k := by
    have z : (27720 : Int) = ((wholeF ts * k : Nat) : Int) := by rw [← hk]; rfl
    rw [z]
    push_cast
    rfl
  have hk1 : (0 : Int) < k := by omega
  rw [hw, hz]
  constructor
  · intro h
    have := Int.mul_le_mul_of_nonneg_right h (Int.le_of_lt hk1)
    rw [Int.mul_assoc, Int.mul_assoc] at this
    exact this
  · intro h
    refine Int.le_of_mul_le_mul_right ?_ hk1
    rw [Int.mul_assoc, Int.mul_assoc]
    exact h
/-- the tables of an offer -/
abbrev topsL (ts : List Tr) : List Int := (List.range (2 * per ts)).map (T (cN ts))
noncomputable abbrev firstsL (ts : List Tr) : List Int := (List.range ((T (cN ts) (2 * per ts - 1)).toNat + 1)).map fun k => ((D (cN ts) k : Nat) : Int)
noncomputable abbrev gapsL (ts : List Tr) : List Int := gapsF (firstsL ts) 0 (topsL ts)
def ofs (t p o f g : Addr) : List (Str × V) := [("_trades", .ref t), ("_period", .ref p), ("_tops", .ref o), ("_firsts", .ref f), ("_gaps", .ref g)]
/-- at a an offer of these trades -/
structure OfAt (K : PySem.W.Frag) (H : Hp) (a : Addr) (ts : List Tr) : Prop where
  ex : ∃ dx t p o f g, H a = some (.ins (He.ga K "Offer") dx (ofs t p o f g)) ∧ TrAt K H t ts ∧ SqT K H p [.int (perB ts : Nat), .int (per ts : Nat)] ∧ SqL K H o ((topsL ts).map V.int) ∧ SqL K H f ((firstsL ts).map V.int) ∧ SqL K H g ((gapsL ts).map V.int)
theorem OfAt.mono {K : PySem.W.Frag} {H H' : Hp} {a : Addr} {ts : List Tr} (s : Same H H') (h : OfAt K H a ts) : OfAt K H' a ts := by
  obtain ⟨dx, t, p, o, f, g, h1, h2, h3, h4, h5, h6⟩ := h.ex
  exact ⟨dx, t, p, o, f, g, s _ _ h1, h2.mono s, Same.tup s h3, s.seq h4, s.seq h5, s.seq h6⟩
section
variable {P : Program} {w : World} {K : PySem.W.Frag} {mg : Str → Option Value} {base : Heap} (T' : Tx K mg)
theorem inV_str {z : Str} {l : List Str} (h : z ∉ l) : inV (.str z) (l.map V.str) = false := by
  unfold inV
  rw [List.any_eq_false]
  intro y hy
  obtain ⟨x, hx, rfl⟩ := List.mem_map.mp hy
  show ¬ ((x == z) = true)
  intro e
  exact h (eq_of_beq e ▸ hx)
theorem flat_str (l : List Str) : (l.map V.str).all flatV = true := by
  rw [List.all_eq_true]
  intro y hy
  obtain ⟨x, hx, rfl⟩ := List.mem_map.mp hy
  rfl
end
section
variable {P : Program} {w : World} {K : PySem.W.Frag} {mg : Str → Option Value} {base : Heap} (T : Tx K mg)
include T
def spChkTr (K : PySem.W.Frag) : Sp := fun vs H Q _ => ∃ (a : Addr) (ts : List Tr), vs = [.ref a] ∧ TrAt K H a ts ∧ gds ts ∧ ts ≠ [] ∧ nmOk ts ∧ ∀ H', Same H H' → Q .non H'
theorem ok_check_trades : FnR P w K mg base CX0 4 (a_check_trades K) (spChkTr K) := by
  refine fnR0 (d := d_check_trades) T.F_check_trades sc_check_trades rfl (fun _ _ _ _ _ _ us hl => match us, hl with | [_], _ => rfl) (fun vs H Q E h => ?_) (fun cdv A outer s H vs Q E hr h => ?_)
  · obtain ⟨a, ts, rfl, _⟩ := h
    rfl
  obtain ⟨a, ts, rfl, hT, hg, hne, hnm, k⟩ := h
  obtain ⟨ps, h1, h2, h3⟩ := hT.ex
  obtain ⟨uE, hE⟩ := T.v_Offer_MAX_TRADES
  refine ⟨_, (pss_cons (ps_if (pt_not (pt_truth (pv 0) (by intro _; rfl))) (pss_one ps_never) pss_nil) (pss_cons (ps_set (i := 1) sc_check_trades.nd rfl (Or.inl rfl) (pe_lst pa_nil)) (pss_one (ps_for PassesOwn.never rfl (pi_enumT (by rfl) T.n_enumerate (pa_cons (pv 0) pa_nil)) (pg_tup rfl (pgs_cons (pg_name (i := 2) sc_check_trades.nd rfl (Or.inl rfl)) (pgs_cons (pg_tup rfl (pgs_cons (pg_name (i := 3) sc_check_trades.nd rfl (Or.inl rfl)) (pgs_cons (pg_name (i := 4) sc_check_trades.nd rfl (Or.inl rfl)) (pgs_cons (pg_name (i := 5) sc_check_trades.nd rfl (Or.inl rfl)) pgs_nil)))) pgs_nil))) (pss_cons (ps_if (PW.pt (pw_or (pt_cmpR op_eq (pv 2) (ClX.pe_cval (pe_cC T.g_Offer)) (nomark _)) (pw_or (pt_cmpR op_in_seq (pv 3) (pv 1) rfl) (pw_or1 (pt_not (pt_val (pe_cR (ok_is_trade T) (hr.mono (by decide)) T.F_is_trade.kp T.g_is_trade pass0 (pa_cons (pv 3) (pa_cons (pv 4) (pa_cons (pv 5) pa_nil)))))))))) (pss_one ps_never) pss_nil) (pss_one (ps_expr (pe_bm PySem.F.plainAttrs_list PySem.F.slot_list_append PySem.F.type_list_append mt_append (pv 1) (pa_cons (pv 3) pa_nil))))))))), ?_⟩
  have hps : (ps.map V.ref).isEmpty = false := by
    cases ps with
    | nil =>
      cases ts with
      | nil => exact absurd rfl hne
      | cons _ _ => cases h2
    | cons _ _ => rfl
  refine ⟨_, rfl, true, .inr (.inl ⟨_, h1, by rw [hps]; rfl⟩), iteF ?_⟩
  refine ⟨Nat.zero_le _, fun p hp => ?_⟩
  refine ⟨_, rfl, a, _, rfl, Same.tup (same_new hp) h1, for_it (walk_enumT (K := K) (a := a) (xs := ps.map V.ref)) (fun i σ H1 => Same H H1 ∧ H1 p = some (.lst (((ts.take i).map Tr.k).map V.str)) ∧ ∃ x2 x3 x4 x5, σ = [some (.ref a), some (.ref p), x2, x3, x4, x5])
    ⟨same_new hp, upd_same, _, _, _, _, rfl⟩ (fun i σ H1 _ q => Same.tup q.1 h1) ?_ ?_⟩
  · rintro i x σ H1 H2 hi ⟨s1, e1, x2, x3, x4, x5, rfl⟩ ⟨q, u, v, rfl, nq, rfl, eu, ev⟩
    cases eu
    obtain ⟨pt, t, rfl, ep, et, hm, li, hpt⟩ := TrAt.at_ h2 h3 ev
    have s2 : Same H (upd H1 q (.tup [.int (i : Nat), .ref pt])) := s1.trans (same_new nq)
    have e2 := upd_old (u := .tup [.int (i : Nat), .ref pt]) e1 nq
    have ht := hg.2 _ hm
    have hk := hnm.2 _ hm
    refine ⟨q, _, rfl, SqT.of upd_same, rfl, _, _, rfl, _, _, rfl, ⟨pt, _, rfl, Same.tup s2 hpt, rfl, _, _, rfl, _, _, rfl, _, _, rfl, rfl, rfl, ?_⟩⟩
    refine ⟨_, rfl, He.ga K "Offer", _, _, _, rfl, T.r_Offer, hE, rfl, _, rfl, ite2 (fun hd => ?_) (fun _ => ?_)⟩
    · have hd := V.int.inj (of_decide_eq_true hd)
      have := hg.1
      omega
    have hnotin : t.k ∉ (ts.take i).map Tr.k := by
      intro hin
      have hnd : ((ts.take (i + 1)).map Tr.k).Nodup := (hnm.1.sublist ((List.take_sublist _ _).map _))
      rw [take_at et, List.map_append, List.nodup_append] at hnd
      exact hnd.2.2 _ hin _ (List.mem_singleton.mpr rfl) rfl
    refine ⟨_, rfl, _, rfl, p, _, rfl, .inl (SqL.of e2), rfl, flat_str _, _, rfl, ite2 (fun hd => ?_) (fun _ => ?_)⟩
    · rw [if_neg Bool.false_ne_true, inV_str hnotin] at hd
      cases hd
    refine ⟨_, rfl, _, rfl, _, rfl, t, rfl, hk.2, fun H3 s3 => ⟨_, rfl, ?_⟩⟩
    rw [trOk_of ht hk.1]
    refine iteF ?_
    have e3 := s3 _ _ e2
    refine ⟨_, rfl, .inl ⟨rfl, _, SqL.of e3⟩, _, rfl, p, _, _, rfl, rfl, e3, small3 ?_, same_mut (s2.trans s3) hp, ?_, _, _, _, _, rfl⟩
    · rw [List.length_map, List.length_map, List.length_take]
      have := hg.1
      omega
    · rw [upd_same, take_at et, List.map_append, List.map_append]
      rfl
  · rintro σ H1 ⟨s1, e1, x2, x3, x4, x5, rfl⟩
    exact k _ s1
def spChkGen (K : PySem.W.Frag) : Sp := fun vs H Q _ => ∃ (a : Addr) (ts : List Tr), vs = [.ref a] ∧ TrAt K H a ts ∧ Fair ts ∧ ∀ H', Same H H' → Q .non H'
theorem ok_check_generosity : FnR P w K mg base CX0 1 (a_check_generosity K) (spChkGen K) := by
  refine fnR0 (d := d_check_generosity) T.F_check_generosity sc_check_generosity rfl (fun _ _ _ _ _ _ us hl => match us, hl with | [_], _ => rfl) (fun vs H Q E h => ?_) (fun cdv A outer s H vs Q E hr h => ?_)
  · obtain ⟨a, ts, rfl, _⟩ := h
    rfl
  obtain ⟨a, ts, rfl, hT, hf, k⟩ := h
  obtain ⟨ps, h1, h2, h3⟩ := hT.ex
  refine ⟨_, (pss_cons (ps_set (i := 1) sc_check_generosity.nd rfl (Or.inr rfl) pe_int) (pss_cons (ps_for PassesOwn.never rfl (pi_tup (pv 0)) (pg_tup rfl (pgs_cons (pg_name (i := 2) sc_check_generosity.nd rfl (Or.inl rfl)) (pgs_cons (pg_name (i := 2) sc_check_generosity.nd rfl (Or.inl rfl)) (pgs_cons (pg_name (i := 3) sc_check_generosity.nd rfl (Or.inl rfl)) pgs_nil)))) (pss_one (ps_set (i := 1) sc_check_generosity.nd rfl (Or.inr rfl) (pe_callBfun cr_lcm (by rfl) T.b_lcm (pa_cons (pv 1) (pa_cons (pv 3) pa_nil)))))) (pss_cons (ps_set (i := 4) sc_check_generosity.nd rfl (Or.inl rfl) (pe_callB (cr_sum rfl) (by rfl) T.n_sum (by decide +kernel) (pa_cons (pe_lc (own := [("_", 2), ("left", 5), ("needed", 3)]) rfl sc_check_generosity.nd (pi_tup (pv 0)) (blkOk_by (own := [("_", 2), ("left", 5), ("needed", 3)]) (N := N_check_generosity) (sc := defScope s_check_generosity) (by decide +kernel)) (fun _ _ _ _ _ => (pg_tupB (n := 3) (pgs_cons (pg_name (i := 2) sc_check_generosity.nd rfl (Or.inl rfl) (.inr rfl)) (pgs_cons (pg_name (i := 5) sc_check_generosity.nd rfl (Or.inl rfl) (.inr rfl)) (pgs_cons (pg_name (i := 3) sc_check_generosity.nd rfl (Or.inl rfl) (.inr rfl)) pgs_nil))))) (fun _ _ _ _ _ => pts_nil) (fun _ _ _ _ _ => (pe_op op_mul (pe_op op_fdiv (pv 1) (pv 3)) (pv 5)))) pa_nil))) (pss_one (ps_if (pt_cmpR op_gt (pe_op op_mul pe_int (pv 4)) (pe_op op_mul pe_int (pv 1)) (nomark _)) (pss_one ps_never) pss_nil))))), ?_⟩
  refine ⟨_, rfl, a, rfl, ⟨_, h1⟩, for_tup (xs := ps.map V.ref) (fun i σ H1 => H1 = H ∧ ∃ x2 x3 x4 x5, σ = [some (.ref a), some (.int (((ts.take i).foldl wholeS 1 : Nat) : Int)), x2, x3, x4, x5]) ⟨rfl, _, _, _, _, rfl⟩ (fun i σ H1 _ q => by rw [q.1]; exact h1) ?_ ?_⟩
  · rintro i x σ H1 hx ⟨rfl, x2, x3, x4, x5, rfl⟩
    obtain ⟨p, t, rfl, ep, et, hm, li, hp⟩ := TrAt.at_ h2 h3 hx
    have ht := hf.g.2 _ hm
    refine ⟨p, _, rfl, hp, rfl, _, _, rfl, _, _, rfl, _, _, rfl, rfl, ?_⟩
    refine ⟨_, rfl, _, rfl, _, _, rfl, ?_, ?_, rfl, some (.int t.l), some (.int t.n), x4, x5, ?_⟩
    · have := wholeF_most hf.g i
      exact Nat.lt_of_le_of_lt (by omega : _ ≤ 1728) (by decide)
    · have := ht.2.2.1
      have := ht.2.2.2
      exact Nat.lt_of_le_of_lt (by omega : _ ≤ 12) (by decide)
    · rw [take_at et, List.foldl_append]
      rfl
  · rintro σ H1 ⟨rfl, x2, x3, x4, x5, rfl⟩
    have ew : (ts.take (ps.map V.ref).length).foldl wholeS 1 = wholeF ts := by
      rw [List.length_map, h2, List.take_length]
      rfl
    rw [ew]
    have hw : wholeF ts ≤ 1728 := by
      have := wholeF_most hf.g ts.length
      rw [List.take_length] at this
      exact this
    refine ⟨_, rfl, a, rfl, ⟨_, h1⟩, fun D hD => ?_⟩
    refine lc_tup (xs := ps.map V.ref) (fun i H2 => Same H1 H2 ∧ H1 D = none ∧ H2 D = some (.lst ((ts.take i).map fun t => V.int ((wholeF ts : Int) / t.n * t.l)))) ⟨same_new hD, hD, upd_same⟩ (fun i H2 _ q => Same.tup q.1 h1) ?_ ?_
    · rintro i x H2 hx ⟨s1, n1, e1⟩
      obtain ⟨p, t, rfl, ep, et, hm, li, hp⟩ := TrAt.at_ h2 h3 hx
      have ht := hf.g.2 _ hm
      refine ⟨p, _, rfl, Same.tup s1 hp, rfl, _, _, rfl, _, _, rfl, _, _, rfl, rfl, rfl, ?_⟩
      refine ⟨_, rfl, _, rfl, _, _, rfl, rfl, ⟨by have := ht.2.2.1; omega, by have := ht.2.2.2; omega⟩, _, rfl, _, _, rfl, rfl, .inr ⟨by have := ht.1; omega, by have := ht.2.1; omega⟩, ?_⟩
      refine ⟨_, e1, small3 ?_, same_mut s1 n1, n1, ?_⟩
      · rw [List.length_map, List.length_take]
        have := hf.g.1
        omega
      · rw [upd_same, take_at et, List.map_append]
        rfl
    · rintro H2 ⟨s1, n1, e1⟩
      refine ⟨D, ts.map fun t => (wholeF ts : Int) / t.n * t.l, rfl, SqL.of ?_, ?_⟩
      · rw [e1, List.length_map, h2, List.take_length, List.map_map]
        rfl
      · refine ⟨_, rfl, _, _, rfl, rfl, .inl ⟨by decide, by decide⟩, _, rfl, _, _, rfl, rfl, .inl ⟨by decide, by decide⟩, _, _, rfl, rfl, _, rfl, ite2 (fun hd => ?_) (fun _ => k _ s1)⟩
        have hd : 9 * (wholeF ts : Int) < 10 * parts ts := of_decide_eq_true hd
        have := (parts_fair hf.g).mpr hf.w
        omega
end
end EB

namespace EB
open PySem PySem.Spec PyProof.Rows L2
/-! ### a heap with one object left out -/
def hid (H : Hp) (x : Addr) : Hp := fun b => if b = x then none else H b
theorem hid_x {H : Hp} {x : Addr} : hid H x x = none := if_pos rfl
theorem hid_ne {H : Hp} {x b : Addr} (h : b ≠ x) : hid H x b = H b := if_neg h
theorem hid_same {H : Hp} {x : Addr} : Same (hid H x) H := fun b o e => by
  by_cases h : b = x
  · rw [h, hid_x] at e
    cases e
  · rw [hid_ne h] at e
    exact e
theorem same_hid {H0 H : Hp} {x : Addr} (s : Same H0 H) (h : H0 x = none) : Same H0 (hid H x) := fun b o e => by
  rw [hid_ne (ne_of_none e h)]
  exact s b o e
theorem hid_old {H : Hp} {x b : Addr} {o u : HO} (h : H b = some o) (hx : H x = some u) (d : o ≠ u) : hid H x b = some o := by
  rw [hid_ne (ne_of h hx d)]
  exact h
theorem hid_upd {H : Hp} {x : Addr} {o : HO} : hid (upd H x o) x = hid H x := funext fun b => by
  by_cases h : b = x
  · rw [h, hid_x, hid_x]
  · rw [hid_ne h, hid_ne h, upd_ne h]
theorem putF_ne {f g : Str} {v x : V} {r : List (Str × V)} (h : ¬ g = f) : putF f v ((g, x) :: r) = (g, x) :: putF f v r := by
  show (if g = f then _ else _) = _
  rw [if_neg h]
theorem put1 {a : V} : putF "_trades" a [] = ([("_trades", a)] : List (Str × V)) := rfl
theorem put2 {a b : V} : putF "_period" b ([("_trades", a)] : List (Str × V)) = ([("_trades", a), ("_period", b)] : List (Str × V)) := by
  rw [putF_ne (by decide +kernel)]
  rfl
theorem put3 {a b c : V} : putF "_tops" c ([("_trades", a), ("_period", b)] : List (Str × V)) = ([("_trades", a), ("_period", b), ("_tops", c)] : List (Str × V)) := by
  rw [putF_ne (by decide +kernel), putF_ne (by decide +kernel)]
  rfl
theorem put4 {a b c d : V} : putF "_firsts" d ([("_trades", a), ("_period", b), ("_tops", c)] : List (Str × V)) = ([("_trades", a), ("_period", b), ("_tops", c), ("_firsts", d)] : List (Str × V)) := by
  rw [putF_ne (by decide +kernel), putF_ne (by decide +kernel), putF_ne (by decide +kernel)]
  rfl
theorem put5 {a b c d e : V} : putF "_gaps" e ([("_trades", a), ("_period", b), ("_tops", c), ("_firsts", d)] : List (Str × V)) = ([("_trades", a), ("_period", b), ("_tops", c), ("_firsts", d), ("_gaps", e)] : List (Str × V)) := by
  rw [putF_ne (by decide +kernel), putF_ne (by decide +kernel), putF_ne (by decide +kernel), putF_ne (by decide +kernel)]
  rfl
theorem lkN {k g : Str} {v : V} {r : List (Str × V)} (h : (k == g) = false) : ((g, v) :: r).lookup k = r.lookup k := by rw [List.lookup_cons, h]
theorem lkY {k : Str} {v : V} {r : List (Str × V)} : ((k, v) :: r).lookup k = some v := by rw [List.lookup_cons, beq_self_eq_true]
theorem lk_tops {a b c : V} {r : List (Str × V)} : (("_trades", a) :: ("_period", b) :: ("_tops", c) :: r : List (Str × V)).lookup ("_tops" : Str) = some c := by
  rw [lkN (by decide +kernel), lkN (by decide +kernel), lkY]
theorem lk_firsts {a b c d : V} {r : List (Str × V)} : (("_trades", a) :: ("_period", b) :: ("_tops", c) :: ("_firsts", d) :: r : List (Str × V)).lookup ("_firsts" : Str) = some d := by
  rw [lkN (by decide +kernel), lkN (by decide +kernel), lkN (by decide +kernel), lkY]
theorem lk_gaps {a b c d e : V} {r : List (Str × V)} : (("_trades", a) :: ("_period", b) :: ("_tops", c) :: ("_firsts", d) :: ("_gaps", e) :: r : List (Str × V)).lookup ("_gaps" : Str) = some e := by
  rw [lkN (by decide +kernel), lkN (by decide +kernel), lkN (by decide +kernel), lkN (by decide +kernel), lkY]
theorem lk_period {a b : V} {r : List (Str × V)} : (("_trades", a) :: ("_period", b) :: r : List (Str × V)).lookup ("_period" : Str) = some b := by
  rw [lkN (by decide +kernel), lkY]
theorem lk_trades {a : V} {r : List (Str × V)} : (("_trades", a) :: r : List (Str × V)).lookup ("_trades" : Str) = some a := lkY
theorem lk_no {t p o f g : Addr} {m : Str} (h : ((m == "_trades") || ((m == "_period") || ((m == "_tops") || ((m == "_firsts") || (m == "_gaps"))))) = false) : (ofs t p o f g).lookup m = none := by
  obtain ⟨h1, h⟩ := Bool.or_eq_false_iff.mp h
  obtain ⟨h2, h⟩ := Bool.or_eq_false_iff.mp h
  obtain ⟨h3, h⟩ := Bool.or_eq_false_iff.mp h
  obtain ⟨h4, h5⟩ := Bool.or_eq_false_iff.mp h
  unfold ofs
  rw [lkN h1, lkN h2, lkN h3, lkN h4, lkN h5]
  rfl
theorem per_le' {ts : List Tr} (g : gds ts) : per ts ≤ 1728 := by
  have := per_most g ts.length
  rw [List.take_length] at this
  exact this
theorem tops_in {ts : List Tr} (f : Fair ts) : ∀ t ∈ topsL ts, 0 ≤ t ∧ t < (firstsL ts).length := by
  intro t ht
  obtain ⟨d, hd, rfl⟩ := List.mem_map.mp ht
  have h1 := List.mem_range.mp hd
  have h2 := (cf f).T_nonneg d
  have h3 := CF.T_mono (cN ts) (show d ≤ 2 * per ts - 1 by omega)
  refine ⟨h2, ?_⟩
  rw [List.length_map, List.length_range]
  omega
/-- an offer at a whose tables were not there ahead of it -/
structure OfNew (K : PySem.W.Frag) (H0 H : Hp) (a : Addr) (ts : List Tr) : Prop where
  ex : ∃ dx t p o f g, H a = some (.ins (He.ga K "Offer") dx (ofs t p o f g)) ∧ TrAt K H t ts ∧ SqT K H p [.int (perB ts : Nat), .int (per ts : Nat)] ∧ SqL K H o ((topsL ts).map V.int) ∧ SqL K H f ((firstsL ts).map V.int) ∧ SqL K H g ((gapsL ts).map V.int) ∧
    H0 o = none ∧ H0 f = none ∧ H0 g = none
section
variable {P : Program} {w : World} {K : PySem.W.Frag} {mg : Str → Option Value} {base : Heap}
/-- a def whose last parameter takes what is left over -/
theorem fnRS {d : DD} {fd : FuncData} {N ps : List Str} {pv : Str} {k : Nat} {sp : Sp} (F : FnP K d fd) (S : FnScope N (ps ++ [pv]) (defScope d.st)) (e : d.df = [])
    (b : ∀ (kV doc pm : Value) (an : Option Addr) (cdv ct : Value) (us rest : List Value), us.length = ps.length → bindArgs (PySem.W.fnOf d.nm d.ql (defArgs d.st) (defBody d.st) (defScope d.st) .none kV doc pm an cdv ct) ⟨us ++ rest, []⟩ = (newTuple rest >>= fun t => pure (ps.zip us ++ [(pv, t)])))
    (hbody : ∀ (cdv : Value) (A : Around) (outer : List Env) (s : Shared) (H : Hp) (vs : List V) (Q : VK) (E : XK), Room k (A.deeper (envOfC d.ql (defScope d.st) s.heap.objs.size (d.adr K) cdv)) → sp vs H Q E →
      ∃ t, PSs (cxOf CX0 P w K mg base N d.ql (defScope d.st) (d.adr K) cdv A outer s H E).nox (defBody d.st) t ∧ t { nx := fun _ H' => Q .non H', rt := Q } (start N vs) H) :
    FnR P w K mg base CX0 (k + 1) (d.adr K) (fun vs H Q E => ∃ ws rest, vs = ws ++ rest ∧ ws.length = ps.length ∧ rest.length ≤ sizeLine ∧ ∀ p, H p = none → sp (ws ++ [V.ref p]) (upd H p (.tup rest)) Q E) := by
  have z : FnP K d fd := F
  unfold FnP at z
  rw [e] at z
  obtain ⟨oc, od, dV, kV, doc, pm, an, cdv, ct, osl, rfl, lk, hcd, hD, hK⟩ := z.ex
  have hdV : dV = .none := by
    rcases hD with ⟨_, h⟩ | ⟨h, _⟩
    · exact h
    · exact absurd rfl h
  subst hdV
  exact StX.fn_star lk hcd S StX.cxUp_none (fun us rest hl => b kV doc pm an cdv ct us rest hl) fun A outer s H vs Q E hr h => by
    obtain ⟨t, h1, h2⟩ := hbody cdv A outer s H vs Q E hr h
    exact ⟨t, h1.nox, h2⟩
/-- a def called with its first values, the others filled up by its defaults -/
theorem fnRD {d : DD} {fd : FuncData} {N ps : List Str} {k : Nat} {sp : Sp} (F : FnP K d fd) (S : FnScope N ps (defScope d.st)) (n j : Nat) (hd : d.df.map (He.Dv.v K) ≠ []) (hn : n + ((d.df.map (He.Dv.v K)).length - j) = ps.length)
    (b : ∀ (Tt : Addr) (kV doc pm : Value) (an : Option Addr) (cdv ct : Value) (us its : List Value), us.length = n → its.length = (d.df.map (He.Dv.v K)).length →
      ∃ k, bindArgs (PySem.W.fnOf d.nm d.ql (defArgs d.st) (defBody d.st) (defScope d.st) (.ref Tt) kV doc pm an cdv ct) ⟨us, []⟩ = seqItems? (.ref Tt) >>= k ∧ k (some its.toArray) = pure (ps.zip (us ++ its.drop j)))
    (len : ∀ vs H Q E, sp vs H Q E → vs.length = ps.length)
    (hbody : ∀ (cdv : Value) (A : Around) (outer : List Env) (s : Shared) (H : Hp) (vs : List V) (Q : VK) (E : XK), Room k (A.deeper (envOfC d.ql (defScope d.st) s.heap.objs.size (d.adr K) cdv)) → sp vs H Q E →
      ∃ t, PSs (cxOf CX0 P w K mg base N d.ql (defScope d.st) (d.adr K) cdv A outer s H E).nox (defBody d.st) t ∧ t { nx := fun _ H' => Q .non H', rt := Q } (start N vs) H) :
    FnR P w K mg base CX0 (k + 1) (d.adr K) (fun vs H Q E => sp (vs ++ (d.df.map (He.Dv.v K)).drop j) H Q E) := by
  have F1 : FnOk P w K mg base CX0 (k + 1) (d.adr K) fd ps sp := FunD.ok F S len fun cdv A outer s H vs Q E hr h => by
    obtain ⟨t, h1, h2⟩ := hbody cdv A outer s H vs Q E hr h
    exact ⟨t, h1.nox, h2⟩
  obtain ⟨ds, h1, h2⟩ := FunD.binds1 F n j hd hn b
  exact F1.raw h2 h1
end
section
variable {P : Program} {w : World} {K : PySem.W.Frag} {mg : Str → Option Value} {base : Heap} (T : Tx K mg)
include T
def spChkNum : Sp := fun vs H Q _ => ∃ i lo hi : Int, vs = [.int i, .int lo, .int hi] ∧ lo ≤ i ∧ i ≤ hi ∧ Q .non H
def spChkNum1 : Sp := fun vs H Q _ => ∃ i : Int, vs = [.int i] ∧ 0 ≤ i ∧ i ≤ 1000000000000000000 ∧ Q .non H
theorem ok_check_number : FnR P w K mg base CX0 3 (a_check_number K) spChkNum1 := by
  refine (fnRD (d := d_check_number) (sp := spChkNum) (k := 2) (ps := ["value", "least", "most"]) T.F_check_number sc_check_number 1 0 (fun z => nomatch z) rfl (fun _ _ _ _ _ _ _ us its hl hi => match us, its, hl, hi with | [_], [_, _], _, _ => ⟨_, rfl, rfl⟩) (fun vs H Q E h => ?_) (fun cdv A outer s H vs Q E hr h => ?_)).imp fun vs H Q E h => ?_
  · obtain ⟨i, lo, hi, rfl, _⟩ := h
    rfl
  · obtain ⟨i, lo, hi, rfl, h1, h2, k⟩ := h
    refine ⟨_, (pss_one (ps_if (pt_not (pt_val (pe_cR (ok_is_number T) (hr.mono (by decide)) T.F_is_number.kp T.g_is_number pass0 (pa_cons (pv 0) (pa_cons (pv 1) (pa_cons (pv 2) pa_nil)))))) (pss_one ps_never) pss_nil)), ?_⟩
    refine ⟨_, rfl, _, rfl, _, rfl, i, lo, hi, rfl, _, rfl, ?_⟩
    rw [numOk_iff.mpr ⟨h1, h2⟩]
    exact iteF k
  · obtain ⟨i, rfl, h1, h2, k⟩ := h
    exact ⟨i, 0, 1000000000000000000, rfl, h1, h2, k⟩
def spInit (K : PySem.W.Frag) : Sp := fun vs H Q _ => ∃ (x p : Addr) (H0 : Hp) (dx : Addr) (ts : List Tr), vs = [.ref x, .ref p] ∧ Same H0 H ∧ H0 x = none ∧ H x = some (.ins (He.ga K "Offer") dx []) ∧ TrAt K H0 p ts ∧ Fair ts ∧ ts ≠ [] ∧ nmOk ts ∧
  ∀ H', Same H0 H' → OfNew K H0 H' x ts → Q .non H'
theorem ok_Offer_init : FnR P w K mg base CX0 5 (a_Offer_init K) (fun vs H Q E => ∃ ws rest, vs = ws ++ rest ∧ ws.length = 1 ∧ rest.length ≤ sizeLine ∧ ∀ p, H p = none → spInit K (ws ++ [V.ref p]) (upd H p (.tup rest)) Q E) := by
  refine fnRS (d := d_Offer_init) (ps := ["self"]) T.F_Offer_init sc_Offer_init rfl (fun kV doc pm an cdv ct => StX.bind_star1 (B := fun us => bindArgs (PySem.W.fnOf d_Offer_init.nm d_Offer_init.ql (defArgs d_Offer_init.st) (defBody d_Offer_init.st) (defScope d_Offer_init.st) .none kV doc pm an cdv ct) ⟨us, []⟩) (fun _ => rfl) (fun _ _ _ => rfl)) (fun cdv A outer s H vs Q E hr h => ?_)
  obtain ⟨x, p, H0, dx, ts, rfl, s0, n0, hx, hT0, hf, hne, hnm, k⟩ := h
  refine ⟨_, (pss_cons (ps_expr (pe_cR (ok_check_trades T) (hr.mono (by decide)) T.F_check_trades.kp T.g_check_trades pass0 (pa_cons (pv 1) pa_nil))) (pss_cons (ps_expr (pe_cR (ok_check_generosity T) (hr.mono (by decide)) T.F_check_generosity.kp T.g_check_generosity pass0 (pa_cons (pv 1) pa_nil))) (pss_cons (ps_fld (pv 0) (pe_callTy call_tuple_of (by rfl) T.n_tuple (by decide +kernel) (pa_cons (pe_lc (own := [("kind", 3), ("left", 4), ("needed", 5)]) rfl sc_Offer_init.nd (pi_tup (pv 1)) (blkOk_by (own := [("kind", 3), ("left", 4), ("needed", 5)]) (N := N_Offer_init) (sc := defScope s_Offer_init) (by decide +kernel)) (fun _ _ _ _ _ => (pg_tupB (n := 3) (pgs_cons (pg_name (i := 3) sc_Offer_init.nd rfl (Or.inl rfl) (.inr rfl)) (pgs_cons (pg_name (i := 4) sc_Offer_init.nd rfl (Or.inl rfl) (.inr rfl)) (pgs_cons (pg_name (i := 5) sc_Offer_init.nd rfl (Or.inl rfl) (.inr rfl)) pgs_nil))))) (fun _ _ _ _ _ => pts_nil) (fun _ _ _ _ _ => (pe_tup (pa_cons (pv 3) (pa_cons (pv 4) (pa_cons (pv 5) pa_nil)))))) pa_nil)) rfl) (pss_cons (ps_set (i := 2) sc_Offer_init.nd rfl (Or.inl rfl) (pe_cR (ok_drinks_of_period T) (hr.mono (by decide)) T.F_drinks_of_period.kp T.g_drinks_of_period pass0 (pa_cons (pv 1) pa_nil))) (pss_cons (ps_fld (pv 0) (pe_tup (pa_cons (pe_cR (ok_cost_of T) (hr.mono (by decide)) T.F_cost_of.kp T.g_cost_of pass0 (pa_cons (pv 1) (pa_cons (pv 2) pa_nil))) (pa_cons (pv 2) pa_nil))) rfl) (pss_cons (ps_fld (pv 0) (pe_cR (ok_tops_of T) (hr.mono (by decide)) T.F_tops_of.kp T.g_tops_of pass0 (pa_cons (pe_lc (own := [("count", 6)]) rfl sc_Offer_init.nd (pi_range1 rfl T.n_range (pa_cons (pe_op op_mul pe_int (pv 2)) pa_nil)) (blkOk_by (own := [("count", 6)]) (N := N_Offer_init) (sc := defScope s_Offer_init) (by decide +kernel)) (fun _ _ _ _ _ => (pg_name (i := 6) sc_Offer_init.nd rfl (Or.inl rfl) (.inr rfl))) (fun _ _ _ _ _ => pts_nil) (fun _ _ _ _ _ => (pe_cR (ok_cost_of T) (hr.mono (by decide)) T.F_cost_of.kp T.g_cost_of pass0 (pa_cons (pv 1) (pa_cons (pv 6) pa_nil))))) pa_nil)) rfl) (pss_cons (ps_fld (pv 0) (pe_cR (ok_firsts_of T) (hr.mono (by decide)) T.F_firsts_of.kp T.g_firsts_of pass0 (pa_cons (pe_fld (pv 0) rfl) pa_nil)) rfl) (pss_one (ps_fld (pv 0) (pe_cR (ok_gaps_of T) (hr.mono (by decide)) T.F_gaps_of.kp T.g_gaps_of pass0 (pa_cons (pe_fld (pv 0) rfl) (pa_cons (pe_fld (pv 0) rfl) pa_nil))) rfl))))))))), ?_⟩
  -- the checks
  refine ⟨_, rfl, p, ts, rfl, hT0.mono s0, hf.g, hne, hnm, fun H1 s1 => ?_⟩
  refine ⟨_, rfl, p, ts, rfl, hT0.mono (s0.trans s1), hf, fun H2 s2 => ?_⟩
  have s02 : Same H0 H2 := s0.trans (s1.trans s2)
  have hx2 : H2 x = some (.ins (He.ga K "Offer") dx []) := s2 _ _ (s1 _ _ hx)
  obtain ⟨ps, h1, h2, h3⟩ := (hT0.mono s02).ex
  -- the trades
  refine ⟨_, rfl, p, rfl, ⟨_, h1⟩, fun D hD => ?_⟩
  refine lc_tup (xs := ps.map V.ref) (fun i H3 => Same H2 H3 ∧ ∃ qs : List Addr, qs.length = i ∧ H3 D = some (.lst (qs.map V.ref)) ∧ ∀ (j : Nat) (q : Addr) (t : Tr), qs[j]? = some q → ts[j]? = some t → H3 q = some (.tup t.vs))
    ⟨same_new hD, [], rfl, upd_same, fun j q t hq => by cases hq⟩ (fun i H3 _ q => Same.tup q.1 h1) ?_ ?_
  · rintro i y H3 hy ⟨s3, qs, hq1, e3, hq2⟩
    obtain ⟨pt, t, rfl, ep, et, hm, li, hpt⟩ := TrAt.at_ h2 h3 hy
    refine ⟨pt, _, rfl, Same.tup s3 hpt, rfl, _, _, rfl, _, _, rfl, _, _, rfl, rfl, rfl, ?_⟩
    refine ⟨_, rfl, _, rfl, _, rfl, by show 3 ≤ sizeLine; decide, fun q nq => ?_⟩
    have nD : D ≠ q := ne_of_none e3 nq
    refine ⟨_, upd_old e3 nq, small3 (by rw [List.length_map, hq1]; have := hf.g.1; omega), same_mut (s3.trans (same_new nq)) hD, qs ++ [q], by rw [List.length_append, hq1]; rfl, by rw [upd_same, List.map_append]; rfl, fun j q' t' hj ht' => ?_⟩
    rcases Nat.lt_or_ge j qs.length with z | z
    · rw [List.getElem?_append_left z] at hj
      have e4 := upd_old (u := .tup t.vs) (hq2 j q' t' hj ht') nq
      rw [upd_ne (ne_of (upd_old (u := .tup t.vs) (hq2 j q' t' hj ht') nq) (upd_old (u := .tup t.vs) e3 nq) (by intro z; cases z))]
      exact e4
    · rw [List.getElem?_append_right z] at hj
      have ej : j = qs.length := by
        have := lt_of_at hj
        simp only [List.length_singleton] at this
        omega
      rw [ej, Nat.sub_self] at hj
      have eq : q = q' := Option.some.inj hj
      subst eq
      rw [ej, hq1, et] at ht'
      have ett : t = t' := Option.some.inj ht'
      subst ett
      rw [upd_ne nD.symm]
      exact upd_same
  rintro H3 ⟨s3, qs, hq1, e3, hq2⟩
  rw [List.length_map] at hq1
  refine ⟨D, _, rfl, .inl ⟨SqL.of e3, fun l hl => ?_⟩⟩
  have hx3 : H3 x = some (.ins (He.ga K "Offer") dx []) := s3 _ _ hx2
  have hx4 := upd_old (u := .tup (qs.map V.ref)) hx3 hl
  have s04 : Same H0 (upd H3 l (.tup (qs.map V.ref))) := s02.trans (s3.trans (same_new hl))
  refine ⟨_, rfl, x, _, dx, [], rfl, hx4, T.k_Offer, T.na_trades, by show 0 < 1000; decide, ?_⟩
  -- the period
  generalize hH4 : upd H3 l (.tup (qs.map V.ref)) = H4 at hx4 s04
  have e4 : H4 l = some (.tup (qs.map V.ref)) := by rw [← hH4]; exact upd_same
  have q4 : ∀ (j : Nat) (q : Addr) (t : Tr), qs[j]? = some q → ts[j]? = some t → H4 q = some (.tup t.vs) := fun j q t a b => by
    rw [← hH4]
    exact upd_old (hq2 j q t a b) hl
  -- B4: all but the offer itself
  have sB4 : Same H0 (hid H4 x) := same_hid s04 n0
  have tB4 : TrAt K (hid H4 x) l ts := by
    refine ⟨qs, SqT.of (hid_old e4 hx4 (by intro z; cases z)), by rw [hq1, h2], fun j q t a b => SqT.of (hid_old (q4 j q t a b) hx4 (by intro z; cases z))⟩
  have pB4 : TrAt K (hid H4 x) p ts := hT0.mono sB4
  generalize hB4 : hid H4 x = B4 at sB4 tB4 pB4
  have nB4 : B4 x = none := by rw [← hB4]; exact hid_x
  rw [put1]
  have sb5 : Same B4 (upd H4 x (.ins (He.ga K "Offer") dx [("_trades", .ref l)])) := by
    rw [← hB4]
    exact same_mut hid_same hid_x
  generalize hH5 : upd H4 x (.ins (He.ga K "Offer") dx [("_trades", .ref l)]) = H5 at sb5
  have hx5 : H5 x = some (.ins (He.ga K "Offer") dx [("_trades", .ref l)]) := by rw [← hH5]; exact upd_same
  refine ⟨_, rfl, p, ts, rfl, pB4.mono sb5, hf.g, fun H6 s6 => ?_⟩
  refine ⟨_, rfl, _, rfl, p, ts, _, rfl, pB4.mono (sb5.trans s6), hf.g, fun H7 s7 => ⟨_, rfl, by show 2 ≤ sizeLine; decide, fun pp hpp => ?_⟩⟩
  have hx8 := upd_old (u := .tup [.int (cost ts (per ts : Nat)), .int (per ts : Nat)]) (s7 _ _ (s6 _ _ hx5)) hpp
  have sb8 : Same B4 (upd H7 pp (.tup [.int (cost ts (per ts : Nat)), .int (per ts : Nat)])) := sb5.trans (s6.trans (s7.trans (same_new hpp)))
  refine ⟨_, rfl, x, _, dx, _, rfl, hx8, T.k_Offer, T.na_period, by show 1 < 1000; decide, ?_⟩
  rw [put2]
  generalize hH8 : upd H7 pp (.tup [.int (cost ts (per ts : Nat)), .int (per ts : Nat)]) = H8 at hx8 sb8
  have e8 : H8 pp = some (.tup [.int (perB ts : Nat), .int (per ts : Nat)]) := by rw [← hH8, upd_same, perB_eq hf]
  have sB8 : Same B4 (hid H8 x) := same_hid sb8 nB4
  have eB8 : hid H8 x pp = some (.tup [.int (perB ts : Nat), .int (per ts : Nat)]) := hid_old e8 hx8 (by intro z; cases z)
  generalize hB8 : hid H8 x = B8 at sB8 eB8
  have nB8 : B8 x = none := by rw [← hB8]; exact hid_x
  have sb9 : Same B8 (upd H8 x (.ins (He.ga K "Offer") dx [("_trades", .ref l), ("_period", .ref pp)])) := by
    rw [← hB8]
    exact same_mut hid_same hid_x
  generalize hH9 : upd H8 x (.ins (He.ga K "Offer") dx [("_trades", .ref l), ("_period", .ref pp)]) = H9 at sb9
  have hx9 : H9 x = some (.ins (He.ga K "Offer") dx [("_trades", .ref l), ("_period", .ref pp)]) := by rw [← hH9]; exact upd_same
  have hp := per_le' hf.g
  have pB8 : TrAt K B8 p ts := pB4.mono sB8
  -- the tops
  refine ⟨_, rfl, _, _, rfl, rfl, .inl ⟨by decide, by decide⟩, _, rfl, ?_, ?_, fun D2 hD2 => ?_⟩
  · omega
  · omega
  refine lc_range (lo := 0) (n := (2 * (per ts : Int)).toNat) (fun i H10 => Same H9 H10 ∧ H10 D2 = some (.lst (((List.range i).map (cN ts)).map V.int))) ⟨same_new hD2, upd_same⟩ ?_ ?_
  · rintro i H10 hi ⟨s10, e10⟩
    refine ⟨rfl, _, rfl, _, rfl, p, ts, _, rfl, pB8.mono (sb9.trans s10), hf.g, fun H11 s11 => ⟨_, s11 _ _ e10, small3 ?_, same_mut (s10.trans s11) hD2, ?_⟩⟩
    · rw [List.length_map, List.length_map, List.length_range]
      omega
    · rw [upd_same, List.range_succ, List.map_append, List.map_append]
      show _ = some (HO.lst (_ ++ [V.int (cost ts (i : Int))]))
      rw [Int.zero_add]
  rintro H10 ⟨s10, e10⟩
  have en : (2 * (per ts : Int)).toNat = 2 * per ts := by omega
  rw [en] at e10
  obtain ⟨m, hm⟩ : ∃ m, 2 * per ts = m + 1 := ⟨2 * per ts - 1, by have := per_pos hf.g; omega⟩
  have etops : topsF 0 ((List.range (2 * per ts)).map (cN ts)) = topsL ts := by
    unfold topsL
    rw [hm]
    exact (tops_eq (cf hf).zero m).1
  refine ⟨D2, _, rfl, SqL.of e10, by rw [List.length_map, List.length_range]; omega, fun H11 o s11 no e11 => ?_⟩
  rw [etops] at e11
  have hx11 : H11 x = some (.ins (He.ga K "Offer") dx [("_trades", .ref l), ("_period", .ref pp)]) := s11 _ _ (s10 _ _ hx9)
  have sb11 : Same B8 H11 := sb9.trans (s10.trans s11)
  refine ⟨_, rfl, x, _, dx, _, rfl, hx11, T.k_Offer, T.na_tops, by show 2 < 1000; decide, ?_⟩
  rw [put3]
  have sB11 : Same B8 (hid H11 x) := same_hid sb11 nB8
  have eB11 : hid H11 x o = some (.lst ((topsL ts).map V.int)) := hid_old e11 hx11 (by intro z; cases z)
  generalize hB11 : hid H11 x = B11 at sB11 eB11
  have nB11 : B11 x = none := by rw [← hB11]; exact hid_x
  have sb12 : Same B11 (upd H11 x (.ins (He.ga K "Offer") dx [("_trades", .ref l), ("_period", .ref pp), ("_tops", .ref o)])) := by
    rw [← hB11]
    exact same_mut hid_same hid_x
  generalize hH12 : upd H11 x (.ins (He.ga K "Offer") dx [("_trades", .ref l), ("_period", .ref pp), ("_tops", .ref o)]) = H12 at sb12
  have hx12 : H12 x = some (.ins (He.ga K "Offer") dx [("_trades", .ref l), ("_period", .ref pp), ("_tops", .ref o)]) := by rw [← hH12]; exact upd_same
  -- the firsts
  have efirsts : firstsF 0 [] (topsL ts) = firstsL ts := by
    show firstsF 0 [] ((List.range (2 * per ts)).map (EB.T (cN ts))) = (List.range ((EB.T (cN ts) (2 * per ts - 1)).toNat + 1)).map _
    rw [hm]
    exact firsts_eq (cf hf) m
  have ltop : (topsL ts).length ≤ 10000 := by
    rw [List.length_map, List.length_range]
    omega
  refine ⟨_, rfl, x, _, dx, _, _, rfl, hx12, T.k_Offer, T.na_tops, lk_tops, o, topsL ts, rfl, SqL.of (sb12 _ _ eB11), ltop, fun H13 f s13 nf e13 => ?_⟩
  rw [efirsts] at e13
  have hx13 := s13 _ _ hx12
  refine ⟨_, rfl, x, _, dx, _, rfl, hx13, T.k_Offer, T.na_firsts, by show 3 < 1000; decide, ?_⟩
  rw [put4]
  have sB13 : Same B11 (hid H13 x) := same_hid (sb12.trans s13) nB11
  have eB13 : hid H13 x f = some (.lst ((firstsL ts).map V.int)) := hid_old e13 hx13 (by intro z; cases z)
  generalize hB13 : hid H13 x = B13 at sB13 eB13
  have nB13 : B13 x = none := by rw [← hB13]; exact hid_x
  have sb14 : Same B13 (upd H13 x (.ins (He.ga K "Offer") dx [("_trades", .ref l), ("_period", .ref pp), ("_tops", .ref o), ("_firsts", .ref f)])) := by
    rw [← hB13]
    exact same_mut hid_same hid_x
  generalize hH14 : upd H13 x (.ins (He.ga K "Offer") dx [("_trades", .ref l), ("_period", .ref pp), ("_tops", .ref o), ("_firsts", .ref f)]) = H14 at sb14
  have hx14 : H14 x = some (.ins (He.ga K "Offer") dx [("_trades", .ref l), ("_period", .ref pp), ("_tops", .ref o), ("_firsts", .ref f)]) := by rw [← hH14]; exact upd_same
  -- the gaps
  refine ⟨_, rfl, x, _, dx, _, _, rfl, hx14, T.k_Offer, T.na_tops, lk_tops, _, rfl, x, _, dx, _, _, rfl, hx14, T.k_Offer, T.na_firsts, lk_firsts, o, f, topsL ts, firstsL ts, rfl, SqL.of (sb14 _ _ (sB13 _ _ eB11)), SqL.of (sb14 _ _ eB13), ltop, tops_in hf, fun H15 g s15 ng e15 => ?_⟩
  have hx15 := s15 _ _ hx14
  refine ⟨_, rfl, x, _, dx, _, rfl, hx15, T.k_Offer, T.na_gaps, by show 4 < 1000; decide, ?_⟩
  rw [put5]
  have s16 : Same B13 (upd H15 x (.ins (He.ga K "Offer") dx (ofs l pp o f g))) := same_mut (sb14.trans s15) nB13
  have s017 : Same H0 B13 := sB4.trans (sB8.trans (sB11.trans sB13))
  refine k _ (s017.trans s16) ⟨dx, l, pp, o, f, g, upd_same, tB4.mono (sB8.trans (sB11.trans (sB13.trans s16))), SqT.of (s16 _ _ (sB13 _ _ (sB11 _ _ eB8))), SqL.of (s16 _ _ (sB13 _ _ eB11)), SqL.of (s16 _ _ eB13), SqL.of ?_, Same.free (sB4.trans (sB8.trans (sb9.trans s10))) no, Same.free (sB4.trans (sB8.trans (sB11.trans sb12))) nf, Same.free (s017.trans sb14) ng⟩
  rw [upd_ne (ne_of e15 hx15 (by intro z; cases z))]
  exact e15
end
end EB

namespace EB
open PySem PySem.Spec PyProof.Rows L2
/-! ### the source of draws: a list at h, its cells at l -/
def hid2 (H : Hp) (h l : Addr) : Hp := fun b => if b = h ∨ b = l then none else H b
theorem hid2_h {H : Hp} {h l : Addr} : hid2 H h l h = none := if_pos (.inl rfl)
theorem hid2_l {H : Hp} {h l : Addr} : hid2 H h l l = none := if_pos (.inr rfl)
theorem hid2_ne {H : Hp} {h l b : Addr} (h1 : b ≠ h) (h2 : b ≠ l) : hid2 H h l b = H b := if_neg fun z => z.elim h1 h2
theorem hid2_same {H : Hp} {h l : Addr} : Same (hid2 H h l) H := fun b o e => by
  by_cases q : b = h ∨ b = l
  · unfold hid2 at e
    rw [if_pos q] at e
    cases e
  · unfold hid2 at e
    rw [if_neg q] at e
    exact e
theorem same_hid2 {H0 H : Hp} {h l : Addr} (s : Same H0 H) (n1 : H0 h = none) (n2 : H0 l = none) : Same H0 (hid2 H h l) := fun b o e => by
  rw [hid2_ne (ne_of_none e n1) (ne_of_none e n2)]
  exact s b o e
/-- the state of the draws; H0 knows nothing of it -/
structure HS (H0 H : Hp) (h l : Addr) : Prop where
  same : Same H0 H
  nh : H0 h = none
  nl : H0 l = none
  ne : h ≠ l
  ex : ∃ (m i : Int) (ns : List Int), H h = some (.lst [.int m, .ref l, .int i]) ∧ H l = some (.lst (ns.map V.int)) ∧ 0 ≤ m ∧ m < 2147483647 ∧ 0 ≤ i ∧ ns.length ≤ 63
theorem HS.grow {H0 H H' : Hp} {h l : Addr} (x : HS H0 H h l) (s : Same H H') : HS H0 H' h l := by
  obtain ⟨m, i, ns, e1, e2, r⟩ := x.ex
  exact ⟨x.same.trans s, x.nh, x.nl, x.ne, m, i, ns, s _ _ e1, s _ _ e2, r⟩
theorem HS.re {H0 H : Hp} {h l : Addr} (x : HS H0 H h l) : HS (hid2 H h l) H h l := ⟨hid2_same, hid2_h, hid2_l, x.ne, x.ex⟩
theorem HS.sub {H0 H : Hp} {h l : Addr} (x : HS H0 H h l) : Same H0 (hid2 H h l) := same_hid2 x.same x.nh x.nl
theorem HS.tup {K : PySem.W.Frag} {H0 H : Hp} {h l a : Addr} {xs : List V} (x : HS H0 H h l) (t : SqT K H a xs) : SqT K (hid2 H h l) a xs := by
  obtain ⟨m, i, ns, e1, e2, _⟩ := x.ex
  rcases t with (t | ⟨o, t⟩) | t
  · exact .inl (.inl (by rw [hid2_ne (ne_of t e1 (by intro z; cases z)) (ne_of t e2 (by intro z; cases z))]; exact t))
  · exact .inl (.inr ⟨o, by rw [hid2_ne (ne_of t e1 (by intro z; cases z)) (ne_of t e2 (by intro z; cases z))]; exact t⟩)
  · exact .inr t
theorem HS.tr {K : PySem.W.Frag} {H0 H : Hp} {h l a : Addr} {ts : List Tr} (x : HS H0 H h l) (t : TrAt K H a ts) : TrAt K (hid2 H h l) a ts := by
  obtain ⟨ps, h1, h2, h3⟩ := t.ex
  exact ⟨ps, x.tup h1, h2, fun i p t a b => x.tup (h3 i p t a b)⟩
theorem HS.lst {K : PySem.W.Frag} {H0 H : Hp} {h l a : Addr} {xs : List V} (x : HS H0 H h l) (t : SqL K H a xs) (n1 : a ≠ h) (n2 : a ≠ l) : SqL K (hid2 H h l) a xs := by
  rcases t with (t | ⟨o, t⟩) | t
  · exact .inl (.inl (by rw [hid2_ne n1 n2]; exact t))
  · exact .inl (.inr ⟨o, by rw [hid2_ne n1 n2]; exact t⟩)
  · exact .inr t
theorem HS.of_ {K : PySem.W.Frag} {H0 H H1 : Hp} {h l a : Addr} {ts : List Tr} (x : HS H0 H h l) (s : Same H H1) (t : OfNew K H H1 a ts) : OfAt K (hid2 H1 h l) a ts := by
  obtain ⟨dx, t, p, o, f, g, h1, h2, h3, h4, h5, h6, n1, n2, n3⟩ := t.ex
  have y := x.grow s
  obtain ⟨m, i, ns, e1, e2, _⟩ := x.ex
  have q : ∀ b, H b = none → b ≠ h ∧ b ≠ l := fun b n => ⟨(ne_of_none e1 n).symm, (ne_of_none e2 n).symm⟩
  refine ⟨dx, t, p, o, f, g, ?_, y.tr h2, y.tup h3, y.lst h4 (q o n1).1 (q o n1).2, y.lst h5 (q f n2).1 (q f n2).2, y.lst h6 (q g n3).1 (q g n3).2⟩
  rw [hid2_ne (ne_of h1 (s _ _ e1) (by intro z; cases z)) (ne_of h1 (s _ _ e2) (by intro z; cases z))]
  exact h1
theorem ixN_int {n : Nat} {i : Int} (h0 : 0 ≤ i) (h1 : i < n) : ixN n i = some i.toNat := by
  unfold ixN
  rw [if_pos h0, if_pos h1]
section
variable {P : Program} {w : World} {K : PySem.W.Frag} {mg : Str → Option Value} {base : Heap} (T : Tx K mg)
include T
def spMix (K : PySem.W.Frag) : Sp := fun vs H Q _ => ∃ (a : Addr) (ns : List Int) (seed : Int), vs = [.ref a, .int seed] ∧ SqL K H a (ns.map V.int) ∧ ns.length ≤ 63 ∧ 0 ≤ seed ∧ seed < 2147483647 ∧ ∀ H' h l, HS H H' h l → Q (.ref h) H'
theorem ok_law_mix : FnR P w K mg base CX0 1 (a_law_mix K) (spMix K) := by
  refine fnR0 (d := d_law_mix) T.F_law_mix sc_law_mix rfl (fun _ _ _ _ _ _ us hl => match us, hl with | [_, _], _ => rfl) (fun vs H Q E h => ?_) (fun cdv A outer s H vs Q E hr h => ?_)
  · obtain ⟨a, ns, seed, rfl, _⟩ := h
    rfl
  obtain ⟨a, ns, seed, rfl, hS, hl, h0, h1, k⟩ := h
  refine ⟨_, (pss_cons (ps_set (i := 2) sc_law_mix.nd rfl (Or.inl rfl) (pv 1)) (pss_cons (ps_for PassesOwn.never rfl (pi_list (pv 0)) (pg_name (i := 3) sc_law_mix.nd rfl (Or.inl rfl)) (pss_one (ps_set (i := 2) sc_law_mix.nd rfl (Or.inl rfl) (pe_op op_mod (pe_op op_add (pe_op op_add (pe_op op_mul (pv 2) pe_int) (pe_op op_mod (pv 3) pe_int)) pe_int) pe_int)))) (pss_one (ps_ret (pe_lst (pa_cons (pv 2) (pa_cons (pe_callTy call_list_of (by rfl) T.n_list (by decide +kernel) (pa_cons (pv 0) pa_nil)) (pa_cons pe_int pa_nil)))))))), ?_⟩
  refine ⟨_, rfl, _, rfl, a, rfl, ⟨_, hS⟩, for_list (K := K) (a := a) (xs := ns.map V.int) (fun i σ H1 => H1 = H ∧ ∃ (m : Int) (x : Option V), 0 ≤ m ∧ m < 2147483647 ∧ σ = [some (.ref a), some (.int seed), some (.int m), x]) ⟨rfl, seed, none, h0, h1, rfl⟩ (fun i σ H1 _ q => by rw [q.1]; exact hS) ?_ ?_⟩
  · rintro i x σ H1 hx ⟨rfl, m, x3, m0, m1, rfl⟩
    obtain ⟨c, ec, rfl⟩ := int_at hx
    refine ⟨_, rfl, _, _, rfl, rfl, .inr ⟨by decide, by decide⟩, _, rfl, _, _, rfl, rfl, by show (0 : Int) < 2147483629; decide, _, _, rfl, rfl, _, _, rfl, rfl, _, _, rfl, rfl, by show (0 : Int) < 2147483647; decide, rfl, _, some (.int c), ?_, ?_, rfl⟩
    · exact Int.emod_nonneg _ (by decide)
    · exact Int.emod_lt_of_pos _ (by decide)
  · rintro σ H1 ⟨rfl, m, x3, m0, m1, rfl⟩
    refine ⟨_, rfl, _, rfl, a, _, rfl, .inl hS, fun l hl1 => ⟨by show 3 ≤ sizeLine; decide, fun h hh => ?_⟩⟩
    have nh : h ≠ l := fun z => by
      rw [z, upd_same] at hh
      cases hh
    have hh2 : H1 h = none := by
      rw [upd_ne nh] at hh
      exact hh
    refine k _ h l ⟨(same_new hl1).trans (same_new hh), hh2, hl1, nh, m, 0, ns, upd_same, ?_, m0, m1, Int.le_refl _, hl⟩
    rw [upd_ne nh.symm]
    exact upd_same
def spNext : Sp := fun vs H Q _ => ∃ (h l : Addr) (lim : Int) (H0 : Hp), vs = [.ref h, .int lim] ∧ 0 < lim ∧ lim ≤ 2000000000000000000 ∧ HS H0 H h l ∧ ∀ H' r, HS H0 H' h l → 0 ≤ r → r < lim → Q (.int r) H'
theorem ok_law_next : FnR P w K mg base CX0 1 (a_law_next K) spNext := by
  refine fnR0 (d := d_law_next) T.F_law_next sc_law_next rfl (fun _ _ _ _ _ _ us hl => match us, hl with | [_, _], _ => rfl) (fun vs H Q E h => ?_) (fun cdv A outer s H vs Q E hr h => ?_)
  · obtain ⟨h, l, lim, H0, rfl, _⟩ := h
    rfl
  obtain ⟨h, l, lim, H0, rfl, l0, l1, hs, k⟩ := h
  obtain ⟨s0, nh, nl, hne, m, i, ns, eh, el, m0, m1, i0, hl⟩ := hs
  refine ⟨_, (pss_cons (ps_set (i := 2) sc_law_next.nd rfl (Or.inl rfl) (pe_ix ix_list (pe_op op_cat (pe_ix ix_list (pv 0) pe_int (fun _ _ => rfl)) (pe_lst (pa_cons pe_int pa_nil))) (pe_op op_mod (pe_ix ix_list (pv 0) pe_int (fun _ _ => rfl)) (pe_callB (call_max2 rfl) (by rfl) T.n_max (by decide +kernel) (pa_cons pe_int (pa_cons (pe_callB call_len_seq (by rfl) T.n_len PySem.boot_len (pa_cons (pe_ix ix_list (pv 0) pe_int (fun _ _ => rfl)) pa_nil)) pa_nil)))) (fun _ _ => rfl))) (pss_cons (ps_if (pt_cmpR op_ge (pv 2) (pe_op op_pow pe_int pe_int) (nomark _)) (pss_cons (ps_asg (pe_op op_fdivW (pv 2) (pv 1)) (pg_sub (pe_ix ix_list (pv 0) pe_int (fun _ _ => rfl)) (pe_op op_mod (pe_ix ix_list (pv 0) pe_int (fun _ _ => rfl)) (pe_callB call_len_seq (by rfl) T.n_len PySem.boot_len (pa_cons (pe_ix ix_list (pv 0) pe_int (fun _ _ => rfl)) pa_nil))) set_list)) (pss_one (ps_ret (pe_op op_mod (pv 2) (pv 1))))) pss_nil) (pss_cons (ps_asg (pe_op op_mod (pe_op op_add (pe_op op_add (pe_op op_mul (pe_ix ix_list (pv 0) pe_int (fun _ _ => rfl)) pe_int) (pe_op op_mul (pv 2) pe_int)) pe_int) pe_int) (pg_sub (pv 0) pe_int set_list)) (pss_cons (ps_asg (pe_op op_add (pe_ix ix_list (pv 0) pe_int (fun _ _ => rfl)) pe_int) (pg_sub (pv 0) pe_int set_list)) (pss_one (ps_ret (pe_op op_mod (pe_op op_fdiv (pe_ix ix_list (pv 0) pe_int (fun _ _ => rfl)) pe_int) (pv 1)))))))), ?_⟩
  refine ⟨_, rfl, h, _, 1, _, rfl, rfl, SqL.of eh, rfl, by show 1 ≤ sizeLine; decide, fun z hz => ?_⟩
  refine ⟨l, z, _, _, rfl, rfl, upd_old el hz, upd_same, by rw [List.length_map]; exact Nat.le_trans (Nat.succ_le_succ hl) (by decide), fun y hy => ?_⟩
  have eh2 := upd_old (u := .lst (ns.map V.int ++ [.int 0])) (upd_old (u := .lst [.int 0]) eh hz) hy
  have el2 := upd_old (u := .lst (ns.map V.int ++ [.int 0])) (upd_old (u := .lst [.int 0]) el hz) hy
  have s2 : Same H (upd (upd H z (.lst [.int 0])) y (.lst (ns.map V.int ++ [.int 0]))) := (same_new hz).trans (same_new hy)
  have ey : (upd (upd H z (.lst [.int 0])) y (.lst (ns.map V.int ++ [.int 0]))) y = some (.lst (ns.map V.int ++ [.int 0])) := upd_same
  generalize upd (upd H z (.lst [.int 0])) y (.lst (ns.map V.int ++ [.int 0])) = H2 at eh2 el2 s2 ey
  refine ⟨_, rfl, h, _, 2, _, rfl, rfl, SqL.of eh2, rfl, _, rfl, h, _, 1, _, rfl, rfl, SqL.of eh2, rfl, l, _, rfl, .inl (SqL.of el2), 1, _, rfl, ?_⟩
  have hlen : ((ns.map V.int).length : Int) = (ns.length : Int) := by rw [List.length_map]
  rw [hlen]
  have hj : 0 < (if (ns.length : Int) > 1 then (ns.length : Int) else 1) := by split <;> omega
  have hjm : (if (ns.length : Int) > 1 then (ns.length : Int) else 1) ≤ ns.length + 1 := by split <;> omega
  have hj2 : ns ≠ [] → (if (ns.length : Int) > 1 then (ns.length : Int) else 1) = ns.length := fun hn => by
    have : 0 < ns.length := List.length_pos_iff.mpr hn
    split <;> omega
  generalize (if (ns.length : Int) > 1 then (ns.length : Int) else 1) = j at hj hjm hj2
  refine ⟨_, _, rfl, rfl, hj, ?_⟩
  have r0 := Int.emod_nonneg i (Int.ne_of_gt hj)
  have r1 := Int.emod_lt_of_pos i hj
  -- the cell that is read
  obtain ⟨c, hc, hc2⟩ : ∃ c : Int, (ns.map V.int ++ [V.int 0])[(i % j).toNat]? = some (.int c) ∧ (0 < c → ns ≠ []) := by
    by_cases hn : ns = []
    · subst hn
      have : (i % j).toNat = 0 := by
        simp only [List.length_nil] at hjm
        omega
      rw [this]
      exact ⟨0, rfl, fun z => absurd z (by decide)⟩
    · have ej := hj2 hn
      have lt : (i % j).toNat < ns.length := by omega
      refine ⟨ns[(i % j).toNat], ?_, fun _ => hn⟩
      rw [List.getElem?_append_left (by rw [List.length_map]; exact lt), List.getElem?_map, List.getElem?_eq_getElem lt]
      rfl
  refine ⟨y, _, _, .int c, rfl, rfl, SqL.of ey, at_of (j := (i % j).toNat) (by omega) hc, ?_⟩
  refine ⟨_, rfl, _, _, rfl, rfl, ⟨by decide, by decide, by decide⟩, _, _, rfl, rfl, _, rfl, ite2 (fun hd => ?_) (fun hd => ?_)⟩
  · -- a great cell: a digit of it
    have hd : (10 : Int) ^ (18 : Int).toNat ≤ c := of_decide_eq_true hd
    have hc0 : 0 < c := Int.lt_of_lt_of_le (by decide) hd
    have hn := hc2 hc0
    have ej := hj2 hn
    have hp : 0 < ns.length := List.length_pos_iff.mpr hn
    refine ⟨_, rfl, _, rfl, _, _, rfl, rfl, wide_div l0 (b := 64) ?_ (by decide) (by decide), ?_⟩
    · have : lim.natAbs ≤ 2000000000000000000 := by omega
      exact Nat.lt_of_le_of_lt this (by decide)
    refine ⟨_, rfl, h, _, 1, _, rfl, rfl, SqL.of eh2, rfl, _, rfl, h, _, 2, _, rfl, rfl, SqL.of eh2, rfl, _, rfl, h, _, 1, _, rfl, rfl, SqL.of eh2, rfl, l, _, rfl, .inl (SqL.of el2), _, _, rfl, rfl, ?_, ?_⟩
    · show (0 : Int) < ((ns.map V.int).length : Int)
      rw [hlen]
      omega
    rw [hlen]
    have q0 := Int.emod_nonneg i (show (ns.length : Int) ≠ 0 by omega)
    have q1 := Int.emod_lt_of_pos i (show (0 : Int) < ns.length by omega)
    refine ⟨l, _, _, _, rfl, rfl, el2, ixN_int q0 (by rw [List.length_map]; exact q1), ?_⟩
    refine ⟨_, rfl, _, rfl, _, _, rfl, rfl, l0, ?_⟩
    refine k _ _ ⟨same_mut (s0.trans s2) nl, nh, nl, hne, m, i, ns.set (i % (ns.length : Int)).toNat (c / lim), ?_, ?_, m0, m1, i0, by rw [List.length_set]; exact hl⟩ (Int.emod_nonneg _ (Int.ne_of_gt l0)) (Int.emod_lt_of_pos _ l0)
    · rw [upd_ne hne]
      exact eh2
    · rw [upd_same, List.map_set]
  · -- mixed with the cell
    refine ⟨_, rfl, h, _, 0, _, rfl, rfl, SqL.of eh2, rfl, _, _, rfl, rfl, .inr ⟨by decide, by decide⟩, _, rfl, _, _, rfl, rfl, .inr ⟨by decide, by decide⟩, _, _, rfl, rfl, _, _, rfl, rfl, _, _, rfl, rfl, by show (0 : Int) < 2147483647; decide, ?_⟩
    refine ⟨_, rfl, h, _, 0, 0, rfl, rfl, eh2, rfl, ?_⟩
    have b0 : 0 ≤ (m * 48271 + c * 69621 + 11) % 2147483647 := Int.emod_nonneg _ (by decide)
    have b1 : (m * 48271 + c * 69621 + 11) % 2147483647 < 2147483647 := Int.emod_lt_of_pos _ (by decide)
    have e3 : upd H2 h (.lst ([V.int m, .ref l, .int i].set 0 (.int ((m * 48271 + c * 69621 + 11) % 2147483647)))) h = some (.lst [V.int ((m * 48271 + c * 69621 + 11) % 2147483647), .ref l, .int i]) := upd_same
    refine ⟨_, rfl, h, _, 2, _, rfl, rfl, SqL.of e3, rfl, _, _, rfl, rfl, _, rfl, h, _, 2, 2, rfl, rfl, e3, rfl, ?_⟩
    rw [upd_upd]
    have e4 : upd H2 h (.lst ([V.int ((m * 48271 + c * 69621 + 11) % 2147483647), .ref l, .int i].set 2 (.int (i + 1)))) h = some (.lst [V.int ((m * 48271 + c * 69621 + 11) % 2147483647), .ref l, .int (i + 1)]) := upd_same
    refine ⟨_, rfl, h, _, 0, _, rfl, rfl, SqL.of e4, rfl, _, _, rfl, rfl, ⟨by decide, by decide⟩, _, rfl, _, _, rfl, rfl, l0, ?_⟩
    refine k _ _ ⟨same_mut (s0.trans s2) nh, nh, nl, hne, (m * 48271 + c * 69621 + 11) % 2147483647, i + 1, ns, e4, ?_, b0, b1, by omega, hl⟩ (Int.emod_nonneg _ (Int.ne_of_gt l0)) (Int.emod_lt_of_pos _ l0)
    rw [upd_ne hne.symm]
    exact el2
def spBuys (K : PySem.W.Frag) : Sp := fun vs H Q _ => ∃ (a : Addr) (ts : List Tr) (d : Int), vs = [.ref a, .int d] ∧ TrAt K H a ts ∧ gds ts ∧ ∀ H', Same H H' → Q (.int (buys ts d)) H'
theorem ok_law_buys : FnR P w K mg base CX0 1 (a_law_buys K) (spBuys K) := by
  refine fnR0 (d := d_law_buys) T.F_law_buys sc_law_buys rfl (fun _ _ _ _ _ _ us hl => match us, hl with | [_, _], _ => rfl) (fun vs H Q E h => ?_) (fun cdv A outer s H vs Q E hr h => ?_)
  · obtain ⟨a, ts, d, rfl, _⟩ := h
    rfl
  obtain ⟨a, ts, d, rfl, hT, ⟨hlen, hok⟩, k⟩ := h
  obtain ⟨ps, h1, h2, h3⟩ := hT.ex
  refine ⟨_, (pss_one (ps_ret (pe_callB (cr_sum rfl) (by rfl) T.n_sum (by decide +kernel) (pa_cons (pe_lc (own := [("_law_kind", 2), ("_law_left", 3), ("_law_needed", 4)]) rfl sc_law_buys.nd (pi_tup (pv 0)) (blkOk_by (own := [("_law_kind", 2), ("_law_left", 3), ("_law_needed", 4)]) (N := N_law_buys) (sc := defScope s_law_buys) (by decide +kernel)) (fun _ _ _ _ _ => (pg_tupB (n := 3) (pgs_cons (pg_name (i := 2) sc_law_buys.nd rfl (Or.inl rfl) (.inr rfl)) (pgs_cons (pg_name (i := 3) sc_law_buys.nd rfl (Or.inl rfl) (.inr rfl)) (pgs_cons (pg_name (i := 4) sc_law_buys.nd rfl (Or.inl rfl) (.inr rfl)) pgs_nil))))) (fun _ _ _ _ _ => pts_nil) (fun _ _ _ _ _ => (pe_op op_fdiv (pe_op op_mul (pv 3) (pv 1)) (pv 4)))) pa_nil)))), ?_⟩
  refine ⟨_, rfl, a, rfl, ⟨_, h1⟩, fun D hD => ?_⟩
  refine lc_tup (xs := ps.map V.ref) (fun i H1 => Same H H1 ∧ H D = none ∧ H1 D = some (.lst ((ts.take i).map fun t => V.int (t.l * d / t.n)))) ⟨same_new hD, hD, upd_same⟩ (fun i H1 _ q => Same.tup q.1 h1) ?_ ?_
  · rintro i x H1 hx ⟨s1, n1, e1⟩
    obtain ⟨p, t, rfl, ep, et, hm, li, hp⟩ := TrAt.at_ h2 h3 hx
    have ht := hok _ hm
    refine ⟨p, _, rfl, Same.tup s1 hp, rfl, _, _, rfl, _, _, rfl, _, _, rfl, rfl, rfl, ?_⟩
    refine ⟨_, rfl, _, rfl, _, _, rfl, rfl, .inl ⟨by have := ht.1; omega, by have := ht.2.1; omega⟩, _, rfl, _, _, rfl, rfl, ⟨by have := ht.2.2.1; omega, by have := ht.2.2.2; omega⟩, ?_⟩
    refine ⟨_, e1, small3 ?_, same_mut s1 n1, n1, ?_⟩
    · rw [List.length_map, List.length_take]
      omega
    · rw [upd_same, take_at et, List.map_append]
      rfl
  · rintro H1 ⟨s1, n1, e1⟩
    refine ⟨D, ts.map fun t => t.l * d / t.n, rfl, SqL.of ?_, ?_⟩
    · rw [e1, List.length_map, h2, List.take_length, List.map_map]
      rfl
    · exact k _ s1
end
end EB

namespace EB
open PySem PySem.Spec PyProof.Rows L2
theorem HS.keep {H0 H : Hp} {h l b : Addr} {o : HO} (e : H b = some o) (n1 : b ≠ h) (n2 : b ≠ l) : hid2 H h l b = some o := by
  rw [hid2_ne n1 n2]
  exact e
theorem HS.new {H0 H : Hp} {h l b : Addr} (x : HS H0 H h l) (n : H b = none) : b ≠ h ∧ b ≠ l := by
  obtain ⟨m, i, ns, e1, e2, _⟩ := x.ex
  exact ⟨(ne_of_none e1 n).symm, (ne_of_none e2 n).symm⟩
theorem HS.mut {H0 H : Hp} {h l b : Addr} {o : HO} (x : HS H0 H h l) (n : H0 b = none) (n1 : b ≠ h) (n2 : b ≠ l) : HS H0 (upd H b o) h l := by
  obtain ⟨m, i, ns, e1, e2, r⟩ := x.ex
  exact ⟨same_mut x.same n, x.nh, x.nl, x.ne, m, i, ns, by rw [upd_ne n1.symm]; exact e1, by rw [upd_ne n2.symm]; exact e2, r⟩
theorem HS.down {H0 H H' : Hp} {h l : Addr} (x : HS H0 H h l) (y : HS (hid2 H h l) H' h l) : HS H0 H' h l := ⟨x.sub.trans y.same, x.nh, x.nl, x.ne, y.ex⟩
def kinds3 : List Str := ["empty", "cap", "label"]
/-- trades as the law draws them -/
structure Drawn (ts : List Tr) (most largest : Int) : Prop where
  ks : ts.map Tr.k = kinds3.take ts.length
  len : (ts.length : Int) ≤ most
  len3 : ts.length ≤ 3
  each : ∀ t ∈ ts, t.ok ∧ t.n ≤ largest ∧ t.l ≤ t.n
  w : 10 * worth ts ≤ 9 * 27720
theorem Drawn.fair {ts : List Tr} {a b : Int} (d : Drawn ts a b) : Fair ts := ⟨⟨d.len3, fun t ht => (d.each t ht).1⟩, d.w⟩
theorem Drawn.nm {ts : List Tr} {a b : Int} (d : Drawn ts a b) : nmOk ts := by
  have hk : ∀ k ∈ kinds3, kindOk k = true ∧ k.length ≤ 1000 := by decide +kernel
  have hn : kinds3.Nodup := by decide +kernel
  refine ⟨by rw [d.ks]; exact hn.sublist (List.take_sublist _ _), fun t ht => ?_⟩
  have : t.k ∈ ts.map Tr.k := List.mem_map.mpr ⟨t, ht, rfl⟩
  rw [d.ks] at this
  exact hk _ (List.mem_of_mem_take this)
theorem worth_snoc (ts : List Tr) (t : Tr) : worth (ts ++ [t]) = worth ts + 27720 / t.n * t.l := by
  unfold worth
  rw [List.map_append, List.sum_append]
  simp
/-- new tuples, one for each trade -/
def NewTr (H : Hp) (qs : List Addr) (ts : List Tr) : Prop := qs.length = ts.length ∧ ∀ (j : Nat) (q : Addr) (t : Tr), qs[j]? = some q → ts[j]? = some t → H q = some (.tup t.vs)
theorem NewTr.at_ {K : PySem.W.Frag} {H : Hp} {qs : List Addr} {ts : List Tr} {p : Addr} (n : NewTr H qs ts) (h : SqT K H p (qs.map V.ref)) : TrAt K H p ts := ⟨qs, h, n.1, fun i q t a b => SqT.of (n.2 i q t a b)⟩
theorem NewTr.mono {H H' : Hp} {qs : List Addr} {ts : List Tr} (n : NewTr H qs ts) (h : ∀ q xs, H q = some (.tup xs) → H' q = some (.tup xs)) : NewTr H' qs ts := ⟨n.1, fun j q t a b => h _ _ (n.2 j q t a b)⟩
theorem NewTr.snoc {H : Hp} {qs : List Addr} {ts : List Tr} {q : Addr} {t : Tr} (n : NewTr H qs ts) (h : H q = some (.tup t.vs)) : NewTr H (qs ++ [q]) (ts ++ [t]) := by
  refine ⟨by rw [List.length_append, List.length_append, n.1]; rfl, fun j q' t' hj ht' => ?_⟩
  rcases Nat.lt_or_ge j qs.length with z | z
  · rw [List.getElem?_append_left z] at hj
    rw [List.getElem?_append_left (by rw [← n.1]; exact z)] at ht'
    exact n.2 j q' t' hj ht'
  · rw [List.getElem?_append_right z] at hj
    rw [List.getElem?_append_right (by rw [← n.1]; exact z)] at ht'
    have ej : j - qs.length = 0 := by
      have := lt_of_at hj
      simp only [List.length_singleton] at this
      omega
    rw [ej] at hj
    rw [← n.1, ej] at ht'
    cases Option.some.inj hj
    cases Option.some.inj ht'
    exact h
theorem HS.keepT {H : Hp} {h l q : Addr} {xs : List V} {H0 : Hp} (x : HS H0 H h l) (e : H q = some (.tup xs)) : hid2 H h l q = some (.tup xs) := by
  obtain ⟨m, i, ns, e1, e2, _⟩ := x.ex
  exact HS.keep (H0 := H0) e (ne_of e e1 (by intro z; cases z)) (ne_of e e2 (by intro z; cases z))
section
variable {P : Program} {w : World} {K : PySem.W.Frag} {mg : Str → Option Value} {base : Heap} (T : Tx K mg)
include T
def spTrades (K : PySem.W.Frag) : Sp := fun vs H Q _ => ∃ (h l : Addr) (most largest : Int) (H0 : Hp), vs = [.ref h, .int most, .int largest] ∧ 1 ≤ most ∧ most ≤ 3 ∧ 1 ≤ largest ∧ largest ≤ 12 ∧ HS H0 H h l ∧
  ∀ H' p ts, HS H0 H' h l → TrAt K H' p ts → ts ≠ [] → Drawn ts most largest → Q (.ref p) H'
theorem ok_law_trades : FnR P w K mg base CX0 2 (a_law_trades K) (spTrades K) := by
  refine fnR0 (d := d_law_trades) T.F_law_trades sc_law_trades rfl (fun _ _ _ _ _ _ us hl => match us, hl with | [_, _, _], _ => rfl) (fun vs H Q E h => ?_) (fun cdv A outer s H vs Q E hr h => ?_)
  · obtain ⟨h, l, most, largest, H0, rfl, _⟩ := h
    rfl
  obtain ⟨h, l, most, largest, H0, rfl, m1, m3, g1, g12, hs, k⟩ := h
  refine ⟨_, (pss_cons (ps_par (i := 3) (j := 4) (by rfl) sc_law_trades.nd rfl rfl (by decide) rfl rfl (pa_cons (pe_lst pa_nil) (pa_cons pe_int pa_nil)) (by rfl)) (pss_cons (ps_for PassesOwn.never rfl (pi_list (pe_slice sl_list (pe_lst (pa_cons pe_str (pa_cons pe_str (pa_cons pe_str pa_nil)))) po_none (po_some (pe_op op_add pe_int (pe_cR (ok_law_next T) (hr.mono (by decide)) T.F_law_next.kp T.g_law_next pass0 (pa_cons (pv 0) (pa_cons (pv 1) pa_nil))))))) (pg_name (i := 5) sc_law_trades.nd rfl (Or.inl rfl)) (pss_cons (ps_set (i := 6) sc_law_trades.nd rfl (Or.inl rfl) (pe_op op_add pe_int (pe_cR (ok_law_next T) (hr.mono (by decide)) T.F_law_next.kp T.g_law_next pass0 (pa_cons (pv 0) (pa_cons (pv 2) pa_nil))))) (pss_cons (ps_set (i := 7) sc_law_trades.nd rfl (Or.inl rfl) (pe_cR (ok_law_next T) (hr.mono (by decide)) T.F_law_next.kp T.g_law_next pass0 (pa_cons (pv 0) (pa_cons (pe_op op_add (pv 6) pe_int) pa_nil)))) (pss_cons (ps_while PassesOwn.never (pt_cmpR op_gt (pe_op op_mul pe_int (pe_op op_add (pe_op op_mul (pv 4) (pv 6)) (pe_op op_mul (pv 7) pe_int))) (pe_op op_mul (pe_op op_mul pe_int pe_int) (pv 6)) (nomark _)) (pss_one (ps_set (i := 7) sc_law_trades.nd rfl (Or.inl rfl) (pe_op op_sub (pv 7) pe_int)))) (pss_cons (ps_set (i := 4) sc_law_trades.nd rfl (Or.inl rfl) (pe_op op_add (pv 4) (pe_op op_fdiv (pe_op op_mul (pv 7) pe_int) (pv 6)))) (pss_one (ps_expr (pe_bm PySem.F.plainAttrs_list PySem.F.slot_list_append PySem.F.type_list_append mt_append (pv 3) (pa_cons (pe_tup (pa_cons (pv 5) (pa_cons (pv 7) (pa_cons (pv 6) pa_nil)))) pa_nil))))))))) (pss_one (ps_ret (pe_callTy call_tuple_of (by rfl) T.n_tuple (by decide +kernel) (pa_cons (pv 3) pa_nil)))))), ?_⟩
  refine ⟨Nat.zero_le _, fun F hF => ⟨_, _, rfl, ?_⟩⟩
  have nF := hs.new hF
  have n0F : H0 F = none := hs.same.free hF
  have hsA := hs.grow (same_new (u := .lst []) hF)
  refine ⟨by show 3 ≤ sizeLine; decide, fun L hL => ?_⟩
  have nL := hsA.new hL
  have nFL : F ≠ L := ne_of_none upd_same hL
  have hsB := hsA.grow (same_new (u := .lst [.str "empty", .str "cap", .str "label"]) hL)
  have eF : upd (upd H F (.lst [])) L (.lst [.str "empty", .str "cap", .str "label"]) F = some (.lst []) := by
    rw [upd_ne nFL]
    exact upd_same
  have eL : upd (upd H F (.lst [])) L (.lst [.str "empty", .str "cap", .str "label"]) L = some (.lst (kinds3.map V.str)) := upd_same
  have n0L : H0 L = none := hsA.same.free hL
  generalize upd (upd H F (.lst [])) L (.lst [.str "empty", .str "cap", .str "label"]) = HB at hsB eF eL
  refine ⟨_, rfl, _, rfl, h, l, most, hid2 HB h l, rfl, by omega, by omega, hsB.re, fun HC r hsC r0 r1 => ⟨_, _, rfl, rfl, _, rfl, L, _, rfl, SqL.of (hsC.same _ _ (HS.keep (H0 := H0) eL nL.1 nL.2)), fun p hp => ?_⟩⟩
  have eFC : HC F = some (.lst []) := hsC.same _ _ (HS.keep (H0 := H0) eF nF.1 nF.2)
  have hsC' : HS H0 HC h l := hsB.down hsC
  have np := hsC'.new hp
  have n0p : H0 p = none := hsC'.same.free hp
  have npF : p ≠ F := (ne_of_none eFC hp).symm
  -- the kinds that are gone through
  obtain ⟨n, hn, hn1, hn3⟩ : ∃ n : Nat, (1 + r) = (n : Int) ∧ 1 ≤ n ∧ n ≤ 3 := ⟨(1 + r).toNat, by omega, by omega, by omega⟩
  have hnm : (n : Int) ≤ most := by omega
  have ecut : cutV (kinds3.map V.str) none (some (1 + r)) = (kinds3.take n).map V.str := by
    rw [hn]
    unfold cutV
    rw [HT.sIx_none, HT.sIx_nat]
    have hl3 : (kinds3.map V.str).length = 3 := rfl
    rw [hl3, Nat.min_eq_left hn3, Nat.sub_zero, List.drop_zero, List.map_take]
  rw [ecut]
  have hsD := hsC'.grow (same_new (u := .lst ((kinds3.take n).map V.str)) hp)
  have eFD : upd HC p (.lst ((kinds3.take n).map V.str)) F = some (.lst []) := by
    rw [upd_ne npF.symm]
    exact eFC
  have epD : upd HC p (.lst ((kinds3.take n).map V.str)) p = some (.lst ((kinds3.take n).map V.str)) := upd_same
  generalize upd HC p (.lst ((kinds3.take n).map V.str)) = HD at hsD eFD epD
  refine ⟨p, rfl, ⟨_, SqL.of epD⟩, for_list (K := K) (a := p) (xs := (kinds3.take n).map V.str) (fun i σ H1 => HS H0 H1 h l ∧ H1 p = some (.lst ((kinds3.take n).map V.str)) ∧ ∃ (ts : List Tr) (qs : List Addr) (x5 x6 x7 : Option V),
      ts.length = i ∧ H1 F = some (.lst (qs.map V.ref)) ∧ NewTr H1 qs ts ∧ (i ≤ n → ts.map Tr.k = kinds3.take i) ∧ (∀ t ∈ ts, t.ok ∧ t.n ≤ largest ∧ t.l ≤ t.n) ∧ 10 * worth ts ≤ 9 * 27720 ∧ 0 ≤ worth ts ∧
      σ = [some (.ref h), some (.int most), some (.int largest), some (.ref F), some (.int (worth ts)), x5, x6, x7])
    ⟨hsD, epD, [], [], none, none, none, rfl, eFD, ⟨rfl, fun j q t a => (by cases a)⟩, fun _ => rfl, fun t ht => (by cases ht), by decide, by decide, rfl⟩ (fun i σ H1 _ q => SqL.of q.2.1) ?_ ?_⟩
  · rintro i x σ H1 hx ⟨hs1, ep1, ts, qs, x5, x6, x7, hti, eF1, hnt, hks, hall, hw, hw0, rfl⟩
    have hin : i < n := by
      have := lt_of_at hx
      rw [List.length_map, List.length_take] at this
      omega
    obtain ⟨kd, ekd, rfl⟩ : ∃ kd, (kinds3.take n)[i]? = some kd ∧ x = .str kd := by
      rw [List.getElem?_map] at hx
      cases e : (kinds3.take n)[i]? with
      | none =>
        rw [e] at hx
        cases hx
      | some kd =>
        rw [e] at hx
        exact ⟨kd, rfl, (Option.some.inj hx).symm⟩
    have ekd2 : kinds3[i]? = some kd := by
      rw [List.getElem?_take] at ekd
      rw [if_pos hin] at ekd
      exact ekd
    -- needed
    refine ⟨_, rfl, _, rfl, h, l, largest, hid2 H1 h l, rfl, by omega, by omega, hs1.re, fun H2 r2 hs2 r20 r21 => ⟨_, _, rfl, rfl, ?_⟩⟩
    have hs2' := hs1.down hs2
    have ep2 := hs2.same _ _ (HS.keep (H0 := H0) ep1 np.1 np.2)
    have eF2 := hs2.same _ _ (HS.keep (H0 := H0) eF1 nF.1 nF.2)
    have hnt2 := hnt.mono fun q xs e => hs2.same _ _ (hs1.keepT e)
    -- left
    refine ⟨_, rfl, _, rfl, _, _, rfl, rfl, h, l, (1 + r2) + 1, hid2 H2 h l, rfl, by omega, by omega, hs2'.re, fun H3 r3 hs3 r30 r31 => ?_⟩
    have hs3' := hs2'.down hs3
    have ep3 := hs3.same _ _ (HS.keep (H0 := H0) ep2 np.1 np.2)
    have eF3 := hs3.same _ _ (HS.keep (H0 := H0) eF2 nF.1 nF.2)
    have hnt3 := hnt2.mono fun q xs e => hs3.same _ _ (hs2'.keepT e)
    obtain ⟨nd, hnd⟩ : ∃ nd : Int, nd = 1 + r2 := ⟨_, rfl⟩
    have nd1 : 1 ≤ nd := by omega
    have nd2 : nd ≤ 12 := by omega
    have e27 : (9 : Int) * 27720 * nd = 249480 * nd := rfl
    refine ⟨fun m σ H => H = H3 ∧ ∃ lf : Int, 0 ≤ lf ∧ lf ≤ r3 ∧ m = lf.toNat ∧ σ = [some (.ref h), some (.int most), some (.int largest), some (.ref F), some (.int (worth ts)), some (.str kd), some (.int nd), some (.int lf)], ⟨r3.toNat, rfl, r3, r30, Int.le_refl _, rfl, (by rw [hnd]; rfl)⟩, ?_⟩
    rintro m σ H4 ⟨rfl, lf, lf0, lf1, hm, rfl⟩
    have hwn : 10 * (worth ts * nd) ≤ 249480 * nd := by
      have := Int.mul_le_mul_of_nonneg_right hw (show 0 ≤ nd by omega)
      rw [Int.mul_assoc] at this
      exact this
    have hww : worth ts ≤ 24948 := by omega
    refine ⟨_, rfl, _, rfl, _, _, rfl, rfl, .inr ⟨by omega, by omega⟩, _, rfl, _, _, rfl, rfl, .inr ⟨by decide, by decide⟩, _, _, rfl, rfl, _, _, rfl, rfl, .inl ⟨by decide, by decide⟩, _, _, rfl, rfl, .inl ⟨by decide, by decide⟩, _, rfl, _, _, rfl, rfl, .inr ⟨by omega, by omega⟩, _, _, rfl, rfl, _, rfl, ite2 (fun hd => ?_) (fun hd => ?_)⟩
    · have hd : 9 * 27720 * nd < 10 * (worth ts * nd + lf * 27720) := of_decide_eq_true hd
      refine ⟨fun σ' H' => ∃ m', m' < m ∧ (H' = H4 ∧ ∃ lf : Int, 0 ≤ lf ∧ lf ≤ r3 ∧ m' = lf.toNat ∧ σ' = [some (.ref h), some (.int most), some (.int largest), some (.ref F), some (.int (worth ts)), some (.str kd), some (.int nd), some (.int lf)]), fun _ _ z => z, ?_⟩
      exact ⟨_, rfl, _, _, rfl, rfl, (lf - 1).toNat, by omega, rfl, lf - 1, by omega, by omega, rfl, rfl⟩
    · have hd : ¬ 9 * 27720 * nd < 10 * (worth ts * nd + lf * 27720) := fun z => hd (decide_eq_true z)
      obtain ⟨q0, hq0⟩ := dvd_big nd1 nd2
      have eq1 : lf * 27720 / nd = q0 * lf := by
        rw [hq0, show lf * (nd * q0) = nd * (q0 * lf) by rw [Int.mul_left_comm, Int.mul_comm lf q0]]
        exact Int.mul_ediv_cancel_left _ (by omega)
      have eq2 : (27720 : Int) / nd = q0 := by
        rw [hq0]
        exact Int.mul_ediv_cancel_left _ (by omega)
      have hle : 10 * (worth ts + q0 * lf) ≤ 9 * 27720 := by
        have h1 : 10 * (worth ts + q0 * lf) * nd ≤ 9 * 27720 * nd := by
          have h2 : lf * 27720 = q0 * lf * nd := by
            rw [hq0, Int.mul_comm (q0 * lf) nd, Int.mul_left_comm, Int.mul_comm lf q0]
          have h3 : 10 * (worth ts + q0 * lf) * nd = 10 * (worth ts * nd + q0 * lf * nd) := by
            rw [Int.mul_assoc, Int.add_mul]
          rw [h3, ← h2]
          omega
        exact Int.le_of_mul_le_mul_right h1 (by omega)
      have hq00 : 0 ≤ q0 := by
        rw [← eq2]
        exact Int.ediv_nonneg (by decide) (by omega)
      have hql : 0 ≤ q0 * lf := Int.mul_nonneg hq00 lf0
      have ewt : worth (ts ++ [⟨kd, lf, nd⟩]) = worth ts + lf * 27720 / nd := by
        rw [worth_snoc, eq1]
        show worth ts + 27720 / nd * lf = _
        rw [eq2]
      -- worth, and the trade
      refine ⟨_, rfl, _, rfl, _, _, rfl, rfl, .inr ⟨by decide, by decide⟩, _, rfl, _, _, rfl, rfl, ⟨by omega, by omega⟩, _, _, rfl, rfl, ?_⟩
      refine ⟨_, rfl, .inl ⟨rfl, _, SqL.of eF3⟩, _, rfl, _, rfl, _, rfl, by show 3 ≤ sizeLine; decide, fun q hq => ?_⟩
      have eF5 := upd_old (u := .tup [.str kd, .int lf, .int nd]) eF3 hq
      have nq := hs3'.new hq
      have npq : p ≠ q := ne_of_none ep3 hq
      have nFq : F ≠ q := ne_of_none eF3 hq
      refine ⟨F, _, _, rfl, rfl, eF5, small3 ?_, ?_⟩
      · rw [List.length_map, hnt3.1]
        omega
      refine ⟨(hs3'.grow (same_new hq)).mut n0F nF.1 nF.2, ?_, ts ++ [⟨kd, lf, nd⟩], qs ++ [q], some (.str kd), some (.int nd), some (.int lf), ?_, ?_, ?_, fun hi => ?_, fun t ht => ?_, ?_, ?_, ?_⟩
      · rw [upd_ne npF]
        exact upd_old ep3 hq
      · rw [List.length_append, hti]
        rfl
      · rw [upd_same, List.map_append]
        rfl
      · refine NewTr.snoc (hnt3.mono fun q' xs e => ?_) ?_
        · rw [upd_ne (ne_of e eF3 (by intro z; cases z))]
          exact upd_old e hq
        · rw [upd_ne nFq.symm]
          exact upd_same
      · rw [List.map_append, hks (by omega), take_at ekd2]
        rfl
      · rcases List.mem_append.mp ht with ht | ht
        · exact hall t ht
        · cases List.mem_singleton.mp ht
          exact ⟨⟨lf0, by show lf ≤ 12; omega, nd1, nd2⟩, by show nd ≤ largest; omega, by show lf ≤ nd; omega⟩
      · rw [ewt, eq1]
        exact hle
      · rw [ewt, eq1]
        omega
      · rw [ewt]
        rfl
  · rintro σ H1 ⟨hs1, ep1, ts, qs, x5, x6, x7, hti, eF1, hnt, hks, hall, hw, hw0, rfl⟩
    have hlen : ((kinds3.take n).map V.str).length = n := by
      rw [List.length_map, List.length_take]
      exact Nat.min_eq_left hn3
    rw [hlen] at hti
    refine ⟨_, rfl, F, _, rfl, .inl ⟨SqL.of eF1, fun p' hp' => ?_⟩⟩
    refine k _ p' ts (hs1.grow (same_new hp')) ((hnt.mono fun q xs e => upd_old e hp').at_ (SqT.of upd_same)) (fun z => by rw [z] at hti; simp only [List.length_nil] at hti; omega) ⟨?_, by omega, by omega, hall, hw⟩
    rw [hlen] at hks
    rw [hks (Nat.le_refl _), hti]
end
end EB

namespace EB
open PySem PySem.Spec PyProof.Rows L2
theorem upd_none {H : Hp} {a b : Addr} {o : HO} (h : upd H a o b = none) : b ≠ a ∧ H b = none := by
  have n : b ≠ a := fun z => by
    rw [z, upd_same] at h
    cases h
  rw [upd_ne n] at h
  exact ⟨n, h⟩
/-- what a new offer asks, its trades handed on one by one -/
theorem make_ok {K : PySem.W.Frag} {H : Hp} {ts : List Tr} {ps : List Addr} {Q : VK} {E : XK} {x dx : Addr} (h2 : ps.length = ts.length) (h3 : ∀ (i : Nat) (p : Addr) (t : Tr), ps[i]? = some p → ts[i]? = some t → SqT K H p t.vs)
    (hf : Fair ts) (hne : ts ≠ []) (hnm : nmOk ts) (nx : H x = none) (nd : H dx = none) (ned : dx ≠ x) (k : ∀ H', Same H H' → OfNew K H H' x ts → Q (.ref x) H') :
    ∃ ws rest, (V.ref x :: ps.map V.ref) = ws ++ rest ∧ ws.length = 1 ∧ rest.length ≤ sizeLine ∧ ∀ p, (upd (upd H dx (.own x)) x (.ins (He.ga K "Offer") dx [])) p = none →
      spInit K (ws ++ [V.ref p]) (upd (upd (upd H dx (.own x)) x (.ins (He.ga K "Offer") dx [])) p (.tup rest)) (fun v H2 => v = .non ∧ Q (.ref x) H2) E := by
  refine ⟨[.ref x], ps.map V.ref, rfl, rfl, ?_, fun p hp => ?_⟩
  · rw [List.length_map, h2]
    exact Nat.le_trans hf.g.1 (by decide)
  obtain ⟨npx, hp1⟩ := upd_none hp
  obtain ⟨npd, hp2⟩ := upd_none hp1
  have sH : Same H (upd H p (.tup (ps.map V.ref))) := same_new hp2
  refine ⟨x, p, upd H p (.tup (ps.map V.ref)), dx, ts, rfl, fun b o e => ?_, by rw [upd_ne npx.symm]; exact nx, by rw [upd_ne npx.symm]; exact upd_same, ⟨ps, SqT.of upd_same, h2, fun i q t a b => Same.tup sH (h3 i q t a b)⟩, hf, hne, hnm, fun H' s' o' => ⟨rfl, ?_⟩⟩
  · by_cases z : b = p
    · rw [z, upd_same] at e
      rw [z, upd_same]
      exact e
    · rw [upd_ne z] at e
      rw [upd_ne z, upd_ne (ne_of_none e nx), upd_ne (ne_of_none e nd)]
      exact e
  · obtain ⟨d, t, q, o, f, g, e1, e2, e3, e4, e5, e6, n1, n2, n3⟩ := o'.ex
    exact k _ (sH.trans s') ⟨d, t, q, o, f, g, e1, e2, e3, e4, e5, e6, (upd_none n1).2, (upd_none n2).2, (upd_none n3).2⟩
section
variable {P : Program} {w : World} {K : PySem.W.Frag} {mg : Str → Option Value} {base : Heap} (T : Tx K mg)
include T
def spOffer (K : PySem.W.Frag) : Sp := fun vs H Q _ => ∃ (p : Addr) (ts : List Tr), vs = [.ref p] ∧ TrAt K H p ts ∧ Fair ts ∧ ts ≠ [] ∧ nmOk ts ∧ ∀ H' x, Same H H' → OfNew K H H' x ts → Q (.ref x) H'
theorem ok_law_offer : FnR P w K mg base CX0 7 (a_law_offer K) (spOffer K) := by
  refine fnR0 (d := d_law_offer) T.F_law_offer sc_law_offer rfl (fun _ _ _ _ _ _ us hl => match us, hl with | [_], _ => rfl) (fun vs H Q E h => ?_) (fun cdv A outer s H vs Q E hr h => ?_)
  · obtain ⟨p, ts, rfl, _⟩ := h
    rfl
  obtain ⟨p, ts, rfl, hT, hf, hne, hnm, k⟩ := h
  obtain ⟨ps, h1, h2, h3⟩ := hT.ex
  refine ⟨_, (pss_cons (ps_if (pt_cmpR op_eq (pe_callB call_len_seq (by rfl) T.n_len PySem.boot_len (pa_cons (pv 0) pa_nil)) pe_int (nomark _)) (pss_one (ps_ret (StX.pe_makeR T.mk_Offer (ok_Offer_init T) (hr.mono (by decide)) (by rfl) T.g_Offer pass0 (pa_cons (pe_ix ix_tup (pv 0) pe_int (fun _ _ => rfl)) pa_nil)))) pss_nil) (pss_one (ps_ret (pe_ifExp (pt_cmpR op_eq (pe_callB call_len_seq (by rfl) T.n_len PySem.boot_len (pa_cons (pv 0) pa_nil)) pe_int (nomark _)) (StX.pe_makeR T.mk_Offer (ok_Offer_init T) (hr.mono (by decide)) (by rfl) T.g_Offer pass0 (pa_cons (pe_ix ix_tup (pv 0) pe_int (fun _ _ => rfl)) (pa_cons (pe_ix ix_tup (pv 0) pe_int (fun _ _ => rfl)) pa_nil))) (StX.pe_makeR T.mk_Offer (ok_Offer_init T) (hr.mono (by decide)) (by rfl) T.g_Offer pass0 (pa_cons (pe_ix ix_tup (pv 0) pe_int (fun _ _ => rfl)) (pa_cons (pe_ix ix_tup (pv 0) pe_int (fun _ _ => rfl)) (pa_cons (pe_ix ix_tup (pv 0) pe_int (fun _ _ => rfl)) pa_nil)))))))), ?_⟩
  refine ⟨_, rfl, p, _, rfl, .inr h1, rfl, _, rfl, ite2 (fun hd => ?_) (fun hd => ?_)⟩
  · have hd : ((ps.map V.ref).length : Int) = 1 := V.int.inj (of_decide_eq_true hd)
    match ps, hd, h1, h2, h3 with
    | [a], _, h1, h2, h3 =>
      refine ⟨_, rfl, p, _, 0, _, rfl, rfl, h1, rfl, fun x dx nx nd ned => ?_⟩
      exact make_ok h2 h3 hf hne hnm nx nd ned fun H' s' o' => k H' x s' o'
    | [], hd, _, _, _ => exact absurd hd (by decide)
    | a :: b :: r, hd, _, _, _ =>
      simp only [List.map_cons, List.length_cons] at hd
      omega
  · have hd : ¬ ((ps.map V.ref).length : Int) = 1 := fun z => hd (decide_eq_true (by rw [z]))
    refine ⟨_, rfl, p, _, rfl, .inr h1, rfl, _, rfl, ite2 (fun hd2 => ?_) (fun hd2 => ?_)⟩
    · have hd2 : ((ps.map V.ref).length : Int) = 2 := V.int.inj (of_decide_eq_true hd2)
      match ps, hd2, h1, h2, h3 with
      | [a, b], _, h1, h2, h3 =>
        refine ⟨_, rfl, p, _, 0, _, rfl, rfl, h1, rfl, _, rfl, p, _, 1, _, rfl, rfl, h1, rfl, fun x dx nx nd ned => ?_⟩
        exact make_ok h2 h3 hf hne hnm nx nd ned fun H' s' o' => k H' x s' o'
      | [], hd, _, _, _ => exact absurd hd (by decide)
      | [_], hd, _, _, _ => exact absurd hd (by simp)
      | a :: b :: c :: r, hd, _, _, _ =>
        simp only [List.map_cons, List.length_cons] at hd
        omega
    · have hd2 : ¬ ((ps.map V.ref).length : Int) = 2 := fun z => hd2 (decide_eq_true (by rw [z]))
      have hl := hf.g.1
      match ps, hd, hd2, h1, h2, h3 with
      | [a, b, c], _, _, h1, h2, h3 =>
        refine ⟨_, rfl, p, _, 0, _, rfl, rfl, h1, rfl, _, rfl, p, _, 1, _, rfl, rfl, h1, rfl, _, rfl, p, _, 2, _, rfl, rfl, h1, rfl, fun x dx nx nd ned => ?_⟩
        exact make_ok h2 h3 hf hne hnm nx nd ned fun H' s' o' => k H' x s' o'
      | [], _, _, _, h2, _ =>
        cases ts with
        | nil => exact absurd rfl hne
        | cons _ _ => cases h2
      | [_], hd, _, _, _, _ => exact absurd rfl hd
      | [_, _], _, hd, _, _, _ => exact absurd rfl hd
      | a :: b :: c :: d :: r, _, _, _, h2, _ =>
        simp only [List.length_cons] at h2
        omega
/-! ### an offer's methods -/
def spDF (K : PySem.W.Frag) : Sp := fun vs H Q _ => ∃ (a : Addr) (ts : List Tr) (n : Nat), vs = [.ref a, .int (n : Nat)] ∧ OfAt K H a ts ∧ Fair ts ∧ Q (.int (D (cN ts) n : Nat)) H
theorem ok_Offer_drinks_for : FnR P w K mg base CX0 2 (a_Offer_drinks_for K) (spDF K) := by
  refine fnR0 (d := d_Offer_drinks_for) T.F_Offer_drinks_for sc_Offer_drinks_for rfl (fun _ _ _ _ _ _ us hl => match us, hl with | [_, _], _ => rfl) (fun vs H Q E h => ?_) (fun cdv A outer s H vs Q E hr h => ?_)
  · obtain ⟨a, ts, n, rfl, _⟩ := h
    rfl
  obtain ⟨a, ts, n, rfl, ho, hf, k⟩ := h
  obtain ⟨dx, t, p, o, f, g, e1, e2, e3, e4, e5, e6⟩ := ho.ex
  refine ⟨_, (pss_cons (ps_asg (pe_fld (pv 0) rfl) (pg_tup rfl (pgs_cons (pg_name (i := 2) sc_Offer_drinks_for.nd rfl (Or.inl rfl)) (pgs_cons (pg_name (i := 3) sc_Offer_drinks_for.nd rfl (Or.inl rfl)) pgs_nil)))) (pss_one (ps_ret (pe_cR (ok_value_at T) (hr.mono (by decide)) T.F_value_at.kp T.g_value_at pass0 (pa_cons (pe_fld (pv 0) rfl) (pa_cons (pv 1) (pa_cons (pv 2) (pa_cons (pv 3) pa_nil)))))))), ?_⟩
  refine ⟨_, rfl, a, _, dx, _, _, rfl, e1, T.k_Offer, T.na_period, lk_period, p, _, rfl, e3, rfl, _, _, rfl, _, _, rfl, rfl, ?_⟩
  refine ⟨_, rfl, a, _, dx, _, _, rfl, e1, T.k_Offer, T.na_firsts, lk_firsts, _, rfl, _, rfl, _, rfl, f, firstsL ts, n, perB ts, per ts, rfl, e5, by omega, ?_, ?_, ?_, ?_, ?_, ?_⟩
  all_goals have hp := per_le' hf.g
  all_goals have hb := (cf hf).bpos
  all_goals have hB := perB_le hf
  · omega
  · omega
  · omega
  · omega
  · have ht := (cf hf).T_per (d := per ts - 1) (by have := per_pos hf.g; omega)
    have h0 := (cf hf).T_nonneg (per ts - 1)
    have e : per ts - 1 + per ts = 2 * per ts - 1 := by have := per_pos hf.g; omega
    rw [e] at ht
    rw [List.length_map, List.length_range]
    omega
  · rw [value_firsts (cf hf)]
    exact k
def spCall (K : PySem.W.Frag) : Sp := fun vs H Q _ => ∃ (a : Addr) (ts : List Tr) (n : Nat), vs = [.ref a, .int (n : Nat)] ∧ OfAt K H a ts ∧ Fair ts ∧ n ≤ 1000000000000000000 ∧ Q (.int (D (cN ts) n : Nat)) H
theorem ok_Offer_call : FnR P w K mg base CX0 4 (a_Offer_call K) (spCall K) := by
  refine fnR0 (d := d_Offer_call) T.F_Offer_call sc_Offer_call rfl (fun _ _ _ _ _ _ us hl => match us, hl with | [_, _], _ => rfl) (fun vs H Q E h => ?_) (fun cdv A outer s H vs Q E hr h => ?_)
  · obtain ⟨a, ts, n, rfl, _⟩ := h
    rfl
  obtain ⟨a, ts, n, rfl, ho, hf, hn, k⟩ := h
  obtain ⟨dx, t, p, o, f, g, e1, e2, e3, e4, e5, e6⟩ := ho.ex
  refine ⟨_, (pss_cons (ps_expr (pe_cR (ok_check_number T) (hr.mono (by decide)) T.F_check_number.kp T.g_check_number pass0 (pa_cons (pv 1) pa_nil))) (pss_one (ps_ret (pe_methR (pv 0) T.k_Offer T.m_Offer_drinks_for (ok_Offer_drinks_for T) (hr.mono (by decide)) pass0 (pa_cons (pv 1) pa_nil))))), ?_⟩
  refine ⟨_, rfl, n, rfl, by omega, by omega, ?_⟩
  exact ⟨_, rfl, a, dx, _, rfl, e1, lk_no (by decide +kernel), _, rfl, a, ts, n, rfl, ho, hf, k⟩
end
end EB

namespace EB
open PySem PySem.Spec PyProof.Rows L2
section
variable {w : World} {K : PySem.W.Frag} {mg : Str → Option Value} {base : Heap} (T : Tx K mg)
include T
/-- InvalidOffer(i), its own __init__ -/
def spXI (K : PySem.W.Frag) : Sp := fun vs H Q _ => ∃ (a : Addr) (i : Int), vs = [.ref a, .int i] ∧ 0 ≤ i ∧ i < 4 ∧ H a = some (exo a (He.ga K "InvalidOffer") none) ∧
  ∀ dx, H dx = none → dx ≠ a → Q .non (upd (upd H dx (exd dx [("index", .int i)])) a (exo a (He.ga K "InvalidOffer") (some dx)))
theorem okX_InvalidOffer_init (hK : K.In base) : ∃ fd, FnOk PX w K mg base CX0 1 (a_InvalidOffer_init K) fd ["self", "index"] (spXI K) ∧ Binds K fd ["self", "index"] [] := by
  obtain ⟨fd, F⟩ := T.S_InvalidOffer_init
  refine ⟨fd, ?_, ?_⟩
  · refine FnOk.imp (sup_of (CX := CX0) (P := PX) (w := w) (base := base) (k := 0) (tA := ?tA) (tB := tOst K "index" (tVar 0) (tVar 1)) sc_InvalidOffer_init F ?hc ?hA ?hS) ?im
    case hc =>
      obtain ⟨cl, cld, csl, hc⟩ := F.cell
      exact ⟨_, _, hK _ _ hc, rfl⟩
    case hA =>
      intro A outer s H E
      exact pa_cons (X := supCx CX0 PX w K mg base "index" "InvalidOffer.__init__" (defScope s_InvalidOffer_init) (a_InvalidOffer_init K) (.ref (codeA K (a_InvalidOffer_init K))) (cellA K (a_InvalidOffer_init K)) A outer s H E) (pe_joined (.cons pe_str (.cons (pe_fmt (pv (X := supCx CX0 PX w K mg base "index" "InvalidOffer.__init__" (defScope s_InvalidOffer_init) (a_InvalidOffer_init K) (.ref (codeA K (a_InvalidOffer_init K))) (cellA K (a_InvalidOffer_init K)) A outer s H E) 1)) (.cons pe_str .nil)))) pa_nil
    case hS =>
      intro A outer s H E
      exact pss_one (X := supCx CX0 PX w K mg base "index" "InvalidOffer.__init__" (defScope s_InvalidOffer_init) (a_InvalidOffer_init K) (.ref (codeA K (a_InvalidOffer_init K))) (cellA K (a_InvalidOffer_init K)) A outer s H E) (ps_ost (pv (X := supCx CX0 PX w K mg base "index" "InvalidOffer.__init__" (defScope s_InvalidOffer_init) (a_InvalidOffer_init K) (.ref (codeA K (a_InvalidOffer_init K))) (cellA K (a_InvalidOffer_init K)) A outer s H E) 0) (pv (X := supCx CX0 PX w K mg base "index" "InvalidOffer.__init__" (defScope s_InvalidOffer_init) (a_InvalidOffer_init K) (.ref (codeA K (a_InvalidOffer_init K))) (cellA K (a_InvalidOffer_init K)) A outer s H E) 1))
    case im =>
      rintro vs H Q E ⟨a, i, rfl, i0, i1, ea, k⟩
      refine ⟨a, .int i, rfl, ea, ?_⟩
      have X := T.x_InvalidOffer
      refine ⟨_, rfl, by decide +kernel, _, rfl, .inr ⟨i, rfl, ?_, _, rfl, ?_, _, rfl, ?_, by show 1 ≤ 1000; decide, ea, _, rfl, _, rfl, a, _, rfl, F.oex, X.idx, .inl ⟨ea, k⟩⟩⟩
      all_goals rcases (show i = 0 ∨ i = 1 ∨ i = 2 ∨ i = 3 by omega) with rfl | rfl | rfl | rfl <;> decide +kernel
  · obtain ⟨oc, od, kV, doc, pm, an, ct, osl, rfl, lk⟩ := F.fn
    exact Binds.all fun us hl => match us, hl with | [_, _], _ => rfl
end
section
variable {w : World} {K : PySem.W.Frag} {mg : Str → Option Value} {base : Heap} {P : Program}
theorem fnRX {d : DD} {fd : FuncData} {N ps : List Str} {k : Nat} {sp : Sp} (F : FnP K d fd) (S : FnScope N ps (defScope d.st)) (e : d.df = [])
    (b : ∀ (kV doc pm : Value) (an : Option Addr) (cdv ct : Value) (us : List Value), us.length = ps.length → bindArgs (PySem.W.fnOf d.nm d.ql (defArgs d.st) (defBody d.st) (defScope d.st) .none kV doc pm an cdv ct) ⟨us, []⟩ = pure (ps.zip us))
    (len : ∀ vs H Q E, sp vs H Q E → vs.length = ps.length)
    (hbody : ∀ (cdv : Value) (A : Around) (outer : List Env) (s : Shared) (H : Hp) (vs : List V) (Q : VK) (E : XK), Room k (A.deeper (envOfC d.ql (defScope d.st) s.heap.objs.size (d.adr K) cdv)) → sp vs H Q E →
      ∃ t, PSs (cxOf (L2.CX P w) P w K mg base N d.ql (defScope d.st) (d.adr K) cdv A outer s H E) (defBody d.st) t ∧ t { nx := fun _ H' => Q .non H', rt := Q } (start N vs) H) :
    FnR P w K mg base (L2.CX P w) (k + 1) (d.adr K) sp := by
  have F1 : FnOk P w K mg base (L2.CX P w) (k + 1) (d.adr K) fd ps sp := FunD.ok F S len fun cdv A outer s H vs Q E hr h => hbody cdv A outer s H vs Q E hr h
  have F2 : FunD K d.nm d.ql (defArgs d.st) (defBody d.st) (defScope d.st) [] [] (d.adr K) fd := by
    have z : FnP K d fd := F
    unfold FnP at z
    rw [e] at z
    exact z
  refine (F1.raw (F2.bindsN b) .nil).imp fun vs H Q E h => ?_
  rw [List.append_nil]
  exact h
end
theorem inV_mem {z : Str} {l : List Str} (h : z ∈ l) : inV (.str z) (l.map V.str) = true := by
  unfold inV
  refine List.any_eq_true.mpr ⟨.str z, List.mem_map_of_mem h, ?_⟩
  show (z == z) = true
  exact beq_self_eq_true _
/-- InvalidOffer(i) raised: its dict is new, nothing else changes -/
theorem mkI {K : PySem.W.Frag} {H : Hp} {i : Nat} {Q : XK} {E : XK} (hi : i < 4) (k : ∀ H' d, Same H H' → H d = none → H' d = some (.xd [("index", .int i)]) → Q (.ref (He.ga K "InvalidOffer")) (some d) H') :
    [V.int (i : Nat)].length ≤ 1000 ∧ ∀ a, H a = none → spXI K (.ref a :: ([V.int (i : Nat)] ++ [])) (upd H a (exo a (He.ga K "InvalidOffer") none))
      (fun v H2 => v = .non ∧ ∃ (d : Addr) (fs : List (Str × V)), H2 a = some (exo a (He.ga K "InvalidOffer") (some d)) ∧ H2 d = some (exd d fs) ∧ H d = none ∧ Q (.ref (He.ga K "InvalidOffer")) (some d) (upd (del H2 a) d (.xd fs))) E := by
  refine ⟨by show 1 ≤ 1000; decide, fun a ha => ⟨a, i, rfl, by omega, by omega, upd_same, fun dx hdx hne => ⟨rfl, dx, [("index", .int i)], upd_same, ?_, (upd_none hdx).2, k _ dx (fun b o e => ?_) (upd_none hdx).2 upd_same⟩⟩⟩
  · rw [upd_ne hne]
    exact upd_same
  · have n1 : b ≠ a := ne_of_none e ha
    have n2 : b ≠ dx := ne_of_none e (upd_none hdx).2
    rw [upd_ne n2, del_ne n1, upd_ne n1, upd_ne n2, upd_ne n1]
    exact e
/-- the first trade that is not allowed -/
def badTr (seen : List Str) : Nat → List Tr → Option Nat
  | _, [] => none
  | i, t :: ts => if i = 3 ∨ t.k ∈ seen ∨ trOk t = false then some i else badTr (seen ++ [t.k]) (i + 1) ts
def badOf (ts : List Tr) : Option Nat := if ts = [] then some 0 else badTr [] 0 ts
section
variable {w : World} {K : PySem.W.Frag} {mg : Str → Option Value} {base : Heap} (T : Tx K mg)
include T
/-- trades with one that is not allowed: InvalidOffer with its index -/
def spBadTr (K : PySem.W.Frag) : Sp := fun vs H _ E => ∃ (a : Addr) (ts : List Tr) (i : Nat), vs = [.ref a] ∧ TrAt K H a ts ∧ ts.length ≤ 5 ∧ (∀ t ∈ ts, t.k.length ≤ 1000) ∧ badOf ts = some i ∧
  ∀ H' d, Same H H' → H d = none → H' d = some (.xd [("index", .int i)]) → E (.ref (He.ga K "InvalidOffer")) (some d) H'
theorem okX_check_trades (hK : K.In base) : FnR PX w K mg base (L2.CX PX w) 4 (a_check_trades K) (spBadTr K) := by
  obtain ⟨fdI, F_InvalidOffer, B_InvalidOffer⟩ := okX_InvalidOffer_init (w := w) T hK
  have O_InvalidOffer : OexC K (He.ga K "InvalidOffer") := T.S_InvalidOffer_init.elim fun _ F => F.oex
  refine fnRX (d := d_check_trades) T.F_check_trades sc_check_trades rfl (fun _ _ _ _ _ _ us hl => match us, hl with | [_], _ => rfl) (fun vs H Q E h => ?_) (fun cdv A outer s H vs Q E hr h => ?_)
  · obtain ⟨a, ts, i, rfl, _⟩ := h
    rfl
  obtain ⟨a, ts, n, rfl, hT, hl, hz, hbad, k⟩ := h
  obtain ⟨ps, h1, h2, h3⟩ := hT.ex
  obtain ⟨uE, hE⟩ := T.v_Offer_MAX_TRADES
  refine ⟨_, (pss_cons (ps_if (pt_not (pt_truth (pv 0) (by intro _; rfl))) (pss_one (ps_raise rfl (takes_of rfl rfl rfl rfl) (pmk_oex O_InvalidOffer T.x_InvalidOffer.ini T.x_InvalidOffer.tyi F_InvalidOffer (hr.mono (by decide)) B_InvalidOffer .nil pass0 (by rfl) T.g_InvalidOffer (pa_cons pe_int pa_nil)))) pss_nil) (pss_cons (ps_set (i := 1) sc_check_trades.nd rfl (Or.inl rfl) (pe_lst pa_nil)) (pss_one (ps_for (passes_of rfl) rfl (pi_enumT (by rfl) T.n_enumerate (pa_cons (pv 0) pa_nil)) (pg_tup rfl (pgs_cons (pg_name (i := 2) sc_check_trades.nd rfl (Or.inl rfl)) (pgs_cons (pg_tup rfl (pgs_cons (pg_name (i := 3) sc_check_trades.nd rfl (Or.inl rfl)) (pgs_cons (pg_name (i := 4) sc_check_trades.nd rfl (Or.inl rfl)) (pgs_cons (pg_name (i := 5) sc_check_trades.nd rfl (Or.inl rfl)) pgs_nil)))) pgs_nil))) (pss_cons (ps_if (PW.pt (pw_or (pt_cmpR op_eq (pv 2) (ClX.pe_cval (pe_cC T.g_Offer)) (nomark _)) (pw_or (pt_cmpR op_in_seq (pv 3) (pv 1) rfl) (pw_or1 (pt_not (pt_val (pe_cR (ok_is_trade T) (hr.mono (by decide)) T.F_is_trade.kp T.g_is_trade pass0 (pa_cons (pv 3) (pa_cons (pv 4) (pa_cons (pv 5) pa_nil)))))))))) (pss_one (ps_raise rfl (takes_of rfl rfl rfl rfl) (pmk_oex O_InvalidOffer T.x_InvalidOffer.ini T.x_InvalidOffer.tyi F_InvalidOffer (hr.mono (by decide)) B_InvalidOffer .nil pass0 (by rfl) T.g_InvalidOffer (pa_cons (pv 2) pa_nil)))) pss_nil) (pss_one (ps_expr (pe_bm PySem.F.plainAttrs_list PySem.F.slot_list_append PySem.F.type_list_append mt_append (pv 1) (pa_cons (pv 3) pa_nil))))))))), ?_⟩
  cases hts : ts with
  | nil =>
    subst hts
    have hps : ps = [] := List.length_eq_zero_iff.mp h2
    subst hps
    have hn : n = 0 := (Option.some.inj hbad).symm
    subst hn
    refine ⟨_, rfl, false, .inr (.inl ⟨_, h1, rfl⟩), iteT ?_⟩
    exact mkI (i := 0) (by decide) k
  | cons t0 tr =>
  have hne : ts ≠ [] := fun z => by
    rw [hts] at z
    cases z
  have hps : (ps.map V.ref).isEmpty = false := by
    cases ps with
    | nil =>
      rw [hts] at h2
      cases h2
    | cons _ _ => rfl
  unfold badOf at hbad
  rw [if_neg hne] at hbad
  refine ⟨_, rfl, true, .inr (.inl ⟨_, h1, by rw [hps]; rfl⟩), iteF ?_⟩
  refine ⟨Nat.zero_le _, fun p hp => ?_⟩
  refine ⟨_, rfl, a, _, rfl, Same.tup (same_new hp) h1, for_it (walk_enumT (K := K) (a := a) (xs := ps.map V.ref)) (fun i σ H1 => Same H H1 ∧ H1 p = some (.lst (((ts.take i).map Tr.k).map V.str)) ∧ badTr ((ts.take i).map Tr.k) i (ts.drop i) = some n ∧ i ≤ 3 ∧ ∃ x2 x3 x4 x5, σ = [some (.ref a), some (.ref p), x2, x3, x4, x5])
    ⟨same_new hp, upd_same, hbad, Nat.zero_le _, _, _, _, _, rfl⟩ (fun i σ H1 _ q => Same.tup q.1 h1) ?_ ?_⟩
  · rintro i x σ H1 H2 hi ⟨s1, e1, hb, hi3', x2, x3, x4, x5, rfl⟩ ⟨q, u, v, rfl, nq, rfl, eu, ev⟩
    cases eu
    obtain ⟨pt, t, rfl, ep, et, hm, li, hpt⟩ := TrAt.at_ h2 h3 ev
    have s2 : Same H (upd H1 q (.tup [.int (i : Nat), .ref pt])) := s1.trans (same_new nq)
    have e2 := upd_old (u := .tup [.int (i : Nat), .ref pt]) e1 nq
    have hdrop : ts.drop i = t :: ts.drop (i + 1) := by
      rw [List.drop_eq_getElem_cons li]
      rw [List.getElem?_eq_getElem li] at et
      rw [Option.some.inj et]
    rw [hdrop] at hb
    unfold badTr at hb
    generalize hH2 : upd H1 q (.tup [.int (i : Nat), .ref pt]) = H2 at s2 e2
    have raise : ∀ H3, Same H2 H3 → (i = 3 ∨ t.k ∈ (ts.take i).map Tr.k ∨ trOk t = false) → i < 4 ∧ (∀ H' d, Same H3 H' → H3 d = none → H' d = some (.xd [("index", .int i)]) → E (.ref (He.ga K "InvalidOffer")) (some d) H') := fun H3 s3 hc => by
      rw [if_pos hc] at hb
      have hn : i = n := Option.some.inj hb
      subst hn
      refine ⟨by omega, fun H' d s4 n4 e4 => k H' d (s2.trans (s3.trans s4)) ?_ e4⟩
      exact (s2.trans s3).free n4
    refine ⟨q, _, rfl, SqT.of (by rw [← hH2]; exact upd_same), rfl, _, _, rfl, _, _, rfl, ⟨pt, _, rfl, Same.tup s2 hpt, rfl, _, _, rfl, _, _, rfl, _, _, rfl, rfl, rfl, ?_⟩⟩
    refine ⟨_, rfl, He.ga K "Offer", _, _, _, rfl, T.r_Offer, hE, rfl, _, rfl, ite2 (fun hd => ?_) (fun hd3 => ?_)⟩
    · have hd := V.int.inj (of_decide_eq_true hd)
      obtain ⟨r1, r2⟩ := raise H2 (Same.refl _) (.inl (by omega))
      exact ⟨_, rfl, mkI r1 r2⟩
    have hi3 : i ≠ 3 := fun z => hd3 (decide_eq_true (by rw [z]; rfl))
    refine ⟨_, rfl, _, rfl, p, _, rfl, .inl (SqL.of e2), rfl, flat_str _, _, rfl, ite2 (fun hd => ?_) (fun hdn => ?_)⟩
    · have hin : t.k ∈ (ts.take i).map Tr.k := Classical.byContradiction fun z => by
        rw [if_neg Bool.false_ne_true, inV_str z] at hd
        cases hd
      obtain ⟨r1, r2⟩ := raise H2 (Same.refl _) (.inr (.inl hin))
      exact ⟨_, rfl, mkI r1 r2⟩
    have hni : t.k ∉ (ts.take i).map Tr.k := fun z => hdn (by rw [if_neg Bool.false_ne_true]; exact inV_mem z)
    refine ⟨_, rfl, _, rfl, _, rfl, t, rfl, hz _ hm, fun H3 s3 => ⟨_, rfl, ite2 (fun hd => ?_) (fun hd => ?_)⟩⟩
    · obtain ⟨r1, r2⟩ := raise H3 s3 (.inr (.inr (by simpa using hd)))
      exact ⟨_, rfl, mkI r1 r2⟩
    have hok : trOk t = true := by simpa using hd
    rw [if_neg (by rw [hok]; simp only [hi3, hni, false_or]; exact Bool.noConfusion)] at hb
    have e3 := s3 _ _ e2
    refine ⟨_, rfl, .inl ⟨rfl, _, SqL.of e3⟩, _, rfl, p, _, _, rfl, rfl, e3, small3 ?_, same_mut (s2.trans s3) hp, ?_, ?_, by omega, _, _, _, _, rfl⟩
    · rw [List.length_map, List.length_map, List.length_take]
      omega
    · rw [upd_same, take_at et, List.map_append, List.map_append]
      rfl
    · rw [take_at et, List.map_append]
      exact hb
  · rintro σ H1 ⟨s1, e1, hb, _, x2, x3, x4, x5, rfl⟩
    rw [List.length_map, h2, List.drop_length] at hb
    cases hb
/-- trades that give too much: TooGenerous -/
def spBadGen (K : PySem.W.Frag) : Sp := fun vs H _ E => ∃ (a : Addr) (ts : List Tr), vs = [.ref a] ∧ TrAt K H a ts ∧ gds ts ∧ ¬ 10 * worth ts ≤ 9 * 27720 ∧ ∀ H', Same H H' → E (.ref (He.ga K "TooGenerous")) none H'
theorem okX_check_generosity (hK : K.In base) : FnR PX w K mg base (L2.CX PX w) 2 (a_check_generosity K) (spBadGen K) := by
  refine fnRX (d := d_check_generosity) T.F_check_generosity sc_check_generosity rfl (fun _ _ _ _ _ _ us hl => match us, hl with | [_], _ => rfl) (fun vs H Q E h => ?_) (fun cdv A outer s H vs Q E hr h => ?_)
  · obtain ⟨a, ts, rfl, _⟩ := h
    rfl
  obtain ⟨a, ts, rfl, hT, hg, hw0, k⟩ := h
  obtain ⟨ps, h1, h2, h3⟩ := hT.ex
  refine ⟨_, (pss_cons (ps_set (i := 1) sc_check_generosity.nd rfl (Or.inr rfl) pe_int) (pss_cons (ps_for (passes_of rfl) rfl (pi_tup (pv 0)) (pg_tup rfl (pgs_cons (pg_name (i := 2) sc_check_generosity.nd rfl (Or.inl rfl)) (pgs_cons (pg_name (i := 2) sc_check_generosity.nd rfl (Or.inl rfl)) (pgs_cons (pg_name (i := 3) sc_check_generosity.nd rfl (Or.inl rfl)) pgs_nil)))) (pss_one (ps_set (i := 1) sc_check_generosity.nd rfl (Or.inr rfl) (pe_callBfun cr_lcm (by rfl) T.b_lcm (pa_cons (pv 1) (pa_cons (pv 3) pa_nil)))))) (pss_cons (ps_set (i := 4) sc_check_generosity.nd rfl (Or.inl rfl) (pe_callB (cr_sum rfl) (by rfl) T.n_sum (by decide +kernel) (pa_cons (pe_lc (own := [("_", 2), ("left", 5), ("needed", 3)]) rfl sc_check_generosity.nd (pi_tup (pv 0)) (blkOk_by (own := [("_", 2), ("left", 5), ("needed", 3)]) (N := N_check_generosity) (sc := defScope s_check_generosity) (by decide +kernel)) (fun _ _ _ _ _ => (pg_tupB (n := 3) (pgs_cons (pg_name (i := 2) sc_check_generosity.nd rfl (Or.inl rfl) (.inr rfl)) (pgs_cons (pg_name (i := 5) sc_check_generosity.nd rfl (Or.inl rfl) (.inr rfl)) (pgs_cons (pg_name (i := 3) sc_check_generosity.nd rfl (Or.inl rfl) (.inr rfl)) pgs_nil))))) (fun _ _ _ _ _ => pts_nil) (fun _ _ _ _ _ => (pe_op op_mul (pe_op op_fdiv (pv 1) (pv 3)) (pv 5)))) pa_nil))) (pss_one (ps_if (pt_cmpR op_gt (pe_op op_mul pe_int (pv 4)) (pe_op op_mul pe_int (pv 1)) (nomark _)) (pss_one (ps_raise rfl (takes_of rfl rfl rfl rfl) (pmk_own PySem.F.excBase_ValueError T.x_TooGenerous.own T.g_TooGenerous T.x_TooGenerous.keep (raises_own T.x_TooGenerous.base T.x_TooGenerous.ty) (by rfl)))) pss_nil))))), ?_⟩
  refine ⟨_, rfl, a, rfl, ⟨_, h1⟩, for_tup (xs := ps.map V.ref) (fun i σ H1 => H1 = H ∧ ∃ x2 x3 x4 x5, σ = [some (.ref a), some (.int (((ts.take i).foldl wholeS 1 : Nat) : Int)), x2, x3, x4, x5]) ⟨rfl, _, _, _, _, rfl⟩ (fun i σ H1 _ q => by rw [q.1]; exact h1) ?_ ?_⟩
  · rintro i x σ H1 hx ⟨rfl, x2, x3, x4, x5, rfl⟩
    obtain ⟨p, t, rfl, ep, et, hm, li, hp⟩ := TrAt.at_ h2 h3 hx
    have ht := hg.2 _ hm
    refine ⟨p, _, rfl, hp, rfl, _, _, rfl, _, _, rfl, _, _, rfl, rfl, ?_⟩
    refine ⟨_, rfl, _, rfl, _, _, rfl, ?_, ?_, rfl, some (.int t.l), some (.int t.n), x4, x5, ?_⟩
    · have := wholeF_most hg i
      exact Nat.lt_of_le_of_lt (by omega : _ ≤ 1728) (by decide)
    · have := ht.2.2.1
      have := ht.2.2.2
      exact Nat.lt_of_le_of_lt (by omega : _ ≤ 12) (by decide)
    · rw [take_at et, List.foldl_append]
      rfl
  · rintro σ H1 ⟨rfl, x2, x3, x4, x5, rfl⟩
    have ew : (ts.take (ps.map V.ref).length).foldl wholeS 1 = wholeF ts := by
      rw [List.length_map, h2, List.take_length]
      rfl
    rw [ew]
    have hw : wholeF ts ≤ 1728 := by
      have := wholeF_most hg ts.length
      rw [List.take_length] at this
      exact this
    refine ⟨_, rfl, a, rfl, ⟨_, h1⟩, fun D hD => ?_⟩
    refine lc_tup (xs := ps.map V.ref) (fun i H2 => Same H1 H2 ∧ H1 D = none ∧ H2 D = some (.lst ((ts.take i).map fun t => V.int ((wholeF ts : Int) / t.n * t.l)))) ⟨same_new hD, hD, upd_same⟩ (fun i H2 _ q => Same.tup q.1 h1) ?_ ?_
    · rintro i x H2 hx ⟨s1, n1, e1⟩
      obtain ⟨p, t, rfl, ep, et, hm, li, hp⟩ := TrAt.at_ h2 h3 hx
      have ht := hg.2 _ hm
      refine ⟨p, _, rfl, Same.tup s1 hp, rfl, _, _, rfl, _, _, rfl, _, _, rfl, rfl, rfl, ?_⟩
      refine ⟨_, rfl, _, rfl, _, _, rfl, rfl, ⟨by have := ht.2.2.1; omega, by have := ht.2.2.2; omega⟩, _, rfl, _, _, rfl, rfl, .inr ⟨by have := ht.1; omega, by have := ht.2.1; omega⟩, ?_⟩
      refine ⟨_, e1, small3 ?_, same_mut s1 n1, n1, ?_⟩
      · rw [List.length_map, List.length_take]
        have := hg.1
        omega
      · rw [upd_same, take_at et, List.map_append]
        rfl
    · rintro H2 ⟨s1, n1, e1⟩
      refine ⟨D, ts.map fun t => (wholeF ts : Int) / t.n * t.l, rfl, SqL.of ?_, ?_⟩
      · rw [e1, List.length_map, h2, List.take_length, List.map_map]
        rfl
      · refine ⟨_, rfl, _, _, rfl, rfl, .inl ⟨by decide, by decide⟩, _, rfl, _, _, rfl, rfl, .inl ⟨by decide, by decide⟩, _, _, rfl, rfl, _, rfl, ite2 (fun _ => k _ s1) (fun hd => ?_)⟩
        exfalso
        have hd : ¬ 9 * (wholeF ts : Int) < 10 * parts ts := fun z => hd (decide_eq_true z)
        exact hw0 ((parts_fair hg).mp (by omega))
end
section
variable {w : World} {K : PySem.W.Frag} {mg : Str → Option Value} {base : Heap} {P : Program}
theorem fnRSX {d : DD} {fd : FuncData} {N ps : List Str} {pv : Str} {k : Nat} {sp : Sp} (F : FnP K d fd) (S : FnScope N (ps ++ [pv]) (defScope d.st)) (e : d.df = [])
    (b : ∀ (kV doc pm : Value) (an : Option Addr) (cdv ct : Value) (us rest : List Value), us.length = ps.length → bindArgs (PySem.W.fnOf d.nm d.ql (defArgs d.st) (defBody d.st) (defScope d.st) .none kV doc pm an cdv ct) ⟨us ++ rest, []⟩ = (newTuple rest >>= fun t => pure (ps.zip us ++ [(pv, t)])))
    (hbody : ∀ (cdv : Value) (A : Around) (outer : List Env) (s : Shared) (H : Hp) (vs : List V) (Q : VK) (E : XK), Room k (A.deeper (envOfC d.ql (defScope d.st) s.heap.objs.size (d.adr K) cdv)) → sp vs H Q E →
      ∃ t, PSs (cxOf (L2.CX P w) P w K mg base N d.ql (defScope d.st) (d.adr K) cdv A outer s H E) (defBody d.st) t ∧ t { nx := fun _ H' => Q .non H', rt := Q } (start N vs) H) :
    FnR P w K mg base (L2.CX P w) (k + 1) (d.adr K) (fun vs H Q E => ∃ ws rest, vs = ws ++ rest ∧ ws.length = ps.length ∧ rest.length ≤ sizeLine ∧ ∀ p, H p = none → sp (ws ++ [V.ref p]) (upd H p (.tup rest)) Q E) := by
  have z : FnP K d fd := F
  unfold FnP at z
  rw [e] at z
  obtain ⟨oc, od, dV, kV, doc, pm, an, cdv, ct, osl, rfl, lk, hcd, hD, hK⟩ := z.ex
  have hdV : dV = .none := by
    rcases hD with ⟨_, h⟩ | ⟨h, _⟩
    · exact h
    · exact absurd rfl h
  subst hdV
  exact StX.fn_star lk hcd S StX.cxUp (fun us rest hl => b kV doc pm an cdv ct us rest hl) fun A outer s H vs Q E hr h => hbody cdv A outer s H vs Q E hr h
end
section
variable {w : World} {K : PySem.W.Frag} {mg : Str → Option Value} {base : Heap} (T : Tx K mg)
include T
/-- an offer that is refused -/
def spInitX (K : PySem.W.Frag) : Sp := fun vs H _ E => ∃ (x p : Addr) (H0 : Hp) (ts : List Tr), vs = [.ref x, .ref p] ∧ Same H0 H ∧ TrAt K H0 p ts ∧
  ((ts.length ≤ 5 ∧ (∀ t ∈ ts, t.k.length ≤ 1000) ∧ ∃ i : Nat, badOf ts = some i ∧ ∀ H' d, Same H0 H' → H0 d = none → H' d = some (.xd [("index", .int i)]) → E (.ref (He.ga K "InvalidOffer")) (some d) H') ∨
    (gds ts ∧ ts ≠ [] ∧ nmOk ts ∧ ¬ 10 * worth ts ≤ 9 * 27720 ∧ ∀ H', Same H0 H' → E (.ref (He.ga K "TooGenerous")) none H'))
theorem okX_Offer_init (hK : K.In base) : FnR PX w K mg base (L2.CX PX w) 6 (a_Offer_init K) (fun vs H Q E => ∃ ws rest, vs = ws ++ rest ∧ ws.length = 1 ∧ rest.length ≤ sizeLine ∧ ∀ p, H p = none → spInitX K (ws ++ [V.ref p]) (upd H p (.tup rest)) Q E) := by
  refine fnRSX (d := d_Offer_init) (ps := ["self"]) T.F_Offer_init sc_Offer_init rfl (fun kV doc pm an cdv ct => StX.bind_star1 (B := fun us => bindArgs (PySem.W.fnOf d_Offer_init.nm d_Offer_init.ql (defArgs d_Offer_init.st) (defBody d_Offer_init.st) (defScope d_Offer_init.st) .none kV doc pm an cdv ct) ⟨us, []⟩) (fun _ => rfl) (fun _ _ _ => rfl)) (fun cdv A outer s H vs Q E hr h => ?_)
  obtain ⟨x, p, H0, ts, rfl, s0, hT0, h⟩ := h
  rcases h with ⟨hl, hz, i, hb, k⟩ | ⟨hg, hne, hnm, hw, k⟩
  · refine ⟨_, (pss_cons (ps_expr (pe_cR (okX_check_trades T hK) (hr.mono (by decide)) T.F_check_trades.kp T.g_check_trades (passes_call (takes_of rfl rfl rfl rfl) (fun _ _ _ _ h => h)) (pa_cons (pv 1) pa_nil))) (pss_cons (ps_expr (pe_cR (ok_check_generosity T) (hr.mono (by decide)) T.F_check_generosity.kp T.g_check_generosity pass0 (pa_cons (pv 1) pa_nil))) (pss_cons (ps_fld (pv 0) (pe_callTy call_tuple_of (by rfl) T.n_tuple (by decide +kernel) (pa_cons (pe_lc (own := [("kind", 3), ("left", 4), ("needed", 5)]) rfl sc_Offer_init.nd (pi_tup (pv 1)) (blkOk_by (own := [("kind", 3), ("left", 4), ("needed", 5)]) (N := N_Offer_init) (sc := defScope s_Offer_init) (by decide +kernel)) (fun _ _ _ _ _ => (pg_tupB (n := 3) (pgs_cons (pg_name (i := 3) sc_Offer_init.nd rfl (Or.inl rfl) (.inr rfl)) (pgs_cons (pg_name (i := 4) sc_Offer_init.nd rfl (Or.inl rfl) (.inr rfl)) (pgs_cons (pg_name (i := 5) sc_Offer_init.nd rfl (Or.inl rfl) (.inr rfl)) pgs_nil))))) (fun _ _ _ _ _ => pts_nil) (fun _ _ _ _ _ => (pe_tup (pa_cons (pv 3) (pa_cons (pv 4) (pa_cons (pv 5) pa_nil)))))) pa_nil)) rfl) (pss_cons (ps_set (i := 2) sc_Offer_init.nd rfl (Or.inl rfl) (pe_cR (ok_drinks_of_period T) (hr.mono (by decide)) T.F_drinks_of_period.kp T.g_drinks_of_period pass0 (pa_cons (pv 1) pa_nil))) (pss_cons (ps_fld (pv 0) (pe_tup (pa_cons (pe_cR (ok_cost_of T) (hr.mono (by decide)) T.F_cost_of.kp T.g_cost_of pass0 (pa_cons (pv 1) (pa_cons (pv 2) pa_nil))) (pa_cons (pv 2) pa_nil))) rfl) (pss_cons (ps_fld (pv 0) (pe_cR (ok_tops_of T) (hr.mono (by decide)) T.F_tops_of.kp T.g_tops_of pass0 (pa_cons (pe_lc (own := [("count", 6)]) rfl sc_Offer_init.nd (pi_range1 rfl T.n_range (pa_cons (pe_op op_mul pe_int (pv 2)) pa_nil)) (blkOk_by (own := [("count", 6)]) (N := N_Offer_init) (sc := defScope s_Offer_init) (by decide +kernel)) (fun _ _ _ _ _ => (pg_name (i := 6) sc_Offer_init.nd rfl (Or.inl rfl) (.inr rfl))) (fun _ _ _ _ _ => pts_nil) (fun _ _ _ _ _ => (pe_cR (ok_cost_of T) (hr.mono (by decide)) T.F_cost_of.kp T.g_cost_of pass0 (pa_cons (pv 1) (pa_cons (pv 6) pa_nil))))) pa_nil)) rfl) (pss_cons (ps_fld (pv 0) (pe_cR (ok_firsts_of T) (hr.mono (by decide)) T.F_firsts_of.kp T.g_firsts_of pass0 (pa_cons (pe_fld (pv 0) rfl) pa_nil)) rfl) (pss_one (ps_fld (pv 0) (pe_cR (ok_gaps_of T) (hr.mono (by decide)) T.F_gaps_of.kp T.g_gaps_of pass0 (pa_cons (pe_fld (pv 0) rfl) (pa_cons (pe_fld (pv 0) rfl) pa_nil))) rfl))))))))), ?_⟩
    refine ⟨_, rfl, p, ts, i, rfl, hT0.mono s0, hl, hz, hb, fun H' d s1 n1 e1 => k H' d (s0.trans s1) (s0.free n1) e1⟩
  · refine ⟨_, (pss_cons (ps_expr (pe_cR (ok_check_trades T) (hr.mono (by decide)) T.F_check_trades.kp T.g_check_trades pass0 (pa_cons (pv 1) pa_nil))) (pss_cons (ps_expr (pe_cR (okX_check_generosity T hK) (hr.mono (by decide)) T.F_check_generosity.kp T.g_check_generosity (passes_call (takes_of rfl rfl rfl rfl) (fun _ _ _ _ h => h)) (pa_cons (pv 1) pa_nil))) (pss_cons (ps_fld (pv 0) (pe_callTy call_tuple_of (by rfl) T.n_tuple (by decide +kernel) (pa_cons (pe_lc (own := [("kind", 3), ("left", 4), ("needed", 5)]) rfl sc_Offer_init.nd (pi_tup (pv 1)) (blkOk_by (own := [("kind", 3), ("left", 4), ("needed", 5)]) (N := N_Offer_init) (sc := defScope s_Offer_init) (by decide +kernel)) (fun _ _ _ _ _ => (pg_tupB (n := 3) (pgs_cons (pg_name (i := 3) sc_Offer_init.nd rfl (Or.inl rfl) (.inr rfl)) (pgs_cons (pg_name (i := 4) sc_Offer_init.nd rfl (Or.inl rfl) (.inr rfl)) (pgs_cons (pg_name (i := 5) sc_Offer_init.nd rfl (Or.inl rfl) (.inr rfl)) pgs_nil))))) (fun _ _ _ _ _ => pts_nil) (fun _ _ _ _ _ => (pe_tup (pa_cons (pv 3) (pa_cons (pv 4) (pa_cons (pv 5) pa_nil)))))) pa_nil)) rfl) (pss_cons (ps_set (i := 2) sc_Offer_init.nd rfl (Or.inl rfl) (pe_cR (ok_drinks_of_period T) (hr.mono (by decide)) T.F_drinks_of_period.kp T.g_drinks_of_period pass0 (pa_cons (pv 1) pa_nil))) (pss_cons (ps_fld (pv 0) (pe_tup (pa_cons (pe_cR (ok_cost_of T) (hr.mono (by decide)) T.F_cost_of.kp T.g_cost_of pass0 (pa_cons (pv 1) (pa_cons (pv 2) pa_nil))) (pa_cons (pv 2) pa_nil))) rfl) (pss_cons (ps_fld (pv 0) (pe_cR (ok_tops_of T) (hr.mono (by decide)) T.F_tops_of.kp T.g_tops_of pass0 (pa_cons (pe_lc (own := [("count", 6)]) rfl sc_Offer_init.nd (pi_range1 rfl T.n_range (pa_cons (pe_op op_mul pe_int (pv 2)) pa_nil)) (blkOk_by (own := [("count", 6)]) (N := N_Offer_init) (sc := defScope s_Offer_init) (by decide +kernel)) (fun _ _ _ _ _ => (pg_name (i := 6) sc_Offer_init.nd rfl (Or.inl rfl) (.inr rfl))) (fun _ _ _ _ _ => pts_nil) (fun _ _ _ _ _ => (pe_cR (ok_cost_of T) (hr.mono (by decide)) T.F_cost_of.kp T.g_cost_of pass0 (pa_cons (pv 1) (pa_cons (pv 6) pa_nil))))) pa_nil)) rfl) (pss_cons (ps_fld (pv 0) (pe_cR (ok_firsts_of T) (hr.mono (by decide)) T.F_firsts_of.kp T.g_firsts_of pass0 (pa_cons (pe_fld (pv 0) rfl) pa_nil)) rfl) (pss_one (ps_fld (pv 0) (pe_cR (ok_gaps_of T) (hr.mono (by decide)) T.F_gaps_of.kp T.g_gaps_of pass0 (pa_cons (pe_fld (pv 0) rfl) (pa_cons (pe_fld (pv 0) rfl) pa_nil))) rfl))))))))), ?_⟩
    refine ⟨_, rfl, p, ts, rfl, hT0.mono s0, hg, hne, hnm, fun H1 s1 => ?_⟩
    exact ⟨_, rfl, p, ts, rfl, hT0.mono (s0.trans s1), hg, hw, fun H' s2 => k H' (s0.trans (s1.trans s2))⟩
end
end EB


namespace EB
open PySem PySem.Spec PyProof.Rows L2
section
variable {X : Cx} {CX : CXT} {k : Nat} {C f : Addr} {sp : Sp} {E : XK} {x : PySem.Str} {p pos : Pos}
/-- C(), all that is asked of no argument -/
theorem pe_makeR0 (M : Mk X.K C f) (F : FnR X.prog X.w X.K X.mg X.base CX k f sp) (hr : Room (k + 1) X.A) (hg : Gl X x) (hm : X.mg x = some (.ref C)) (hx : Passes CX X E) (hdb : (x == ("__debug__" : Str)) = false := by decide) :
    PE X (.Call (.Name x p) [] [] pos) (StX.tMakeR C sp E tNil) := by
  refine ⟨fun pins s σ H Q I h => ?_⟩
  refine wpAny_Call_Name_kw (ld_glob I hg hm ?_ hdb)
  exact PySem.W.callWith_K0 I.kIn M.kp (StX.run_makeR (us := []) M F hr hx I .nil h)
end
/-- what becomes of an offer that is refused -/
def Refused (K : PySem.W.Frag) (ts : List Tr) (H : Hp) (E : XK) : Prop :=
  (ts.length ≤ 5 ∧ (∀ t ∈ ts, t.k.length ≤ 1000) ∧ ∃ i : Nat, badOf ts = some i ∧ ∀ H' d, Same H H' → H d = none → H' d = some (.xd [("index", .int i)]) → E (.ref (He.ga K "InvalidOffer")) (some d) H') ∨
    (gds ts ∧ ts ≠ [] ∧ nmOk ts ∧ ¬ 10 * worth ts ≤ 9 * 27720 ∧ ∀ H', Same H H' → E (.ref (He.ga K "TooGenerous")) none H')
theorem makeX_ok {K : PySem.W.Frag} {H : Hp} {ts : List Tr} {ps : List Addr} {Q : VK} {E : XK} {x dx : Addr} (h2 : ps.length = ts.length) (h3 : ∀ (i : Nat) (p : Addr) (t : Tr), ps[i]? = some p → ts[i]? = some t → SqT K H p t.vs)
    (hl : ts.length ≤ 5) (nx : H x = none) (nd : H dx = none) (ned : dx ≠ x) (hr : Refused K ts H E) :
    ∃ ws rest, (V.ref x :: ps.map V.ref) = ws ++ rest ∧ ws.length = 1 ∧ rest.length ≤ sizeLine ∧ ∀ p, (upd (upd H dx (.own x)) x (.ins (He.ga K "Offer") dx [])) p = none →
      spInitX K (ws ++ [V.ref p]) (upd (upd (upd H dx (.own x)) x (.ins (He.ga K "Offer") dx [])) p (.tup rest)) Q E := by
  refine ⟨[.ref x], ps.map V.ref, rfl, rfl, ?_, fun p hp => ?_⟩
  · rw [List.length_map, h2]
    exact Nat.le_trans hl (by decide)
  obtain ⟨npx, hp1⟩ := upd_none hp
  obtain ⟨npd, hp2⟩ := upd_none hp1
  have sH : Same H (upd H p (.tup (ps.map V.ref))) := same_new hp2
  refine ⟨x, p, upd H p (.tup (ps.map V.ref)), ts, rfl, fun b o e => ?_, ⟨ps, SqT.of upd_same, h2, fun i q t a b => Same.tup sH (h3 i q t a b)⟩, ?_⟩
  · by_cases z : b = p
    · rw [z, upd_same] at e
      rw [z, upd_same]
      exact e
    · rw [upd_ne z] at e
      rw [upd_ne z, upd_ne (ne_of_none e nx), upd_ne (ne_of_none e nd)]
      exact e
  · rcases hr with ⟨a, b, i, c, k⟩ | ⟨a, b, c, d, k⟩
    · exact .inl ⟨a, b, i, c, fun H' d s n e => k H' d (sH.trans s) (upd_none n).2 e⟩
    · exact .inr ⟨a, b, c, d, fun H' s => k H' (sH.trans s)⟩
section
variable {P : Program} {w : World} {K : PySem.W.Frag} {mg : Str → Option Value} {base : Heap} {j k : Nat} {f : Addr} {sp sp' : Sp}
theorem fnR_up (F : FnR P w K mg base CX0 k f sp) : FnR P w K mg base (L2.CX P w) k f sp := fun A outer s H us vs Q E hr e0 rv hs => codeAny_mono (F A outer s H us vs Q E hr e0 rv hs) fun r s' h => by
  cases r with
  | error e => exact False.elim h
  | ok fl => cases fl <;> exact h
theorem fnR_or {CX : CXT} (F : FnR P w K mg base CX j f sp) (G : FnR P w K mg base CX k f sp') : FnR P w K mg base CX (max j k) f (fun vs H Q E => sp vs H Q E ∨ sp' vs H Q E) := fun A outer s H us vs Q E hr e0 rv hs => by
  rcases hs with h | h
  · exact F A outer s H us vs Q E (hr.mono (Nat.le_max_left ..)) e0 rv h
  · exact G A outer s H us vs Q E (hr.mono (Nat.le_max_right ..)) e0 rv h
end
section
variable {w : World} {K : PySem.W.Frag} {mg : Str → Option Value} {base : Heap} (T : Tx K mg)
include T
def spOfferX (K : PySem.W.Frag) : Sp := fun vs H _ E => ∃ (p : Addr) (ts : List Tr), vs = [.ref p] ∧ TrAt K H p ts ∧ ts ≠ [] ∧ ts.length ≤ 3 ∧ Refused K ts H E
theorem okX_law_offer (hK : K.In base) : FnR PX w K mg base (L2.CX PX w) 8 (a_law_offer K) (spOfferX K) := by
  refine fnRX (d := d_law_offer) T.F_law_offer sc_law_offer rfl (fun _ _ _ _ _ _ us hl => match us, hl with | [_], _ => rfl) (fun vs H Q E h => ?_) (fun cdv A outer s H vs Q E hr h => ?_)
  · obtain ⟨p, ts, rfl, _⟩ := h
    rfl
  obtain ⟨p, ts, rfl, hT, hne, hl3, k⟩ := h
  obtain ⟨ps, h1, h2, h3⟩ := hT.ex
  refine ⟨_, (pss_cons (ps_if (pt_cmpR op_eq (pe_callB call_len_seq (by rfl) T.n_len PySem.boot_len (pa_cons (pv 0) pa_nil)) pe_int (nomark _)) (pss_one (ps_ret (StX.pe_makeR T.mk_Offer (okX_Offer_init T hK) (hr.mono (by decide)) (by rfl) T.g_Offer (passes_call (takes_of rfl rfl rfl rfl) (fun _ _ _ _ h => h)) (pa_cons (pe_ix ix_tup (pv 0) pe_int (fun _ _ => rfl)) pa_nil)))) pss_nil) (pss_one (ps_ret (pe_ifExp (pt_cmpR op_eq (pe_callB call_len_seq (by rfl) T.n_len PySem.boot_len (pa_cons (pv 0) pa_nil)) pe_int (nomark _)) (StX.pe_makeR T.mk_Offer (okX_Offer_init T hK) (hr.mono (by decide)) (by rfl) T.g_Offer (passes_call (takes_of rfl rfl rfl rfl) (fun _ _ _ _ h => h)) (pa_cons (pe_ix ix_tup (pv 0) pe_int (fun _ _ => rfl)) (pa_cons (pe_ix ix_tup (pv 0) pe_int (fun _ _ => rfl)) pa_nil))) (StX.pe_makeR T.mk_Offer (okX_Offer_init T hK) (hr.mono (by decide)) (by rfl) T.g_Offer (passes_call (takes_of rfl rfl rfl rfl) (fun _ _ _ _ h => h)) (pa_cons (pe_ix ix_tup (pv 0) pe_int (fun _ _ => rfl)) (pa_cons (pe_ix ix_tup (pv 0) pe_int (fun _ _ => rfl)) (pa_cons (pe_ix ix_tup (pv 0) pe_int (fun _ _ => rfl)) pa_nil)))))))), ?_⟩
  refine ⟨_, rfl, p, _, rfl, .inr h1, rfl, _, rfl, ite2 (fun hd => ?_) (fun hd => ?_)⟩
  · have hd : ((ps.map V.ref).length : Int) = 1 := V.int.inj (of_decide_eq_true hd)
    match ps, hd, h1, h2, h3 with
    | [a], _, h1, h2, h3 =>
      refine ⟨_, rfl, p, _, 0, _, rfl, rfl, h1, rfl, fun x dx nx nd ned => ?_⟩
      exact makeX_ok h2 h3 (by omega) nx nd ned k
    | [], hd, _, _, _ => exact absurd hd (by decide)
    | a :: b :: r, hd, _, _, _ =>
      simp only [List.map_cons, List.length_cons] at hd
      omega
  · have hd : ¬ ((ps.map V.ref).length : Int) = 1 := fun z => hd (decide_eq_true (by rw [z]))
    refine ⟨_, rfl, p, _, rfl, .inr h1, rfl, _, rfl, ite2 (fun hd2 => ?_) (fun hd2 => ?_)⟩
    · have hd2 : ((ps.map V.ref).length : Int) = 2 := V.int.inj (of_decide_eq_true hd2)
      match ps, hd2, h1, h2, h3 with
      | [a, b], _, h1, h2, h3 =>
        refine ⟨_, rfl, p, _, 0, _, rfl, rfl, h1, rfl, _, rfl, p, _, 1, _, rfl, rfl, h1, rfl, fun x dx nx nd ned => ?_⟩
        exact makeX_ok h2 h3 (by omega) nx nd ned k
      | [], hd, _, _, _ => exact absurd hd (by decide)
      | [_], hd, _, _, _ => exact absurd hd (by simp)
      | a :: b :: c :: r, hd, _, _, _ =>
        simp only [List.map_cons, List.length_cons] at hd
        omega
    · have hd2 : ¬ ((ps.map V.ref).length : Int) = 2 := fun z => hd2 (decide_eq_true (by rw [z]))
      match ps, hd, hd2, h1, h2, h3 with
      | [a, b, c], _, _, h1, h2, h3 =>
        refine ⟨_, rfl, p, _, 0, _, rfl, rfl, h1, rfl, _, rfl, p, _, 1, _, rfl, rfl, h1, rfl, _, rfl, p, _, 2, _, rfl, rfl, h1, rfl, fun x dx nx nd ned => ?_⟩
        exact makeX_ok h2 h3 (by omega) nx nd ned k
      | [], hd, _, _, h2, _ =>
        cases ts with
        | nil => exact absurd rfl hne
        | cons _ _ => cases h2
      | [_], hd, _, _, _, _ => exact absurd rfl hd
      | [_, _], _, hd, _, _, _ => exact absurd rfl hd
      | a :: b :: c :: d :: r, _, _, _, h2, _ =>
        simp only [List.length_cons] at h2
        omega
end
end EB

namespace EB
open PySem PySem.Spec PyProof.Rows L2
section
variable {X : Cx} {C : Addr} {bmB : List Value} {B newId initId : String}
/-- X(e), a class of errors without an __init__ of its own -/
theorem pmk_ownE {x : Str} {e : Expr} {te : TE} {p pos : Pos} (F : ExcBaseFacts B newId initId bmB) (q : PySem.W.excIn X.K C bmB newId = true) (gC : X.mg x = some (.ref C)) (kC : PySem.W.keepIn X.K (.ref C) = true) (r : Raises X (.ref C)) (hg : Gl X x) (he : PE X e te)
    (na : starEach [e] X.env = (false, eval e X.env) :: starEach [] X.env := by rfl) (hdb : (x == ("__debug__" : Str)) = false := by decide) : PMk X (.Call (.Name x p) [e] [] pos) (fun σ H Q => te σ H fun v H1 => [v].length = 1 ∧ Q (.ref C) none H1) := by
  intro pins s σ H Q I h
  refine wpAny_Call_Name_kw (ld_glob I hg gC ?_ hdb)
  have ha : PA X [e] (tCons te tNil) := pa_cons he pa_nil na
  refine PySem.W.callWith_K (h₀ := X.base) (he := na) I.ok.mod.kin kC (thn (ha.run pos pins s σ H (fun vs H1 => vs.length = 1 ∧ Q (.ref C) none H1) I h) fun us s1 hh => ?_)
  obtain ⟨vs, H1, I1, r1, ev, h1⟩ := hh
  refine ⟨I1.kIn, ?_⟩
  match vs, us, r1, ev with
  | [v], [u], .cons ru rn, _ =>
    show wpAny _ _ (call (.ref C) [u]) _ _ _
    obtain ⟨bm, N, nm, qn, bs, hdct, sn, sub, ab, col, dd, k0, k1, k2, k3, k5, mN, hC, hN, hni, T⟩ := exc_obj I1.kIn q
    refine wpAny_call_exc_subT F T hC hN hni (fun h' e hm => ?_) (by show 1 ≤ sizeLine; rw [sizeLine_eq]; omega)
    exact mk_of I1 hm r h1 (I1.hok.gone hm.new)
end
section
variable {w : World} {K : PySem.W.Frag} {mg : Str → Option Value} {base : Heap} {P : Program}
theorem gss_never {X : Cx} {sts : List Stmt} : GSs X sts (fun _ _ _ _ => False) := ⟨fun _ _ _ _ _ _ _ _ _ _ _ _ _ _ _ _ _ _ _ _ _ h => h.elim⟩
/-- a def that may raise, called with its first values, the others filled up by its defaults -/
theorem fnRDX {d : DD} {fd : FuncData} {N ps : List Str} {k : Nat} {sp : Sp} (F : FnP K d fd) (S : FnScope N ps (defScope d.st)) (n j : Nat) (hd : d.df.map (He.Dv.v K) ≠ []) (hn : n + ((d.df.map (He.Dv.v K)).length - j) = ps.length)
    (b : ∀ (Tt : Addr) (kV doc pm : Value) (an : Option Addr) (cdv ct : Value) (us its : List Value), us.length = n → its.length = (d.df.map (He.Dv.v K)).length →
      ∃ k, bindArgs (PySem.W.fnOf d.nm d.ql (defArgs d.st) (defBody d.st) (defScope d.st) (.ref Tt) kV doc pm an cdv ct) ⟨us, []⟩ = seqItems? (.ref Tt) >>= k ∧ k (some its.toArray) = pure (ps.zip (us ++ its.drop j)))
    (len : ∀ vs H Q E, sp vs H Q E → vs.length = ps.length)
    (hbody : ∀ (cdv : Value) (A : Around) (outer : List Env) (s : Shared) (H : Hp) (vs : List V) (Q : VK) (E : XK), Room k (A.deeper (envOfC d.ql (defScope d.st) s.heap.objs.size (d.adr K) cdv)) → sp vs H Q E →
      ∃ t, PSs (cxOf (L2.CX P w) P w K mg base N d.ql (defScope d.st) (d.adr K) cdv A outer s H E) (defBody d.st) t ∧ t { nx := fun _ H' => Q .non H', rt := Q } (start N vs) H) :
    FnR P w K mg base (L2.CX P w) (k + 1) (d.adr K) (fun vs H Q E => sp (vs ++ (d.df.map (He.Dv.v K)).drop j) H Q E) := by
  have F1 : FnOk P w K mg base (L2.CX P w) (k + 1) (d.adr K) fd ps sp := FunD.ok F S len fun cdv A outer s H vs Q E hr h => hbody cdv A outer s H vs Q E hr h
  obtain ⟨ds, h1, h2⟩ := FunD.binds1 F n j hd hn b
  exact F1.raw h2 h1
end
section
variable {w : World} {K : PySem.W.Frag} {mg : Str → Option Value} {base : Heap} (T : Tx K mg)
include T
/-- the bounds that the program asks for -/
def bnds : List (Int × Int) := [(0, 1000000000000000000), (1, 1000000000000000000), (1, 2), (0, 1), (1, 1000000000000000001)]
def spChkX (K : PySem.W.Frag) : Sp := fun vs H Q E => ∃ i lo hi : Int, vs = [.int i, .int lo, .int hi] ∧ (lo, hi) ∈ bnds ∧ (numOk i lo hi = true → Q .non H) ∧ (numOk i lo hi = false → E (.ref (He.ga K "InvalidNumber")) none H)
theorem chk_body (hK : K.In base) (cdv : Value) (A : Around) (outer : List Env) (s : Shared) (H : Hp) (vs : List V) (Q : VK) (E : XK) (hr : Room 2 (A.deeper (envOfC d_check_number.ql (defScope d_check_number.st) s.heap.objs.size (d_check_number.adr K) cdv))) (h : spChkX K vs H Q E) :
    ∃ t, PSs (cxOf (L2.CX PX w) PX w K mg base N_check_number d_check_number.ql (defScope d_check_number.st) (d_check_number.adr K) cdv A outer s H E) (defBody d_check_number.st) t ∧ t { nx := fun _ H' => Q .non H', rt := Q } (start N_check_number vs) H := by
  obtain ⟨i, lo, hi, rfl, hm, h1, h2⟩ := h
  refine ⟨_, (pss_one (ps_if (pt_not (pt_val (pe_cR (ok_is_number T) (hr.mono (by decide)) T.F_is_number.kp T.g_is_number pass0 (pa_cons (pv 0) (pa_cons (pv 1) (pa_cons (pv 2) pa_nil)))))) (pss_one (ps_raise rfl (takes_of rfl rfl rfl rfl) (pmk_ownE PySem.F.excBase_ValueError T.x_InvalidNumber.own T.g_InvalidNumber T.x_InvalidNumber.keep (raises_own T.x_InvalidNumber.base T.x_InvalidNumber.ty) (by rfl) (pe_joined (.cons pe_str (.cons (pe_fmt (pv 1)) (.cons pe_str (.cons (pe_fmt (pv 2)) .nil)))))))) pss_nil)), ?_⟩
  refine ⟨_, rfl, _, rfl, _, rfl, i, lo, hi, rfl, _, rfl, ?_⟩
  cases hz : numOk i lo hi with
  | true => exact iteF (h1 hz)
  | false =>
    refine iteT ?_
    have h3 := h2 hz
    simp only [bnds, List.mem_cons, Prod.mk.injEq, List.not_mem_nil, or_false] at hm
    rcases hm with ⟨rfl, rfl⟩ | ⟨rfl, rfl⟩ | ⟨rfl, rfl⟩ | ⟨rfl, rfl⟩ | ⟨rfl, rfl⟩
    all_goals exact ⟨_, rfl, by decide +kernel, _, rfl, .inr ⟨_, rfl, by decide +kernel, _, rfl, by decide +kernel, _, rfl, by decide +kernel, _, rfl, .inr ⟨_, rfl, by decide +kernel, _, rfl, by decide +kernel, rfl, h3⟩⟩⟩
/-- check_number, with one, two or three arguments -/
def spChkA (K : PySem.W.Frag) : Sp := fun vs H Q E => ∃ i lo hi : Int, ((vs = [.int i] ∧ lo = 0 ∧ hi = 1000000000000000000) ∨ (vs = [.int i, .int lo] ∧ hi = 1000000000000000000) ∨ vs = [.int i, .int lo, .int hi]) ∧ (lo, hi) ∈ bnds ∧
  (numOk i lo hi = true → Q .non H) ∧ (numOk i lo hi = false → E (.ref (He.ga K "InvalidNumber")) none H)
theorem okX_check_number (hK : K.In base) : FnR PX w K mg base (L2.CX PX w) 3 (a_check_number K) (spChkA K) := by
  have len : ∀ vs H Q E, spChkX K vs H Q E → vs.length = ["value", "least", "most"].length := fun vs H Q E h => by
    obtain ⟨i, lo, hi, rfl, _⟩ := h
    rfl
  have F1 := fnRDX (w := w) (base := base) (d := d_check_number) (sp := spChkX K) (k := 2) (ps := ["value", "least", "most"]) T.F_check_number sc_check_number 1 0 (fun z => nomatch z) rfl (fun _ _ _ _ _ _ _ us its hl hi => match us, its, hl, hi with | [_], [_, _], _, _ => ⟨_, rfl, rfl⟩) len (chk_body T hK)
  have F2 := fnRDX (w := w) (base := base) (d := d_check_number) (sp := spChkX K) (k := 2) (ps := ["value", "least", "most"]) T.F_check_number sc_check_number 2 1 (fun z => nomatch z) rfl (fun _ _ _ _ _ _ _ us its hl hi => match us, its, hl, hi with | [_, _], [_, _], _, _ => ⟨_, rfl, rfl⟩) len (chk_body T hK)
  have F3 := fnRDX (w := w) (base := base) (d := d_check_number) (sp := spChkX K) (k := 2) (ps := ["value", "least", "most"]) T.F_check_number sc_check_number 3 2 (fun z => nomatch z) rfl (fun _ _ _ _ _ _ _ us its hl hi => match us, its, hl, hi with | [_, _, _], [_, _], _, _ => ⟨_, rfl, rfl⟩) len (chk_body T hK)
  refine (fnR_or (fnR_or F1 F2) F3).imp fun vs H Q E h => ?_
  obtain ⟨i, lo, hi, hv, hm, h1, h2⟩ := h
  rcases hv with ⟨rfl, rfl, rfl⟩ | ⟨rfl, rfl⟩ | rfl
  · exact .inl (.inl ⟨i, 0, 1000000000000000000, rfl, hm, h1, h2⟩)
  · exact .inl (.inr ⟨i, lo, 1000000000000000000, rfl, hm, h1, h2⟩)
  · exact .inr ⟨i, lo, hi, rfl, hm, h1, h2⟩
omit T in
theorem chk1 {K : PySem.W.Frag} {i : Int} {H : Hp} {Q : VK} {E : XK} (h1 : 0 ≤ i → i ≤ 1000000000000000000 → Q .non H) (h2 : ¬ (0 ≤ i ∧ i ≤ 1000000000000000000) → E (.ref (He.ga K "InvalidNumber")) none H) : spChkA K [.int i] H Q E :=
  ⟨i, 0, 1000000000000000000, .inl ⟨rfl, rfl, rfl⟩, by simp [bnds], fun z => h1 (numOk_iff.mp z).1 (numOk_iff.mp z).2, fun z => h2 fun y => by rw [numOk_iff.mpr y] at z; cases z⟩
omit T in
theorem chk2 {K : PySem.W.Frag} {i : Int} {H : Hp} {Q : VK} {E : XK} (h1 : 1 ≤ i → i ≤ 1000000000000000000 → Q .non H) (h2 : ¬ (1 ≤ i ∧ i ≤ 1000000000000000000) → E (.ref (He.ga K "InvalidNumber")) none H) : spChkA K [.int i, .int 1] H Q E :=
  ⟨i, 1, 1000000000000000000, .inr (.inl ⟨rfl, rfl⟩), by simp [bnds], fun z => h1 (numOk_iff.mp z).1 (numOk_iff.mp z).2, fun z => h2 fun y => by rw [numOk_iff.mpr y] at z; cases z⟩
omit T in
theorem chk3 {K : PySem.W.Frag} {i lo hi : Int} {H : Hp} {Q : VK} {E : XK} (hm : (lo, hi) ∈ bnds) (h1 : lo ≤ i → i ≤ hi → Q .non H) (h2 : ¬ (lo ≤ i ∧ i ≤ hi) → E (.ref (He.ga K "InvalidNumber")) none H) : spChkA K [.int i, .int lo, .int hi] H Q E :=
  ⟨i, lo, hi, .inr (.inr rfl), hm, fun z => h1 (numOk_iff.mp z).1 (numOk_iff.mp z).2, fun z => h2 fun y => by rw [numOk_iff.mpr y] at z; cases z⟩
/-- a number out of range, told by the first statement -/
def spFarX (K : PySem.W.Frag) : Sp := fun vs H _ E => ∃ (v : V) (n : Int), vs = [v, .int n] ∧ ¬ (0 ≤ n ∧ n ≤ 1000000000000000000) ∧ E (.ref (He.ga K "InvalidNumber")) none H
theorem okX_Offer_call (hK : K.In base) : FnR PX w K mg base (L2.CX PX w) 4 (a_Offer_call K) (spFarX K) := by
  refine fnRX (d := d_Offer_call) T.F_Offer_call sc_Offer_call rfl (fun _ _ _ _ _ _ us hl => match us, hl with | [_, _], _ => rfl) (fun vs H Q E h => ?_) (fun cdv A outer s H vs Q E hr h => ?_)
  · obtain ⟨v, n, rfl, _⟩ := h
    rfl
  obtain ⟨v, n, rfl, hn, k⟩ := h
  refine ⟨_, (pss_cons (ps_expr (pe_cR (okX_check_number T hK) (hr.mono (by decide)) T.F_check_number.kp T.g_check_number (passes_call (takes_of rfl rfl rfl rfl) (fun _ _ _ _ h => h)) (pa_cons (pv 1) pa_nil))) pss_never), ?_⟩
  refine ⟨_, rfl, ?_⟩
  dsimp only [tNil, tCons, tC]
  exact chk1 (fun a b => absurd ⟨a, b⟩ hn) fun _ => k
theorem okX_Offer_left_over (hK : K.In base) : FnR PX w K mg base (L2.CX PX w) 4 (a_Offer_left_over K) (spFarX K) := by
  refine fnRX (d := d_Offer_left_over) T.F_Offer_left_over sc_Offer_left_over rfl (fun _ _ _ _ _ _ us hl => match us, hl with | [_, _], _ => rfl) (fun vs H Q E h => ?_) (fun cdv A outer s H vs Q E hr h => ?_)
  · obtain ⟨v, n, rfl, _⟩ := h
    rfl
  obtain ⟨v, n, rfl, hn, k⟩ := h
  refine ⟨_, (pss_cons (ps_expr (pe_cR (okX_check_number T hK) (hr.mono (by decide)) T.F_check_number.kp T.g_check_number (passes_call (takes_of rfl rfl rfl rfl) (fun _ _ _ _ h => h)) (pa_cons (pv 1) pa_nil))) pss_never), ?_⟩
  refine ⟨_, rfl, ?_⟩
  dsimp only [tNil, tCons, tC]
  exact chk1 (fun a b => absurd ⟨a, b⟩ hn) fun _ => k
end
end EB

namespace EB
open PySem PySem.Spec PyProof.Rows L2
section
variable {P : Program} {w : World} {K : PySem.W.Frag} {mg : Str → Option Value} {base : Heap} (T : Tx K mg)
theorem bnd0 {d : DD} {fd : FuncData} {N ps : List Str} (F : FnP K d fd) (S : FnScope N ps (defScope d.st)) (e : d.df = [])
    (b : ∀ (kV doc pm : Value) (an : Option Addr) (cdv ct : Value) (us : List Value), us.length = ps.length → bindArgs (PySem.W.fnOf d.nm d.ql (defArgs d.st) (defBody d.st) (defScope d.st) .none kV doc pm an cdv ct) ⟨us, []⟩ = pure (ps.zip us)) : Binds K fd ps [] := by
  have F2 : FunD K d.nm d.ql (defArgs d.st) (defBody d.st) (defScope d.st) [] [] (d.adr K) fd := by
    have z : FnP K d fd := F
    unfold FnP at z
    rw [e] at z
    exact z
  exact F2.bindsN b
include T
theorem b_Offer_period : Binds K T.fd_Offer_period ["self"] [] := bnd0 T.F_Offer_period sc_Offer_period rfl (fun _ _ _ _ _ _ us hl => match us, hl with | [_], _ => rfl)
def spPeriod (K : PySem.W.Frag) : Sp := fun vs H Q _ => ∃ (a : Addr) (ts : List Tr), vs = [.ref a] ∧ OfAt K H a ts ∧ ∀ p, SqT K H p [.int (perB ts : Nat), .int (per ts : Nat)] → Q (.ref p) H
theorem ok_Offer_period : FnOk P w K mg base CX0 1 (a_Offer_period K) T.fd_Offer_period ["self"] (spPeriod K) := by
  refine fnK0 (d := d_Offer_period) T.F_Offer_period sc_Offer_period (fun vs H Q E h => ?_) (fun cdv A outer s H vs Q E hr h => ?_)
  · obtain ⟨a, ts, rfl, _⟩ := h
    rfl
  obtain ⟨a, ts, rfl, ho, k⟩ := h
  obtain ⟨dx, t, p, o, f, g, e1, e2, e3, e4, e5, e6⟩ := ho.ex
  refine ⟨_, (pss_one (ps_ret (pe_fld (pv 0) rfl))), ?_⟩
  exact ⟨_, rfl, a, _, dx, _, _, rfl, e1, T.k_Offer, T.na_period, lk_period, k _ e3⟩
end
end EB

namespace EB
open PySem PySem.Spec PyProof.Rows L2
section
variable {P : Program} {w : World} {K : PySem.W.Frag} {mg : Str → Option Value} {base : Heap} (T : Tx K mg)
include T
theorem b_Offer_steady_from : Binds K T.fd_Offer_steady_from ["self"] [] := bnd0 T.F_Offer_steady_from sc_Offer_steady_from rfl (fun _ _ _ _ _ _ us hl => match us, hl with | [_], _ => rfl)
def spSteady (K : PySem.W.Frag) : Sp := fun vs H Q _ => ∃ (a : Addr) (ts : List Tr), vs = [.ref a] ∧ OfAt K H a ts ∧ Fair ts ∧ Q (.int (EB.T (cN ts) (per ts - 1) + 1 - perB ts)) H
theorem ok_Offer_steady_from : FnOk P w K mg base CX0 1 (a_Offer_steady_from K) T.fd_Offer_steady_from ["self"] (spSteady K) := by
  refine fnK0 (d := d_Offer_steady_from) T.F_Offer_steady_from sc_Offer_steady_from (fun vs H Q E h => ?_) (fun cdv A outer s H vs Q E hr h => ?_)
  · obtain ⟨a, ts, rfl, _⟩ := h
    rfl
  obtain ⟨a, ts, rfl, ho, hf, k⟩ := h
  obtain ⟨dx, t, p, o, f, g, e1, e2, e3, e4, e5, e6⟩ := ho.ex
  refine ⟨_, (pss_cons (ps_asg (pe_fld (pv 0) rfl) (pg_tup rfl (pgs_cons (pg_name (i := 1) sc_Offer_steady_from.nd rfl (Or.inl rfl)) (pgs_cons (pg_name (i := 2) sc_Offer_steady_from.nd rfl (Or.inl rfl)) pgs_nil)))) (pss_one (ps_ret (pe_op op_sub (pe_op op_add (pe_ix ix_list (pe_fld (pv 0) rfl) (pe_op op_sub (pv 2) pe_int) (fun _ _ => rfl)) pe_int) (pv 1))))), ?_⟩
  have hp := per_pos hf.g
  refine ⟨_, rfl, a, _, dx, _, _, rfl, e1, T.k_Offer, T.na_period, lk_period, p, _, rfl, e3, rfl, _, _, rfl, _, _, rfl, rfl, ?_⟩
  refine ⟨_, rfl, a, _, dx, _, _, rfl, e1, T.k_Offer, T.na_tops, lk_tops, _, rfl, _, _, rfl, rfl, o, _, _, _, rfl, rfl, e4, ?_, _, _, rfl, rfl, _, rfl, _, _, rfl, rfl, k⟩
  refine at_of (j := per ts - 1) (by omega) ?_
  rw [List.getElem?_map, List.getElem?_map, List.getElem?_range (by omega)]
  rfl
end
end EB

namespace EB
open PySem PySem.Spec PyProof.Rows L2
/-! Numbers that are still possible. -/
def cfs (s : Int) (e : Addr) (p : Int) (o : Addr) : List (Str × V) := [("_start", .int s), ("_early", .ref e), ("_span", .int p), ("_offsets", .ref o)]
structure CandAt (K : PySem.W.Frag) (H : Hp) (c : Addr) (s : Int) (early : List Int) (p : Int) (offs : List Int) : Prop where
  ex : ∃ dx e o, H c = some (.ins (He.ga K "Candidates") dx (cfs s e p o)) ∧ SqL K H e (early.map V.int) ∧ SqL K H o (offs.map V.int)
theorem CandAt.mono {K : PySem.W.Frag} {H H' : Hp} {c : Addr} {s p : Int} {early offs : List Int} (q : Same H H') (h : CandAt K H c s early p offs) : CandAt K H' c s early p offs := by
  obtain ⟨dx, e, o, h1, h2, h3⟩ := h.ex
  exact ⟨dx, e, o, q _ _ h1, q.seq h2, q.seq h3⟩
/-- such candidates, all of it new -/
structure CandNew (K : PySem.W.Frag) (H0 H : Hp) (c : Addr) (s : Int) (early : List Int) (p : Int) (offs : List Int) : Prop where
  ex : ∃ dx e o, H c = some (.ins (He.ga K "Candidates") dx (cfs s e p o)) ∧ H e = some (.lst (early.map V.int)) ∧ H o = some (.lst (offs.map V.int)) ∧ H0 c = none ∧ H0 e = none ∧ H0 o = none
theorem CandNew.at_ {K : PySem.W.Frag} {H0 H : Hp} {c : Addr} {s p : Int} {early offs : List Int} (h : CandNew K H0 H c s early p offs) : CandAt K H c s early p offs := by
  obtain ⟨dx, e, o, h1, h2, h3, _⟩ := h.ex
  exact ⟨dx, e, o, h1, SqL.of h2, SqL.of h3⟩
theorem CandNew.mono {K : PySem.W.Frag} {H0 H H' : Hp} {c : Addr} {s p : Int} {early offs : List Int} (q : Same H H') (h : CandNew K H0 H c s early p offs) : CandNew K H0 H' c s early p offs := by
  obtain ⟨dx, e, o, h1, h2, h3, h4⟩ := h.ex
  exact ⟨dx, e, o, q _ _ h1, q _ _ h2, q _ _ h3, h4⟩
theorem CandNew.base {K : PySem.W.Frag} {H0 H1 H : Hp} {c : Addr} {s p : Int} {early offs : List Int} (q : Same H0 H1) (h : CandNew K H1 H c s early p offs) : CandNew K H0 H c s early p offs := by
  obtain ⟨dx, e, o, h1, h2, h3, h4, h5, h6⟩ := h.ex
  exact ⟨dx, e, o, h1, h2, h3, q.free h4, q.free h5, q.free h6⟩
theorem lk_start {s p : Int} {e o : Addr} : (cfs s e p o).lookup ("_start" : Str) = some (.int s) := lkY
theorem lk_early {s p : Int} {e o : Addr} : (cfs s e p o).lookup ("_early" : Str) = some (.ref e) := by
  unfold cfs
  rw [lkN (by decide +kernel), lkY]
theorem lk_span {s p : Int} {e o : Addr} : (cfs s e p o).lookup ("_span" : Str) = some (.int p) := by
  unfold cfs
  rw [lkN (by decide +kernel), lkN (by decide +kernel), lkY]
theorem lk_offsets {s p : Int} {e o : Addr} : (cfs s e p o).lookup ("_offsets" : Str) = some (.ref o) := by
  unfold cfs
  rw [lkN (by decide +kernel), lkN (by decide +kernel), lkN (by decide +kernel), lkY]
theorem lk_noc {s p : Int} {e o : Addr} {m : Str} (h : ((m == "_start") || ((m == "_early") || ((m == "_span") || (m == "_offsets")))) = false) : (cfs s e p o).lookup m = none := by
  obtain ⟨h1, h⟩ := Bool.or_eq_false_iff.mp h
  obtain ⟨h2, h⟩ := Bool.or_eq_false_iff.mp h
  obtain ⟨h3, h4⟩ := Bool.or_eq_false_iff.mp h
  unfold cfs
  rw [lkN h1, lkN h2, lkN h3, lkN h4]
  rfl
theorem putc1 {a : V} : putF "_start" a [] = ([("_start", a)] : List (Str × V)) := rfl
theorem putc2 {a b : V} : putF "_early" b ([("_start", a)] : List (Str × V)) = ([("_start", a), ("_early", b)] : List (Str × V)) := by
  rw [putF_ne (by decide +kernel)]
  rfl
theorem putc3 {a b c : V} : putF "_span" c ([("_start", a), ("_early", b)] : List (Str × V)) = ([("_start", a), ("_early", b), ("_span", c)] : List (Str × V)) := by
  rw [putF_ne (by decide +kernel), putF_ne (by decide +kernel)]
  rfl
theorem putc4 {a b c d : V} : putF "_offsets" d ([("_start", a), ("_early", b), ("_span", c)] : List (Str × V)) = ([("_start", a), ("_early", b), ("_span", c), ("_offsets", d)] : List (Str × V)) := by
  rw [putF_ne (by decide +kernel), putF_ne (by decide +kernel), putF_ne (by decide +kernel)]
  rfl
/-- so many of them are not greater than the last number -/
def candMany (s : Int) (early : List Int) (p : Int) (offs : List Int) (last : Int) : Int :=
  if last < s then ((early.filter fun n => decide (n ≤ last)).length : Int) else ((early.filter fun n => decide (n ≤ last)).length : Int) + (last - s) / p * offs.length + ((offs.filter fun o => decide (o ≤ (last - s) % p)).length : Int)
/-- what is at a place, none if there is nothing -/
def candV (s : Int) (early : List Int) (p : Int) (offs : List Int) (place : Int) : V :=
  if place < early.length then .int (early.getD place.toNat 0) else if offs = [] then .non else .int (s + (place - early.length) / offs.length * p + offs.getD ((place - early.length) % offs.length).toNat 0)
section
variable {P : Program} {w : World} {K : PySem.W.Frag} {mg : Str → Option Value} {base : Heap} (T : Tx K mg)
include T
def spCandI (K : PySem.W.Frag) : Sp := fun vs H Q _ => ∃ (x : Addr) (s p : Int) (e o dx : Addr), vs = [.ref x, .int s, .ref e, .int p, .ref o] ∧ H x = some (.ins (He.ga K "Candidates") dx []) ∧ Q .non (upd H x (.ins (He.ga K "Candidates") dx (cfs s e p o)))
theorem ok_Candidates_init : FnR P w K mg base CX0 1 (a_Candidates_init K) (spCandI K) := by
  refine fnR0 (d := d_Candidates_init) T.F_Candidates_init sc_Candidates_init rfl (fun _ _ _ _ _ _ us hl => match us, hl with | [_, _, _, _, _], _ => rfl) (fun vs H Q E h => ?_) (fun cdv A outer s H vs Q E hr h => ?_)
  · obtain ⟨x, s, p, e, o, dx, rfl, _⟩ := h
    rfl
  obtain ⟨x, s, p, e, o, dx, rfl, hx, k⟩ := h
  refine ⟨_, (pss_cons (ps_fld (pv 0) (pv 1) rfl) (pss_cons (ps_fld (pv 0) (pv 2) rfl) (pss_cons (ps_fld (pv 0) (pv 3) rfl) (pss_one (ps_fld (pv 0) (pv 4) rfl))))), ?_⟩
  refine ⟨_, rfl, _, rfl, x, _, dx, [], rfl, hx, T.k_Candidates, T.na_start, by show 0 < 1000; decide, ?_⟩
  rw [putc1]
  refine ⟨_, rfl, _, rfl, x, _, dx, _, rfl, upd_same, T.k_Candidates, T.na_early, by show 1 < 1000; decide, ?_⟩
  rw [putc2, upd_upd]
  refine ⟨_, rfl, _, rfl, x, _, dx, _, rfl, upd_same, T.k_Candidates, T.na_span, by show 2 < 1000; decide, ?_⟩
  rw [putc3, upd_upd]
  refine ⟨_, rfl, _, rfl, x, _, dx, _, rfl, upd_same, T.k_Candidates, T.na_offsets, by show 3 < 1000; decide, ?_⟩
  rw [putc4, upd_upd]
  exact k
def spMany (K : PySem.W.Frag) : Sp := fun vs H Q _ => ∃ (c : Addr) (s p last : Int) (early offs : List Int), vs = [.ref c, .int last] ∧ CandAt K H c s early p offs ∧ early.length ≤ 10000000 ∧ offs.length ≤ 10000000 ∧ 0 ≤ s ∧ 0 < p ∧ p < 1073741824 ∧ 0 ≤ last ∧ last ≤ 1000000000000000000 ∧
  ∀ H', Same H H' → Q (.int (candMany s early p offs last)) H'
theorem ok_Candidates_many_within : FnR P w K mg base CX0 1 (a_Candidates_many_within K) (spMany K) := by
  refine fnR0 (d := d_Candidates_many_within) T.F_Candidates_many_within sc_Candidates_many_within rfl (fun _ _ _ _ _ _ us hl => match us, hl with | [_, _], _ => rfl) (fun vs H Q E h => ?_) (fun cdv A outer s H vs Q E hr h => ?_)
  · obtain ⟨c, s, p, last, early, offs, rfl, _⟩ := h
    rfl
  obtain ⟨c, s, p, last, early, offs, rfl, hc, le, lo, hs0, hp0, hp1, hl0, hl1, k⟩ := h
  obtain ⟨dx, e, o, h1, h2, h3⟩ := hc.ex
  have hz : ∀ n : Nat, n ≤ 10000000 → n < sizeLine := fun n h => Nat.lt_of_le_of_lt h (by decide)
  refine ⟨_, (pss_cons (ps_set (i := 2) sc_Candidates_many_within.nd rfl (Or.inl rfl) (pe_callB call_len_seq (by rfl) T.n_len PySem.boot_len (pa_cons (pe_lc (own := [("number", 5)]) rfl sc_Candidates_many_within.nd (pi_list (pe_fld (pv 0) rfl)) (blkOk_by (own := [("number", 5)]) (N := N_Candidates_many_within) (sc := defScope s_Candidates_many_within) (by decide +kernel)) (fun _ _ _ _ _ => (pg_name (i := 5) sc_Candidates_many_within.nd rfl (Or.inl rfl) (.inr rfl))) (fun _ _ _ _ _ => (pts_one (pt_cmpR op_le (pv 5) (pv 1) (nomark _)))) (fun _ _ _ _ _ => (pv 5))) pa_nil))) (pss_cons (ps_if (pt_cmpR op_lt (pv 1) (pe_fld (pv 0) rfl) (nomark _)) (pss_one (ps_ret (pv 2))) pss_nil) (pss_cons (ps_asg (pe_callB call_divmod (by rfl) T.n_divmod (by decide +kernel) (pa_cons (pe_op op_sub (pv 1) (pe_fld (pv 0) rfl)) (pa_cons (pe_fld (pv 0) rfl) pa_nil))) (pg_tup rfl (pgs_cons (pg_name (i := 3) sc_Candidates_many_within.nd rfl (Or.inl rfl)) (pgs_cons (pg_name (i := 4) sc_Candidates_many_within.nd rfl (Or.inr rfl)) pgs_nil)))) (pss_one (ps_ret (pe_op op_add (pe_op op_add (pv 2) (pe_op op_mul (pv 3) (pe_callB call_len_seq (by rfl) T.n_len PySem.boot_len (pa_cons (pe_fld (pv 0) rfl) pa_nil)))) (pe_callB call_len_seq (by rfl) T.n_len PySem.boot_len (pa_cons (pe_lc (own := [("offset", 6)]) rfl sc_Candidates_many_within.nd (pi_list (pe_fld (pv 0) rfl)) (blkOk_by (own := [("offset", 6)]) (N := N_Candidates_many_within) (sc := defScope s_Candidates_many_within) (by decide +kernel)) (fun _ _ _ _ _ => (pg_name (i := 6) sc_Candidates_many_within.nd rfl (Or.inl rfl) (.inr rfl))) (fun _ _ _ _ _ => (pts_one (pt_cmpR op_le (pv 6) (pv 4) (nomark _)))) (fun _ _ _ _ _ => (pv 6))) pa_nil)))))))), ?_⟩
  refine ⟨_, rfl, c, _, dx, _, _, rfl, h1, T.k_Candidates, T.na_early, lk_early, e, rfl, ⟨_, h2⟩, fun D hD => ?_⟩
  refine lc_list (xs := early.map V.int) (fun i H1 => Same H H1 ∧ H1 D = some (.lst (((early.take i).filter fun n => decide (n ≤ last)).map V.int))) ⟨same_new hD, upd_same⟩ (fun i H1 _ q => q.1.seq h2) ?_ ?_
  · rintro i x H1 hx ⟨s1, e1⟩
    obtain ⟨n, en, rfl⟩ := int_at hx
    refine ⟨rfl, _, rfl, _, rfl, _, _, rfl, rfl, _, rfl, ite2 (fun hd => ?_) (fun hd => ?_)⟩
    · refine ⟨_, rfl, _, e1, hz _ ?_, same_mut s1 hD, ?_⟩
      · rw [List.length_map]
        exact Nat.le_trans (List.length_filter_le _ _) (Nat.le_trans (List.length_take_le _ _) (by have := lt_of_at en; omega))
      · rw [upd_same, take_at en, List.filter_append, List.filter_cons, if_pos hd, List.filter_nil, List.map_append]
        rfl
    · refine ⟨s1, ?_⟩
      rw [take_at en, List.filter_append, List.filter_cons, if_neg hd, List.filter_nil, List.append_nil]
      exact e1
  rintro H1 ⟨s1, e1⟩
  rw [List.length_map, List.take_length] at e1
  have hm : ((early.filter fun n => decide (n ≤ last)).length : Int) ≤ 10000000 := by
    have := List.length_filter_le (fun n => decide (n ≤ last)) early
    omega
  refine ⟨D, _, rfl, .inl (SqL.of e1), ?_⟩
  rw [List.length_map]
  have hm0 : candMany s early p offs last = if last < s then ((early.filter fun n => decide (n ≤ last)).length : Int) else ((early.filter fun n => decide (n ≤ last)).length : Int) + (last - s) / p * offs.length + ((offs.filter fun o => decide (o ≤ (last - s) % p)).length : Int) := rfl
  generalize ((early.filter fun n => decide (n ≤ last)).length : Int) = many at hm hm0
  refine ⟨_, rfl, _, rfl, c, _, dx, _, _, rfl, s1 _ _ h1, T.k_Candidates, T.na_start, lk_start, _, _, rfl, rfl, _, rfl, ite2 (fun hd => ?_) (fun hd => ?_)⟩
  · have hd : last < s := of_decide_eq_true hd
    rw [if_pos hd] at hm0
    refine ⟨_, rfl, ?_⟩
    rw [← hm0]
    exact k _ s1
  have hd : ¬ last < s := fun z => hd (decide_eq_true z)
  rw [if_neg hd] at hm0
  refine ⟨_, rfl, _, rfl, c, _, dx, _, _, rfl, s1 _ _ h1, T.k_Candidates, T.na_start, lk_start, _, _, rfl, rfl, ?_⟩
  refine ⟨_, rfl, c, _, dx, _, _, rfl, s1 _ _ h1, T.k_Candidates, T.na_span, lk_span, _, _, rfl, ⟨hp0, hp1⟩, fun q hq => ⟨q, _, rfl, SqT.of upd_same, rfl, _, _, rfl, _, _, rfl, rfl, ?_⟩⟩
  have s2 := s1.trans (same_new (u := .tup [.int ((last - s) / p), .int ((last - s) % p)]) hq)
  generalize upd H1 q (.tup [.int ((last - s) / p), .int ((last - s) % p)]) = H2 at s2
  have hlo : (offs.length : Int) ≤ 10000000 := by omega
  refine ⟨_, rfl, _, rfl, _, rfl, c, _, dx, _, _, rfl, s2 _ _ h1, T.k_Candidates, T.na_offsets, lk_offsets, o, _, rfl, .inl (s2.seq h3), _, _, rfl, rfl, .inr ⟨?_, ?_⟩, _, _, rfl, rfl, ?_⟩
  · rw [List.length_map]
    omega
  · rw [List.length_map]
    omega
  rw [List.length_map]
  refine ⟨_, rfl, c, _, dx, _, _, rfl, s2 _ _ h1, T.k_Candidates, T.na_offsets, lk_offsets, o, rfl, ⟨_, s2.seq h3⟩, fun D2 hD2 => ?_⟩
  refine lc_list (xs := offs.map V.int) (fun i H3 => Same H2 H3 ∧ H3 D2 = some (.lst (((offs.take i).filter fun n => decide (n ≤ (last - s) % p)).map V.int))) ⟨same_new hD2, upd_same⟩ (fun i H3 _ q => (s2.trans q.1).seq h3) ?_ ?_
  · rintro i x H3 hx ⟨s3, e3⟩
    obtain ⟨n, en, rfl⟩ := int_at hx
    refine ⟨rfl, _, rfl, _, rfl, _, _, rfl, rfl, _, rfl, ite2 (fun hd => ?_) (fun hd => ?_)⟩
    · refine ⟨_, rfl, _, e3, hz _ ?_, same_mut s3 hD2, ?_⟩
      · rw [List.length_map]
        exact Nat.le_trans (List.length_filter_le _ _) (Nat.le_trans (List.length_take_le _ _) (by have := lt_of_at en; omega))
      · rw [upd_same, take_at en, List.filter_append, List.filter_cons, if_pos hd, List.filter_nil, List.map_append]
        rfl
    · refine ⟨s3, ?_⟩
      rw [take_at en, List.filter_append, List.filter_cons, if_neg hd, List.filter_nil, List.append_nil]
      exact e3
  rintro H3 ⟨s3, e3⟩
  rw [List.length_map, List.take_length] at e3
  refine ⟨D2, _, rfl, .inl (SqL.of e3), _, _, rfl, rfl, ?_⟩
  rw [List.length_map]
  have k1 := k _ (s2.trans s3)
  rw [hm0] at k1
  exact k1
def spCandP (K : PySem.W.Frag) : Sp := fun vs H Q _ => ∃ (c : Addr) (s p place : Int) (early offs : List Int), vs = [.ref c, .int place] ∧ CandAt K H c s early p offs ∧ early.length ≤ 10000000 ∧ offs.length ≤ 10000000 ∧ 0 ≤ p ∧ p < 1073741824 ∧ 0 ≤ place ∧ place ≤ 1000000000000000000 ∧
  ∀ H', Same H H' → Q (candV s early p offs place) H'
theorem ok_Candidates_candidate : FnR P w K mg base CX0 1 (a_Candidates_candidate K) (spCandP K) := by
  refine fnR0 (d := d_Candidates_candidate) T.F_Candidates_candidate sc_Candidates_candidate rfl (fun _ _ _ _ _ _ us hl => match us, hl with | [_, _], _ => rfl) (fun vs H Q E h => ?_) (fun cdv A outer s H vs Q E hr h => ?_)
  · obtain ⟨c, s, p, place, early, offs, rfl, _⟩ := h
    rfl
  obtain ⟨c, s, p, place, early, offs, rfl, hc, le, lo, hp0, hp1, hl0, hl1, k⟩ := h
  obtain ⟨dx, e, o, h1, h2, h3⟩ := hc.ex
  have k0 := k
  unfold candV at k0
  refine ⟨_, (pss_cons (ps_if (pt_cmpR op_lt (pv 1) (pe_callB call_len_seq (by rfl) T.n_len PySem.boot_len (pa_cons (pe_fld (pv 0) rfl) pa_nil)) (nomark _)) (pss_one (ps_ret (pe_ix ix_list (pe_fld (pv 0) rfl) (pv 1) (fun _ _ => rfl)))) pss_nil) (pss_cons (ps_if (pt_not (pt_truth (pe_fld (pv 0) rfl) (by intro _; rfl))) (pss_one (ps_ret pe_non)) pss_nil) (pss_cons (ps_asg (pe_callB call_divmod (by rfl) T.n_divmod (by decide +kernel) (pa_cons (pe_op op_sub (pv 1) (pe_callB call_len_seq (by rfl) T.n_len PySem.boot_len (pa_cons (pe_fld (pv 0) rfl) pa_nil))) (pa_cons (pe_callB call_len_seq (by rfl) T.n_len PySem.boot_len (pa_cons (pe_fld (pv 0) rfl) pa_nil)) pa_nil))) (pg_tup rfl (pgs_cons (pg_name (i := 2) sc_Candidates_candidate.nd rfl (Or.inl rfl)) (pgs_cons (pg_name (i := 3) sc_Candidates_candidate.nd rfl (Or.inl rfl)) pgs_nil)))) (pss_one (ps_ret (pe_op op_add (pe_op op_add (pe_fld (pv 0) rfl) (pe_op op_mul (pv 2) (pe_fld (pv 0) rfl))) (pe_ix ix_list (pe_fld (pv 0) rfl) (pv 3) (fun _ _ => rfl)))))))), ?_⟩
  refine ⟨_, rfl, _, rfl, c, _, dx, _, _, rfl, h1, T.k_Candidates, T.na_early, lk_early, e, _, rfl, .inl h2, _, _, rfl, rfl, _, rfl, ?_⟩
  rw [List.length_map]
  refine ite2 (fun hd => ?_) (fun hd => ?_)
  · have hd : place < early.length := of_decide_eq_true hd
    rw [if_pos hd] at k0
    refine ⟨_, rfl, c, _, dx, _, _, rfl, h1, T.k_Candidates, T.na_early, lk_early, _, rfl, e, _, _, _, rfl, rfl, h2, ?_, k0 H (Same.refl _)⟩
    refine at_of (j := place.toNat) (by omega) ?_
    rw [List.getElem?_map, List.getElem?_eq_getElem (by omega), List.getD_eq_getElem?_getD, List.getElem?_eq_getElem (by omega)]
    rfl
  have hd : ¬ place < early.length := fun z => hd (decide_eq_true z)
  rw [if_neg hd] at k0
  refine ⟨_, rfl, c, _, dx, _, _, rfl, h1, T.k_Candidates, T.na_offsets, lk_offsets, _, .inl ⟨_, h3, rfl⟩, ?_⟩
  by_cases z : offs = []
  · rw [if_pos z] at k0
    rw [z]
    exact iteT (k0 H (Same.refl _))
  rw [if_neg z] at k0
  have hl : 0 < offs.length := List.length_pos_iff.mpr z
  have e1 : (offs.map V.int).isEmpty = false := by
    cases offs with
    | nil => exact absurd rfl z
    | cons _ _ => rfl
  rw [e1]
  refine iteF ?_
  refine ⟨_, rfl, _, rfl, c, _, dx, _, _, rfl, h1, T.k_Candidates, T.na_early, lk_early, e, _, rfl, .inl h2, _, _, rfl, rfl, ?_⟩
  rw [List.length_map]
  refine ⟨_, rfl, c, _, dx, _, _, rfl, h1, T.k_Candidates, T.na_offsets, lk_offsets, o, _, rfl, .inl h3, ?_⟩
  rw [List.length_map]
  refine ⟨_, _, rfl, ⟨by omega, by omega⟩, fun q hq => ⟨q, _, rfl, SqT.of upd_same, rfl, _, _, rfl, _, _, rfl, rfl, ?_⟩⟩
  have s2 := same_new (u := .tup [.int ((place - early.length) / offs.length), .int ((place - early.length) % offs.length)]) hq
  generalize upd H q (.tup [.int ((place - early.length) / offs.length), .int ((place - early.length) % offs.length)]) = H2 at s2
  refine ⟨_, rfl, c, _, dx, _, _, rfl, s2 _ _ h1, T.k_Candidates, T.na_start, lk_start, _, rfl, _, rfl, c, _, dx, _, _, rfl, s2 _ _ h1, T.k_Candidates, T.na_span, lk_span, _, _, rfl, rfl, .inr ⟨by omega, by omega⟩, _, _, rfl, rfl, ?_⟩
  have r0 := Int.emod_nonneg (place - early.length) (show (offs.length : Int) ≠ 0 by omega)
  have r1 := Int.emod_lt_of_pos (place - early.length) (show (0 : Int) < offs.length by omega)
  refine ⟨_, rfl, c, _, dx, _, _, rfl, s2 _ _ h1, T.k_Candidates, T.na_offsets, lk_offsets, _, rfl, o, _, _, _, rfl, rfl, s2.seq h3, ?_, _, _, rfl, rfl, k0 H2 s2⟩
  refine at_of (j := ((place - early.length) % offs.length).toNat) (by omega) ?_
  rw [List.getElem?_map, List.getElem?_eq_getElem (by omega), List.getD_eq_getElem?_getD, List.getElem?_eq_getElem (by omega)]
  rfl
end
end EB

namespace EB
open PySem PySem.Spec PyProof.Rows L2
/-- those of a table that fit -/
def nwEarly (early : List Int) (f : Nat → Bool) : List Int := early.filter fun n => f n.toNat
theorem rgC_up {p m n : Nat} (p0 : 0 < p) (p1 : p ≤ 1000000) (e : m = p * n) (n0 : 0 < n) (hm : m ≤ 10000000) : RgC 0 (m : Nat) (p : Nat) n := by
  have hn : n ≤ m := by
    rw [e]
    exact Nat.le_mul_of_pos_left n p0
  have hpm : p ≤ m := by
    rw [e]
    exact Nat.le_mul_of_pos_right p n0
  have hs : Builtin.Range.rangeSize 0 (m : Nat) (p : Nat) = (n : Nat) := by
    unfold Builtin.Range.rangeSize
    rw [if_pos (by omega), if_pos (by omega)]
    have h1 : ((m : Int) - 0 - 1) / (p : Int) = (n : Int) - 1 := by
      have e1 : (m : Int) = p * n := by rw [e]; push_cast; rfl
      rw [Int.sub_zero, e1, show (p : Int) * n - 1 = ((p : Int) - 1) + p * ((n : Int) - 1) by rw [Int.mul_sub]; omega, Int.add_mul_ediv_left _ _ (by omega), Int.ediv_eq_zero_of_lt (by omega) (by omega)]
      omega
    rw [h1]
    omega
  refine ⟨by omega, by omega, ?_, hs⟩
  unfold Builtin.Range.small
  rw [hs]
  simp only [Builtin.Range.rangeFitsLong, Bool.and_eq_true, Bool.or_eq_true, decide_eq_true_eq, beq_iff_eq, show (p : Int) > 0 from by omega, if_true]
  first
    | omega
    | (split <;> omega)
    | skip
/-- of the offsets those that fit, the i-th span on -/
def nwPart (s p q : Nat) (f : Nat → Bool) (i : Nat) (offs : List Int) : List Int := (offs.filter fun o => f (s + (((i : Int) * p + o) % q).toNat)).map fun o => (i : Int) * p + o
def nwAll (s p q : Nat) (f : Nat → Bool) (offs : List Int) (n : Nat) : List Int := ((List.range n).map fun i => nwPart s p q f i offs).flatten
theorem nwAll_succ (s p q : Nat) (f : Nat → Bool) (offs : List Int) (n : Nat) : nwAll s p q f offs (n + 1) = nwAll s p q f offs n ++ nwPart s p q f n offs := by
  unfold nwAll
  rw [List.range_succ, List.map_append, List.flatten_append]
  simp
theorem nwPart_len (s p q : Nat) (f : Nat → Bool) (i : Nat) (offs : List Int) : (nwPart s p q f i offs).length ≤ offs.length := by
  unfold nwPart
  rw [List.length_map]
  exact List.length_filter_le _ _
theorem nwAll_len (s p q : Nat) (f : Nat → Bool) (offs : List Int) : ∀ n, (nwAll s p q f offs n).length ≤ n * offs.length
  | 0 => by simp [nwAll]
  | n + 1 => by
    rw [nwAll_succ, List.length_append, Nat.succ_mul]
    exact Nat.add_le_add (nwAll_len s p q f offs n) (nwPart_len ..)
theorem capSN {X : TS} {D : Ends} {σ : L2.St} {H : Hp} (σ1 : L2.St) (e : σ = σ1) (h : X D σ1 H) : X D σ H := e ▸ h
section
variable {P : Program} {w : World} {K : PySem.W.Frag} {mg : Str → Option Value} {base : Heap} (T : Tx K mg)
include T
def spNarrow (K : PySem.W.Frag) : Sp := fun vs H Q _ => ∃ (c fa : Addr) (s p q : Nat) (early offs : List Int) (fits : List Bool), vs = [.ref c, .ref fa, .int (q : Nat)] ∧ CandAt K H c (s : Nat) early (p : Nat) offs ∧ SqL K H fa (fits.map V.bl) ∧
  0 < p ∧ 0 < q ∧ p ≤ 1000000 ∧ q ≤ 1000000 ∧ Nat.lcm p q ≤ 10000000 ∧ s + q ≤ fits.length ∧ (∀ n ∈ early, 0 ≤ n ∧ n < fits.length) ∧ early.length ≤ 10000000 ∧ (∀ o ∈ offs, 0 ≤ o) ∧ Nat.lcm p q / p * offs.length ≤ 10000000 ∧
  ∀ H' x, Same H H' → CandNew K H H' x (s : Nat) (nwEarly early fun i => fits.getD i false) (Nat.lcm p q : Nat) (nwAll s p q (fun i => fits.getD i false) offs (Nat.lcm p q / p)) → H x = none → Q (.ref x) H'
theorem ok_Candidates_narrowed : FnR P w K mg base CX0 3 (a_Candidates_narrowed K) (spNarrow K) := by
  refine fnR0 (d := d_Candidates_narrowed) T.F_Candidates_narrowed sc_Candidates_narrowed rfl (fun _ _ _ _ _ _ us hl => match us, hl with | [_, _, _], _ => rfl) (fun vs H Q E h => ?_) (fun cdv A outer s H vs Q E hr h => ?_)
  · obtain ⟨c, fa, s, p, q, early, offs, fits, rfl, _⟩ := h
    rfl
  obtain ⟨c, fa, s, p, q, early, offs, fits, rfl, hc, hf, p0, q0, p1, q1, w1, sq, he, le, ho, lo, k⟩ := h
  obtain ⟨dx, e, o, h1, h2, h3⟩ := hc.ex
  have hz : ∀ n : Nat, n < 10000000 → n < sizeLine := fun n h => Nat.lt_trans h (by decide)
  refine ⟨_, (pss_cons (ps_set (i := 3) sc_Candidates_narrowed.nd rfl (Or.inr rfl) (pe_fld (pv 0) rfl)) (pss_cons (ps_setLc (i := 4) (own := [("number", 7)]) rfl sc_Candidates_narrowed.nd rfl rfl (sw_true rfl rfl rfl (by decide +kernel)) (pi_list (pe_fld (pv 0) rfl)) (blkOk_by (own := [("number", 7)]) (N := N_Candidates_narrowed) (sc := defScope s_Candidates_narrowed) (by decide +kernel)) (fun _ _ _ _ _ => (pg_name (i := 7) sc_Candidates_narrowed.nd rfl (Or.inl rfl) (.inr rfl))) (fun _ _ _ _ _ => (pts_one (pt_val (pe_ix (ix_listK (K := K) rfl) (pv 1) (pv 7) (fun _ _ => rfl))))) (fun _ _ _ _ _ => (pv 7))) (pss_cons (ps_set (i := 5) sc_Candidates_narrowed.nd rfl (Or.inl rfl) (pe_callBfun cr_lcm (by rfl) T.b_lcm (pa_cons (pe_fld (pv 0) rfl) (pa_cons (pv 2) pa_nil)))) (pss_cons (ps_setLc2 (i := 6) (own := [("base", 8), ("offset", 9)]) (vs1 := [9]) rfl sc_Candidates_narrowed.nd rfl rfl (sw_true rfl rfl rfl (by decide +kernel)) (pi_range3 rfl T.n_range (pa_cons pe_int (pa_cons (pv 5) (pa_cons (pe_fld (pv 0) rfl) pa_nil)))) (blkOk_by (own := [("base", 8), ("offset", 9)]) (N := N_Candidates_narrowed) (sc := defScope s_Candidates_narrowed) (by decide +kernel)) (by decide) (fun _ _ _ _ _ => (pg_name (i := 8) sc_Candidates_narrowed.nd rfl (Or.inl rfl) (.inr rfl))) (fun _ _ _ _ _ => pts_nil) (fun _ _ _ _ _ => (pi_listK (K := K) rfl (pe_fldK (K := K) rfl (pv 0) rfl))) (fun _ _ _ _ _ => (pg_name (i := 9) sc_Candidates_narrowed.nd rfl (Or.inl rfl) (.inr rfl))) (fun _ _ _ _ _ => (pts_one (pt_val (pe_ix (ix_listK (K := K) rfl) (pv 1) (pe_op op_add (pv 3) (pe_op op_mod (pe_op op_add (pv 8) (pv 9)) (pv 2))) (fun _ _ => rfl))))) (fun _ _ _ _ _ => (pe_op op_add (pv 8) (pv 9)))) (pss_one (ps_ret (StX.pe_makeR T.mk_Candidates (ok_Candidates_init T) (hr.mono (by decide)) (by rfl) T.g_Candidates pass0 (pa_cons (pv 3) (pa_cons (pv 4) (pa_cons (pv 5) (pa_cons (pv 6) pa_nil))))))))))), ?_⟩
  refine ⟨_, rfl, c, _, dx, _, _, rfl, h1, T.k_Candidates, T.na_start, lk_start, ?_⟩
  refine ⟨_, rfl, c, _, dx, _, _, rfl, h1, T.k_Candidates, T.na_early, lk_early, e, rfl, ⟨_, h2⟩, fun D hD => ?_⟩
  refine lc_list (xs := early.map V.int) (fun i H1 => Same H H1 ∧ H1 D = some (.lst (((early.take i).filter fun n => fits.getD n.toNat false).map V.int))) ⟨same_new hD, upd_same⟩ (fun i H1 _ q => q.1.seq h2) ?_ ?_
  · rintro i x H1 hx ⟨s1, e1⟩
    obtain ⟨n, en, rfl⟩ := int_at hx
    have hn := he n (List.mem_of_getElem? en)
    have hn2 : n.toNat < fits.length := by omega
    refine ⟨rfl, _, rfl, _, rfl, fa, _, _, _, rfl, rfl, s1.seq hf, at_of (j := n.toNat) (by omega) (by rw [List.getElem?_map, List.getElem?_eq_getElem hn2]; rfl), fits.getD n.toNat false, ?_, ?_⟩
    · rw [List.getD_eq_getElem?_getD, List.getElem?_eq_getElem hn2]
      rfl
    refine ite2 (fun hd => ?_) (fun hd => ?_)
    · refine ⟨_, rfl, _, e1, hz _ ?_, same_mut s1 hD, ?_⟩
      · rw [List.length_map]
        have a1 := List.length_filter_le (fun n : Int => fits.getD n.toNat false) (early.take i)
        rw [List.length_take] at a1
        have := lt_of_at en
        omega
      · rw [upd_same, take_at en, List.filter_append, List.filter_cons, if_pos hd, List.filter_nil, List.map_append]
        rfl
    · refine ⟨s1, ?_⟩
      rw [take_at en, List.filter_append, List.filter_cons, if_neg hd, List.filter_nil, List.append_nil]
      exact e1
  rintro H1 ⟨s1, e1⟩
  rw [List.length_map, List.take_length] at e1
  have wl : (((p : Int).natAbs.lcm (q : Int).natAbs : Nat) : Int) = ((Nat.lcm p q : Nat) : Int) := rfl
  refine ⟨_, rfl, c, _, dx, _, _, rfl, s1 _ _ h1, T.k_Candidates, T.na_span, lk_span, _, rfl, _, _, rfl, Nat.lt_of_le_of_lt (show p ≤ 1000000 from p1) (by decide), Nat.lt_of_le_of_lt (show q ≤ 1000000 from q1) (by decide), ?_⟩
  have pd : p ∣ Nat.lcm p q := Nat.dvd_lcm_left p q
  have we : Nat.lcm p q = p * (Nat.lcm p q / p) := (Nat.mul_div_cancel' pd).symm
  have wp : 0 < Nat.lcm p q := Nat.lcm_pos p0 q0
  have n0 : 0 < Nat.lcm p q / p := Nat.div_pos (Nat.le_of_dvd wp pd) p0
  dsimp only [gName]
  refine capSN [some (.ref c), some (.ref fa), some (.int (q : Nat)), some (.int (s : Nat)), some (.ref D), some (.int (Nat.lcm p q : Nat)), none, none, none, none] rfl ?_
  refine ⟨_, rfl, _, rfl, c, _, dx, _, _, rfl, s1 _ _ h1, T.k_Candidates, T.na_span, lk_span, _, _, _, Nat.lcm p q / p, rfl, rgC_up p0 p1 we n0 w1, fun D2 hD2 => ?_⟩
  have s1D : Same H H1 := s1
  refine walk_r3 (fun i G => Same H1 G ∧ G D2 = some (.lst ((nwAll s p q (fun i => fits.getD i false) offs i).map V.int))) ⟨same_new hD2, upd_same⟩ ?_ ?_
  · rintro i G hi ⟨s2, e2⟩
    have sHG := s1.trans s2
    refine ⟨rfl, _, rfl, c, _, dx, _, _, rfl, sHG _ _ h1, T.k_Candidates, T.na_offsets, lk_offsets, o, rfl, ⟨_, sHG.seq h3⟩, ?_⟩
    refine walk_lst (xs := offs.map V.int) (fun j G2 => Same H1 G2 ∧ G2 D2 = some (.lst ((nwAll s p q (fun i => fits.getD i false) offs i ++ nwPart s p q (fun i => fits.getD i false) i (offs.take j)).map V.int))) ⟨s2, by rw [e2, List.take_zero]; simp [nwPart]⟩ (fun j G2 _ z => (s1.trans z.1).seq h3) ?_ ?_
    · rintro j x G2 hx ⟨s3, e3⟩
      obtain ⟨n, en, rfl⟩ := int_at hx
      have hn0 := ho n (List.mem_of_getElem? en)
      have hj := lt_of_at en
      have m0 := Int.emod_nonneg (0 + (i : Int) * p + n) (show (q : Int) ≠ 0 by omega)
      have m1 := Int.emod_lt_of_pos (0 + (i : Int) * p + n) (show (0 : Int) < q by omega)
      have hix : s + ((0 + (i : Int) * p + n) % q).toNat < fits.length := by omega
      refine ⟨rfl, _, rfl, _, rfl, _, rfl, _, rfl, _, _, rfl, rfl, _, rfl, _, _, rfl, rfl, (show (0 : Int) < q by omega), _, _, rfl, rfl, fa, _, _, _, rfl, rfl, (s1.trans s3).seq hf, at_of (j := s + ((0 + (i : Int) * p + n) % q).toNat) (by omega) (by rw [List.getElem?_map, List.getElem?_eq_getElem hix]; rfl), fits.getD (s + ((0 + (i : Int) * p + n) % q).toNat) false, ?_, ite2 (fun hd => ?_) (fun hd => ?_)⟩
      · rw [List.getD_eq_getElem?_getD, List.getElem?_eq_getElem hix]
        rfl
      · rw [Int.zero_add] at hd
        refine ⟨_, rfl, _, rfl, _, _, rfl, rfl, _, e3, hz _ ?_, same_mut s3 hD2, ?_⟩
        · rw [List.length_map, List.length_append]
          have a1 := nwAll_len s p q (fun i => fits.getD i false) offs i
          have a2 := nwPart_len s p q (fun i => fits.getD i false) i (offs.take j)
          rw [List.length_take] at a2
          have a3 : (i + 1) * offs.length ≤ Nat.lcm p q / p * offs.length := Nat.mul_le_mul_right _ hi
          rw [Nat.succ_mul] at a3
          omega
        · rw [upd_same, Int.zero_add, take_at en]
          unfold nwPart
          rw [List.filter_append, List.filter_cons, if_pos hd, List.filter_nil]
          simp only [List.map_append, List.append_assoc, List.map_cons, List.map_nil]
      · rw [Int.zero_add] at hd
        refine ⟨s3, ?_⟩
        rw [e3, take_at en]
        unfold nwPart
        rw [List.filter_append, List.filter_cons, if_neg hd, List.filter_nil, List.append_nil]
    · rintro G2 ⟨s3, e3⟩
      rw [List.length_map, List.take_length, ← nwAll_succ] at e3
      exact ⟨s3, e3⟩
  · rintro G ⟨s2, e2⟩
    have eD := s2 _ _ e1
    refine ⟨_, rfl, _, rfl, _, rfl, _, rfl, fun x dx2 nx nd ned => ?_⟩
    have nd1 := same_new (u := .own x) nd
    have nx1 : (upd G dx2 (.own x)) x = none := by rw [upd_ne ned.symm]; exact nx
    have sH : Same H G := s1.trans s2
    refine ⟨x, s, (Nat.lcm p q : Nat), D, D2, dx2, rfl, upd_same, rfl, ?_⟩
    rw [upd_upd]
    have sG := nd1.trans (same_new (u := .ins (He.ga K "Candidates") dx2 (cfs s D (Nat.lcm p q : Nat) D2)) nx1)
    exact k _ x (sH.trans sG) ⟨dx2, D, D2, upd_same, sG _ _ eD, sG _ _ e2, sH.free nx, hD, s1.free hD2⟩ (sH.free nx)
end
end EB

namespace EB
open PySem PySem.Spec PyProof.Rows L2
section
variable {P : Program} {w : World} {K : PySem.W.Frag} {mg : Str → Option Value} {base : Heap} (T : Tx K mg)
include T
theorem b_Offer_trades : Binds K T.fd_Offer_trades ["self"] [] := bnd0 T.F_Offer_trades sc_Offer_trades rfl (fun _ _ _ _ _ _ us hl => match us, hl with | [_], _ => rfl)
/-- the property trades: the offer's own tuple -/
def spOwn (K : PySem.W.Frag) : Sp := fun vs H Q _ => ∃ (a : Addr) (ts : List Tr), vs = [.ref a] ∧ OfAt K H a ts ∧ ∀ p, TrAt K H p ts → Q (.ref p) H
theorem ok_Offer_trades : FnOk P w K mg base CX0 1 (a_Offer_trades K) T.fd_Offer_trades ["self"] (spOwn K) := by
  refine fnK0 (d := d_Offer_trades) T.F_Offer_trades sc_Offer_trades (fun vs H Q E h => ?_) (fun cdv A outer s H vs Q E hr h => ?_)
  · obtain ⟨a, ts, rfl, _⟩ := h
    rfl
  obtain ⟨a, ts, rfl, ho, k⟩ := h
  obtain ⟨dx, t, p, o, f, g, e1, e2, e3, e4, e5, e6⟩ := ho.ex
  refine ⟨_, (pss_one (ps_ret (pe_fld (pv 0) rfl))), ?_⟩
  exact ⟨_, rfl, a, _, dx, _, _, rfl, e1, T.k_Offer, T.na_trades, lk_trades, k _ e2⟩
theorem b_Offer_kinds : Binds K T.fd_Offer_kinds ["self"] [] := bnd0 T.F_Offer_kinds sc_Offer_kinds rfl (fun _ _ _ _ _ _ us hl => match us, hl with | [_], _ => rfl)
/-- the property kinds: a new tuple -/
def spKinds (K : PySem.W.Frag) : Sp := fun vs H Q _ => ∃ (a : Addr) (ts : List Tr), vs = [.ref a] ∧ OfAt K H a ts ∧ ts.length ≤ 3 ∧ ∀ H' p, Same H H' → SqT K H' p ((ts.map Tr.k).map V.str) → Q (.ref p) H'
theorem ok_Offer_kinds : FnOk P w K mg base CX0 1 (a_Offer_kinds K) T.fd_Offer_kinds ["self"] (spKinds K) := by
  refine fnK0 (d := d_Offer_kinds) T.F_Offer_kinds sc_Offer_kinds (fun vs H Q E h => ?_) (fun cdv A outer s H vs Q E hr h => ?_)
  · obtain ⟨a, ts, rfl, _⟩ := h
    rfl
  obtain ⟨a, ts, rfl, ho, hl, k⟩ := h
  obtain ⟨dx, t, p, o, f, g, e1, e2, e3, e4, e5, e6⟩ := ho.ex
  obtain ⟨ps, h1, h2, h3⟩ := e2.ex
  refine ⟨_, (pss_one (ps_ret (pe_callTy call_tuple_of (by rfl) T.n_tuple (by decide +kernel) (pa_cons (pe_lc (own := [("kind", 1), ("_", 2)]) rfl sc_Offer_kinds.nd (pi_tup (pe_fld (pv 0) rfl)) (blkOk_by (own := [("kind", 1), ("_", 2)]) (N := N_Offer_kinds) (sc := defScope s_Offer_kinds) (by decide +kernel)) (fun _ _ _ _ _ => (pg_tupB (n := 3) (pgs_cons (pg_name (i := 1) sc_Offer_kinds.nd rfl (Or.inl rfl) (.inr rfl)) (pgs_cons (pg_name (i := 2) sc_Offer_kinds.nd rfl (Or.inl rfl) (.inr rfl)) (pgs_cons (pg_name (i := 2) sc_Offer_kinds.nd rfl (Or.inl rfl) (.inr rfl)) pgs_nil))))) (fun _ _ _ _ _ => pts_nil) (fun _ _ _ _ _ => (pv 1))) pa_nil)))), ?_⟩
  refine ⟨_, rfl, a, _, dx, _, _, rfl, e1, T.k_Offer, T.na_trades, lk_trades, t, rfl, ⟨_, h1⟩, fun D hD => ?_⟩
  refine lc_tup (xs := ps.map V.ref) (fun i H2 => Same H H2 ∧ H2 D = some (.lst (((ts.take i).map Tr.k).map V.str))) ⟨same_new hD, upd_same⟩ (fun i H2 _ q => Same.tup q.1 h1) ?_ ?_
  · rintro i x H2 hx ⟨s1, e7⟩
    obtain ⟨pt, u, rfl, ep, et, hm, li, hpt⟩ := TrAt.at_ h2 h3 hx
    refine ⟨pt, _, rfl, Same.tup s1 hpt, rfl, _, _, rfl, _, _, rfl, _, _, rfl, rfl, rfl, ?_⟩
    refine ⟨_, rfl, _, e7, small3 ?_, same_mut s1 hD, ?_⟩
    · rw [List.length_map, List.length_map, List.length_take]
      omega
    · rw [upd_same, take_at et, List.map_append, List.map_append]
      rfl
  · rintro H2 ⟨s1, e7⟩
    rw [List.length_map, h2, List.take_length] at e7
    exact ⟨D, _, rfl, .inl ⟨SqL.of e7, fun q hq => k _ q (s1.trans (same_new hq)) (SqT.of upd_same)⟩⟩
end
end EB

namespace EB
open PySem PySem.Spec PyProof.Rows L2
/-! ### data of some depth -/
inductive Lev : Nat → PyData → Prop
  | non {n : Nat} : Lev n .none
  | bl {n : Nat} (b : Bool) : Lev n (.bool b)
  | int {n : Nat} (i : Int) : Lev n (.int i)
  | str {n : Nat} (z : Str) : Lev n (.str z)
  | lst {n : Nat} {ds : List PyData} (h : ∀ d ∈ ds, Lev n d) (hl : ds.length ≤ 10000) : Lev (n + 1) (.list ds)
  | tup {n : Nat} {ds : List PyData} (h : ∀ d ∈ ds, Lev n d) (hl : ds.length ≤ 10000) : Lev (n + 1) (.tuple ds)
mutual
theorem dp_mono {K : PySem.W.Frag} {H H' : Hp} (s : Same H H') : ∀ {v : V} {d : PyData}, Dp K H v d → Dp K H' v d
  | _, _, .non => .non
  | _, _, .bl b => .bl b
  | _, _, .int i => .int i
  | _, _, .str z => .str z
  | _, _, .lst h a => .lst (s.seq h) (dps_mono s a)
  | _, _, .tup h a => .tup (Same.tup s h) (dps_mono s a)
theorem dps_mono {K : PySem.W.Frag} {H H' : Hp} (s : Same H H') : ∀ {vs : List V} {ds : List PyData}, DpAll K H vs ds → DpAll K H' vs ds
  | _, _, .nil => .nil
  | _, _, .cons a b => .cons (dp_mono s a) (dps_mono s b)
end
theorem dps_len {K : PySem.W.Frag} {H : Hp} : ∀ {vs : List V} {ds : List PyData}, DpAll K H vs ds → vs.length = ds.length
  | _, _, .nil => rfl
  | _, _, .cons _ b => congrArg Nat.succ (dps_len b)
theorem dps_at {K : PySem.W.Frag} {H : Hp} : ∀ {vs : List V} {ds : List PyData} {i : Nat}, DpAll K H vs ds → i < ds.length → ∃ v d, vs[i]? = some v ∧ d ∈ ds ∧ Dp K H v d ∧ ds[i]? = some d
  | _, _, 0, .cons a b, _ => ⟨_, _, rfl, List.mem_cons_self .., a, rfl⟩
  | _, _, i + 1, .cons a b, h => by
    obtain ⟨v, d, e1, e2, e3, e4⟩ := dps_at (i := i) b (Nat.lt_of_succ_lt_succ h)
    exact ⟨v, d, e1, List.mem_cons_of_mem _ e2, e3, e4⟩
theorem dps_ints {K : PySem.W.Frag} {H : Hp} : ∀ (ns : List Int), DpAll K H (ns.map V.int) (ns.map PyData.int)
  | [] => .nil
  | n :: ns => .cons (.int n) (dps_ints ns)
theorem tyL {K : PySem.W.Frag} {H : Hp} {a : Addr} {xs : List V} (h : SqL K H a xs) : TyX K H (.ref a) (.type "list") := by
  rcases h with (h | ⟨o, h⟩) | ⟨o, its, n, h1, h2, _⟩
  · exact .base (.lst h)
  · exact .base (.frz h)
  · exact .kList h1 h2
theorem tyT {K : PySem.W.Frag} {H : Hp} {a : Addr} {xs : List V} (h : SqT K H a xs) : TyX K H (.ref a) (.type "tuple") := by
  rcases h with (h | ⟨o, h⟩) | ⟨o, its, n, h1, h2, _⟩
  · exact .base (.tup h)
  · exact .fTuple h
  · exact .kTuple h1 h2
theorem isTL {K : PySem.W.Frag} (q : Bool) : PySem.W.kitAny K (.type (if q then "list" else "tuple")) [.type "tuple", .type "list"] = some true := by
  cases q with
  | true => exact kitAny_cons (b := false) (kit_ty (by decide +kernel)) (fun _ => kitAny_cons (b := true) (kit_ty (by decide +kernel)) (fun z => nomatch z) (fun _ => rfl)) (fun z => nomatch z)
  | false => exact kitAny_cons (b := true) (kit_ty (by decide +kernel)) (fun z => nomatch z) (fun _ => rfl)
/-- a list (q) or a tuple -/
def SqQ (K : PySem.W.Frag) (H : Hp) (q : Bool) (a : Addr) (xs : List V) : Prop := if q = true then SqL K H a xs else SqT K H a xs
theorem SqQ.ty {K : PySem.W.Frag} {H : Hp} {q : Bool} {a : Addr} {xs : List V} (h : SqQ K H q a xs) : TyX K H (.ref a) (.type (if q then "list" else "tuple")) := by
  cases q with
  | true => exact tyL h
  | false => exact tyT h
theorem SqQ.or {K : PySem.W.Frag} {H : Hp} {q : Bool} {a : Addr} {xs : List V} (h : SqQ K H q a xs) : SqL K H a xs ∨ SqT K H a xs := by
  cases q with
  | true => exact .inl h
  | false => exact .inr h
theorem SqQ.mono {K : PySem.W.Frag} {H H' : Hp} {q : Bool} {a : Addr} {xs : List V} (s : Same H H') (h : SqQ K H q a xs) : SqQ K H' q a xs := by
  cases q with
  | true => exact s.seq h
  | false => exact Same.tup s h
theorem SqQ.ix {K : PySem.W.Frag} {H : Hp} {q : Bool} {a : Addr} {xs : List V} {i : Int} {v : V} {Q : VK} (h : SqQ K H q a xs) (e : atI xs i = some v) (k : Q v H) : rIx K (.ref a) (.int i) H Q := by
  cases q with
  | true => exact .inl ⟨a, xs, i, v, rfl, rfl, h, e, k⟩
  | false => exact .inr (.inl ⟨a, xs, i, v, rfl, rfl, h, e, k⟩)
theorem kitD (q : Bool) {K : PySem.W.Frag} : PySem.W.kitOne K (.type (if q then "list" else "tuple")) (.type "dict") = some false := by
  cases q with
  | true => exact kit_ty (by decide +kernel)
  | false => exact kit_ty (by decide +kernel)
theorem kitL (q : Bool) {K : PySem.W.Frag} : PySem.W.kitOne K (.type (if q then "list" else "tuple")) (.type "list") = some q := by
  cases q with
  | true => exact kit_ty (by decide +kernel)
  | false => exact kit_ty (by decide +kernel)
theorem shapedN : SeqAt.shaped (PyData.list []) = true := by decide +kernel
theorem alike_low {n : Nat} {d : PyData} (h : Lev n d) : Lev 0 d ∨ ∃ (q : Bool) (ds : List PyData) (m : Nat), n = m + 1 ∧ d = (if q then .list ds else .tuple ds) ∧ (∀ e ∈ ds, Lev m e) ∧ ds.length ≤ 10000 := by
  cases h with
  | non => exact .inl .non
  | bl b => exact .inl (.bl b)
  | int i => exact .inl (.int i)
  | str z => exact .inl (.str z)
  | lst h hl => exact .inr ⟨true, _, _, rfl, rfl, h, hl⟩
  | tup h hl => exact .inr ⟨false, _, _, rfl, rfl, h, hl⟩
theorem dp_seq {K : PySem.W.Frag} {H : Hp} {v : V} {q : Bool} {ds : List PyData} (h : Dp K H v (if q then .list ds else .tuple ds)) : ∃ a xs, v = .ref a ∧ SqQ K H q a xs ∧ DpAll K H xs ds := by
  cases q with
  | true =>
    cases h with
    | lst h a => exact ⟨_, _, rfl, h, a⟩
  | false =>
    cases h with
    | tup h a => exact ⟨_, _, rfl, h, a⟩
section
variable {P : Program} {w : World} {K : PySem.W.Frag} {mg : Str → Option Value} {base : Heap} (T : Tx K mg)
include T
def spAlike (K : PySem.W.Frag) (n : Nat) : Sp := fun vs H Q _ => ∃ (v u : V) (d : PyData), vs = [v, u] ∧ Dp K H v d ∧ Dp K H u d ∧ Lev n d ∧ ∀ H', Same H H' → Q (.bl true) H'
theorem ok_alike0 : FnR P w K mg base CX0 1 (a_law_alike K) (spAlike K 0) := by
  refine fnR0 (d := d_law_alike) T.F_law_alike sc_law_alike rfl (fun _ _ _ _ _ _ us hl => match us, hl with | [_, _], _ => rfl) (fun vs H Q E h => ?_) (fun cdv A outer s H vs Q E hr h => ?_)
  · obtain ⟨i, j, _, rfl, _⟩ := h
    rfl
  obtain ⟨v, u, d, rfl, hv, hu, hd, k⟩ := h
  refine ⟨_, pss_cons (ps_if (pt_val (pe_callB call_isi (by rfl) T.n_isinstance (by decide +kernel) (pa_cons (pv 1) (pa_cons (pe_bltn (v := .ty "dict") (u := .type "dict") rfl T.n_dict (by decide +kernel) rfl) pa_nil)))) pss_never pss_nil) (pss_cons (ps_if (pt_val (pe_callB call_isiT (by rfl) T.n_isinstance (by decide +kernel) (pa_cons (pv 1) (pa_cons (pe_tup (pa_cons (pe_bltn (v := .ty "tuple") (u := .type "tuple") rfl T.n_tuple (by decide +kernel) rfl) (pa_cons (pe_bltn (v := .ty "list") (u := .type "list") rfl T.n_list (by decide +kernel) rfl) pa_nil))) pa_nil)))) pss_never pss_nil) (pss_cons (ps_if (PW.pt (pw_or (pt_cmpR op_isN (pv 1) pe_non (nomark _)) (pw_or1 (pt_val (pe_callB call_isi (by rfl) T.n_isinstance (by decide +kernel) (pa_cons (pv 1) (pa_cons (pe_bltn (v := .ty "str") (u := .type "str") rfl T.n_str (by decide +kernel) rfl) pa_nil))))))) (pss_one (ps_ret (pe_and (pe_cmpR op_eq (pv 0) (pv 1) (nomark _)) (pe_one (pe_cmpR op_eq (pe_callB call_isi (by rfl) T.n_isinstance (by decide +kernel) (pa_cons (pv 0) (pa_cons (pe_bltn (v := .ty "str") (u := .type "str") rfl T.n_str (by decide +kernel) rfl) pa_nil))) (pe_callB call_isi (by rfl) T.n_isinstance (by decide +kernel) (pa_cons (pv 1) (pa_cons (pe_bltn (v := .ty "str") (u := .type "str") rfl T.n_str (by decide +kernel) rfl) pa_nil))) (nomark _)))))) pss_nil) (pss_one (ps_ret (pe_and (pe_callB call_isi (by rfl) T.n_isinstance (by decide +kernel) (pa_cons (pv 0) (pa_cons (pe_bltn (v := .ty "int") (u := .type "int") rfl T.n_int (by decide +kernel) rfl) pa_nil))) (pe_and (pe_cmpR op_eq (pe_callB call_isi (by rfl) T.n_isinstance (by decide +kernel) (pa_cons (pv 0) (pa_cons (pe_bltn (v := .ty "bool") (u := .type "bool") rfl T.n_bool (by decide +kernel) rfl) pa_nil))) (pe_callB call_isi (by rfl) T.n_isinstance (by decide +kernel) (pa_cons (pv 1) (pa_cons (pe_bltn (v := .ty "bool") (u := .type "bool") rfl T.n_bool (by decide +kernel) rfl) pa_nil))) (nomark _)) (pe_one (pe_cmpR op_eq (pv 0) (pv 1) (nomark _))))))))), ?_⟩
  cases hd with
  | non =>
    cases hv
    cases hu
    refine ⟨_, rfl, .non, .ty "dict", _, _, false, rfl, ClsV.ty "dict", .base .non, kit_ty (by decide +kernel), false, rfl, iteF ?_⟩
    refine ⟨_, rfl, by show 2 ≤ sizeLine; decide, fun tp htp => ⟨.non, tp, _, _, _, false, rfl, upd_same, .cons (ClsV.ty "tuple") (.cons (ClsV.ty "list") .nil), .base .non, kitAny_cons (b := false) (kit_ty (by decide +kernel)) (fun _ => kitAny_cons (b := false) (kit_ty (by decide +kernel)) (fun _ => kitAny_nil) (fun z => nomatch z)) (fun z => nomatch z), false, rfl, iteF ?_⟩⟩
    refine ⟨_, rfl, rfl, _, rfl, iteT (iteT ?_)⟩
    refine ⟨_, rfl, _, rfl, rfl, _, rfl, iteT ?_⟩
    exact ⟨_, rfl, .non, .ty "str", _, _, false, rfl, ClsV.ty "str", .base .non, kit_ty (by decide +kernel), _, rfl, .non, .ty "str", _, _, false, rfl, ClsV.ty "str", .base .non, kit_ty (by decide +kernel), rfl, k _ (same_new htp)⟩
  | str z =>
    cases hv
    cases hu
    refine ⟨_, rfl, .str z, .ty "dict", _, _, false, rfl, ClsV.ty "dict", .base (.str z), kit_ty (by decide +kernel), false, rfl, iteF ?_⟩
    refine ⟨_, rfl, by show 2 ≤ sizeLine; decide, fun tp htp => ⟨.str z, tp, _, _, _, false, rfl, upd_same, .cons (ClsV.ty "tuple") (.cons (ClsV.ty "list") .nil), .base (.str z), kitAny_cons (b := false) (kit_ty (by decide +kernel)) (fun _ => kitAny_cons (b := false) (kit_ty (by decide +kernel)) (fun _ => kitAny_nil) (fun z => nomatch z)) (fun z => nomatch z), false, rfl, iteF ?_⟩⟩
    refine ⟨_, rfl, rfl, _, rfl, iteF ?_⟩
    refine ⟨_, rfl, .str z, .ty "str", _, _, true, rfl, ClsV.ty "str", .base (.str z), kit_ty (by decide +kernel), true, rfl, iteT ?_⟩
    refine ⟨_, rfl, _, rfl, rfl, _, rfl, ?_⟩
    rw [decide_eq_true rfl]
    refine iteT ?_
    exact ⟨_, rfl, .str z, .ty "str", _, _, true, rfl, ClsV.ty "str", .base (.str z), kit_ty (by decide +kernel), _, rfl, .str z, .ty "str", _, _, true, rfl, ClsV.ty "str", .base (.str z), kit_ty (by decide +kernel), rfl, k _ (same_new htp)⟩
  | bl z =>
    cases hv
    cases hu
    refine ⟨_, rfl, .bl z, .ty "dict", _, _, false, rfl, ClsV.ty "dict", .base (.bl z), kit_ty (by decide +kernel), false, rfl, iteF ?_⟩
    refine ⟨_, rfl, by show 2 ≤ sizeLine; decide, fun tp htp => ⟨.bl z, tp, _, _, _, false, rfl, upd_same, .cons (ClsV.ty "tuple") (.cons (ClsV.ty "list") .nil), .base (.bl z), kitAny_cons (b := false) (kit_ty (by decide +kernel)) (fun _ => kitAny_cons (b := false) (kit_ty (by decide +kernel)) (fun _ => kitAny_nil) (fun z => nomatch z)) (fun z => nomatch z), false, rfl, iteF ?_⟩⟩
    refine ⟨_, rfl, rfl, _, rfl, iteF ?_⟩
    refine ⟨_, rfl, .bl z, .ty "str", _, _, false, rfl, ClsV.ty "str", .base (.bl z), kit_ty (by decide +kernel), false, rfl, iteF ?_⟩
    refine ⟨_, rfl, .bl z, .ty "int", _, _, true, rfl, ClsV.ty "int", .base (.bl z), kit_ty (by decide +kernel), true, rfl, iteT ?_⟩
    refine ⟨_, rfl, .bl z, .ty "bool", _, _, true, rfl, ClsV.ty "bool", .base (.bl z), kit_ty (by decide +kernel), _, rfl, .bl z, .ty "bool", _, _, true, rfl, ClsV.ty "bool", .base (.bl z), kit_ty (by decide +kernel), rfl, true, rfl, iteT ?_⟩
    refine ⟨_, rfl, _, rfl, rfl, ?_⟩
    rw [decide_eq_true rfl]
    exact k _ (same_new htp)
  | int z =>
    cases hv
    cases hu
    refine ⟨_, rfl, .int z, .ty "dict", _, _, false, rfl, ClsV.ty "dict", .base (.int z), kit_ty (by decide +kernel), false, rfl, iteF ?_⟩
    refine ⟨_, rfl, by show 2 ≤ sizeLine; decide, fun tp htp => ⟨.int z, tp, _, _, _, false, rfl, upd_same, .cons (ClsV.ty "tuple") (.cons (ClsV.ty "list") .nil), .base (.int z), kitAny_cons (b := false) (kit_ty (by decide +kernel)) (fun _ => kitAny_cons (b := false) (kit_ty (by decide +kernel)) (fun _ => kitAny_nil) (fun z => nomatch z)) (fun z => nomatch z), false, rfl, iteF ?_⟩⟩
    refine ⟨_, rfl, rfl, _, rfl, iteF ?_⟩
    refine ⟨_, rfl, .int z, .ty "str", _, _, false, rfl, ClsV.ty "str", .base (.int z), kit_ty (by decide +kernel), false, rfl, iteF ?_⟩
    refine ⟨_, rfl, .int z, .ty "int", _, _, true, rfl, ClsV.ty "int", .base (.int z), kit_ty (by decide +kernel), true, rfl, iteT ?_⟩
    refine ⟨_, rfl, .int z, .ty "bool", _, _, false, rfl, ClsV.ty "bool", .base (.int z), kit_ty (by decide +kernel), _, rfl, .int z, .ty "bool", _, _, false, rfl, ClsV.ty "bool", .base (.int z), kit_ty (by decide +kernel), rfl, true, rfl, iteT ?_⟩
    refine ⟨_, rfl, _, rfl, rfl, ?_⟩
    rw [decide_eq_true rfl]
    exact k _ (same_new htp)
theorem ok_alikeS (n : Nat) (IH : FnR P w K mg base CX0 (n + 1) (a_law_alike K) (spAlike K n)) : FnR P w K mg base CX0 (n + 2) (a_law_alike K) (spAlike K (n + 1)) := by
  have Z := ok_alike0 (P := P) (w := w) (base := base) T
  intro A outer s H us vs Q E hr e0 rv hsp
  obtain ⟨v, u, d, rfl, hv, hu, hd, k⟩ := hsp
  rcases alike_low hd with hd0 | ⟨q, ds, m, en, rfl, hds, hl⟩
  · exact Z A outer s H us _ Q E (hr.mono (by omega)) e0 rv ⟨v, u, d, rfl, hv, hu, hd0, k⟩
  cases en
  obtain ⟨a, xs, rfl, hsa, hda⟩ := dp_seq hv
  obtain ⟨b, ys, rfl, hsb, hdb⟩ := dp_seq hu
  refine (fnR0 (sp := fun vs H Q _ => ∃ (a b : Addr) (xs ys : List V), vs = [.ref a, .ref b] ∧ SqQ K H q a xs ∧ DpAll K H xs ds ∧ SqQ K H q b ys ∧ DpAll K H ys ds ∧ ∀ H', Same H H' → Q (.bl true) H') (d := d_law_alike) T.F_law_alike sc_law_alike rfl (fun _ _ _ _ _ _ us hl => match us, hl with | [_, _], _ => rfl) (fun vs H Q E h => ?_) (fun cdv A outer s H vs Q E hr h => ?_)) A outer s H us _ Q E hr e0 rv ⟨a, b, xs, ys, rfl, hsa, hda, hsb, hdb, k⟩
  · obtain ⟨_, _, _, _, rfl, _⟩ := h
    rfl
  obtain ⟨a, b, xs, ys, rfl, hsa, hda, hsb, hdb, k⟩ := h
  refine ⟨_, pss_cons (ps_if (pt_val (pe_callB call_isi (by rfl) T.n_isinstance (by decide +kernel) (pa_cons (pv 1) (pa_cons (pe_bltn (v := .ty "dict") (u := .type "dict") rfl T.n_dict (by decide +kernel) rfl) pa_nil)))) pss_never pss_nil) (pss_cons (ps_if (pt_val (pe_callB call_isiT (by rfl) T.n_isinstance (by decide +kernel) (pa_cons (pv 1) (pa_cons (pe_tup (pa_cons (pe_bltn (v := .ty "tuple") (u := .type "tuple") rfl T.n_tuple (by decide +kernel) rfl) (pa_cons (pe_bltn (v := .ty "list") (u := .type "list") rfl T.n_list (by decide +kernel) rfl) pa_nil))) pa_nil)))) (pss_cons (ps_if (PW.pt (pw_or (pt_not (pt_val (pe_callB call_isiT (by rfl) T.n_isinstance (by decide +kernel) (pa_cons (pv 0) (pa_cons (pe_tup (pa_cons (pe_bltn (v := .ty "tuple") (u := .type "tuple") rfl T.n_tuple (by decide +kernel) rfl) (pa_cons (pe_bltn (v := .ty "list") (u := .type "list") rfl T.n_list (by decide +kernel) rfl) pa_nil))) pa_nil))))) (pw_or1 (pt_cmpR op_ne (pe_callB call_isi (by rfl) T.n_isinstance (by decide +kernel) (pa_cons (pv 0) (pa_cons (pe_bltn (v := .ty "list") (u := .type "list") rfl T.n_list (by decide +kernel) rfl) pa_nil))) (pe_callB call_isi (by rfl) T.n_isinstance (by decide +kernel) (pa_cons (pv 1) (pa_cons (pe_bltn (v := .ty "list") (u := .type "list") rfl T.n_list (by decide +kernel) rfl) pa_nil))) (nomark _))))) (pss_one (ps_ret pe_bl)) pss_nil) (pss_cons (ps_if (pt_cmpR op_ne (pe_callB call_len_seq (by rfl) T.n_len PySem.boot_len (pa_cons (pv 0) pa_nil)) (pe_callB call_len_seq (by rfl) T.n_len PySem.boot_len (pa_cons (pv 1) pa_nil)) (nomark _)) (pss_one (ps_ret pe_bl)) pss_nil) (pss_one (ps_ret (pe_cmpR (op_eqD hr.units) (pe_lc (own := [("_law_k", 2)]) rfl sc_law_alike.nd (pi_range1 rfl T.n_range (pa_cons (pe_callB call_len_seq (by rfl) T.n_len PySem.boot_len (pa_cons (pv 1) pa_nil)) pa_nil)) (blkOk_by (own := [("_law_k", 2)]) (N := N_law_alike) (sc := defScope s_law_alike) (by decide +kernel)) (fun _ _ _ _ _ => (pg_name (i := 2) sc_law_alike.nd rfl (Or.inl rfl) (.inr rfl))) (fun _ _ _ _ _ => (pts_one (pt_not (pt_val (pe_cR IH hr T.F_law_alike.kp T.g_law_alike pass0 (pa_cons (pe_ix (ix_seqK (K := K) rfl) (pv 0) (pv 2) (fun _ _ => rfl)) (pa_cons (pe_ix (ix_seqK (K := K) rfl) (pv 1) (pv 2) (fun _ _ => rfl)) pa_nil))))))) (fun _ _ _ _ _ => (pv 2))) (pe_lst pa_nil) (nomark _)))))) pss_nil) pss_never), ?_⟩
  have la := dps_len hda
  have lb := dps_len hdb
  refine ⟨_, rfl, .ref b, .ty "dict", _, _, false, rfl, ClsV.ty "dict", hsb.ty, kitD q, false, rfl, iteF ?_⟩
  refine ⟨_, rfl, by show 2 ≤ sizeLine; decide, fun t1 h1 => ⟨.ref b, t1, _, _, _, true, rfl, upd_same, .cons (ClsV.ty "tuple") (.cons (ClsV.ty "list") .nil), (hsb.mono (same_new h1)).ty, isTL q, true, rfl, iteT ?_⟩⟩
  have s1 : Same H (upd H t1 (.tup [.ty "tuple", .ty "list"])) := same_new h1
  generalize upd H t1 (.tup [.ty "tuple", .ty "list"]) = H1 at s1
  refine ⟨_, rfl, by show 2 ≤ sizeLine; decide, fun t2 h2 => ⟨.ref a, t2, _, _, _, true, rfl, upd_same, .cons (ClsV.ty "tuple") (.cons (ClsV.ty "list") .nil), (hsa.mono (s1.trans (same_new h2))).ty, isTL q, true, rfl, iteF ?_⟩⟩
  have s2 : Same H (upd H1 t2 (.tup [.ty "tuple", .ty "list"])) := s1.trans (same_new h2)
  generalize upd H1 t2 (.tup [.ty "tuple", .ty "list"]) = H2 at s2
  refine ⟨_, rfl, .ref a, .ty "list", _, _, q, rfl, ClsV.ty "list", (hsa.mono s2).ty, kitL q, _, rfl, .ref b, .ty "list", _, _, q, rfl, ClsV.ty "list", (hsb.mono s2).ty, kitL q, rfl, _, rfl, ?_⟩
  rw [decide_eq_true rfl]
  refine iteF ?_
  refine ⟨_, rfl, a, _, rfl, (hsa.mono s2).or, _, rfl, b, _, rfl, (hsb.mono s2).or, rfl, _, rfl, ?_⟩
  rw [la, lb, decide_eq_true rfl]
  refine iteF ?_
  -- the items
  refine ⟨_, rfl, b, _, rfl, (hsb.mono s2).or, _, rfl, ?_, ?_, fun D hD => ?_⟩
  · have h62 : (10000 : Int) < 2 ^ 62 := by decide
    rw [lb]
    omega
  · have h62 : (10000 : Int) < 2 ^ 62 := by decide
    rw [lb]
    omega
  refine lc_range (lo := 0) (n := ((ys.length : Nat) : Int).toNat) (fun i H3 => Same H2 H3 ∧ H3 D = some (.lst [])) ⟨same_new hD, upd_same⟩ ?_ ?_
  · rintro i H3 hi ⟨s3, e3⟩
    have hi2 : i < ds.length := by omega
    obtain ⟨v1, d1, ev, _, dv, ed⟩ := dps_at hda hi2
    obtain ⟨v2, d2, eu, hm, du, ed2⟩ := dps_at hdb hi2
    rw [ed] at ed2
    cases ed2
    have s23 := s2.trans s3
    refine ⟨rfl, _, rfl, _, rfl, (hsa.mono s23).ix (at_of (Int.zero_add _) ev) ?_⟩
    refine ⟨_, rfl, _, rfl, (hsb.mono s23).ix (at_of (Int.zero_add _) eu) ?_⟩
    exact ⟨v1, v2, d1, rfl, dp_mono s23 dv, dp_mono s23 du, hds _ hm, fun H4 s4 => ⟨true, rfl, iteF ⟨s3.trans s4, s4 _ _ e3⟩⟩⟩
  rintro H3 ⟨s3, e3⟩
  refine ⟨Nat.zero_le _, fun E2 hE2 => ?_⟩
  exact ⟨.list [], .list [], Dp.lst (SqL.of (upd_old e3 hE2)) .nil, Dp.lst (SqL.of upd_same) .nil, shapedN, shapedN, k _ (s2.trans (s3.trans (same_new hE2)))⟩
theorem ok_law_alike : FnR P w K mg base CX0 5 (a_law_alike K) (spAlike K 4) := ok_alikeS T 3 (ok_alikeS T 2 (ok_alikeS T 1 (ok_alikeS T 0 (ok_alike0 T))))
end
end EB

namespace EB
open PySem PySem.Spec PyProof.Rows L2
theorem OfAt.ins {K : PySem.W.Frag} {H : Hp} {a : Addr} {ts : List Tr} (o : OfAt K H a ts) : ∃ dx fs, H a = some (.ins (He.ga K "Offer") dx fs) ∧ ∀ m : Str, ((m == "_trades") || ((m == "_period") || ((m == "_tops") || ((m == "_firsts") || (m == "_gaps"))))) = false → fs.lookup m = none := by
  obtain ⟨dx, t, p, q, f, g, e1, _⟩ := o.ex
  exact ⟨dx, _, e1, fun m h => lk_no h⟩
theorem dps_snoc {K : PySem.W.Frag} {H : Hp} {v : V} {d : PyData} (h : Dp K H v d) : ∀ {vs : List V} {ds : List PyData}, DpAll K H vs ds → DpAll K H (vs ++ [v]) (ds ++ [d])
  | _, _, .nil => .cons h .nil
  | _, _, .cons a b => .cons a (dps_snoc h b)
theorem hid_mono {H H' : Hp} {x : Addr} (s : Same H H') : Same (hid H x) (hid H' x) := fun b o e => by
  by_cases h : b = x
  · rw [h, hid_x] at e
    cases e
  · rw [hid_ne h] at e ⊢
    exact s b o e
/-- one trade, read off the tuple of the trades -/
theorem TrAt.ix {K : PySem.W.Frag} {H : Hp} {a : Addr} {ts : List Tr} {i : Nat} {t : Tr} (h : TrAt K H a ts) (e : ts[i]? = some t) : ∃ xs p, SqT K H a xs ∧ xs.length = ts.length ∧ atI xs (0 + (i : Int)) = some (.ref p) ∧ SqT K H p t.vs := by
  obtain ⟨ps, h1, h2, h3⟩ := h.ex
  have hi : i < ps.length := by
    rw [h2]
    exact lt_of_at e
  refine ⟨_, ps[i], h1, by rw [List.length_map, h2], at_of (j := i) (Int.zero_add _) ?_, h3 i _ t (List.getElem?_eq_getElem hi) e⟩
  rw [List.getElem?_map, List.getElem?_eq_getElem hi]
  rfl
theorem TrAt.seq {K : PySem.W.Frag} {H : Hp} {a : Addr} {ts : List Tr} (h : TrAt K H a ts) : ∃ xs, SqT K H a xs ∧ xs.length = ts.length := by
  obtain ⟨ps, h1, h2, _⟩ := h.ex
  exact ⟨_, h1, by rw [List.length_map, h2]⟩
theorem ints_lay : ∀ ns : List Int, PyData.canLayAll0 (ns.map .int) = true ∧ PyData.depthAll (ns.map .int) ≤ 1
  | [] => ⟨rfl, by simp [PyData.depthAll]⟩
  | n :: ns => by
    have h := ints_lay ns
    rw [List.map_cons]
    refine ⟨by rw [PyData.canLayAll0, h.1, PyData.canLay0]; rfl, ?_⟩
    simp only [PyData.depthAll, PyData.depth]
    omega
theorem ints_shaped (ns : List Int) : SeqAt.shaped (PyData.list (ns.map .int)) = true := by
  have h := ints_lay ns
  unfold SeqAt.shaped
  rw [Bool.and_eq_true, decide_eq_true_eq]
  refine ⟨by rw [PyData.canLay0]; exact h.1, ?_⟩
  rw [PyData.depth]
  omega
theorem ints_eqv (ns : List Int) : PyData.eqv (PyData.list (ns.map .int)) (.list []) = decide (ns = []) := by
  cases ns with
  | nil => rfl
  | cons k ks =>
    rw [decide_eq_false (by simp)]
    simp [PyData.eqv, PyData.eqvAll]
theorem iteJ {c : Bool} {p : Prop} {R : Hp → Prop} {H : Hp} (Pv : Hp → Prop) (h : ∀ H3, Pv H3 → R H3) (h1 : c = true → (∀ H3, Pv H3 → R H3) → p) (h2 : ¬ c = true → Pv H) : if c = true then p else R H := by
  by_cases q : c = true
  · rw [if_pos q]
    exact h1 q h
  · rw [if_neg q]
    exact h H (h2 q)
/-- two ways on, both to a test that fails -/
theorem capF {a b : TT} {σ : L2.St} {H : Hp} {Q : Bool → Hp → Prop} (Pv : Hp → Prop) (h : ∀ H3, Pv H3 → Q false H3) (k : (∀ H3, Pv H3 → Q false H3) → tAnd a b σ H Q) : tAnd a b σ H Q := k h
/-- a statement whose ways meet again: what is asked of all of them -/
theorem capI {c : TT} {A B X : TS} {D : Ends} {σ : L2.St} {H : Hp} (Pv : L2.St → Hp → Prop) (h : ∀ σ' H', Pv σ' H' → X D σ' H') (k : (∀ σ' H', Pv σ' H' → X D σ' H') → tSeq (tIfS c A B) X D σ H) : tSeq (tIfS c A B) X D σ H := k h
theorem capA {e : TE} {g : TG} {X : TS} {D : Ends} {σ : L2.St} {H : Hp} (Pv : L2.St → Hp → Prop) (h : ∀ σ' H', Pv σ' H' → X D σ' H') (k : (∀ σ' H', Pv σ' H' → X D σ' H') → tSeq (tAsg e g) X D σ H) : tSeq (tAsg e g) X D σ H := k h
theorem hid2_mono {H H' : Hp} {h l : Addr} (s : Same H H') : Same (hid2 H h l) (hid2 H' h l) := fun b o e => by
  by_cases q : b = h ∨ b = l
  · unfold hid2 at e
    rw [if_pos q] at e
    cases e
  · have n1 : b ≠ h := fun z => q (.inl z)
    have n2 : b ≠ l := fun z => q (.inr z)
    rw [hid2_ne n1 n2] at e ⊢
    exact s b o e
theorem HS.trs {K : PySem.W.Frag} {H0 H H' : Hp} {h l a : Addr} {ts : List Tr} (x : HS H0 H h l) (t : TrAt K H a ts) (y : HS (hid2 H h l) H' h l) : TrAt K H' a ts := (x.tr t).mono y.same
theorem tr_snoc {K : PySem.W.Frag} {H : Hp} {a : Addr} {ts : List Tr} {ps : List Addr} {q : Addr} {t : Tr} (h1 : SqT K H a ((ps ++ [q]).map V.ref)) (h2 : ps.length = ts.length) (h3 : ∀ (i : Nat) (p : Addr) (t : Tr), ps[i]? = some p → ts[i]? = some t → SqT K H p t.vs) (hq : SqT K H q t.vs) : TrAt K H a (ts ++ [t]) := by
  refine ⟨ps ++ [q], h1, by rw [List.length_append, List.length_append, h2]; rfl, fun i p u e1 e2 => ?_⟩
  rcases Nat.lt_or_ge i ps.length with z | z
  · rw [List.getElem?_append_left z] at e1
    rw [List.getElem?_append_left (by omega)] at e2
    exact h3 i p u e1 e2
  · rw [List.getElem?_append_right z] at e1
    rw [List.getElem?_append_right (by omega)] at e2
    have hi : i - ps.length = 0 := by
      have := lt_of_at e1
      simp only [List.length_singleton] at this
      omega
    rw [hi] at e1
    rw [← h2, hi] at e2
    cases e1
    cases e2
    exact hq
theorem concat_of {α : Type} {l : List α} (h : l ≠ []) : ∃ i x, l = i ++ [x] := ⟨l.dropLast, l.getLast h, (List.dropLast_concat_getLast h).symm⟩
theorem last_at {xs : List V} {v : V} : atI (xs ++ [v]) (-1) = some v := atI_last xs v
theorem cut_last {xs : List V} {v : V} : cutV (xs ++ [v]) none (some (-1)) = xs ∧ ¬ (HT.sIx (xs ++ [v]).length 0 none = 0 ∧ HT.sIx (xs ++ [v]).length (xs ++ [v]).length (some (-1)) = (xs ++ [v]).length) := by
  have e : HT.sIx (xs ++ [v]).length (xs ++ [v]).length (some (-1)) = xs.length := by
    show (-1 + ((xs ++ [v]).length : Int)).toNat = _
    rw [List.length_append]
    simp only [List.length_singleton]
    omega
  constructor
  · unfold cutV
    rw [e, HT.sIx_none, Nat.sub_zero, List.drop_zero, List.take_left]
  · rw [e]
    intro z
    rw [List.length_append] at z
    simp only [List.length_singleton] at z
    omega
theorem tc_intro {ta : TE} {tr : TA} {σ : L2.St} {H : Hp} {Q : List V → Hp → Prop} (h : ta σ H fun x H1 => tr σ H1 fun xs H2 => Q (x :: xs) H2) : tCons ta tr σ H Q := h
theorem hid_sqt {K : PySem.W.Frag} {H : Hp} {O a : Addr} {zs xs : List V} (e : H O = some (.lst zs)) (t : SqT K H a xs) : SqT K (hid H O) a xs := by
  rcases t with (t | ⟨o, t⟩) | t
  · exact .inl (.inl (by rw [hid_ne (ne_of t e (by intro z; cases z))]; exact t))
  · exact .inl (.inr ⟨o, by rw [hid_ne (ne_of t e (by intro z; cases z))]; exact t⟩)
  · exact .inr t
theorem hid_sql {K : PySem.W.Frag} {H : Hp} {O a : Addr} {xs : List V} (n : a ≠ O) (t : SqL K H a xs) : SqL K (hid H O) a xs := by
  rcases t with (t | ⟨o, t⟩) | t
  · exact .inl (.inl (by rw [hid_ne n]; exact t))
  · exact .inl (.inr ⟨o, by rw [hid_ne n]; exact t⟩)
  · exact .inr t
theorem hid_tr {K : PySem.W.Frag} {H : Hp} {O a : Addr} {zs : List V} {ts : List Tr} (e : H O = some (.lst zs)) (t : TrAt K H a ts) : TrAt K (hid H O) a ts := by
  obtain ⟨ps, h1, h2, h3⟩ := t.ex
  exact ⟨ps, hid_sqt e h1, h2, fun i p t a b => hid_sqt e (h3 i p t a b)⟩
/-- a new offer, looked at without the draws and without a list that was there -/
theorem HS.of3 {K : PySem.W.Frag} {H0 H H1 : Hp} {h l a O : Addr} {ts : List Tr} {zs : List V} (x : HS H0 H h l) (s : Same H H1) (t : OfNew K H H1 a ts) (eO : H O = some (.lst zs)) (m1 : O ≠ h) (m2 : O ≠ l) : OfAt K (hid (hid2 H1 h l) O) a ts := by
  obtain ⟨dx, t, p, o, f, g, h1, h2, h3, h4, h5, h6, n1, n2, n3⟩ := t.ex
  have y := x.grow s
  obtain ⟨m, i, ns, e1, e2, _⟩ := x.ex
  have q : ∀ b, H b = none → b ≠ h ∧ b ≠ l := fun b n => ⟨(ne_of_none e1 n).symm, (ne_of_none e2 n).symm⟩
  have r : ∀ b, H b = none → b ≠ O := fun b n => (ne_of_none eO n).symm
  have eO2 : hid2 H1 h l O = some (.lst zs) := HS.keep (H0 := H0) (s _ _ eO) m1 m2
  have e : hid2 H1 h l a = some (.ins (He.ga K "Offer") dx (ofs t p o f g)) := by
    rw [hid2_ne (ne_of h1 (s _ _ e1) (by intro z; cases z)) (ne_of h1 (s _ _ e2) (by intro z; cases z))]
    exact h1
  refine ⟨dx, t, p, o, f, g, ?_, hid_tr eO2 (y.tr h2), hid_sqt eO2 (y.tup h3), hid_sql (r o n1) (y.lst h4 (q o n1).1 (q o n1).2), hid_sql (r f n2) (y.lst h5 (q f n2).1 (q f n2).2), hid_sql (r g n3) (y.lst h6 (q g n3).1 (q g n3).2)⟩
  rw [hid_ne (ne_of e eO2 (by intro z; cases z))]
  exact e
theorem hid3_upd {H : Hp} {h l O : Addr} {v : HO} (n1 : O ≠ h) (n2 : O ≠ l) : hid (hid2 (upd H O v) h l) O = hid (hid2 H h l) O := funext fun b => by
  by_cases q : b = O
  · rw [q, hid_x, hid_x]
  · rw [hid_ne q, hid_ne q]
    unfold hid2
    rw [upd_ne q]
theorem tr_rev {K : PySem.W.Frag} {H : Hp} {a : Addr} {ts : List Tr} (t : TrAt K H a ts) : ∃ xs, SqT K H a xs ∧ ∀ H' q, Same H H' → SqT K H' q xs.reverse → TrAt K H' q ts.reverse := by
  obtain ⟨ps, h1, h2, h3⟩ := t.ex
  refine ⟨_, h1, fun H' q s e => ⟨ps.reverse, by rw [List.map_reverse]; exact e, by rw [List.length_reverse, List.length_reverse, h2], fun i p2 t2 e1 e2 => ?_⟩⟩
  have hi := lt_of_at e1
  rw [List.length_reverse] at hi
  rw [List.getElem?_reverse hi] at e1
  rw [List.getElem?_reverse (by omega), ← h2] at e2
  exact Same.tup s (h3 _ p2 t2 e1 e2)
theorem catA_any {K : PySem.W.Frag} {H : Hp} {a b : Addr} {xs ys : List V} {Q : VK} (h1 : SqT K H a xs) (h2 : SqT K H b ys) (hl : xs.length + ys.length ≤ 1000) (k : ∀ q H', Same H H' → SqT K H' q (xs ++ ys) → Q (.ref q) H') : rCatA K (.ref a) (.ref b) H Q := by
  have h1000 : 1000 ≤ sizeLine := by decide
  refine ⟨a, b, xs, ys, rfl, rfl, h1, h2, by omega, fun z => k b H (Same.refl _) ?_, fun _ z => k a H (Same.refl _) ?_, fun _ _ p hp => k p _ (same_new hp) (SqT.of upd_same)⟩
  · rw [z, List.nil_append]
    exact h2
  · rw [z, List.append_nil]
    exact h1
theorem slA_any {K : PySem.W.Frag} {H : Hp} {a : Addr} {xs : List V} {lo hi : Option Int} {Q : VK} (h1 : SqT K H a xs) (k : ∀ q H', Same H H' → SqT K H' q (cutV xs lo hi) → Q (.ref q) H') : rSlA K (.ref a) lo hi H Q := by
  refine ⟨a, xs, rfl, h1, fun z => k a H (Same.refl _) ?_, fun _ p hp => k p _ (same_new hp) (SqT.of upd_same)⟩
  unfold cutV
  rw [z.1, z.2, Nat.sub_zero, List.drop_zero, List.take_length]
  exact h1
theorem cut_to {xs : List V} {k : Nat} (h : k ≤ xs.length) : cutV xs none (some (k : Int)) = xs.take k := by
  unfold cutV
  rw [HT.sIx_none, HT.sIx_nat, Nat.min_eq_left h, Nat.sub_zero, List.drop_zero]
theorem cut_from {xs : List V} {k : Nat} (h : k ≤ xs.length) : cutV xs (some (k : Int)) none = xs.drop k := by
  unfold cutV
  rw [HT.sIx_none, HT.sIx_nat, Nat.min_eq_left h, List.take_of_length_le]
  rw [List.length_drop]
  omega
theorem tr_mid {K : PySem.W.Frag} {H : Hp} {b q : Addr} {ps1 ps2 : List Addr} {ts1 ts2 : List Tr} {t : Tr} (h : SqT K H b ((ps1 ++ q :: ps2).map V.ref)) (l1 : ps1.length = ts1.length) (l2 : ps2.length = ts2.length)
    (h1 : ∀ (i : Nat) (p : Addr) (t : Tr), ps1[i]? = some p → ts1[i]? = some t → SqT K H p t.vs) (h2 : ∀ (i : Nat) (p : Addr) (t : Tr), ps2[i]? = some p → ts2[i]? = some t → SqT K H p t.vs) (hq : SqT K H q t.vs) : TrAt K H b (ts1 ++ t :: ts2) := by
  refine ⟨_, h, by rw [List.length_append, List.length_append, List.length_cons, List.length_cons, l1, l2], fun i p u e1 e2 => ?_⟩
  rcases Nat.lt_or_ge i ps1.length with z | z
  · rw [List.getElem?_append_left z] at e1
    rw [List.getElem?_append_left (by omega)] at e2
    exact h1 i p u e1 e2
  · rw [List.getElem?_append_right z] at e1
    rw [List.getElem?_append_right (by omega), ← l1] at e2
    generalize i - ps1.length = j at e1 e2
    cases j with
    | zero =>
      cases e1
      cases e2
      exact hq
    | succ j => exact h2 j p u e1 e2
theorem mid_of {α : Type} {l : List α} {r : Nat} (h : r < l.length) : ∃ a x b, l = a ++ x :: b ∧ a.length = r :=
  ⟨l.take r, l[r], l.drop (r + 1), by rw [← List.drop_eq_getElem_cons h, List.take_append_drop], by rw [List.length_take]; omega⟩
theorem get_of {α β : Type} {xs : List α} {ys : List β} (h : xs.length = ys.length) {i : Nat} {x : α} (e : xs[i]? = some x) : ∃ y, ys[i]? = some y := by
  have hi : i < ys.length := by
    rw [← h]
    exact lt_of_at e
  exact ⟨_, List.getElem?_eq_getElem hi⟩
end EB

namespace EB
/-! ### two offers -/
noncomputable def slk (c1 c2 : Nat → Int) (n : Nat) : Int := T c1 (D c2 n) - n
def spanN (P1 P2 B2 : Nat) : Nat := Nat.lcm P1 P2 / P2 * B2
def fallI (P1 B1 P2 B2 : Nat) : Int := (spanN P1 P2 B2 : Nat) - (Nat.lcm P1 P2 / P1 * B1 : Nat)
namespace CF
variable {c1 c2 : Nat → Int} {P1 B1 P2 B2 : Nat}
theorem slk_iff (h1 : CF c1 P1 B1) (n : Nat) : 0 ≤ slk c1 c2 n ↔ D c1 n ≤ D c2 n := by
  unfold slk
  rw [h1.D_le_iff]
  omega
theorem T_le {c : Nat → Int} {P B : Nat} (h : CF c P B) (d : Nat) : T c d ≤ d := by
  obtain ⟨j, hj, e⟩ := CF.T_at c d
  have := h.le_self j
  omega
theorem lcm_a (h1 : CF c1 P1 B1) : Nat.lcm P1 P2 / P1 * P1 = Nat.lcm P1 P2 := Nat.div_mul_cancel (Nat.dvd_lcm_left ..)
theorem lcm_b (h1 : CF c1 P1 B1) : Nat.lcm P1 P2 / P2 * P2 = Nat.lcm P1 P2 := Nat.div_mul_cancel (Nat.dvd_lcm_right ..)
theorem span_pos (h1 : CF c1 P1 B1) (h2 : CF c2 P2 B2) : 0 < spanN P1 P2 B2 := by
  have h3 := Nat.lcm_pos h1.ppos h2.ppos
  have h4 := h1.lcm_b (P2 := P2)
  unfold spanN
  apply Nat.mul_pos _ h2.bpos
  rcases Nat.eq_zero_or_pos (Nat.lcm P1 P2 / P2) with z | z
  · rw [z, Nat.zero_mul] at h4
    omega
  · exact z
theorem span_le (h1 : CF c1 P1 B1) (hb : B2 ≤ P2) : spanN P1 P2 B2 ≤ P1 * P2 := by
  have h4 := h1.lcm_b (P2 := P2)
  have h5 : Nat.lcm P1 P2 ≤ P1 * P2 := Nat.div_le_self _ _
  have h6 := Nat.mul_le_mul_left (Nat.lcm P1 P2 / P2) hb
  unfold spanN
  omega
/-- drinks of the second one repeat by the span -/
theorem D_span2 (h1 : CF c1 P1 B1) (h2 : CF c2 P2 B2) {n : Nat} (hn : P2 ≤ n) : D c2 (n + spanN P1 P2 B2) = D c2 n + Nat.lcm P1 P2 := by
  have h3 := h2.T_le (P2 - 1)
  have h4 := h2.D_perk (n := n) (by have := h2.ppos; omega) (Nat.lcm P1 P2 / P2)
  rw [h1.lcm_b] at h4
  exact h4
/-- drinks of the first one repeat by its span -/
theorem D_span1 (h1 : CF c1 P1 B1) (h2 : CF c2 P2 B2) {n : Nat} (hn : P1 ≤ n) : D c1 (n + Nat.lcm P1 P2 / P1 * B1) = D c1 n + Nat.lcm P1 P2 := by
  have h3 := h1.T_le (P1 - 1)
  have h4 := h1.D_perk (n := n) (by have := h1.ppos; omega) (Nat.lcm P1 P2 / P1)
  rw [h1.lcm_a] at h4
  exact h4
theorem slk_per (h1 : CF c1 P1 B1) (h2 : CF c2 P2 B2) {n : Nat} (hn : P1 + P2 ≤ n) : slk c1 c2 (n + spanN P1 P2 B2) = slk c1 c2 n - fallI P1 B1 P2 B2 := by
  have h3 := h1.D_span2 h2 (n := n) (by omega)
  have h4 := h2.D_ge n
  have h5 := h1.T_perk (d := D c2 n) (by omega) (Nat.lcm P1 P2 / P1)
  rw [h1.lcm_a] at h5
  unfold slk fallI
  rw [h3, h5]
  push_cast
  omega
theorem slk_perk (h1 : CF c1 P1 B1) (h2 : CF c2 P2 B2) {n : Nat} (hn : P1 + P2 ≤ n) : ∀ k : Nat, slk c1 c2 (n + k * spanN P1 P2 B2) = slk c1 c2 n - k * fallI P1 B1 P2 B2
  | 0 => by simp
  | k + 1 => by
    have h3 := slk_perk h1 h2 hn k
    have h4 := h1.slk_per h2 (n := n + k * spanN P1 P2 B2) (by omega)
    rw [Nat.succ_mul, ← Nat.add_assoc, h4, h3]
    push_cast
    rw [Int.add_mul]
    omega
/-- every number is one of the first, or one of those of one span after the start and some spans more -/
theorem reduce {S W : Nat} (hW : 0 < W) (n : Nat) : n < S + W ∨ ∃ m k : Nat, S ≤ m ∧ m < S + W ∧ n = m + k * W := by
  rcases Nat.lt_or_ge n (S + W) with h | h
  · exact .inl h
  · refine .inr ⟨S + (n - S) % W, (n - S) / W, by omega, by have := Nat.mod_lt (n - S) hW; omega, ?_⟩
    have := Nat.mod_add_div (n - S) W
    rw [Nat.mul_comm] at this
    omega
theorem never (h1 : CF c1 P1 B1) (h2 : CF c2 P2 B2) : (∀ n, D c1 n ≤ D c2 n) ↔ ¬ 0 < fallI P1 B1 P2 B2 ∧ ∀ n, n < P1 + P2 + spanN P1 P2 B2 → 0 ≤ slk c1 c2 n := by
  constructor
  · intro h
    refine ⟨fun z => ?_, fun n _ => (h1.slk_iff n).mpr (h n)⟩
    have h3 := h1.slk_perk h2 (n := P1 + P2) (Nat.le_refl _) ((slk c1 c2 (P1 + P2)).toNat + 1)
    have h4 := (h1.slk_iff (c2 := c2) (P1 + P2 + ((slk c1 c2 (P1 + P2)).toNat + 1) * spanN P1 P2 B2)).mpr (h _)
    have h5 := (h1.slk_iff (c2 := c2) (P1 + P2)).mpr (h _)
    rw [h3] at h4
    generalize slk c1 c2 (P1 + P2) = u at h4 h5
    have h6 : ((u.toNat + 1 : Nat) : Int) * 1 ≤ ((u.toNat + 1 : Nat) : Int) * fallI P1 B1 P2 B2 := Int.mul_le_mul_of_nonneg_left (by omega) (by omega)
    omega
  · rintro ⟨hf, h⟩ n
    apply (h1.slk_iff n).mp
    rcases reduce (S := P1 + P2) (h1.span_pos h2) n with z | ⟨m, k, hm, hm2, rfl⟩
    · exact h n z
    · rw [h1.slk_perk h2 hm]
      have h3 := h m hm2
      have h6 : (k : Int) * fallI P1 B1 P2 B2 ≤ (k : Int) * 0 := Int.mul_le_mul_of_nonneg_left (by omega) (by omega)
      omega
theorem D_inj {c : Nat → Int} {P B : Nat} (h : CF c P B) {n m : Nat} (e : D c n = D c m) : n = m := by
  rcases Nat.lt_trichotomy n m with z | z | z
  · have := h.D_lt z
    omega
  · exact z
  · have := h.D_lt z
    omega
theorem same (h1 : CF c1 P1 B1) (h2 : CF c2 P2 B2) (h : ∀ n, n < P1 + P2 + spanN P1 P2 B2 → D c1 n = D c2 n) (n : Nat) : D c1 n = D c2 n := by
  have p1 := h1.ppos
  have p2 := h2.ppos
  have key : Nat.lcm P1 P2 / P1 * B1 = spanN P1 P2 B2 := by
    have e1 := h1.D_span2 h2 (n := max P1 P2) (by omega)
    have e2 := h1.D_span1 h2 (n := max P1 P2) (by omega)
    have e3 := h (max P1 P2) (by omega)
    have e4 := h (max P1 P2 + spanN P1 P2 B2) (by omega)
    have := h1.D_inj (show D c1 (max P1 P2 + Nat.lcm P1 P2 / P1 * B1) = D c1 (max P1 P2 + spanN P1 P2 B2) by omega)
    omega
  have per : ∀ k m : Nat, P1 + P2 ≤ m → D c1 m = D c2 m → D c1 (m + k * spanN P1 P2 B2) = D c2 (m + k * spanN P1 P2 B2) := by
    intro k
    induction k with
    | zero =>
      intro m hm e
      rw [Nat.zero_mul, Nat.add_zero]
      exact e
    | succ k ih =>
      intro m hm e
      have e1 := h1.D_span2 h2 (n := m + k * spanN P1 P2 B2) (by omega)
      have e2 := h1.D_span1 h2 (n := m + k * spanN P1 P2 B2) (by omega)
      have e3 := ih m hm e
      rw [key] at e2
      rw [Nat.succ_mul, ← Nat.add_assoc]
      omega
  rcases reduce (S := P1 + P2) (h1.span_pos h2) n with z | ⟨m, k, hm, hm2, rfl⟩
  · exact h n z
  · exact per k m hm (h m hm2)
end CF
end EB

namespace EB
open PySem PySem.Spec PyProof.Rows L2
/-! Who sees bottles that nobody counted. -/
def obf (a c l : Addr) : List (Str × V) := [("_offer", .ref a), ("_possible", .ref c), ("_observations", .ref l)]
theorem lk_offer {a c l : Addr} : (obf a c l).lookup ("_offer" : Str) = some (.ref a) := lkY
theorem lk_possible {a c l : Addr} : (obf a c l).lookup ("_possible" : Str) = some (.ref c) := by
  unfold obf
  rw [lkN (by decide +kernel), lkY]
theorem lk_observations {a c l : Addr} : (obf a c l).lookup ("_observations" : Str) = some (.ref l) := by
  unfold obf
  rw [lkN (by decide +kernel), lkN (by decide +kernel), lkY]
theorem lk_noo {a c l : Addr} {m : Str} (h : ((m == "_offer") || ((m == "_possible") || (m == "_observations"))) = false) : (obf a c l).lookup m = none := by
  obtain ⟨h1, h⟩ := Bool.or_eq_false_iff.mp h
  obtain ⟨h2, h3⟩ := Bool.or_eq_false_iff.mp h
  unfold obf
  rw [lkN h1, lkN h2, lkN h3]
  rfl
theorem puto1 {a : V} : putF "_offer" a [] = ([("_offer", a)] : List (Str × V)) := rfl
theorem puto2 {a b : V} : putF "_possible" b ([("_offer", a)] : List (Str × V)) = ([("_offer", a), ("_possible", b)] : List (Str × V)) := by
  rw [putF_ne (by decide +kernel)]
  rfl
theorem puto3 {a b c : V} : putF "_observations" c ([("_offer", a), ("_possible", b)] : List (Str × V)) = ([("_offer", a), ("_possible", b), ("_observations", c)] : List (Str × V)) := by
  rw [putF_ne (by decide +kernel), putF_ne (by decide +kernel)]
  rfl
/-- from here on drinks repeat -/
noncomputable def startN (ts : List Tr) : Nat := (EB.T (cN ts) (per ts - 1) + 1 - perB ts).toNat
theorem start_eq {ts : List Tr} (f : Fair ts) : EB.T (cN ts) (per ts - 1) + 1 - perB ts = (startN ts : Int) ∧ startN ts ≤ 1728 := by
  have C := cf f
  have hp := per_pos f.g
  have hP := per_le' f.g
  have h1 := C.T_step (per ts - 1)
  have h2 := CF.T_ge (cN ts) (show per ts ≤ per ts from Nat.le_refl _)
  have h3 : cN ts (per ts) = perB ts := (perB_eq f).symm
  rw [show per ts - 1 + 1 = per ts by omega] at h1
  have h4 := CF.T_le C (per ts - 1)
  have h0 : (0 : Int) ≤ EB.T (cN ts) (per ts - 1) + 1 - perB ts := by omega
  unfold startN
  refine ⟨by omega, by omega⟩
noncomputable def early0 (ts : List Tr) : List Int := (List.range (startN ts)).map fun i : Nat => (i : Int)
/-- an observer at x: its offer, what is possible -/
structure ObsAt (K : PySem.W.Frag) (H : Hp) (x : Addr) (ts : List Tr) (early : List Int) (p : Int) (offs : List Int) : Prop where
  ex : ∃ dx a c l, H x = some (.ins (He.ga K "BottleObserver") dx (obf a c l)) ∧ OfAt K H a ts ∧ CandAt K H c (startN ts) early p offs
theorem ObsAt.mono {K : PySem.W.Frag} {H H' : Hp} {x : Addr} {ts : List Tr} {early : List Int} {p : Int} {offs : List Int} (s : Same H H') (h : ObsAt K H x ts early p offs) : ObsAt K H' x ts early p offs := by
  obtain ⟨dx, a, c, l, h1, h2, h3⟩ := h.ex
  exact ⟨dx, a, c, l, s _ _ h1, h2.mono s, h3.mono s⟩
section
variable {P : Program} {w : World} {K : PySem.W.Frag} {mg : Str → Option Value} {base : Heap} (T : Tx K mg)
include T
def spObsI (K : PySem.W.Frag) : Sp := fun vs H Q _ => ∃ (x a dx : Addr) (H0 : Hp) (ts : List Tr), vs = [.ref x, .ref a] ∧ Same H0 H ∧ H0 x = none ∧ H x = some (.ins (He.ga K "BottleObserver") dx []) ∧ OfAt K H0 a ts ∧ Fair ts ∧
  ∀ H' c l, Same H0 H' → H' x = some (.ins (He.ga K "BottleObserver") dx (obf a c l)) → CandNew K (upd H0 l (.lst [])) H' c (startN ts) (early0 ts) 1 [0] → H' l = some (.lst []) → H0 l = none → Q .non H'
theorem ok_BottleObserver_init : FnR P w K mg base CX0 3 (a_BottleObserver_init K) (spObsI K) := by
  refine fnR0 (d := d_BottleObserver_init) T.F_BottleObserver_init sc_BottleObserver_init rfl (fun _ _ _ _ _ _ us hl => match us, hl with | [_, _], _ => rfl) (fun vs H Q E h => ?_) (fun cdv A outer s H vs Q E hr h => ?_)
  · obtain ⟨x, a, dx, H0, ts, rfl, _⟩ := h
    rfl
  obtain ⟨x, a, dx, H0, ts, rfl, s0, n0, hx, ho, hf, k⟩ := h
  obtain ⟨hs, hs2⟩ := start_eq hf
  obtain ⟨dy, fy, oi, on⟩ := ho.ins
  refine ⟨_, (pss_cons (ps_set (i := 2) sc_BottleObserver_init.nd rfl (Or.inl rfl) (pe_prop (pv 1) T.k_Offer T.p_Offer_steady_from (ok_Offer_steady_from T) (hr.mono (by decide)) (b_Offer_steady_from T) .nil pass0 rfl)) (pss_cons (ps_fld (pv 0) (pv 1) rfl) (pss_cons (ps_fld (pv 0) (StX.pe_makeR T.mk_Candidates (ok_Candidates_init T) (hr.mono (by decide)) (by rfl) T.g_Candidates pass0 (pa_cons (pv 2) (pa_cons (pe_listRg rfl (by rfl) T.n_list (prg_1 (by rfl) T.n_range (pv 2))) (pa_cons pe_int (pa_cons (pe_lst (pa_cons pe_int pa_nil)) pa_nil))))) rfl) (pss_one (ps_fld (pv 0) (pe_lst pa_nil) rfl))))), ?_⟩
  refine ⟨_, rfl, a, dy, fy, rfl, s0 _ _ oi, a, ts, rfl, ho.mono s0, hf, ?_⟩
  rw [hs]
  refine ⟨_, rfl, _, rfl, x, _, dx, [], rfl, hx, T.k_BottleObserver, T.na_offer, by show 0 < 1000; decide, ?_⟩
  rw [puto1]
  have s1 : Same H0 (upd H x (.ins (He.ga K "BottleObserver") dx [("_offer", .ref a)])) := same_mut s0 n0
  have x1 : (upd H x (.ins (He.ga K "BottleObserver") dx [("_offer", .ref a)])) x = some (.ins (He.ga K "BottleObserver") dx [("_offer", .ref a)]) := upd_same
  generalize upd H x (.ins (He.ga K "BottleObserver") dx [("_offer", .ref a)]) = H1 at s1 x1
  refine ⟨_, rfl, _, rfl, _, rfl, ⟨⟨by omega, by omega, by omega, by omega, by omega⟩, fun q nq => ?_⟩⟩
  have er : rgV 0 (startN ts) = (early0 ts).map V.int := by
    unfold rgV early0
    rw [List.map_map, Int.sub_zero, Int.toNat_natCast]
    refine List.map_congr_left fun i _ => ?_
    show V.int (0 + (i : Int)) = V.int i
    rw [Int.zero_add]
  rw [er]
  have nqx : q ≠ x := (ne_of_none x1 nq).symm
  have fq := s1.free nq
  have x2 := upd_old (u := .lst ((early0 ts).map V.int)) x1 nq
  have s2 := s1.trans (same_new (u := .lst ((early0 ts).map V.int)) nq)
  have e2 : (upd H1 q (.lst ((early0 ts).map V.int))) q = some (.lst ((early0 ts).map V.int)) := upd_same
  generalize upd H1 q (.lst ((early0 ts).map V.int)) = H2 at s2 x2 e2
  refine ⟨by show 1 ≤ sizeLine; decide, fun o no => ?_⟩
  have nox : o ≠ x := (ne_of_none x2 no).symm
  have fo := s2.free no
  have x3 := upd_old (u := .lst [.int 0]) x2 no
  have s3 := s2.trans (same_new (u := .lst [.int 0]) no)
  have e3 := upd_old (u := .lst [.int 0]) e2 no
  have o3 : (upd H2 o (.lst [.int 0])) o = some (.lst (([0] : List Int).map V.int)) := upd_same
  generalize upd H2 o (.lst [.int 0]) = H3 at s3 x3 e3 o3
  intro c dc nc ndc nec
  have nd1 := upd_old (u := .own c) x3 ndc
  refine ⟨c, startN ts, 1, q, o, dc, rfl, upd_same, rfl, ?_⟩
  rw [upd_upd]
  rw [show (cxOf CX0 P w K mg base N_BottleObserver_init d_BottleObserver_init.ql (defScope d_BottleObserver_init.st) (d_BottleObserver_init.adr K) cdv A outer s H E).nox.K = K from rfl]
  have s4 := s3.trans (same_new (u := .own c) ndc)
  have x4 := upd_old (u := .own c) x3 ndc
  have e4 := upd_old (u := .own c) e3 ndc
  have o4 := upd_old (u := .own c) o3 ndc
  have nc4 : (upd H3 dc (.own c)) c = none := by rw [upd_ne nec.symm]; exact nc
  generalize upd H3 dc (.own c) = H4 at s4 x4 e4 o4 nc4
  have s5 := s4.trans (same_new (u := .ins (He.ga K "Candidates") dc (cfs (startN ts) q 1 o)) nc4)
  have x5 := upd_old (u := .ins (He.ga K "Candidates") dc (cfs (startN ts) q 1 o)) x4 nc4
  have e5 := upd_old (u := .ins (He.ga K "Candidates") dc (cfs (startN ts) q 1 o)) e4 nc4
  have o5 := upd_old (u := .ins (He.ga K "Candidates") dc (cfs (startN ts) q 1 o)) o4 nc4
  have c5 : (upd H4 c (.ins (He.ga K "Candidates") dc (cfs (startN ts) q 1 o))) c = some (.ins (He.ga K "Candidates") dc (cfs (startN ts) q 1 o)) := upd_same
  have ncx : c ≠ x := (ne_of_none x4 nc4).symm
  have fc := s4.free nc4
  generalize upd H4 c (.ins (He.ga K "Candidates") dc (cfs (startN ts) q 1 o)) = H5 at s5 x5 e5 o5 c5
  refine ⟨_, rfl, x, _, dx, _, rfl, x5, T.k_BottleObserver, T.na_possible, by show 1 < 1000; decide, ?_⟩
  rw [puto2]
  have s6 : Same H0 (upd H5 x (.ins (He.ga K "BottleObserver") dx [("_offer", .ref a), ("_possible", .ref c)])) := same_mut s5 n0
  have x6 : (upd H5 x (.ins (He.ga K "BottleObserver") dx [("_offer", .ref a), ("_possible", .ref c)])) x = some (.ins (He.ga K "BottleObserver") dx [("_offer", .ref a), ("_possible", .ref c)]) := upd_same
  have c6 : (upd H5 x (.ins (He.ga K "BottleObserver") dx [("_offer", .ref a), ("_possible", .ref c)])) c = _ := (upd_ne ncx).trans c5
  have e6 : (upd H5 x (.ins (He.ga K "BottleObserver") dx [("_offer", .ref a), ("_possible", .ref c)])) q = _ := (upd_ne nqx).trans e5
  have o6 : (upd H5 x (.ins (He.ga K "BottleObserver") dx [("_offer", .ref a), ("_possible", .ref c)])) o = _ := (upd_ne nox).trans o5
  generalize upd H5 x (.ins (He.ga K "BottleObserver") dx [("_offer", .ref a), ("_possible", .ref c)]) = H6 at s6 x6 c6 e6 o6
  refine ⟨by show 0 ≤ sizeLine; decide, fun l nl => ?_⟩
  have nlx : l ≠ x := (ne_of_none x6 nl).symm
  have l0 := s6.free nl
  have x7 := upd_old (u := .lst []) x6 nl
  refine ⟨_, rfl, x, _, dx, _, rfl, x7, T.k_BottleObserver, T.na_observations, by show 2 < 1000; decide, ?_⟩
  rw [puto3]
  have s7 := s6.trans (same_new (u := .lst []) nl)
  have c7 := upd_old (u := .lst []) c6 nl
  have e7 := upd_old (u := .lst []) e6 nl
  have o7 := upd_old (u := .lst []) o6 nl
  have l7 : (upd H6 l (.lst [])) l = some (.lst []) := upd_same
  generalize upd H6 l (.lst []) = H7 at s7 c7 e7 o7 l7
  exact k _ c l (same_mut s7 n0) upd_same ⟨dc, q, o, (upd_ne ncx).trans c7, (upd_ne nqx).trans e7, (upd_ne nox).trans o7, (upd_ne (ne_of_none c6 nl)).trans fc, (upd_ne (ne_of_none e6 nl)).trans fq, (upd_ne (ne_of_none o6 nl)).trans fo⟩ ((upd_ne nlx).trans l7) l0
end
/-- a new observer of an offer -/
theorem obs_ok {K : PySem.W.Frag} {H : Hp} {a x dx : Addr} {ts : List Tr} {Q : VK} {E : XK} (ho : OfAt K H a ts) (hf : Fair ts) (nx : H x = none) (nd : H dx = none) (ned : dx ≠ x)
    (k : ∀ H', Same H H' → ObsAt K H' x ts (early0 ts) 1 [0] → Q (.ref x) H') : spObsI K [.ref x, .ref a] (upd (upd H dx (.own x)) x (.ins (He.ga K "BottleObserver") dx [])) (fun v H2 => v = .non ∧ Q (.ref x) H2) E := by
  have s : Same H (upd (upd H dx (.own x)) x (.ins (He.ga K "BottleObserver") dx [])) := (same_new nd).trans (same_new (by rw [upd_ne ned.symm]; exact nx))
  exact ⟨x, a, dx, H, ts, rfl, s, nx, upd_same, ho, hf, fun H' c l s' h1 h2 h3 h4 => ⟨rfl, k H' s' ⟨dx, a, c, l, h1, ho.mono s', h2.at_⟩⟩⟩
/-- the possible number at a place, if there is one within the limit -/
def obsV (s : Int) (early : List Int) (p : Int) (offs : List Int) (place : Int) : V :=
  match candV s early p offs place with
  | .int b => if 1000000000000000000 < b then .non else .int b
  | v => v
theorem obsV_last {ts : List Tr} (h : startN ts ≤ 1728) : obsV (startN ts) (early0 ts) 1 [0] 1000000000000000000 = .int 1000000000000000000 := by
  have hl : (early0 ts).length = startN ts := by
    unfold early0
    rw [List.length_map, List.length_range]
  have e : candV (startN ts) (early0 ts) 1 [0] 1000000000000000000 = .int 1000000000000000000 := by
    unfold candV
    rw [hl, if_neg (by omega), if_neg (by simp)]
    simp only [List.length_singleton]
    have e1 : ((1000000000000000000 : Int) - (startN ts : Int)) % ((1 : Nat) : Int) = 0 := by omega
    rw [e1]
    show V.int ((startN ts : Int) + ((1000000000000000000 : Int) - (startN ts : Int)) / ((1 : Nat) : Int) * 1 + 0) = _
    congr 1
    omega
  unfold obsV
  rw [e]
  simp
theorem many_all {ts : List Tr} (h : startN ts ≤ 1728) : candMany (startN ts) (early0 ts) 1 [0] 1000000000000000000 = 1000000000000000001 := by
  have hl : ((early0 ts).filter fun n => decide (n ≤ 1000000000000000000)).length = startN ts := by
    rw [List.filter_eq_self.mpr]
    · unfold early0
      rw [List.length_map, List.length_range]
    · intro n m
      unfold early0 at m
      obtain ⟨i, hi, rfl⟩ := List.mem_map.mp m
      have := List.mem_range.mp hi
      exact decide_eq_true (by omega)
  unfold candMany
  rw [if_neg (by omega), hl]
  have e1 : ((1000000000000000000 : Int) - (startN ts : Int)) % 1 = 0 := by omega
  have e2 : ([0] : List Int).filter (fun o => decide (o ≤ ((1000000000000000000 : Int) - (startN ts : Int)) % 1)) = [0] := by
    rw [e1]
    rfl
  rw [e2]
  simp only [List.length_singleton]
  omega
theorem candV_cases (s : Int) (early : List Int) (p : Int) (offs : List Int) (place : Int) : candV s early p offs place = .non ∨ ∃ b, candV s early p offs place = .int b := by
  unfold candV
  split
  · exact .inr ⟨_, rfl⟩
  · split
    · exact .inl rfl
    · exact .inr ⟨_, rfl⟩
section
variable {w : World} {K : PySem.W.Frag} {mg : Str → Option Value} {base : Heap} (T : Tx K mg)
include T
def spNthP (K : PySem.W.Frag) : Sp := fun vs H Q E => ∃ (x : Addr) (n : Int), vs = [.ref x, .int n] ∧ ((¬ (1 ≤ n ∧ n ≤ 1000000000000000001) ∧ E (.ref (He.ga K "InvalidNumber")) none H) ∨
  (1 ≤ n ∧ n ≤ 1000000000000000001 ∧ ∃ (ts : List Tr) (early offs : List Int) (p : Int), ObsAt K H x ts early p offs ∧ early.length ≤ 10000000 ∧ offs.length ≤ 10000000 ∧ 0 ≤ p ∧ p < 1073741824 ∧ ∀ H', Same H H' → Q (obsV (startN ts) early p offs (n - 1)) H'))
theorem okX_BottleObserver_nth_possible (hK : K.In base) : FnR PX w K mg base (L2.CX PX w) 4 (a_BottleObserver_nth_possible K) (spNthP K) := by
  refine fnRX (d := d_BottleObserver_nth_possible) T.F_BottleObserver_nth_possible sc_BottleObserver_nth_possible rfl (fun _ _ _ _ _ _ us hl => match us, hl with | [_, _], _ => rfl) (fun vs H Q E h => ?_) (fun cdv A outer s H vs Q E hr h => ?_)
  · obtain ⟨x, n, rfl, _⟩ := h
    rfl
  obtain ⟨x, n, rfl, h⟩ := h
  obtain ⟨tM, hM⟩ := T.c_MAX_NUMBER
  refine ⟨_, (pss_cons (ps_expr (pe_cR (okX_check_number T hK) (hr.mono (by decide)) T.F_check_number.kp T.g_check_number (passes_call (takes_of rfl rfl rfl rfl) (fun _ _ _ _ h => h)) (pa_cons (pv 1) (pa_cons pe_int (pa_cons (pe_op op_add (pe_cI T.c_MAX_NUMBER) pe_int) pa_nil))))) (pss_cons (ps_set (i := 2) sc_BottleObserver_nth_possible.nd rfl (Or.inl rfl) (pe_methR (pe_fld (pv 0) rfl) T.k_Candidates T.m_Candidates_candidate (ok_Candidates_candidate T) (hr.mono (by decide)) pass0 (pa_cons (pe_op op_sub (pv 1) pe_int) pa_nil))) (pss_cons (ps_if (PW.pt (pw_or (pt_cmpR op_isN (pv 2) pe_non (nomark _)) (pw_or1 (pt_cmpR op_gt (pv 2) (pe_cI T.c_MAX_NUMBER) (nomark _))))) (pss_one (ps_ret pe_non)) pss_nil) (pss_one (ps_ret (pv 2)))))), ?_⟩
  refine ⟨_, rfl, _, _, rfl, rfl, ?_⟩
  dsimp only [tNil, tCons, tC]
  refine chk3 (by simp [bnds]) (fun a b => ?_) fun hn => ?_
  · rcases h with ⟨hn, _⟩ | ⟨_, _, ts, early, offs, p, ho, le, lo, p0, p1, k⟩
    · exact absurd ⟨a, b⟩ hn
    obtain ⟨dx, y, c, l, h1, h2, h3⟩ := ho.ex
    obtain ⟨dc, e, o, c1, c2, c3⟩ := h3.ex
    refine ⟨_, rfl, x, _, dx, _, _, rfl, h1, T.k_BottleObserver, T.na_possible, lk_possible, c, dc, _, rfl, c1, lk_noc (by decide +kernel), _, rfl, _, _, rfl, rfl, ?_⟩
    refine ⟨c, startN ts, p, n - 1, early, offs, rfl, h3, le, lo, p0, p1, by omega, by omega, fun H' s' => ?_⟩
    have k1 := k H' s'
    unfold obsV at k1
    rcases candV_cases (startN ts) early p offs (n - 1) with e | ⟨b, e⟩
    · rw [e] at k1 ⊢
      exact ⟨_, rfl, rfl, true, congrArg V.bl (decide_eq_true rfl), iteT (iteT k1)⟩
    · rw [e] at k1 ⊢
      refine ⟨_, rfl, rfl, false, congrArg V.bl (decide_eq_false (by intro z; cases z)), iteF ⟨_, rfl, _, _, rfl, rfl, _, rfl, ite2 (fun hd => ?_) (fun hd => ?_)⟩⟩
      · have hd := of_decide_eq_true hd
        simp only [if_pos hd] at k1
        exact k1
      · have hd : ¬ (1000000000000000000 : Int) < b := fun z => hd (decide_eq_true z)
        simp only [if_neg hd] at k1
        exact ⟨_, rfl, k1⟩
  · rcases h with ⟨_, k⟩ | ⟨a, b, _⟩
    · exact k
    · exact absurd ⟨a, b⟩ hn
def spUpTo (K : PySem.W.Frag) : Sp := fun vs H Q E => ∃ (x : Addr) (n : Int), vs = [.ref x, .int n] ∧ ((¬ (0 ≤ n ∧ n ≤ 1000000000000000000) ∧ E (.ref (He.ga K "InvalidNumber")) none H) ∨
  (0 ≤ n ∧ n ≤ 1000000000000000000 ∧ ∃ (ts : List Tr) (early offs : List Int) (p : Int), ObsAt K H x ts early p offs ∧ early.length ≤ 10000000 ∧ offs.length ≤ 10000000 ∧ 0 < p ∧ p < 1073741824 ∧ ∀ H', Same H H' → Q (.int (candMany (startN ts) early p offs n)) H'))
theorem okX_BottleObserver_count_up_to (hK : K.In base) : FnR PX w K mg base (L2.CX PX w) 4 (a_BottleObserver_count_up_to K) (spUpTo K) := by
  refine fnRX (d := d_BottleObserver_count_up_to) T.F_BottleObserver_count_up_to sc_BottleObserver_count_up_to rfl (fun _ _ _ _ _ _ us hl => match us, hl with | [_, _], _ => rfl) (fun vs H Q E h => ?_) (fun cdv A outer s H vs Q E hr h => ?_)
  · obtain ⟨x, n, rfl, _⟩ := h
    rfl
  obtain ⟨x, n, rfl, h⟩ := h
  refine ⟨_, (pss_cons (ps_expr (pe_cR (okX_check_number T hK) (hr.mono (by decide)) T.F_check_number.kp T.g_check_number (passes_call (takes_of rfl rfl rfl rfl) (fun _ _ _ _ h => h)) (pa_cons (pv 1) pa_nil))) (pss_one (ps_ret (pe_methR (pe_fld (pv 0) rfl) T.k_Candidates T.m_Candidates_many_within (ok_Candidates_many_within T) (hr.mono (by decide)) pass0 (pa_cons (pv 1) pa_nil))))), ?_⟩
  refine ⟨_, rfl, ?_⟩
  dsimp only [tNil, tCons, tC]
  refine chk1 (fun a b => ?_) fun hn => ?_
  · rcases h with ⟨hn, _⟩ | ⟨_, _, ts, early, offs, p, ho, le, lo, p0, p1, k⟩
    · exact absurd ⟨a, b⟩ hn
    obtain ⟨dx, y, c, l, h1, h2, h3⟩ := ho.ex
    obtain ⟨dc, e, o, c1, c2, c3⟩ := h3.ex
    refine ⟨_, rfl, x, _, dx, _, _, rfl, h1, T.k_BottleObserver, T.na_possible, lk_possible, c, dc, _, rfl, c1, lk_noc (by decide +kernel), _, rfl, ?_⟩
    exact ⟨c, startN ts, p, n, early, offs, rfl, h3, le, lo, by omega, p0, p1, a, b, fun H' s' => k H' s'⟩
  · rcases h with ⟨_, k⟩ | ⟨a, b, _⟩
    · exact k
    · exact absurd ⟨a, b⟩ hn
end
end EB

namespace EB
open PySem PySem.Spec PyProof.Rows L2
/-! What is possible, as a test of numbers. -/
def offT (g : Nat → Bool) (s p : Nat) : List Int := takeN (fun i => g (s + i)) p
theorem many_cnt {g : Nat → Bool} {s p : Nat} (hr : Rpt g s p) (hp : 0 < p) (t : Nat) : candMany (s : Int) (takeN g s) (p : Int) (offT g s p) (t : Int) = (cnt g (t + 1) : Int) := by
  unfold candMany offT
  rw [takeN_le]
  by_cases z : t < s
  · rw [if_pos (by omega), show min s (t + 1) = t + 1 by omega]
  · rw [if_neg (by omega), show min s (t + 1) = s by omega]
    obtain ⟨m, rfl⟩ : ∃ m, t = s + m := ⟨t - s, by omega⟩
    have e1 : (((s + m : Nat) : Int) - (s : Int)) = (m : Int) := by omega
    rw [e1, show ((m : Int) % (p : Int)) = ((m % p : Nat) : Int) from rfl, takeN_le, takeN_len]
    have hm := Nat.mod_lt m hp
    rw [show min p (m % p + 1) = m % p + 1 by omega]
    have h := hr.cnt (m / p) (m % p + 1)
    have e2 := Nat.mod_add_div m p
    rw [show s + m / p * p + (m % p + 1) = s + m + 1 by rw [Nat.mul_comm]; omega] at h
    rw [h]
    have e3 : ((m : Int) / (p : Int)) = ((m / p : Nat) : Int) := rfl
    rw [e3]
    push_cast
    rfl
theorem candV_cnt {g : Nat → Bool} {s p : Nat} (hr : Rpt g s p) (hp : 0 < p) (i : Nat) : (candV (s : Int) (takeN g s) (p : Int) (offT g s p) (i : Int) = .non ∧ ∀ n, cnt g n ≤ i) ∨ ∃ b : Nat, candV (s : Int) (takeN g s) (p : Int) (offT g s p) (i : Int) = .int b ∧ g b = true ∧ cnt g b = i := by
  unfold candV
  rw [takeN_len]
  by_cases z : i < cnt g s
  · rw [if_pos (by omega)]
    obtain ⟨b, e, h1, h2, _⟩ := takeN_get z
    exact .inr ⟨b, congrArg V.int e, h1, h2⟩
  rw [if_neg (by omega)]
  have hl : (offT g s p).length = cnt (fun i => g (s + i)) p := takeN_len _ _
  by_cases y : offT g s p = []
  · rw [if_pos y]
    rw [y] at hl
    refine .inl ⟨rfl, fun n => ?_⟩
    have h0 : cnt (fun i => g (s + i)) p = 0 := hl.symm
    rcases Nat.lt_or_ge n s with h | h
    · have := cnt_mono g (show n ≤ s by omega)
      omega
    obtain ⟨m, rfl⟩ : ∃ m, n = s + m := ⟨n - s, by omega⟩
    have h1 := hr.cnt (m / p) (m % p)
    have e2 := Nat.mod_add_div m p
    rw [show s + m / p * p + m % p = s + m by rw [Nat.mul_comm]; omega, h0] at h1
    have h2 := cnt_mono (fun i => g (s + i)) (Nat.le_of_lt (Nat.mod_lt m hp))
    omega
  rw [if_neg y]
  have hpos : 0 < cnt (fun i => g (s + i)) p := by
    rw [← hl]
    exact List.length_pos_iff.mpr y
  rw [hl]
  generalize hc : cnt (fun i => g (s + i)) p = c at hpos
  obtain ⟨m, rfl⟩ : ∃ m, i = cnt g s + m := ⟨i - cnt g s, by omega⟩
  have e1 : (((cnt g s + m : Nat) : Int) - ((cnt g s : Nat) : Int)) = (m : Int) := by omega
  rw [e1]
  have hm := Nat.mod_lt m hpos
  obtain ⟨b, e, h1, h2, h3⟩ := takeN_get (g := fun i => g (s + i)) (n := p) (i := m % c) (by rw [hc]; exact hm)
  refine .inr ⟨s + m / c * p + b, ?_, ?_, ?_⟩
  · have e4 : ((m : Int) % (c : Int)).toNat = m % c := by
      rw [show ((m : Int) % (c : Int)) = ((m % c : Nat) : Int) from rfl, Int.toNat_natCast]
    rw [e4]
    unfold offT
    rw [e, show ((m : Int) / (c : Int)) = ((m / c : Nat) : Int) from rfl]
    congr 1
  · rw [show s + m / c * p + b = (s + b) + m / c * p by omega, hr.many _ _ (by omega)]
    exact h1
  · rw [hr.cnt, h2, hc]
    have e2 := Nat.mod_add_div m c
    rw [Nat.mul_comm c] at e2
    omega
theorem nwEarly_take {g F f : Nat → Bool} {s : Nat} (h : ∀ i, i < s → f i = F i) : nwEarly (takeN g s) f = takeN (fun i => g i && F i) s := by
  unfold nwEarly
  rw [takeN_filter]
  exact takeN_congr s fun i hi => by rw [h i hi]
theorem nwAll_take {g F f : Nat → Bool} {s p q : Nat} (hq : 0 < q) (hg : Rpt g s p) (hF : Rpt F s q) (h : ∀ i, i < s + q → f i = F i) : ∀ n, nwAll s p q f (offT g s p) n = takeN (fun i => g (s + i) && F (s + i)) (n * p)
  | 0 => by
    rw [Nat.zero_mul]
    rfl
  | n + 1 => by
    rw [nwAll_succ, nwAll_take hq hg hF h n, Nat.succ_mul, takeN_add]
    congr 1
    unfold nwPart offT
    have e1 : (takeN (fun i => g (s + i)) p).filter (fun o => f (s + (((n : Int) * p + o) % q).toNat)) = (takeN (fun i => g (s + i)) p).filter (fun x => (fun j => F (s + (n * p + j))) x.toNat) := by
      refine List.filter_congr fun x m => ?_
      obtain ⟨i, rfl, hi, _⟩ := takeN_mem m
      rw [show (((n : Int) * (p : Int) + (i : Int)) % (q : Int)) = (((n * p + i) % q : Nat) : Int) by push_cast; rfl, Int.toNat_natCast, Int.toNat_natCast]
      rw [h _ (by have := Nat.mod_lt (n * p + i) hq; omega), ← hF.modp]
    rw [e1, takeN_filter (fun i => g (s + i)) (fun j => F (s + (n * p + j))) p]
    have e2 : takeN (fun i => g (s + i) && F (s + (n * p + i))) p = takeN (fun i => g (s + (n * p + i)) && F (s + (n * p + i))) p := takeN_congr p fun i hi => by
      rw [show s + (n * p + i) = (s + i) + n * p by omega, hg.many n (s + i) (by omega)]
    rw [e2]
    refine List.map_congr_left fun x _ => ?_
    push_cast
    rfl
theorem narrow_rep {g F f : Nat → Bool} {s p q : Nat} (hp : 0 < p) (hq : 0 < q) (hg : Rpt g s p) (hF : Rpt F s q) (h : ∀ i, i < s + q → f i = F i) :
    nwEarly (takeN g s) f = takeN (fun i => g i && F i) s ∧ nwAll s p q f (offT g s p) (Nat.lcm p q / p) = offT (fun i => g i && F i) s (Nat.lcm p q) ∧ Rpt (fun i => g i && F i) s (Nat.lcm p q) := by
  refine ⟨nwEarly_take fun i hi => h i (by omega), ?_, ?_⟩
  · rw [nwAll_take hq hg hF h, Nat.div_mul_cancel (Nat.dvd_lcm_left p q)]
    rfl
  · have e1 : Nat.lcm p q = Nat.lcm p q / p * p := (Nat.div_mul_cancel (Nat.dvd_lcm_left p q)).symm
    have e2 : Nat.lcm p q = Nat.lcm p q / q * q := (Nat.div_mul_cancel (Nat.dvd_lcm_right p q)).symm
    refine Rpt.and ?_ ?_
    · rw [e1]
      exact hg.mul _
    · rw [e2]
      exact hF.mul _
theorem early0_take {ts : List Tr} : early0 ts = takeN (fun _ => true) (startN ts) := by
  unfold early0 takeN
  rw [List.filter_eq_self.mpr fun _ _ => rfl]
theorem offs0_take (s : Nat) : offT (fun _ => true) s 1 = [0] := rfl
/-- the number at a place, as the law sees it -/
theorem obsV_cnt {g : Nat → Bool} {s p : Nat} (hr : Rpt g s p) (hp : 0 < p) (i : Nat) : (obsV (s : Int) (takeN g s) (p : Int) (offT g s p) (i : Int) = .non ∧ cnt g 1000000000000000001 ≤ i) ∨ ∃ b : Nat, obsV (s : Int) (takeN g s) (p : Int) (offT g s p) (i : Int) = .int b ∧ g b = true ∧ cnt g b = i ∧ b ≤ 1000000000000000000 := by
  unfold obsV
  rcases candV_cnt hr hp i with ⟨e, h⟩ | ⟨b, e, h1, h2⟩
  · rw [e]
    exact .inl ⟨rfl, h _⟩
  · rw [e]
    show ((if (1000000000000000000 : Int) < (b : Int) then V.non else V.int b) = .non ∧ _) ∨ ∃ b' : Nat, (if (1000000000000000000 : Int) < (b : Int) then V.non else V.int b) = .int b' ∧ _
    by_cases z : (1000000000000000000 : Int) < (b : Int)
    · rw [if_pos z]
      refine .inl ⟨rfl, ?_⟩
      have := cnt_mono g (show 1000000000000000001 ≤ b by omega)
      omega
    · rw [if_neg z]
      exact .inr ⟨b, rfl, h1, h2, by omega⟩
end EB

namespace EB
open PySem PySem.Spec PyProof.Rows L2
theorem puto2' {a b c l : V} : putF "_possible" b ([("_offer", a), ("_possible", c), ("_observations", l)] : List (Str × V)) = ([("_offer", a), ("_possible", b), ("_observations", l)] : List (Str × V)) := by
  rw [putF_ne (by decide +kernel)]
  rfl
section
variable {w : World} {K : PySem.W.Frag} {mg : Str → Option Value} {base : Heap} (T : Tx K mg)
include T
/-- an observation accepted or contradicted: what is possible then is narrowed, how many remain -/
def spAccept (K : PySem.W.Frag) : Sp := fun vs H Q E => ∃ (x fa dx a c l : Addr) (s p q : Nat) (early offs : List Int) (fits : List Bool) (r : V) (rs : List V), vs = [.ref x, .ref fa, .int (q : Nat), r] ∧ H x = some (.ins (He.ga K "BottleObserver") dx (obf a c l)) ∧ CandAt K H c (s : Nat) early (p : Nat) offs ∧ SqL K H fa (fits.map V.bl) ∧ H l = some (.lst rs) ∧ rs.length ≤ 1000 ∧
  0 < p ∧ 0 < q ∧ p ≤ 1000000 ∧ q ≤ 1000000 ∧ Nat.lcm p q ≤ 10000000 ∧ s + q ≤ fits.length ∧ (∀ n ∈ early, 0 ≤ n ∧ n < fits.length) ∧ early.length ≤ 10000000 ∧ (∀ o ∈ offs, 0 ≤ o) ∧ Nat.lcm p q / p * offs.length ≤ 10000000 ∧
  (candMany s (nwEarly early fun i => fits.getD i false) (Nat.lcm p q : Nat) (nwAll s p q (fun i => fits.getD i false) offs (Nat.lcm p q / p)) 1000000000000000000 = 0 → ∀ H', Same H H' → E (.ref (He.ga K "Contradiction")) none H') ∧
  (candMany s (nwEarly early fun i => fits.getD i false) (Nat.lcm p q : Nat) (nwAll s p q (fun i => fits.getD i false) offs (Nat.lcm p q / p)) 1000000000000000000 ≠ 0 → ∀ H1 c', Same H H1 → CandNew K H H1 c' (s : Nat) (nwEarly early fun i => fits.getD i false) (Nat.lcm p q : Nat) (nwAll s p q (fun i => fits.getD i false) offs (Nat.lcm p q / p)) → H c' = none →
    Q (.int (candMany s (nwEarly early fun i => fits.getD i false) (Nat.lcm p q : Nat) (nwAll s p q (fun i => fits.getD i false) offs (Nat.lcm p q / p)) 1000000000000000000)) (upd (upd H1 x (.ins (He.ga K "BottleObserver") dx (obf a c' l))) l (.lst (rs ++ [r]))))
theorem okX_BottleObserver_accept : FnR PX w K mg base (L2.CX PX w) 5 (a_BottleObserver_accept K) (spAccept K) := by
  refine fnRX (d := d_BottleObserver_accept) T.F_BottleObserver_accept sc_BottleObserver_accept rfl (fun _ _ _ _ _ _ us hl => match us, hl with | [_, _, _, _], _ => rfl) (fun vs H Q E h => ?_) (fun cdv A outer s H vs Q E hr h => ?_)
  · obtain ⟨x, fa, dx, a, c, l, s, p, q, early, offs, fits, r, rs, rfl, _⟩ := h
    rfl
  obtain ⟨x, fa, dx, a, c, l, s, p, q, early, offs, fits, r, rs, rfl, hx, hc, hf, hl, lr, p0, q0, p1, q1, w1, sq, he, le, ho, lo, k0, k1⟩ := h
  obtain ⟨dc, e, o, c1, c2, c3⟩ := hc.ex
  obtain ⟨tM, hM⟩ := T.c_MAX_NUMBER
  refine ⟨_, (pss_cons (ps_set (i := 4) sc_BottleObserver_accept.nd rfl (Or.inl rfl) (pe_methR (pe_fld (pv 0) rfl) T.k_Candidates T.m_Candidates_narrowed (ok_Candidates_narrowed T) (hr.mono (by decide)) pass0 (pa_cons (pv 1) (pa_cons (pv 2) pa_nil)))) (pss_cons (ps_set (i := 5) sc_BottleObserver_accept.nd rfl (Or.inl rfl) (pe_methR (pv 4) T.k_Candidates T.m_Candidates_many_within (ok_Candidates_many_within T) (hr.mono (by decide)) pass0 (pa_cons (pe_cI T.c_MAX_NUMBER) pa_nil))) (pss_cons (ps_if (pt_cmpR op_eq (pv 5) pe_int (nomark _)) (pss_one (ps_raise rfl (takes_of rfl rfl rfl rfl) (pmk_own PySem.F.excBase_ValueError T.x_Contradiction.own T.g_Contradiction T.x_Contradiction.keep (raises_own T.x_Contradiction.base T.x_Contradiction.ty) (by rfl)))) pss_nil) (pss_cons (ps_fld (pv 0) (pv 4) rfl) (pss_cons (ps_expr (pe_bm PySem.F.plainAttrs_list PySem.F.slot_list_append PySem.F.type_list_append mt_append (pe_fld (pv 0) rfl) (pa_cons (pv 3) pa_nil))) (pss_one (ps_ret (pv 5)))))))), ?_⟩
  refine ⟨_, rfl, x, _, dx, _, _, rfl, hx, T.k_BottleObserver, T.na_possible, lk_possible, c, dc, _, rfl, c1, lk_noc (by decide +kernel), _, rfl, _, rfl, ?_⟩
  refine ⟨c, fa, s, p, q, early, offs, fits, rfl, hc, hf, p0, q0, p1, q1, w1, sq, he, le, ho, lo, fun H1 c' s1 hc' nc' => ?_⟩
  obtain ⟨dc', e', o', d1, d2, d3, _⟩ := hc'.ex
  have le1 : (nwEarly early fun i => fits.getD i false).length ≤ 10000000 := Nat.le_trans (List.length_filter_le _ _) le
  have lo1 := Nat.le_trans (nwAll_len s p q (fun i => fits.getD i false) offs (Nat.lcm p q / p)) lo
  have wp : 0 < Nat.lcm p q := Nat.lcm_pos p0 q0
  refine ⟨_, rfl, c', dc', _, rfl, d1, lk_noc (by decide +kernel), ?_⟩
  refine ⟨c', s, (Nat.lcm p q : Nat), 1000000000000000000, _, _, rfl, hc'.at_, le1, lo1, by omega, by omega, by omega, by decide, by decide, fun H2 s2 => ?_⟩
  have s12 := s1.trans s2
  refine ⟨_, rfl, rfl, _, rfl, ite2 (fun hd => ?_) (fun hd => ?_)⟩
  · exact k0 (V.int.inj (of_decide_eq_true hd)) H2 s12
  have hd : candMany s (nwEarly early fun i => fits.getD i false) (Nat.lcm p q : Nat) (nwAll s p q (fun i => fits.getD i false) offs (Nat.lcm p q / p)) 1000000000000000000 ≠ 0 := fun z => hd (decide_eq_true (congrArg V.int z))
  have hx2 := s12 _ _ hx
  have hl2 := s12 _ _ hl
  refine ⟨_, rfl, _, rfl, x, _, dx, _, rfl, hx2, T.k_BottleObserver, T.na_possible, by show 3 < 1000; decide, ?_⟩
  have pe : putF "_possible" (.ref c') (obf a c l) = obf a c' l := puto2'
  rw [pe]
  have nlx : l ≠ x := fun z => by
    rw [z, hx2] at hl2
    cases hl2
  have hl3 : upd H2 x (.ins (He.ga K "BottleObserver") dx (obf a c' l)) l = some (.lst rs) := (upd_ne nlx).trans hl2
  refine ⟨_, rfl, x, _, dx, _, _, rfl, upd_same, T.k_BottleObserver, T.na_observations, lk_observations, .inl ⟨rfl, _, SqL.of hl3⟩, _, rfl, l, _, _, rfl, rfl, hl3, Nat.lt_of_le_of_lt lr (by decide), _, rfl, k1 hd H2 c' s12 (hc'.mono s2) nc'⟩
end
end EB

namespace EB
theorem fl_sub1 {l n x y : Int} (hn : 0 < n) : l * (x + y) / n ≤ l * x / n + l * y / n + 1 := by
  rw [Int.mul_add]
  have h1 := Int.mul_ediv_add_emod (l * x) n
  have h2 := Int.mul_ediv_add_emod (l * y) n
  have h3 := Int.mul_ediv_add_emod (l * x + l * y) n
  have b1 := Int.emod_lt_of_pos (l * x) hn
  have b2 := Int.emod_lt_of_pos (l * y) hn
  have b3 := Int.emod_nonneg (l * x + l * y) (show n ≠ 0 by omega)
  generalize l * x / n = p at *
  generalize l * y / n = q at *
  generalize (l * x + l * y) / n = r at *
  generalize l * x % n = u at *
  generalize l * y % n = v at *
  generalize (l * x + l * y) % n = z at *
  have : n * r < n * (p + q + 2) := by
    rw [Int.mul_add, Int.mul_add]
    omega
  have := Int.lt_of_mul_lt_mul_left this (by omega)
  omega
theorem buys_sub : ∀ {ts : List Tr} (h : ∀ t ∈ ts, t.ok) (x y : Int), buys ts (x + y) ≤ buys ts x + buys ts y + ts.length
  | [], _, _, _ => by
    show (0 : Int) ≤ 0 + 0 + ((0 : Nat) : Int)
    omega
  | t :: ts, h, x, y => by
    have h1 := buys_sub (ts := ts) (fun t m => h t (List.mem_cons_of_mem _ m)) x y
    have h2 := fl_sub1 (l := t.l) (x := x) (y := y) (tr_pos (h t (List.mem_cons_self ..)))
    show t.l * (x + y) / t.n + buys ts (x + y) ≤ (t.l * x / t.n + buys ts x) + (t.l * y / t.n + buys ts y) + ((ts.length + 1 : Nat) : Int)
    push_cast
    omega
theorem T_three {ts : List Tr} (f : Fair ts) : T (cN ts) (per ts - 1) ≤ perB ts + 2 := by
  have C := cf f
  obtain ⟨j, hj, e⟩ := CF.T_at (cN ts) (per ts - 1)
  have hp := per_pos f.g
  rw [e]
  obtain ⟨k, hk⟩ : ∃ k, per ts = j + k := ⟨per ts - j, by omega⟩
  have h1 := buys_sub f.g.2 (j : Int) (k : Int)
  have h2 := C.ten k
  have h3 : cN ts (per ts) = perB ts := by
    have := C.per 0
    rw [Nat.zero_add, C.zero] at this
    omega
  have h4 := f.g.1
  rw [hk] at h3
  have h5 : ((j + k : Nat) : Int) - buys ts ((j + k : Nat) : Int) = perB ts := h3
  have h6 : (k : Int) ≤ 10 * ((k : Int) - buys ts k) := h2
  show (j : Int) - buys ts j ≤ _
  push_cast at h5
  omega
end EB

namespace EB
open PySem PySem.Spec PyProof.Rows L2
/-- what is left of each kind -/
def leftK (ts : List Tr) (d : Nat) : List (Key × V) := ts.foldl (fun kvs t => putK kvs (.inr t.k) (.int (t.l * (d : Nat) % t.n))) []
def KNice (kvs : List (Key × V)) : Prop := (kvs.map (·.1)).Nodup ∧ (∀ p ∈ kvs, ∃ i : Int, p.2 = .int i) ∧ ∀ p ∈ kvs, ∃ z : Str, p.1 = .inr z
theorem KNice.put {kvs : List (Key × V)} (h : KNice kvs) (z : Str) (i : Int) : KNice (putK kvs (.inr z) (.int i)) ∧ (putK kvs (.inr z) (.int i)).length ≤ kvs.length + 1 := by
  obtain ⟨h1, h2, h3⟩ := h
  unfold putK
  by_cases e : (kvs.any fun kv => decide (kv.1 = .inr z)) = true
  · rw [if_pos e]
    refine ⟨⟨?_, ?_, ?_⟩, by rw [List.length_map]; omega⟩
    · rw [List.map_map, show ((fun x : Key × V => x.1) ∘ fun kv => if kv.1 = .inr z then (kv.1, V.int i) else kv) = (fun kv => kv.1) from funext fun kv => by
        show (if kv.1 = .inr z then (kv.1, V.int i) else kv).1 = kv.1
        by_cases q : kv.1 = .inr z
        · rw [if_pos q]
        · rw [if_neg q]]
      exact h1
    · intro p hp
      obtain ⟨kv, m, rfl⟩ := List.mem_map.mp hp
      by_cases q : kv.1 = .inr z
      · rw [if_pos q]
        exact ⟨_, rfl⟩
      · rw [if_neg q]
        exact h2 _ m
    · intro p hp
      obtain ⟨kv, m, rfl⟩ := List.mem_map.mp hp
      by_cases q : kv.1 = .inr z
      · rw [if_pos q]
        exact ⟨z, q⟩
      · rw [if_neg q]
        exact h3 _ m
  · rw [if_neg e]
    refine ⟨⟨?_, ?_, ?_⟩, by rw [List.length_append]; exact Nat.le_refl _⟩
    · rw [List.map_append, List.nodup_append]
      refine ⟨h1, List.nodup_cons.mpr ⟨List.not_mem_nil, List.nodup_nil⟩, fun a ha b hb => ?_⟩
      cases List.mem_singleton.mp hb
      intro y
      subst y
      obtain ⟨p, m, e2⟩ := List.mem_map.mp ha
      exact e (List.any_eq_true.mpr ⟨p, m, decide_eq_true e2⟩)
    · intro p hp
      rcases List.mem_append.mp hp with m | m
      · exact h2 _ m
      · cases List.mem_singleton.mp m
        exact ⟨_, rfl⟩
    · intro p hp
      rcases List.mem_append.mp hp with m | m
      · exact h3 _ m
      · cases List.mem_singleton.mp m
        exact ⟨_, rfl⟩
theorem left_nice : ∀ (ts : List Tr) (d : Nat) (kvs : List (Key × V)), KNice kvs → KNice (ts.foldl (fun kvs t => putK kvs (.inr t.k) (.int (t.l * (d : Nat) % t.n))) kvs) ∧ (ts.foldl (fun kvs t => putK kvs (.inr t.k) (.int (t.l * (d : Nat) % t.n))) kvs).length ≤ kvs.length + ts.length
  | [], d, kvs, h => ⟨h, Nat.le_refl _⟩
  | t :: ts, d, kvs, h => by
    have h1 := h.put t.k (t.l * (d : Nat) % t.n)
    have h2 := left_nice ts d _ h1.1
    refine ⟨h2.1, Nat.le_trans h2.2 ?_⟩
    rw [List.length_cons]
    omega
theorem leftK_nice (ts : List Tr) (d : Nat) : KNice (leftK ts d) ∧ (leftK ts d).length ≤ ts.length := by
  have h := left_nice ts d [] ⟨List.nodup_nil, fun p h => (by cases h), fun p h => (by cases h)⟩
  rw [show ([] : List (Key × V)).length + ts.length = ts.length from Nat.zero_add _] at h
  exact h
theorem KNice.val {kvs : List (Key × V)} (h : KNice kvs) : ∀ p ∈ kvs, valV kvs p.1 = some p.2 ∧ flatB p.2 = true := by
  obtain ⟨h1, h2, h3⟩ := h
  intro p hp
  refine ⟨?_, ?_⟩
  · clear h2 h3
    induction kvs with
    | nil => cases hp
    | cons q r ih =>
      rw [List.map_cons, List.nodup_cons] at h1
      rcases List.mem_cons.mp hp with rfl | m
      · exact valV_pos rfl
      · rw [valV_neg (fun e => h1.1 (e ▸ List.mem_map_of_mem m)), ih h1.2 m]
  · obtain ⟨i, e⟩ := h2 p hp
    rw [e]
    rfl
section
variable {P : Program} {w : World} {K : PySem.W.Frag} {mg : Str → Option Value} {base : Heap} (T : Tx K mg)
include T
def spLeft (K : PySem.W.Frag) : Sp := fun vs H Q _ => ∃ (a : Addr) (ts : List Tr) (n : Nat), vs = [.ref a, .int (n : Nat)] ∧ OfAt K H a ts ∧ Fair ts ∧ n ≤ 1000000000000000000 ∧ ∀ H' p, Same H H' → H' p = some (.dK (leftK ts (D (cN ts) n))) → Q (.ref p) H'
theorem ok_Offer_left_over : FnR P w K mg base CX0 4 (a_Offer_left_over K) (spLeft K) := by
  refine fnR0 (d := d_Offer_left_over) T.F_Offer_left_over sc_Offer_left_over rfl (fun _ _ _ _ _ _ us hl => match us, hl with | [_, _], _ => rfl) (fun vs H Q E h => ?_) (fun cdv A outer s H vs Q E hr h => ?_)
  · obtain ⟨a, ts, n, rfl, _⟩ := h
    rfl
  obtain ⟨a, ts, n, rfl, ho, hf, hn, k⟩ := h
  obtain ⟨dx, t, p, o, f, g, e1, e2, e3, e4, e5, e6⟩ := ho.ex
  refine ⟨_, (pss_cons (ps_expr (pe_cR (ok_check_number T) (hr.mono (by decide)) T.F_check_number.kp T.g_check_number pass0 (pa_cons (pv 1) pa_nil))) (pss_cons (ps_set (i := 2) sc_Offer_left_over.nd rfl (Or.inr rfl) (pe_methR (pv 0) T.k_Offer T.m_Offer_drinks_for (ok_Offer_drinks_for T) (hr.mono (by decide)) pass0 (pa_cons (pv 1) pa_nil))) (pss_one (ps_ret (pe_dc (own := [("kind", 3), ("left", 4), ("needed", 5)]) rfl sc_Offer_left_over.nd (pi_tup (pe_fld (pv 0) rfl)) (blkOk_by (own := [("kind", 3), ("left", 4), ("needed", 5)]) (N := N_Offer_left_over) (sc := defScope s_Offer_left_over) (by decide +kernel)) (fun _ _ _ _ _ => (pg_tupB (n := 3) (pgs_cons (pg_name (i := 3) sc_Offer_left_over.nd rfl (Or.inl rfl) (.inr rfl)) (pgs_cons (pg_name (i := 4) sc_Offer_left_over.nd rfl (Or.inl rfl) (.inr rfl)) (pgs_cons (pg_name (i := 5) sc_Offer_left_over.nd rfl (Or.inl rfl) (.inr rfl)) pgs_nil))))) (fun _ _ _ _ _ => pts_nil) (fun _ _ _ _ _ => (pv 3)) (fun _ _ _ _ _ => (pe_op op_mod (pe_op op_mul (pv 4) (pv 2)) (pv 5)))))))), ?_⟩
  refine ⟨_, rfl, n, rfl, by omega, by omega, ?_⟩
  refine ⟨_, rfl, a, dx, _, rfl, e1, lk_no (by decide +kernel), _, rfl, a, ts, n, rfl, ho, hf, ?_⟩
  obtain ⟨ps, h1, h2, h3⟩ := e2.ex
  have hlen := hf.g.1
  refine ⟨_, rfl, a, _, dx, _, _, rfl, e1, T.k_Offer, T.na_trades, lk_trades, t, rfl, ⟨_, h1⟩, fun W hW => ?_⟩
  refine dc_tup (xs := ps.map V.ref) (fun i H1 => Same H H1 ∧ H1 W = some (.dK (leftK (ts.take i) (D (cN ts) n)))) ⟨same_new hW, upd_same⟩ (fun i H1 _ q => Same.tup q.1 h1) ?_ ?_
  · rintro i x H1 hx ⟨s1, w1⟩
    obtain ⟨p, t, rfl, ep, et, hm, li, hp⟩ := TrAt.at_ h2 h3 hx
    have ht := hf.g.2 _ hm
    refine ⟨p, _, rfl, Same.tup s1 hp, rfl, _, _, rfl, _, _, rfl, _, _, rfl, rfl, rfl, ?_⟩
    have hl := (leftK_nice (ts.take i) (D (cN ts) n)).2
    rw [List.length_take] at hl
    refine ⟨_, rfl, _, rfl, _, rfl, _, _, rfl, rfl, .inl ⟨by have := ht.1; omega, by have := ht.2.1; omega⟩, _, rfl, _, _, rfl, rfl, (show 0 < t.n from by have := ht.2.2.1; omega), ?_⟩
    refine ⟨_, .inr t.k, rfl, w1, small3 (by omega), same_mut s1 hW, ?_⟩
    rw [upd_same, take_at et]
    unfold leftK
    rw [List.foldl_append]
    rfl
  · rintro H1 ⟨s1, w1⟩
    refine k _ _ s1 ?_
    rw [w1, List.length_map, h2, List.take_length]
end
end EB

namespace EB
open PySem PySem.Spec PyProof.Rows L2
/-! What is seen of bottles. -/
inductive En
  | left (k : Str) (c : Int)
  | round (n p : Int)
def En.vs : En → List V
  | .left k c => [.str "left", .str k, .int c]
  | .round n p => [.str "round", .int n, .int p]
/-- a number of bottles agrees with what is seen -/
noncomputable def agB (ts : List Tr) : En → Nat → Bool
  | .left k c, n => decide (valV (leftK ts (D (cN ts) n)) (.inr k) = some (.int c))
  | .round m p, n => decide ((if m = 1 then (n : Int) else buys ts n) % 2 = p)
def En.span (ts : List Tr) : En → Nat
  | .left _ _ => perB ts
  | .round m _ => if m = 1 then 2 else 2 * per ts
theorem left_same {d e : Nat} : ∀ (ts : List Tr) (kvs : List (Key × V)), (∀ t ∈ ts, t.l * (d : Int) % t.n = t.l * (e : Int) % t.n) →
    ts.foldl (fun kvs t => putK kvs (.inr t.k) (.int (t.l * (d : Nat) % t.n))) kvs = ts.foldl (fun kvs t => putK kvs (.inr t.k) (.int (t.l * (e : Nat) % t.n))) kvs
  | [], _, _ => rfl
  | t :: ts, kvs, h => by
    rw [List.foldl_cons, List.foldl_cons, h t (List.mem_cons_self ..)]
    exact left_same ts _ fun u m => h u (List.mem_cons_of_mem _ m)
theorem left_add {ts : List Tr} (h : gds ts) (d : Nat) : leftK ts (d + per ts) = leftK ts d := by
  unfold leftK
  refine left_same ts [] fun t m => ?_
  obtain ⟨q, e⟩ := (per_dvd h (d := per ts)).mp (Nat.dvd_refl _) t m
  push_cast
  rw [Int.mul_add, e, Int.add_mul_emod_self_left]
theorem start_per {ts : List Tr} (f : Fair ts) {n : Nat} (h : startN ts ≤ n) : D (cN ts) (n + perB ts) = D (cN ts) n + per ts := by
  have h1 := (start_eq f).1
  exact (cf f).D_per (by omega)
theorem agB_rpt {ts : List Tr} (f : Fair ts) : ∀ e : En, Rpt (agB ts e) (startN ts) (e.span ts)
  | .left k c => fun n hn => by
    show decide (valV (leftK ts (D (cN ts) (n + perB ts))) (.inr k) = some (.int c)) = decide (valV (leftK ts (D (cN ts) n)) (.inr k) = some (.int c))
    rw [start_per f hn, left_add f.g]
  | .round m p => fun n hn => by
    show decide ((if m = 1 then ((n + (if m = 1 then 2 else 2 * per ts) : Nat) : Int) else buys ts ((n + (if m = 1 then 2 else 2 * per ts) : Nat) : Int)) % 2 = p) = decide ((if m = 1 then (n : Int) else buys ts n) % 2 = p)
    by_cases z : m = 1
    · rw [if_pos z, if_pos z, if_pos z, show ((n + 2 : Nat) : Int) % 2 = (n : Int) % 2 by omega]
    · rw [if_neg z, if_neg z, if_neg z]
      have h1 := (cf f).perm n 2
      have e1 : cN ts (n + 2 * per ts) = ((n + 2 * per ts : Nat) : Int) - buys ts ((n + 2 * per ts : Nat) : Int) := rfl
      have e2 : cN ts n = (n : Int) - buys ts (n : Int) := rfl
      rw [e1, e2] at h1
      rw [show buys ts ((n + 2 * per ts : Nat) : Int) % 2 = buys ts (n : Int) % 2 by push_cast at h1 ⊢; omega]
theorem span_pos2 {ts : List Tr} (f : Fair ts) (e : En) : 0 < e.span ts ∧ e.span ts ≤ 4000 := by
  have h1 := per_pos f.g
  have h2 := per_le' f.g
  have h3 := (cf f).bpos
  have h4 := perB_le f
  cases e with
  | left k c => exact ⟨h3, show perB ts ≤ 4000 by omega⟩
  | round m p =>
    show 0 < (if m = 1 then 2 else 2 * per ts) ∧ (if m = 1 then 2 else 2 * per ts) ≤ 4000
    split <;> omega
/-- an observer that is asked: what is possible is g, p its period -/
structure Sees (K : PySem.W.Frag) (H : Hp) (x dx a c l : Addr) (ts : List Tr) (g : Nat → Bool) (p : Nat) (rs : List V) : Prop where
  ins : H x = some (.ins (He.ga K "BottleObserver") dx (obf a c l))
  of : OfAt K H a ts
  cand : CandAt K H c (startN ts) (takeN g (startN ts)) (p : Nat) (offT g (startN ts) p)
  lst : H l = some (.lst rs)
  rpt : Rpt g (startN ts) p
  pos : 0 < p
/-- what an observation brings -/
def SeeP (K : PySem.W.Frag) (x : Addr) (e : En) (H : Hp) (Q : VK) (E : XK) : Prop := ∃ (dx a c l : Addr) (ts : List Tr) (g : Nat → Bool) (p : Nat) (rs : List V), Sees K H x dx a c l ts g p rs ∧ Fair ts ∧ rs.length ≤ 1000 ∧ p ≤ 1000000 ∧ Nat.lcm p (e.span ts) ≤ 1000000 ∧
  (match e with | .left k _ => k ∈ ts.map Tr.k | .round m q => 1 ≤ m ∧ m ≤ 2 ∧ 0 ≤ q ∧ q ≤ 1) ∧
  (cnt (fun i => g i && agB ts e i) 1000000000000000001 = 0 → ∀ H', Same H H' → E (.ref (He.ga K "Contradiction")) none H') ∧
  (cnt (fun i => g i && agB ts e i) 1000000000000000001 ≠ 0 → ∀ H1 c' r, Same H H1 → CandNew K H H1 c' (startN ts) (takeN (fun i => g i && agB ts e i) (startN ts)) (Nat.lcm p (e.span ts) : Nat) (offT (fun i => g i && agB ts e i) (startN ts) (Nat.lcm p (e.span ts))) → H c' = none → H1 r = some (.tup e.vs) → H r = none →
    Q (.int (cnt (fun i => g i && agB ts e i) 1000000000000000001 : Nat)) (upd (upd H1 x (.ins (He.ga K "BottleObserver") dx (obf a c' l))) l (.lst (rs ++ [.ref r]))))
/-- _accept, once the list of what fits is made -/
theorem accept_do {K : PySem.W.Frag} {H G : Hp} {x dx a c l fa r : Addr} {ts : List Tr} {g : Nat → Bool} {p : Nat} {rs : List V} {e : En} {Q : VK} {E : XK} {fits : List Bool} (S : Sees K H x dx a c l ts g p rs) (f : Fair ts) (lr : rs.length ≤ 1000) (p1 : p ≤ 1000000) (w1 : Nat.lcm p (e.span ts) ≤ 1000000)
    (k0 : cnt (fun i => g i && agB ts e i) 1000000000000000001 = 0 → ∀ H', Same H H' → E (.ref (He.ga K "Contradiction")) none H')
    (k1 : cnt (fun i => g i && agB ts e i) 1000000000000000001 ≠ 0 → ∀ H1 c' r, Same H H1 → CandNew K H H1 c' (startN ts) (takeN (fun i => g i && agB ts e i) (startN ts)) (Nat.lcm p (e.span ts) : Nat) (offT (fun i => g i && agB ts e i) (startN ts) (Nat.lcm p (e.span ts))) → H c' = none → H1 r = some (.tup e.vs) → H r = none →
      Q (.int (cnt (fun i => g i && agB ts e i) 1000000000000000001 : Nat)) (upd (upd H1 x (.ins (He.ga K "BottleObserver") dx (obf a c' l))) l (.lst (rs ++ [.ref r]))))
    (s : Same H G) (hfa : SqL K G fa (fits.map V.bl)) (lf : fits.length = startN ts + e.span ts) (hf : ∀ i, i < startN ts + e.span ts → fits.getD i false = agB ts e i) (hr : G r = some (.tup e.vs)) (nr : H r = none) :
    spAccept K [.ref x, .ref fa, .int (e.span ts : Nat), .ref r] G Q E := by
  have sp := span_pos2 f e
  have st := (start_eq f).2
  obtain ⟨n1, n2, n3⟩ := narrow_rep (f := fun i => fits.getD i false) S.pos sp.1 S.rpt (agB_rpt f e) hf
  have wp : 0 < Nat.lcm p (e.span ts) := Nat.lcm_pos S.pos sp.1
  have lo : (offT g (startN ts) p).length ≤ p := by
    unfold offT
    rw [takeN_len]
    exact cnt_le _ _
  have le : (takeN g (startN ts)).length ≤ 1728 := by
    rw [takeN_len]
    exact Nat.le_trans (cnt_le _ _) st
  have hm : candMany (startN ts : Int) (takeN (fun i => g i && agB ts e i) (startN ts)) (Nat.lcm p (e.span ts) : Nat) (offT (fun i => g i && agB ts e i) (startN ts) (Nat.lcm p (e.span ts))) 1000000000000000000 = (cnt (fun i => g i && agB ts e i) 1000000000000000001 : Nat) := many_cnt n3 wp 1000000000000000000
  refine ⟨x, fa, dx, a, c, l, startN ts, p, e.span ts, _, _, fits, .ref r, rs, rfl, s _ _ S.ins, S.cand.mono s, hfa, s _ _ S.lst, lr, S.pos, sp.1, p1, by omega, by omega, by omega, fun n m => ?_, by omega, fun o m => ?_, ?_, fun z H' s' => ?_, fun z H1 c' s' hc nc => ?_⟩
  · obtain ⟨i, rfl, hi, _⟩ := takeN_mem m
    omega
  · obtain ⟨i, rfl, hi, _⟩ := takeN_mem m
    omega
  · have e1 := Nat.div_mul_cancel (Nat.dvd_lcm_left p (e.span ts))
    have e2 : Nat.lcm p (e.span ts) / p * (offT g (startN ts) p).length ≤ Nat.lcm p (e.span ts) / p * p := Nat.mul_le_mul_left _ lo
    omega
  · rw [n1, n2, hm] at z
    exact k0 (by exact_mod_cast z) H' (s.trans s')
  · rw [n1, n2, hm] at z ⊢
    rw [n1, n2] at hc
    exact k1 (fun y => z (by rw [y]; rfl)) H1 c' r (s.trans s') (hc.base s) (s.free nc) (s' _ _ hr) nr
end EB

namespace EB
open PySem PySem.Spec PyProof.Rows L2
theorem left_has0 {d : Nat} {k : Str} : ∀ (ts : List Tr) (kvs : List (Key × V)), (k ∈ ts.map Tr.k ∨ ∃ c : Int, 0 ≤ c ∧ c < 100 ∧ valV kvs (.inr k) = some (.int c)) → (∀ t ∈ ts, t.ok) →
    ∃ c : Int, 0 ≤ c ∧ c < 100 ∧ valV (ts.foldl (fun kvs t => putK kvs (.inr t.k) (.int (t.l * (d : Nat) % t.n))) kvs) (.inr k) = some (.int c)
  | [], kvs, h, _ => by
    rcases h with h | h
    · cases h
    · exact h
  | t :: ts, kvs, h, hok => by
    have ht := hok t (List.mem_cons_self ..)
    rw [List.foldl_cons]
    refine left_has0 ts _ ?_ fun u m => hok u (List.mem_cons_of_mem _ m)
    by_cases z : k = t.k
    · refine .inr ⟨t.l * (d : Nat) % t.n, Int.emod_nonneg _ (by have := ht.2.2.1; omega), ?_, ?_⟩
      · have := Int.emod_lt_of_pos (t.l * ((d : Nat) : Int)) (show 0 < t.n by have := ht.2.2.1; omega)
        have := ht.2.2.2
        omega
      · rw [valV_put, if_pos (by rw [z])]
    · rcases h with h | ⟨c, h0, h1, h⟩
      · rw [List.map_cons] at h
        rcases List.mem_cons.mp h with h | h
        · exact absurd h z
        · exact .inl h
      · refine .inr ⟨c, h0, h1, ?_⟩
        rw [valV_put, if_neg (fun y => z (Sum.inr.inj y))]
        exact h
theorem left_has {ts : List Tr} {k : Str} (g : gds ts) (h : k ∈ ts.map Tr.k) (d : Nat) : ∃ c : Int, 0 ≤ c ∧ c < 100 ∧ valV (leftK ts d) (.inr k) = some (.int c) := left_has0 ts [] (.inl h) g.2
section
variable {P : Program} {w : World} {K : PySem.W.Frag} {mg : Str → Option Value} {base : Heap} (T : Tx K mg)
include T
def spDrunk (K : PySem.W.Frag) : Sp := fun vs H Q _ => ∃ (a : Addr) (ts : List Tr) (m : Int) (n : Nat), vs = [.ref a, .int m, .int (n : Nat)] ∧ OfAt K H a ts ∧ Fair ts ∧ ∀ H', Same H H' → Q (.int (if m = 1 then (n : Int) else buys ts n)) H'
theorem ok_drunk_in_round : FnR P w K mg base CX0 3 (a_drunk_in_round K) (spDrunk K) := by
  refine fnR0 (d := d_drunk_in_round) T.F_drunk_in_round sc_drunk_in_round rfl (fun _ _ _ _ _ _ us hl => match us, hl with | [_, _, _], _ => rfl) (fun vs H Q E h => ?_) (fun cdv A outer s H vs Q E hr h => ?_)
  · obtain ⟨a, ts, m, n, rfl, _⟩ := h
    rfl
  obtain ⟨a, ts, m, n, rfl, ho, hf, k⟩ := h
  obtain ⟨dx, t, p, o, f, g, e1, e2, e3, e4, e5, e6⟩ := ho.ex
  refine ⟨_, (pss_cons (ps_if (pt_cmpR op_eq (pv 1) pe_int (nomark _)) (pss_one (ps_ret (pv 2))) pss_nil) (pss_one (ps_ret (pe_op op_sub (pv 2) (pe_cR (ok_cost_of T) (hr.mono (by decide)) T.F_cost_of.kp T.g_cost_of pass0 (pa_cons (pe_prop (pv 0) T.k_Offer T.p_Offer_trades (ok_Offer_trades T) (hr.mono (by decide)) (b_Offer_trades T) .nil pass0 rfl) (pa_cons (pv 2) pa_nil))))))), ?_⟩
  refine ⟨_, rfl, rfl, _, rfl, ite2 (fun hd => ?_) (fun hd => ?_)⟩
  · have hd : m = 1 := V.int.inj (of_decide_eq_true hd)
    have k1 := k H (Same.refl _)
    rw [if_pos hd] at k1
    exact ⟨_, rfl, k1⟩
  · have hd : ¬ m = 1 := fun z => hd (decide_eq_true (congrArg V.int z))
    refine ⟨_, rfl, _, rfl, a, dx, _, rfl, e1, a, ts, rfl, ho, fun tp htp => ⟨_, rfl, tp, ts, n, rfl, htp, hf.g, fun H' s' => ?_⟩⟩
    have k1 := k H' s'
    rw [if_neg hd] at k1
    refine ⟨_, _, rfl, rfl, ?_⟩
    have e : (n : Int) - cost ts (n : Int) = buys ts n := by
      show (n : Int) - ((n : Int) - buys ts n) = _
      omega
    rw [← e] at k1
    exact k1
end
section
variable {w : World} {K : PySem.W.Frag} {mg : Str → Option Value} {base : Heap} (T : Tx K mg)
include T
def spSeeL (K : PySem.W.Frag) : Sp := fun vs H Q E => ∃ (x : Addr) (k : Str) (c : Int), vs = [.ref x, .str k, .int c] ∧ SeeP K x (.left k c) H Q E
theorem okX_BottleObserver_see_left (hK : K.In base) : FnR PX w K mg base (L2.CX PX w) 7 (a_BottleObserver_see_left K) (spSeeL K) := by
  refine fnRX (d := d_BottleObserver_see_left) T.F_BottleObserver_see_left sc_BottleObserver_see_left rfl (fun _ _ _ _ _ _ us hl => match us, hl with | [_, _, _], _ => rfl) (fun vs H Q E h => ?_) (fun cdv A outer s H vs Q E hr h => ?_)
  · obtain ⟨x, k, c, rfl, _⟩ := h
    rfl
  obtain ⟨x, k, n, rfl, dx, a, c, l, ts, g, p, rs, S, hf, lr, p1, w1, hk, k0, k1⟩ := h
  have hk : k ∈ ts.map Tr.k := hk
  obtain ⟨dy, fy, oi, on⟩ := S.of.ins
  have st := start_eq hf
  refine ⟨_, (pss_cons (ps_set (i := 3) sc_BottleObserver_see_left.nd rfl (Or.inr rfl) (pe_fld (pv 0) rfl)) (pss_cons (ps_if (pt_cmpR op_notIn_seq (pv 1) (pe_prop (pv 3) T.k_Offer T.p_Offer_kinds (ok_Offer_kinds T) (hr.mono (by decide)) (b_Offer_kinds T) .nil pass0 rfl) rfl) (pss_one (ps_raise rfl (takes_of rfl rfl rfl rfl) (pmk_own PySem.F.excBase_ValueError T.x_UnknownKind.own T.g_UnknownKind T.x_UnknownKind.keep (raises_own T.x_UnknownKind.base T.x_UnknownKind.ty) (by rfl)))) pss_nil) (pss_cons (ps_set (i := 4) sc_BottleObserver_see_left.nd rfl (Or.inl rfl) (pe_ix ix_tup (pe_prop (pv 3) T.k_Offer T.p_Offer_period (ok_Offer_period T) (hr.mono (by decide)) (b_Offer_period T) .nil pass0 rfl) pe_int (fun _ _ => rfl))) (pss_cons (ps_set (i := 5) sc_BottleObserver_see_left.nd rfl (Or.inl rfl) (pe_callTy cr_range1 (by rfl) T.n_range (by decide +kernel) (pa_cons (pe_op op_add (pe_prop (pv 3) T.k_Offer T.p_Offer_steady_from (ok_Offer_steady_from T) (hr.mono (by decide)) (b_Offer_steady_from T) .nil pass0 rfl) (pv 4)) pa_nil))) (pss_cons (ps_setLc (i := 6) (own := [("bottles", 7)]) rfl sc_BottleObserver_see_left.nd rfl rfl (sw_true rfl rfl rfl (by decide +kernel)) (pi_rng (pv 5)) (blkOk_by (own := [("bottles", 7)]) (N := N_BottleObserver_see_left) (sc := defScope s_BottleObserver_see_left) (by decide +kernel)) (fun _ _ _ _ _ => (pg_name (i := 7) sc_BottleObserver_see_left.nd rfl (Or.inl rfl) (.inr rfl))) (fun _ _ _ _ _ => pts_nil) (fun _ _ _ _ _ => (pe_and (pe_cR (ok_is_integer T) (hr.mono (by decide)) T.F_is_integer.kp T.g_is_integer pass0 (pa_cons (pv 2) pa_nil)) (pe_one (pe_cmpR op_eq (pe_dget (hu_of hr) (pe_methR (pv 3) T.k_Offer T.m_Offer_left_over (ok_Offer_left_over T) (hr.mono (by decide)) pass0 (pa_cons (pv 7) pa_nil)) (pv 1) (fun _ _ => rfl)) (pv 2) (nomark _)))))) (pss_one (ps_ret (pe_methR (pv 0) T.k_BottleObserver T.m_BottleObserver_accept (okX_BottleObserver_accept T) (hr.mono (by decide)) (passes_call (takes_of rfl rfl rfl rfl) (fun _ _ _ _ h => h)) (pa_cons (pv 6) (pa_cons (pv 4) (pa_cons (pe_tup (pa_cons pe_str (pa_cons (pv 1) (pa_cons (pv 2) pa_nil)))) pa_nil))))))))))), ?_⟩
  refine ⟨_, rfl, x, _, dx, _, _, rfl, S.ins, T.k_BottleObserver, T.na_offer, lk_offer, ?_⟩
  refine ⟨_, rfl, _, rfl, a, dy, fy, rfl, oi, a, ts, rfl, S.of, hf.g.1, fun H1 kp s1 hkp => ⟨kp, _, rfl, .inr hkp, rfl, flat_str _, _, rfl, ?_⟩⟩
  rw [if_pos rfl, inV_mem hk]
  refine iteF ?_
  have oi1 := s1 _ _ oi
  have oa1 := S.of.mono s1
  refine ⟨_, rfl, a, dy, fy, rfl, oi1, a, ts, rfl, oa1, fun pp hpp => ⟨pp, _, 0, _, rfl, rfl, hpp, rfl, ?_⟩⟩
  refine ⟨_, rfl, a, dy, fy, rfl, oi1, a, ts, rfl, oa1, hf, ?_⟩
  rw [st.1]
  refine ⟨_, rfl, _, _, rfl, rfl, _, rfl, fun q nq => ?_⟩
  have s2 := s1.trans (same_new (u := .rng 0 ((startN ts : Int) + (perB ts : Nat))) nq)
  have e2 : (upd H1 q (.rng 0 ((startN ts : Int) + (perB ts : Nat)))) q = some (.rng 0 ((startN ts : Int) + (perB ts : Nat))) := upd_same
  generalize upd H1 q (.rng 0 ((startN ts : Int) + (perB ts : Nat))) = H2 at s2 e2
  have hb := span_pos2 hf (.left k n)
  have hb2 : perB ts ≤ 4000 := hb.2
  refine ⟨_, rfl, q, _, _, rfl, e2, ⟨by decide, by decide, by omega, by omega⟩, fun L nL => ?_⟩
  refine lc_range (lo := 0) (n := ((startN ts : Int) + (perB ts : Nat) - 0).toNat) (fun i G => Same H2 G ∧ G L = some (.lst (((List.range i).map fun j => agB ts (.left k n) j).map V.bl))) ⟨same_new nL, upd_same⟩ ?_ ?_
  · rintro i G hi ⟨sG, eG⟩
    have sHG := s2.trans sG
    refine ⟨rfl, _, rfl, n, rfl, true, rfl, iteT ?_⟩
    rw [Int.zero_add]
    have lf := left_has hf.g hk (D (cN ts) i)
    refine ⟨_, rfl, a, dy, fy, rfl, sHG _ _ oi, on _ (by decide +kernel), _, rfl, a, ts, i, rfl, S.of.mono sHG, hf, by omega, fun G1 pd sG1 hd => ?_⟩
    obtain ⟨cv, _, _, ec⟩ := lf
    refine ⟨_, rfl, pd, .int cv, rfl, by have z := DGet.k (k := .inr k) hd; rw [ec] at z; exact z, _, rfl, rfl, ?_⟩
    have sG2 := sG.trans sG1
    refine ⟨_, sG1 _ _ eG, ?_, same_mut sG2 nL, ?_⟩
    · refine Nat.lt_of_le_of_lt (m := 10000) ?_ (by decide)
      rw [List.length_map, List.length_map, List.length_range]
      omega
    · rw [upd_same, List.range_succ, List.map_append, List.map_append]
      have e : decide (V.int cv = V.int n) = agB ts (.left k n) i := by
        show _ = decide (valV (leftK ts (D (cN ts) i)) (.inr k) = some (.int n))
        rw [ec]
        exact decide_eq_decide.mpr ⟨fun z => by rw [z], fun z => Option.some.inj z⟩
      rw [e]
      rfl
  · rintro G ⟨sG, eG⟩
    have sHG := s2.trans sG
    refine ⟨_, rfl, x, dx, _, rfl, sHG _ _ S.ins, lk_noo (by decide +kernel), _, rfl, _, rfl, _, rfl, _, rfl, by show 3 ≤ sizeLine; decide, fun r nr => ?_⟩
    have sr := sHG.trans (same_new (u := .tup [.str "left", .str k, .int n]) nr)
    have lr0 : ((startN ts : Int) + (perB ts : Nat) - 0).toNat = startN ts + perB ts := by omega
    rw [lr0] at eG
    exact accept_do S hf lr p1 w1 k0 k1 sr (SqL.of (upd_old eG nr)) (by rw [List.length_map, List.length_range]; rfl) (fun i hi => by
      have hi2 : i < startN ts + perB ts := hi
      rw [List.getD_eq_getElem?_getD, List.getElem?_map, List.getElem?_range hi2]
      rfl) upd_same (sHG.free nr)
def spSeeR (K : PySem.W.Frag) : Sp := fun vs H Q E => ∃ (x : Addr) (m q : Int), vs = [.ref x, .int m, .int q] ∧ SeeP K x (.round m q) H Q E
theorem okX_BottleObserver_see_round (hK : K.In base) : FnR PX w K mg base (L2.CX PX w) 7 (a_BottleObserver_see_round K) (spSeeR K) := by
  refine fnRX (d := d_BottleObserver_see_round) T.F_BottleObserver_see_round sc_BottleObserver_see_round rfl (fun _ _ _ _ _ _ us hl => match us, hl with | [_, _, _], _ => rfl) (fun vs H Q E h => ?_) (fun cdv A outer s H vs Q E hr h => ?_)
  · obtain ⟨x, k, c, rfl, _⟩ := h
    rfl
  obtain ⟨x, m, q, rfl, dx, a, c, l, ts, g, p, rs, S, hf, lr, p1, w1, ⟨m1, m2, q0, q1⟩, k0, k1⟩ := h
  obtain ⟨dy, fy, oi, on⟩ := S.of.ins
  have st := start_eq hf
  refine ⟨_, (pss_cons (ps_expr (pe_cR (okX_check_number T hK) (hr.mono (by decide)) T.F_check_number.kp T.g_check_number (passes_call (takes_of rfl rfl rfl rfl) (fun _ _ _ _ h => h)) (pa_cons (pv 1) (pa_cons pe_int (pa_cons pe_int pa_nil))))) (pss_cons (ps_expr (pe_cR (okX_check_number T hK) (hr.mono (by decide)) T.F_check_number.kp T.g_check_number (passes_call (takes_of rfl rfl rfl rfl) (fun _ _ _ _ h => h)) (pa_cons (pv 2) (pa_cons pe_int (pa_cons pe_int pa_nil))))) (pss_cons (ps_set (i := 3) sc_BottleObserver_see_round.nd rfl (Or.inr rfl) (pe_fld (pv 0) rfl)) (pss_cons (ps_set (i := 4) sc_BottleObserver_see_round.nd rfl (Or.inl rfl) (pe_ifExp (pt_cmpR op_eq (pv 1) pe_int (nomark _)) pe_int (pe_op op_mul pe_int (pe_ix ix_tup (pe_prop (pv 3) T.k_Offer T.p_Offer_period (ok_Offer_period T) (hr.mono (by decide)) (b_Offer_period T) .nil pass0 rfl) pe_int (fun _ _ => rfl))))) (pss_cons (ps_set (i := 5) sc_BottleObserver_see_round.nd rfl (Or.inl rfl) (pe_callTy cr_range1 (by rfl) T.n_range (by decide +kernel) (pa_cons (pe_op op_add (pe_prop (pv 3) T.k_Offer T.p_Offer_steady_from (ok_Offer_steady_from T) (hr.mono (by decide)) (b_Offer_steady_from T) .nil pass0 rfl) (pv 4)) pa_nil))) (pss_cons (ps_setLc (i := 6) (own := [("bottles", 7)]) rfl sc_BottleObserver_see_round.nd rfl rfl (sw_true rfl rfl rfl (by decide +kernel)) (pi_rng (pv 5)) (blkOk_by (own := [("bottles", 7)]) (N := N_BottleObserver_see_round) (sc := defScope s_BottleObserver_see_round) (by decide +kernel)) (fun _ _ _ _ _ => (pg_name (i := 7) sc_BottleObserver_see_round.nd rfl (Or.inl rfl) (.inr rfl))) (fun _ _ _ _ _ => pts_nil) (fun _ _ _ _ _ => (pe_cmpR op_eq (pe_op op_mod (pe_cR (ok_drunk_in_round T) (hr.mono (by decide)) T.F_drunk_in_round.kp T.g_drunk_in_round pass0 (pa_cons (pv 3) (pa_cons (pv 1) (pa_cons (pv 7) pa_nil)))) pe_int) (pv 2) (nomark _)))) (pss_one (ps_ret (pe_methR (pv 0) T.k_BottleObserver T.m_BottleObserver_accept (okX_BottleObserver_accept T) (hr.mono (by decide)) (passes_call (takes_of rfl rfl rfl rfl) (fun _ _ _ _ h => h)) (pa_cons (pv 6) (pa_cons (pv 4) (pa_cons (pe_tup (pa_cons pe_str (pa_cons (pv 1) (pa_cons (pv 2) pa_nil)))) pa_nil)))))))))))), ?_⟩
  refine ⟨_, rfl, ?_⟩
  dsimp only [tNil, tCons, tC]
  refine chk3 (by simp [bnds]) (fun _ _ => ?_) fun z => absurd ⟨m1, m2⟩ z
  refine ⟨_, rfl, ?_⟩
  dsimp only [tNil, tCons, tC]
  refine chk3 (by simp [bnds]) (fun _ _ => ?_) fun z => absurd ⟨q0, q1⟩ z
  refine ⟨_, rfl, x, _, dx, _, _, rfl, S.ins, T.k_BottleObserver, T.na_offer, lk_offer, ?_⟩
  dsimp only [gName]
  refine capA (fun σ' G => Same H G ∧ σ' = [some (.ref x), some (.int m), some (.int q), some (.ref a), some (.int (En.span ts (.round m q) : Nat)), none, none, none]) ?_ (fun k2 => ?_)
  rotate_left
  · refine ⟨_, rfl, rfl, _, rfl, ite2 (fun hd => ?_) (fun hd => ?_)⟩
    · have hd : m = 1 := V.int.inj (of_decide_eq_true hd)
      refine k2 _ _ ⟨Same.refl _, ?_⟩
      show _ = [some (V.ref x), some (V.int m), some (V.int q), some (V.ref a), some (V.int ((if m = 1 then 2 else 2 * per ts : Nat) : Int)), none, none, none]
      rw [if_pos hd]
      rfl
    · have hd : ¬ m = 1 := fun z => hd (decide_eq_true (congrArg V.int z))
      have hb2 := per_le' hf.g
      refine ⟨_, rfl, a, dy, fy, rfl, oi, a, ts, rfl, S.of, fun pp hpp => ⟨pp, _, 1, _, rfl, rfl, hpp, rfl, _, _, rfl, rfl, .inl ⟨by decide, by decide⟩, ?_⟩⟩
      refine k2 _ _ ⟨Same.refl _, ?_⟩
      show _ = [some (V.ref x), some (V.int m), some (V.int q), some (V.ref a), some (V.int ((if m = 1 then 2 else 2 * per ts : Nat) : Int)), none, none, none]
      rw [if_neg hd]
      rfl
  rintro _ H1 ⟨s1, rfl⟩
  have oi1 := s1 _ _ oi
  have oa1 := S.of.mono s1
  refine ⟨_, rfl, a, dy, fy, rfl, oi1, a, ts, rfl, oa1, hf, ?_⟩
  rw [st.1]
  have hb := span_pos2 hf (.round m q)
  have hsp : (En.span ts (.round m q)) = (En.span ts (.round m q)) := rfl
  generalize hw : En.span ts (.round m q) = W at hb
  refine ⟨_, rfl, _, _, rfl, rfl, _, rfl, fun r1 nq => ?_⟩
  have s2 := s1.trans (same_new (u := .rng 0 ((startN ts : Int) + (W : Nat))) nq)
  have e2 : (upd H1 r1 (.rng 0 ((startN ts : Int) + (W : Nat)))) r1 = some (.rng 0 ((startN ts : Int) + (W : Nat))) := upd_same
  generalize upd H1 r1 (.rng 0 ((startN ts : Int) + (W : Nat))) = H2 at s2 e2
  refine ⟨_, rfl, r1, _, _, rfl, e2, ⟨by decide, by decide, by omega, by omega⟩, fun L nL => ?_⟩
  refine lc_range (lo := 0) (n := ((startN ts : Int) + (W : Nat) - 0).toNat) (fun i G => Same H2 G ∧ G L = some (.lst (((List.range i).map fun j => agB ts (.round m q) j).map V.bl))) ⟨same_new nL, upd_same⟩ ?_ ?_
  · rintro i G hi ⟨sG, eG⟩
    have sHG := s2.trans sG
    refine ⟨rfl, _, rfl, _, rfl, _, rfl, ?_⟩
    rw [Int.zero_add]
    refine ⟨a, ts, m, i, rfl, S.of.mono sHG, hf, fun G1 sG1 => ?_⟩
    refine ⟨_, _, rfl, rfl, (by decide : (0 : Int) < 2), _, rfl, rfl, ?_⟩
    have sG2 := sG.trans sG1
    refine ⟨_, sG1 _ _ eG, ?_, same_mut sG2 nL, ?_⟩
    · refine Nat.lt_of_le_of_lt (m := 10000) ?_ (by decide)
      rw [List.length_map, List.length_map, List.length_range]
      omega
    · rw [upd_same, List.range_succ, List.map_append, List.map_append]
      have e : decide (V.int ((if m = 1 then (i : Int) else buys ts i) % 2) = V.int q) = agB ts (.round m q) i := decide_eq_decide.mpr ⟨fun z => V.int.inj z, fun z => congrArg V.int z⟩
      rw [show List.map V.bl (List.map (fun j => agB ts (.round m q) j) [i]) = [V.bl (agB ts (.round m q) i)] from rfl, ← e]
  · rintro G ⟨sG, eG⟩
    have sHG := s2.trans sG
    refine ⟨_, rfl, x, dx, _, rfl, sHG _ _ S.ins, lk_noo (by decide +kernel), _, rfl, _, rfl, _, rfl, _, rfl, by show 3 ≤ sizeLine; decide, fun r nr => ?_⟩
    have sr := sHG.trans (same_new (u := .tup [.str "round", .int m, .int q]) nr)
    have lr0 : ((startN ts : Int) + (W : Nat) - 0).toNat = startN ts + W := by omega
    rw [lr0] at eG
    subst hw
    exact accept_do S hf lr p1 w1 k0 k1 sr (SqL.of (upd_old eG nr)) (by rw [List.length_map, List.length_range]) (fun i hi => by
      rw [List.getD_eq_getElem?_getD, List.getElem?_map, List.getElem?_range hi]
      rfl) upd_same (sHG.free nr)
end
end EB

namespace EB
open PySem PySem.Spec PyProof.Rows L2
/-- a list of what has been told -/
structure TellAt (K : PySem.W.Frag) (H : Hp) (l : Addr) (es : List En) : Prop where
  ex : ∃ rs : List Addr, SqL K H l (rs.map V.ref) ∧ rs.length = es.length ∧ ∀ (i : Nat) (r : Addr) (e : En), rs[i]? = some r → es[i]? = some e → SqT K H r e.vs
theorem TellAt.mono {K : PySem.W.Frag} {H H' : Hp} {l : Addr} {es : List En} (s : Same H H') (t : TellAt K H l es) : TellAt K H' l es := by
  obtain ⟨rs, h1, h2, h3⟩ := t.ex
  exact ⟨rs, s.seq h1, h2, fun i r e a b => Same.tup s (h3 i r e a b)⟩
theorem TellAt.at_ {K : PySem.W.Frag} {H : Hp} {es : List En} {rs : List Addr} {i : Nat} {x : V} (h2 : rs.length = es.length) (h3 : ∀ (i : Nat) (r : Addr) (e : En), rs[i]? = some r → es[i]? = some e → SqT K H r e.vs) (h : (rs.map V.ref)[i]? = some x) : ∃ r e, x = .ref r ∧ es[i]? = some e ∧ e ∈ es ∧ SqT K H r e.vs := by
  rw [List.getElem?_map] at h
  cases hr : rs[i]? with
  | none =>
    rw [hr] at h
    cases h
  | some r =>
    rw [hr] at h
    cases h
    obtain ⟨e, he⟩ := get_of h2 hr
    exact ⟨r, e, rfl, he, List.mem_of_getElem? he, h3 i r e hr he⟩
/-- it may be told of the offer -/
def EnOk (ts : List Tr) : En → Prop
  | .left k _ => k ∈ ts.map Tr.k
  | .round m q => 1 ≤ m ∧ m ≤ 2 ∧ 0 ≤ q ∧ q ≤ 1
/-- what agrees with all that was told -/
noncomputable def allB (ts : List Tr) (es : List En) (n : Nat) : Bool := es.all fun e => agB ts e n
theorem allB_nil (ts : List Tr) : allB ts [] = fun _ => true := rfl
theorem allB_snoc (ts : List Tr) (es : List En) (e : En) : allB ts (es ++ [e]) = fun n => allB ts es n && agB ts e n := funext fun n => by
  unfold allB
  rw [List.all_append]
  simp
theorem ne_of_not {a b : V} (z : (!decide (a = b)) = true) : ¬ a = b := by simpa using z
theorem not_of_ne {a b : V} (z : ¬ a = b) : (!decide (a = b)) = true := by simpa using z
section
variable {P : Program} {w : World} {K : PySem.W.Frag} {mg : Str → Option Value} {base : Heap} (T : Tx K mg)
include T
def spAgrees (K : PySem.W.Frag) : Sp := fun vs H Q _ => ∃ (a l : Addr) (ts : List Tr) (es : List En) (n : Nat), vs = [.ref a, .int (n : Nat), .ref l] ∧ OfAt K H a ts ∧ Fair ts ∧ n ≤ 1000000000000000000 ∧ TellAt K H l es ∧ (∀ e ∈ es, EnOk ts e) ∧ ∀ H', Same H H' → Q (.bl (allB ts es n)) H'
theorem ok_law_agrees : FnR P w K mg base CX0 6 (a_law_agrees K) (spAgrees K) := by
  refine fnR0 (d := d_law_agrees) T.F_law_agrees sc_law_agrees rfl (fun _ _ _ _ _ _ us hl => match us, hl with | [_, _, _], _ => rfl) (fun vs H Q E h => ?_) (fun cdv A outer s H vs Q E hr h => ?_)
  · obtain ⟨a, l, ts, es, n, rfl, _⟩ := h
    rfl
  obtain ⟨a, l, ts, es, n, rfl, ho, hf, hn, ht, hok, k⟩ := h
  obtain ⟨dy, fy, oi, on⟩ := ho.ins
  obtain ⟨rs, h1, h2, h3⟩ := ht.ex
  refine ⟨_, (pss_cons (ps_for PassesOwn.never rfl (pi_list (pv 2)) (pg_tup rfl (pgs_cons (pg_name (i := 3) sc_law_agrees.nd rfl (Or.inl rfl)) (pgs_cons (pg_name (i := 4) sc_law_agrees.nd rfl (Or.inl rfl)) (pgs_cons (pg_name (i := 5) sc_law_agrees.nd rfl (Or.inl rfl)) pgs_nil)))) (pss_cons (ps_if (PW.pt (pw_and (pt_cmpR op_eq (pv 3) pe_str (nomark _)) (pw_and1 (pt_cmpR op_ne (pe_dget (hu_of hr) (pe_methR (pv 0) T.k_Offer T.m_Offer_left_over (ok_Offer_left_over T) (hr.mono (by decide)) pass0 (pa_cons (pv 1) pa_nil)) (pv 4) (fun _ _ => rfl)) (pv 5) (nomark _))))) (pss_one (ps_ret pe_bl)) pss_nil) (pss_cons (ps_set (i := 6) sc_law_agrees.nd rfl (Or.inl rfl) (pe_ifExp (pt_cmpR op_eq (pv 4) pe_int (nomark _)) (pv 1) (pe_cR (ok_law_buys T) (hr.mono (by decide)) T.F_law_buys.kp T.g_law_buys pass0 (pa_cons (pe_prop (pv 0) T.k_Offer T.p_Offer_trades (ok_Offer_trades T) (hr.mono (by decide)) (b_Offer_trades T) .nil pass0 rfl) (pa_cons (pv 1) pa_nil))))) (pss_one (ps_if (PW.pt (pw_and (pt_cmpR op_eq (pv 3) pe_str (nomark _)) (pw_and1 (pt_cmpR op_ne (pe_op op_mod (pv 6) pe_int) (pv 5) (nomark _))))) (pss_one (ps_ret pe_bl)) pss_nil))))) (pss_one (ps_ret pe_bl))), ?_⟩
  refine ⟨_, rfl, l, rfl, ⟨_, h1⟩, for_list (K := K) (a := l) (xs := rs.map V.ref) (fun i σ H1 => Same H H1 ∧ (∀ e ∈ es.take i, agB ts e n = true) ∧ ∃ x3 x4 x5 x6, σ = [some (.ref a), some (.int (n : Nat)), some (.ref l), x3, x4, x5, x6]) ⟨Same.refl _, fun e m => (by cases m), _, _, _, _, rfl⟩ (fun i σ H1 _ q => q.1.seq h1) ?_ ?_⟩
  · rintro i x σ H1 hx ⟨s1, ha, x3, x4, x5, x6, rfl⟩
    obtain ⟨r, e, rfl, he, hm, hr1⟩ := TellAt.at_ h2 h3 hx
    have hr1 := Same.tup s1 hr1
    have oi1 := s1 _ _ oi
    have step : agB ts e n = true → ∀ e' ∈ es.take (i + 1), agB ts e' n = true := fun h e' m => by
      rw [take_at he] at m
      rcases List.mem_append.mp m with m | m
      · exact ha e' m
      · rw [List.mem_singleton.mp m]
        exact h
    have bad : agB ts e n = false → allB ts es n = false := fun h => by
      unfold allB
      rw [List.all_eq_false]
      exact ⟨e, hm, by rw [h]; exact Bool.false_ne_true⟩
    cases e with
    | left kd c =>
      have hk : kd ∈ ts.map Tr.k := hok _ hm
      obtain ⟨cv, _, _, ec⟩ := left_has hf.g hk (EB.D (cN ts) n)
      have eag : agB ts (.left kd c) n = decide (cv = c) := by
        show decide (valV (leftK ts (EB.D (cN ts) n)) (.inr kd) = some (.int c)) = _
        rw [ec]
        exact decide_eq_decide.mpr ⟨fun z => V.int.inj (Option.some.inj z), fun z => by rw [z]⟩
      refine ⟨r, _, rfl, hr1, rfl, _, _, rfl, _, _, rfl, _, _, rfl, rfl, ?_⟩
      dsimp only
      refine capSN [some (.ref a), some (.int (n : Nat)), some (.ref l), some (.str "left"), some (.str kd), some (.int c), x6] rfl ?_
      refine ⟨_, rfl, rfl, _, rfl, ?_⟩
      refine ite2 (fun _ => ?_) (fun z => absurd (decide_eq_true rfl) z)
      refine ⟨_, rfl, a, dy, fy, rfl, oi1, on _ (by decide +kernel), _, rfl, a, ts, n, rfl, ho.mono s1, hf, hn, fun H2 pd s2 hd => ?_⟩
      have s12 := s1.trans s2
      refine ⟨_, rfl, pd, .int cv, rfl, by have z := DGet.k (k := .inr kd) hd; rw [ec] at z; exact z, _, rfl, rfl, _, rfl, ite2 (fun z => ?_) (fun z => ?_)⟩
      · have k1 := k H2 s12
        rw [bad (by rw [eag]; exact decide_eq_false fun y => ne_of_not z (congrArg V.int y))] at k1
        exact k1
      · have hc : cv = c := by
          by_cases y : cv = c
          · exact y
          · exact absurd (not_of_ne fun w => y (V.int.inj w)) z
        have st := step (by rw [eag]; exact decide_eq_true hc)
        dsimp only [tNext]
        refine capA (fun σ' G => Same H G ∧ ∃ y6, σ' = [some (.ref a), some (.int (n : Nat)), some (.ref l), some (.str "left"), some (.str kd), some (.int c), y6]) ?_ (fun k2 => ?_)
        rotate_left
        · refine ⟨_, rfl, rfl, _, rfl, ite2 (fun z => absurd z (by simp)) (fun _ => ?_)⟩
          exact ⟨_, rfl, a, dy, fy, rfl, s2 _ _ oi1, a, ts, rfl, ho.mono s12, fun tp htp => ⟨_, rfl, tp, ts, n, rfl, htp, hf.g, fun H3 s3 => k2 _ _ ⟨s12.trans s3, _, rfl⟩⟩⟩
        rintro _ G ⟨sG, y6, rfl⟩
        refine ⟨_, rfl, rfl, _, rfl, ite2 (fun z => absurd z (by decide +kernel)) (fun _ => ?_)⟩
        exact iteF ⟨sG, st, _, _, _, _, rfl⟩
    | round m q =>
      have eag : agB ts (.round m q) n = decide ((if m = 1 then (n : Int) else buys ts n) % 2 = q) := rfl
      refine ⟨r, _, rfl, hr1, rfl, _, _, rfl, _, _, rfl, _, _, rfl, rfl, ?_⟩
      dsimp only
      refine capSN [some (.ref a), some (.int (n : Nat)), some (.ref l), some (.str "round"), some (.int m), some (.int q), x6] rfl ?_
      refine ⟨_, rfl, rfl, _, rfl, ?_⟩
      refine ite2 (fun z => absurd z (by decide +kernel)) (fun _ => ?_)
      refine iteF ?_
      dsimp only [tNext]
      refine capA (fun σ' G => Same H G ∧ σ' = [some (.ref a), some (.int (n : Nat)), some (.ref l), some (.str "round"), some (.int m), some (.int q), some (.int (if m = 1 then (n : Int) else buys ts n))]) ?_ (fun k2 => ?_)
      rotate_left
      · refine ⟨_, rfl, rfl, _, rfl, ite2 (fun z => ?_) (fun z => ?_)⟩
        · have z : m = 1 := V.int.inj (of_decide_eq_true z)
          refine ⟨_, rfl, k2 _ _ ⟨s1, ?_⟩⟩
          rw [if_pos z]
          rfl
        · have z : ¬ m = 1 := fun y => z (decide_eq_true (congrArg V.int y))
          refine ⟨_, rfl, a, dy, fy, rfl, oi1, a, ts, rfl, ho.mono s1, fun tp htp => ⟨_, rfl, tp, ts, n, rfl, htp, hf.g, fun H3 s3 => k2 _ _ ⟨s1.trans s3, ?_⟩⟩⟩
          rw [if_neg z]
          rfl
      rintro _ G ⟨sG, rfl⟩
      refine ⟨_, rfl, rfl, _, rfl, ite2 (fun _ => ?_) (fun z => absurd (decide_eq_true rfl) z)⟩
      refine ⟨_, rfl, _, _, rfl, rfl, (by decide : (0 : Int) < 2), _, rfl, rfl, _, rfl, ite2 (fun z => ?_) (fun z => ?_)⟩
      · have k1 := k G sG
        rw [bad (by rw [eag]; exact decide_eq_false fun y => ne_of_not z (congrArg V.int y))] at k1
        exact k1
      · refine ⟨sG, step ?_, _, _, _, _, rfl⟩
        rw [eag]
        refine decide_eq_true ?_
        by_cases y : (if m = 1 then (n : Int) else buys ts n) % 2 = q
        · exact y
        · exact absurd (not_of_ne fun w => y (V.int.inj w)) z
  · rintro σ H1 ⟨s1, ha, x3, x4, x5, x6, rfl⟩
    rw [List.length_map, h2, List.take_length] at ha
    have k1 := k H1 s1
    have e : allB ts es n = true := List.all_eq_true.mpr ha
    rw [e] at k1
    exact k1
def spRec (K : PySem.W.Frag) : Sp := fun vs H Q _ => ∃ (x dx a c l : Addr) (rs : List V), vs = [.ref x] ∧ H x = some (.ins (He.ga K "BottleObserver") dx (obf a c l)) ∧ H l = some (.lst rs) ∧ rs.length ≤ 1000 ∧ ∀ p, H p = none → Q (.ref p) (upd H p (.lst rs))
theorem b_BottleObserver_records : Binds K T.fd_BottleObserver_records ["self"] [] := bnd0 T.F_BottleObserver_records sc_BottleObserver_records rfl (fun _ _ _ _ _ _ us hl => match us, hl with | [_], _ => rfl)
theorem ok_BottleObserver_records : FnOk P w K mg base CX0 1 (a_BottleObserver_records K) T.fd_BottleObserver_records ["self"] (spRec K) := by
  refine fnK0 (d := d_BottleObserver_records) T.F_BottleObserver_records sc_BottleObserver_records (fun vs H Q E h => ?_) (fun cdv A outer s H vs Q E hr h => ?_)
  · obtain ⟨x, dx, a, c, l, rs, rfl, _⟩ := h
    rfl
  obtain ⟨x, dx, a, c, l, rs, rfl, hx, hl, lr, k⟩ := h
  refine ⟨_, (pss_one (ps_ret (pe_callTy call_list_of (by rfl) T.n_list (by decide +kernel) (pa_cons (pe_fld (pv 0) rfl) pa_nil)))), ?_⟩
  refine ⟨_, rfl, x, _, dx, _, _, rfl, hx, T.k_BottleObserver, T.na_observations, lk_observations, l, rs, rfl, .inl (SqL.of hl), k⟩
end
end EB

namespace EB
open PySem PySem.Spec PyProof.Rows L2
section
variable {P : Program} {w : World} {K : PySem.W.Frag} {mg : Str → Option Value} {base : Heap}
theorem gfnG {d : DD} {fd : FuncData} {N ps : List Str} {k : Nat} {sp : SpG} (F : FnP K d fd) (S : GScope N ps (defScope d.st)) (len : ∀ vs H Q E, sp vs H Q E → vs.length = ps.length)
    (hbody : ∀ (cdv : Value) (A : Around) (outer : List Env) (s : Shared) (H : Hp) (vs : List V) (Q : List V → Hp → Prop) (E : XK) (pn : List (Addr × Obj)), Room k (A.deeper (envOfC d.ql (defScope d.st) s.heap.objs.size (d.adr K) cdv)) → sp vs H Q E →
      ∃ t, GSs (gcxOf P w K mg base N d.ql (defScope d.st) (d.adr K) cdv A outer s H E pn) (defBody d.st) t ∧ t { nx := fun ys _ H' => Q ys H', rt := fun ys v H' => v = .non ∧ Q ys H' } [] (start N vs) H) :
    GFn P w K mg base (k + 1) (d.adr K) fd ps sp := by
  obtain ⟨oc, od, dV, kV, doc, pm, an, cdv, ct, osl, rfl, lk, hcd, _, _⟩ := F.ex
  exact gfn_of lk hcd S len fun A outer s H vs Q E pn hr hsp => hbody cdv A outer s H vs Q E pn hr hsp
theorem bndG {d : DD} {fd : FuncData} {ps : List Str} (F : FnP K d fd) (e : d.df = [])
    (b : ∀ (kV doc pm : Value) (an : Option Addr) (cdv ct : Value) (us : List Value), us.length = ps.length → bindArgs (PySem.W.fnOf d.nm d.ql (defArgs d.st) (defBody d.st) (defScope d.st) .none kV doc pm an cdv ct) ⟨us, []⟩ = pure (ps.zip us)) : Binds K fd ps [] := by
  have F2 : FunD K d.nm d.ql (defArgs d.st) (defBody d.st) (defScope d.st) [] [] (d.adr K) fd := by
    have z : FnP K d fd := F
    unfold FnP at z
    rw [e] at z
    exact z
  exact F2.bindsN b
theorem noStop0 : NoStop K E0 := fun _ _ _ h => False.elim h
theorem passG {X : Cx} : Passes (CX X.prog X.w) X E0 := by
  intro pins σ H s e s' I h
  obtain ⟨a, B, H', cls, d, z1, fl, z2, ub, z3, z4, z5, z6⟩ := h
  first | exact False.elim z1 | exact False.elim z2 | exact False.elim z3 | exact False.elim z4 | exact False.elim z5 | exact False.elim z6
end
end EB

namespace EB
open PySem PySem.Spec PyProof.Rows L2
theorem Sees.obs {K : PySem.W.Frag} {H : Hp} {x dx a c l : Addr} {ts : List Tr} {g : Nat → Bool} {p : Nat} {rs : List V} (S : Sees K H x dx a c l ts g p rs) : ObsAt K H x ts (takeN g (startN ts)) (p : Nat) (offT g (startN ts) p) := ⟨dx, a, c, l, S.ins, S.of, S.cand⟩
theorem Sees.mono {K : PySem.W.Frag} {H H' : Hp} {x dx a c l : Addr} {ts : List Tr} {g : Nat → Bool} {p : Nat} {rs : List V} (s : Same H H') (S : Sees K H x dx a c l ts g p rs) : Sees K H' x dx a c l ts g p rs := ⟨s _ _ S.ins, S.of.mono s, S.cand.mono s, s _ _ S.lst, S.rpt, S.pos⟩
/-- count_up_to(n) of such an observer -/
theorem upTo_do {K : PySem.W.Frag} {H : Hp} {x dx a c l : Addr} {ts : List Tr} {g : Nat → Bool} {p : Nat} {rs : List V} {n : Nat} {Q : VK} {E : XK} (S : Sees K H x dx a c l ts g p rs) (f : Fair ts) (p1 : p ≤ 1000000) (hn : n ≤ 1000000000000000000) (k : ∀ H', Same H H' → Q (.int (cnt g (n + 1) : Nat)) H') :
    spUpTo K [.ref x, .int (n : Nat)] H Q E := by
  have st := (start_eq f).2
  refine ⟨x, n, rfl, .inr ⟨by omega, by omega, ts, _, _, p, S.obs, ?_, ?_, by have := S.pos; omega, by omega, fun H' s => ?_⟩⟩
  · rw [takeN_len]
    have := cnt_le g (startN ts)
    omega
  · unfold offT
    rw [takeN_len]
    have := cnt_le (fun i => g (startN ts + i)) p
    omega
  · rw [many_cnt S.rpt S.pos]
    exact k H' s
theorem nth_do {K : PySem.W.Frag} {H : Hp} {x dx a c l : Addr} {ts : List Tr} {g : Nat → Bool} {p : Nat} {rs : List V} {n : Nat} {Q : VK} {E : XK} (S : Sees K H x dx a c l ts g p rs) (f : Fair ts) (p1 : p ≤ 1000000) (hn : n ≤ 1000000000000000000)
    (k : ∀ H', Same H H' → (cnt g 1000000000000000001 ≤ n → Q .non H') ∧ ∀ b : Nat, g b = true → cnt g b = n → b ≤ 1000000000000000000 → Q (.int (b : Nat)) H') :
    spNthP K [.ref x, .int ((n + 1 : Nat) : Int)] H Q E := by
  have st := (start_eq f).2
  refine ⟨x, _, rfl, .inr ⟨by omega, by omega, ts, _, _, p, S.obs, ?_, ?_, by omega, by omega, fun H' s => ?_⟩⟩
  · rw [takeN_len]
    have := cnt_le g (startN ts)
    omega
  · unfold offT
    rw [takeN_len]
    have := cnt_le (fun i => g (startN ts + i)) p
    omega
  · have k1 := k H' s
    rw [show ((n + 1 : Nat) : Int) - 1 = (n : Int) by omega]
    rcases obsV_cnt S.rpt S.pos n with ⟨e, h⟩ | ⟨b, e, h1, h2, h3⟩
    · rw [e]
      exact k1.1 h
    · rw [e]
      exact k1.2 b h1 h2 h3
section
variable {w : World} {K : PySem.W.Frag} {mg : Str → Option Value} {base : Heap} (T : Tx K mg)
include T
def spFirst (K : PySem.W.Frag) : Sp := fun vs H Q _ => ∃ (a x t dx c l : Addr) (ts : List Tr) (es : List En) (p : Nat) (rs : List V), vs = [.ref a, .ref x, .ref t] ∧ Sees K H x dx a c l ts (allB ts es) p rs ∧ Fair ts ∧ p ≤ 1000000 ∧ TellAt K H t es ∧ (∀ e ∈ es, EnOk ts e) ∧ ∀ H', Same H H' → Q (.bl true) H'
theorem ok_law_first_right (hK : K.In base) : FnR PX w K mg base CX0 8 (a_law_first_right K) (spFirst K) := by
  refine fnR0 (d := d_law_first_right) T.F_law_first_right sc_law_first_right rfl (fun _ _ _ _ _ _ us hl => match us, hl with | [_, _, _], _ => rfl) (fun vs H Q E h => ?_) (fun cdv A outer s H vs Q E hr h => ?_)
  · obtain ⟨a, x, t, dx, c, l, ts, es, p, rs, rfl, _⟩ := h
    rfl
  obtain ⟨a, x, t, dx, c, l, ts, es, p, rs, rfl, S, hf, p1, ht, hok, k⟩ := h
  obtain ⟨dy, fy, oi, on⟩ := S.of.ins
  refine ⟨_, (pss_cons (ps_set (i := 3) sc_law_first_right.nd rfl (Or.inr rfl) (pe_lc (own := [("_law_n", 5)]) rfl sc_law_first_right.nd (pi_range1 rfl T.n_range (pa_cons pe_int pa_nil)) (blkOk_by (own := [("_law_n", 5)]) (N := N_law_first_right) (sc := defScope s_law_first_right) (by decide +kernel)) (fun _ _ _ _ _ => (pg_name (i := 5) sc_law_first_right.nd rfl (Or.inl rfl) (.inr rfl))) (fun _ _ _ _ _ => (pts_one (pt_val (pe_cR (ok_law_agrees T) (hr.mono (by decide)) T.F_law_agrees.kp T.g_law_agrees pass0 (pa_cons (pv 0) (pa_cons (pv 5) (pa_cons (pv 2) pa_nil))))))) (fun _ _ _ _ _ => (pv 5)))) (pss_cons (ps_for PassesOwn.never rfl (pi_tup (pe_tup (pa_cons pe_int (pa_cons pe_int (pa_cons pe_int (pa_cons pe_int (pa_cons pe_int pa_nil))))))) (pg_name (i := 4) sc_law_first_right.nd rfl (Or.inr rfl)) (pss_one (ps_if (pt_not (pt_val (pe_cR (ok_law_alike T) (hr.mono (by decide)) T.F_law_alike.kp T.g_law_alike pass0 (pa_cons (pe_methR (pv 1) T.k_BottleObserver T.m_BottleObserver_count_up_to (okX_BottleObserver_count_up_to T hK) (hr.mono (by decide)) passG (pa_cons (pv 4) pa_nil)) (pa_cons (pe_callB call_len_seq (by rfl) T.n_len PySem.boot_len (pa_cons (pe_lc (own := [("_law_n", 5)]) rfl sc_law_first_right.nd (pi_list (pv 3)) (blkOk_by (own := [("_law_n", 5)]) (N := N_law_first_right) (sc := defScope s_law_first_right) (by decide +kernel)) (fun _ _ _ _ _ => (pg_name (i := 5) sc_law_first_right.nd rfl (Or.inl rfl) (.inr rfl))) (fun _ _ _ _ _ => (pts_one (pt_cmpR op_le (pv 5) (pv 4) (nomark _)))) (fun _ _ _ _ _ => (pv 5))) pa_nil)) pa_nil))))) (pss_one (ps_ret pe_bl)) pss_nil))) (pss_one (ps_ret (pe_cmpR (op_eqD hr.units) (pe_lc (own := [("_law_k", 6)]) rfl sc_law_first_right.nd (pi_range1 rfl T.n_range (pa_cons (pe_callB call_len_seq (by rfl) T.n_len PySem.boot_len (pa_cons (pv 3) pa_nil)) pa_nil)) (blkOk_by (own := [("_law_k", 6)]) (N := N_law_first_right) (sc := defScope s_law_first_right) (by decide +kernel)) (fun _ _ _ _ _ => (pg_name (i := 6) sc_law_first_right.nd rfl (Or.inl rfl) (.inr rfl))) (fun _ _ _ _ _ => (pts_one (pt_cmpR op_ne (pe_methR (pv 1) T.k_BottleObserver T.m_BottleObserver_nth_possible (okX_BottleObserver_nth_possible T hK) (hr.mono (by decide)) passG (pa_cons (pe_op op_add (pv 6) pe_int) pa_nil)) (pe_ix (ix_listK (K := K) rfl) (pv 3) (pv 6) (fun _ _ => rfl)) (nomark _)))) (fun _ _ _ _ _ => (pv 6))) (pe_lst pa_nil) (nomark _)))))), ?_⟩
  refine ⟨160, rfl, by decide, by decide, fun L nL => ?_⟩
  refine lc_range (lo := 0) (n := (160 : Int).toNat) (fun i G => Same H G ∧ G L = some (.lst ((takeN (allB ts es) i).map V.int))) ⟨same_new nL, upd_same⟩ ?_ ?_
  · rintro i G hi ⟨sG, eG⟩
    refine ⟨rfl, _, rfl, _, rfl, _, rfl, ?_⟩
    rw [Int.zero_add]
    refine ⟨a, t, ts, es, i, rfl, S.of.mono sG, hf, by omega, ht.mono sG, hok, fun G1 s1 => ?_⟩
    have sG1 := sG.trans s1
    refine ⟨_, rfl, ?_⟩
    by_cases z : allB ts es i = true
    · rw [z]
      refine iteT ⟨_, rfl, _, s1 _ _ eG, small3 ?_, same_mut sG1 nL, ?_⟩
      · rw [List.length_map, takeN_len]
        have := cnt_le (allB ts es) i
        have : (160 : Int).toNat = 160 := rfl
        omega
      · rw [upd_same, takeN_s, if_pos z, List.map_append]
        rfl
    · rw [Bool.eq_false_iff.mpr z]
      refine iteF ⟨sG1, ?_⟩
      rw [s1 _ _ eG, takeN_s, if_neg z, List.append_nil]
  rintro G ⟨sG, eG⟩
  have eG : G L = some (.lst ((takeN (allB ts es) 160).map V.int)) := eG
  have S1 := S.mono sG
  refine ⟨by show 5 ≤ sizeLine; decide, fun tp ntp => ?_⟩
  have eL2 := upd_old (u := .tup [.int 0, .int 1, .int 2, .int 50, .int 159]) eG ntp
  have S2 := S1.mono (same_new (u := .tup [.int 0, .int 1, .int 2, .int 50, .int 159]) ntp)
  have sH2 := sG.trans (same_new (u := .tup [.int 0, .int 1, .int 2, .int 50, .int 159]) ntp)
  have et : (upd G tp (.tup [.int 0, .int 1, .int 2, .int 50, .int 159])) tp = some (.tup ((([0, 1, 2, 50, 159] : List Nat)).map fun n : Nat => V.int (n : Int))) := upd_same
  generalize upd G tp (.tup [.int 0, .int 1, .int 2, .int 50, .int 159]) = H2 at eL2 S2 sH2 et
  clear S1 eG
  refine ⟨tp, rfl, ⟨_, SqT.of et⟩, for_tup (xs := (([0, 1, 2, 50, 159] : List Nat)).map fun n : Nat => V.int (n : Int)) (fun i σ H3 => Same H2 H3 ∧ ∃ x4 x5, σ = [some (.ref a), some (.ref x), some (.ref t), some (.ref L), x4, x5, none]) ⟨Same.refl _, _, _, rfl⟩ (fun i σ H3 _ q => Same.tup q.1 (SqT.of et)) ?_ ?_⟩
  · rintro i v σ H3 hv ⟨s3, x4, x5, rfl⟩
    rw [List.getElem?_map] at hv
    obtain ⟨n, hn, rfl⟩ : ∃ n : Nat, n ≤ 159 ∧ v = .int (n : Nat) := by
      match i, hv with
      | 0, hv => exact ⟨0, by omega, (Option.some.inj hv).symm⟩
      | 1, hv => exact ⟨1, by omega, (Option.some.inj hv).symm⟩
      | 2, hv => exact ⟨2, by omega, (Option.some.inj hv).symm⟩
      | 3, hv => exact ⟨50, by omega, (Option.some.inj hv).symm⟩
      | 4, hv => exact ⟨159, by omega, (Option.some.inj hv).symm⟩
      | j + 5, hv => simp at hv
    have S3 := S2.mono s3
    refine ⟨_, rfl, x, dx, _, rfl, S3.ins, lk_noo (by decide +kernel), _, rfl, ?_⟩
    dsimp only [tNil]
    refine upTo_do S3 hf p1 (by omega) fun H4 s4 => ?_
    have sH4 := s3.trans s4
    have eL4 := sH4 _ _ eL2
    refine ⟨_, rfl, L, rfl, ⟨_, SqL.of eL4⟩, fun D nD => ?_⟩
    refine lc_list (xs := (takeN (allB ts es) 160).map V.int) (fun j G1 => Same H4 G1 ∧ G1 D = some (.lst ((((takeN (allB ts es) 160).take j).filter fun y => decide (y ≤ ((n : Nat) : Int))).map V.int))) ⟨same_new nD, upd_same⟩ (fun j G1 _ q => q.1.seq (SqL.of eL4)) ?_ ?_
    · rintro j y G1 hy ⟨s5, e5⟩
      obtain ⟨m, em, rfl⟩ := int_at hy
      refine ⟨rfl, _, rfl, _, rfl, _, _, rfl, rfl, _, rfl, ite2 (fun hd => ?_) (fun hd => ?_)⟩
      · refine ⟨_, rfl, _, e5, small3 ?_, same_mut s5 nD, ?_⟩
        · rw [List.length_map]
          have a1 := List.length_filter_le (fun y => decide (y ≤ ((n : Nat) : Int))) ((takeN (allB ts es) 160).take j)
          rw [List.length_take, takeN_len] at a1
          have := cnt_le (allB ts es) 160
          omega
        · rw [upd_same, take_at em, List.filter_append, List.filter_cons, if_pos hd, List.filter_nil, List.map_append]
          rfl
      · refine ⟨s5, ?_⟩
        rw [e5, take_at em, List.filter_append, List.filter_cons, if_neg hd, List.filter_nil, List.append_nil]
    rintro G1 ⟨s5, e5⟩
    rw [List.length_map, List.take_length] at e5
    refine ⟨D, _, rfl, .inl (SqL.of e5), ?_⟩
    rw [List.length_map, takeN_le, show min 160 (n + 1) = n + 1 by omega]
    refine ⟨_, _, .int (cnt (allB ts es) (n + 1) : Nat), rfl, .int _, .int _, .int _, fun H6 s6 => ⟨true, rfl, ?_⟩⟩
    exact iteF ⟨sH4.trans (s5.trans s6), _, _, rfl⟩
  rintro σ H3 ⟨s3, x4, x5, rfl⟩
  have S3 := S2.mono s3
  have eL3 := s3 _ _ eL2
  refine ⟨_, rfl, L, _, rfl, .inl (SqL.of eL3), _, rfl, ?_, ?_, fun D nD => ?_⟩
  · have : (1000 : Int) < 2 ^ 62 := by decide
    have := cnt_le (allB ts es) 160
    rw [List.length_map, takeN_len]
    omega
  · have : (1000 : Int) < 2 ^ 62 := by decide
    have := cnt_le (allB ts es) 160
    rw [List.length_map, takeN_len]
    omega
  refine lc_range (lo := 0) (n := (((((takeN (allB ts es) 160).map V.int).length : Nat) : Int)).toNat) (fun j G1 => Same H3 G1 ∧ G1 D = some (.lst [])) ⟨same_new nD, upd_same⟩ ?_ ?_
  · rintro j G1 hj ⟨s5, e5⟩
    have hj2 : j < cnt (allB ts es) 160 := by
      rw [List.length_map, takeN_len] at hj
      omega
    have h160 := cnt_le (allB ts es) 160
    refine ⟨rfl, _, rfl, x, dx, _, rfl, (s5 _ _ S3.ins), lk_noo (by decide +kernel), _, rfl, _, _, rfl, rfl, ?_⟩
    rw [Int.zero_add]
    dsimp only [tNil]
    rw [show ((j : Int) + 1) = ((j + 1 : Nat) : Int) from rfl]
    refine nth_do (S3.mono s5) hf p1 (by omega) fun H6 s6 => ⟨fun z => ?_, fun b hb hc _ => ?_⟩
    · have := cnt_mono (allB ts es) (show 160 ≤ 1000000000000000001 by omega)
      omega
    · obtain ⟨b2, e2, h1, h2, h3⟩ := takeN_get hj2
      have eb := cnt_inj hb h1 (hc.trans h2.symm)
      subst eb
      have sH6 := s5.trans s6
      refine ⟨_, rfl, _, rfl, L, _, _, _, rfl, rfl, SqL.of (sH6 _ _ eL3), at_of (j := j) rfl (v := .int (b : Nat)) ?_, rfl, _, rfl, ite2 (fun hd => absurd rfl (ne_of_not hd)) (fun _ => ?_)⟩
      · rw [List.getElem?_map, List.getElem?_eq_getElem (by rw [takeN_len]; exact hj2)]
        rw [List.getD_eq_getElem?_getD, List.getElem?_eq_getElem (by rw [takeN_len]; exact hj2)] at e2
        exact congrArg (fun z => some (V.int z)) e2
      · exact ⟨sH6, s6 _ _ e5⟩
  rintro G1 ⟨s5, e5⟩
  refine ⟨Nat.zero_le _, fun W hW => ⟨.list [], .list [], .lst (SqL.of (upd_old e5 hW)) .nil, .lst (SqL.of upd_same) .nil, shapedN, shapedN, ?_⟩⟩
  exact k _ (sH2.trans (s3.trans (s5.trans (same_new hW))))
end
end EB

namespace EB
open PySem PySem.Spec PyProof.Rows L2
/-- what leaves a body is told at slots of the def's own number -/
theorem takes_len {X : Cx} {W : WX} {n : Nat} (hn : X.N.length = n) (tk : Takes X W) : Takes X (fun cls d σ H => σ.length = n → W cls d σ H) := fun u s' ⟨a, B, sI, pins, σ, H, cls, d, e, I, nb, up, sky, na, os, ag, w⟩ =>
  tk u s' ⟨a, B, sI, pins, σ, H, cls, d, e, I, nb, up, sky, na, os, ag, w (I.len.trans hn)⟩
abbrev errCx (P : Program) (w : World) (K : PySem.W.Frag) (mg : Str → Option Value) (base : Heap) (cdg : Value) (A : Around) (st : List Env) (s : Shared) (H : Hp) : Cx := (cxOf CX0 P w K mg base N_law_error "_law_error" (defScope s_law_error) (a_law_error K) cdg A st s H E0).nox
/-- what _law_error makes of the lambda's reading -/
def TTErr (K : PySem.W.Frag) : (XK → Hp → VK → Prop) → Hp → VK → Prop := fun tl H Q =>
  tl (fun cls d H' => (cls = .ref (He.ga K "Contradiction") ∧ d = none ∧ ∀ H2 p, Same H' H2 → SqT K H2 p [.str "contradiction"] → Q (.ref p) H2)) H
    fun _ H' => [V.str "none"].length ≤ sizeLine ∧ ∀ p, H' p = none → Q (.ref p) (upd H' p (.tup [.str "none"]))
/-- what the suite asks -/
def tsErr (K : PySem.W.Frag) (a : Addr) (cls : Value) (d : Option Addr) : TS := fun D σ H => (∃ x0 x2 x3, σ = [x0, some (.ref a), x2, x3]) ∧
  ((cls = .ref (He.ga K "Contradiction") ∧ d = none ∧ ∀ H2 p, Same H H2 → SqT K H2 p [.str "contradiction"] → D.rt (.ref p) H2))
theorem pss_by {X : Cx} {st : List Stmt} {t t' : TS} (h : PSs X st t) (k : ∀ D σ H, t' D σ H → t D σ H) : PSs X st t' := ⟨fun pins s σ H D I hw => h.run pins s σ H D I (k D σ H hw)⟩
section
variable {P : Program} {w : World} {K : PySem.W.Frag} {mg : Str → Option Value} {base : Heap} (T : Tx K mg) {N0 : List Str} {ql0 : Str} {sc0 : Scope} {ad0 : Addr} {cdv0 : Value} {A0 : Around} {outer0 : List Env} {s0 : Shared} {H0 : Hp} {E1 : XK}
include T
theorem err_gives {cdg : Value} {q : Str} : LamX.GivesTo (cxOf CX0 P w K mg base N0 ql0 sc0 ad0 cdv0 A0 outer0 s0 H0 E1) N_law_error "_law_error" (defScope s_law_error) (a_law_error K) cdg (defBody s_law_error) "_law_call" q (TTErr K) := by
  intro f c' s H Q tl act hc h
  refine ⟨_, pss_cons (ps_try_as (X := (cxOf CX0 P w K mg base N_law_error "_law_error" (defScope s_law_error) (a_law_error K) cdg (cxOf CX0 P w K mg base N0 ql0 sc0 ad0 cdv0 A0 outer0 s0 H0 E1).A (cxOf CX0 P w K mg base N0 ql0 sc0 ad0 cdv0 A0 outer0 s0 H0 E1).stack s H E0).nox) (i := 1) (ts := tsErr K) (c := .ref (He.ga K "TradeError"))
      (tb := fun W D σ H => ∃ Ech : XK, (∀ cls d σ' H', σ'.length = 4 → Ech cls d H' → W cls d σ' H') ∧ σ[0]? = some (some (.ref f)) ∧ H c' = some (LamX.CodeO c' q) ∧ tl Ech H fun _ H' => D.nx σ H')
      rfl rfl sc_law_error.nd rfl rfl ⟨rfl, by decide, .inl T.g_TradeError⟩ LamX.takes0 ?hb ?hs) (pss_one (ps_ret (pe_tup (pa_cons pe_str pa_nil)))), ?_⟩
  case hs =>
    intro a oe cls d pn hz hf
    refine pss_by (pss_cons (ps_set (i := 2) sc_law_error.nd rfl (Or.inl rfl) (pe_lst (pa_cons (pe_callB (call_isX (X := errCx P w K mg base cdg _ _ s H) hz hf) (by rfl) T.n_isinstance (by decide +kernel) (pa_cons (pv 1) (pa_cons (pe_cC T.g_Contradiction) pa_nil))) (pa_cons (pe_callB (call_isX (X := errCx P w K mg base cdg _ _ s H) hz hf) (by rfl) T.n_isinstance (by decide +kernel) (pa_cons (pv 1) (pa_cons (pe_cC T.g_InvalidNumber) pa_nil))) (pa_cons (pe_callB (call_isX (X := errCx P w K mg base cdg _ _ s H) hz hf) (by rfl) T.n_isinstance (by decide +kernel) (pa_cons (pv 1) (pa_cons (pe_cC T.g_InvalidOffer) pa_nil))) pa_nil))))) (pss_cons (ps_expr (pe_bm PySem.F.plainAttrs_list PySem.F.slot_list_extend PySem.F.type_list_extend mt_extend (pv 2) (pa_cons (pe_lst (pa_cons (pe_callB (call_isX (X := errCx P w K mg base cdg _ _ s H) hz hf) (by rfl) T.n_isinstance (by decide +kernel) (pa_cons (pv 1) (pa_cons (pe_cC T.g_InvalidStep) pa_nil))) (pa_cons (pe_callB (call_isX (X := errCx P w K mg base cdg _ _ s H) hz hf) (by rfl) T.n_isinstance (by decide +kernel) (pa_cons (pv 1) (pa_cons (pe_cC T.g_TooGenerous) pa_nil))) (pa_cons (pe_callB (call_isX (X := errCx P w K mg base cdg _ _ s H) hz hf) (by rfl) T.n_isinstance (by decide +kernel) (pa_cons (pv 1) (pa_cons (pe_cC T.g_UnknownKind) pa_nil))) pa_nil)))) pa_nil))) (pss_cons (ps_if (PW.pt (pw_or (pt_cmpR op_ne (pe_bm PySem.F.plainAttrs_list PySem.F.slot_list_count PySem.F.type_list_count mt_countV (pv 2) (pa_cons pe_bl pa_nil)) pe_int (nomark _)) (pw_or1 (pt_not (pt_val (pe_callB (call_isX (X := errCx P w K mg base cdg _ _ s H) hz hf) (by rfl) T.n_isinstance (by decide +kernel) (pa_cons (pv 1) (pa_cons (pe_bltn (v := .ty "ValueError") (u := .type "ValueError") (by rfl) T.n_ValueError (by decide +kernel) rfl) pa_nil)))))))) (pss_one (ps_ret (pe_tup (pa_cons pe_str pa_nil)))) pss_nil) (pss_cons (ps_set (i := 3) sc_law_error.nd rfl (Or.inl rfl) (pe_ix ix_list (pe_lst (pa_cons pe_str (pa_cons pe_str (pa_cons pe_str (pa_cons pe_str (pa_cons pe_str (pa_cons pe_str pa_nil))))))) (pe_bm PySem.F.plainAttrs_list PySem.F.slot_list_index PySem.F.type_list_index mt_index (pv 2) (pa_cons pe_bl pa_nil)) (fun _ _ => rfl))) (pss_one (ps_ret (pe_ifExp (pt_cmpR op_in_seq (pv 3) (pe_tup (pa_cons pe_str (pa_cons pe_str pa_nil))) rfl) (pe_tup (pa_cons (pv 3) (pa_cons (pe_xf (X := errCx P w K mg base cdg _ _ s H) T.l_InvalidOffer.2 T.x_InvalidOffer.idx hz hf (pv 1)) pa_nil))) (pe_tup (pa_cons (pv 3) pa_nil))))))))) ?_
    rintro D σ H1 ⟨⟨x0, x2, x3, rfl⟩, hw⟩
    rcases hw with ⟨rfl, rfl, k⟩
    · skip
      have Q := T.q_Contradiction
      have L := T.l_Contradiction.1
      refine ⟨_, rfl, _, _, _, true, rfl, L, .inl rfl, rfl, fun u r => r, (Q.own "Contradiction" (by decide)).trans (by decide +kernel), ?_⟩
      refine ⟨_, rfl, _, _, _, false, rfl, L, .inl rfl, rfl, fun u r => r, (Q.own "InvalidNumber" (by decide)).trans (by decide +kernel), ?_⟩
      refine ⟨_, rfl, _, _, _, false, rfl, L, .inl rfl, rfl, fun u r => r, (Q.own "InvalidOffer" (by decide)).trans (by decide +kernel), ?_⟩
      refine ⟨by show 3 ≤ sizeLine; decide, fun L1 m1 => ?_⟩
      refine ⟨_, rfl, .inl ⟨rfl, _, SqL.of upd_same⟩, ?_⟩
      refine ⟨_, rfl, _, _, _, false, rfl, L, .inl rfl, rfl, fun u r => r, (Q.own "InvalidStep" (by decide)).trans (by decide +kernel), ?_⟩
      refine ⟨_, rfl, _, _, _, false, rfl, L, .inl rfl, rfl, fun u r => r, (Q.own "TooGenerous" (by decide)).trans (by decide +kernel), ?_⟩
      refine ⟨_, rfl, _, _, _, false, rfl, L, .inl rfl, rfl, fun u r => r, (Q.own "UnknownKind" (by decide)).trans (by decide +kernel), ?_⟩
      refine ⟨by show 3 ≤ sizeLine; decide, fun L2 m2 => ⟨L1, L2, _, _, rfl, rfl, upd_old upd_same m2, upd_same, by show 3 + 3 ≤ sizeLine; decide, ?_⟩⟩
      have s3 : Same H1 (upd (upd (upd H1 L1 (.lst [.bl true, .bl false, .bl false])) L2 (.lst [.bl false, .bl false, .bl false])) L1 (.lst ([.bl true, .bl false, .bl false] ++ [.bl false, .bl false, .bl false]))) := same_mut ((same_new m1).trans (same_new m2)) m1
      have e3 : (upd (upd (upd H1 L1 (.lst [.bl true, .bl false, .bl false])) L2 (.lst [.bl false, .bl false, .bl false])) L1 (.lst ([.bl true, .bl false, .bl false] ++ [.bl false, .bl false, .bl false]))) L1 = some (.lst [.bl true, .bl false, .bl false, .bl false, .bl false, .bl false]) := upd_same
      dsimp only
      generalize upd (upd (upd H1 L1 (.lst [.bl true, .bl false, .bl false])) L2 (.lst [.bl false, .bl false, .bl false])) L1 (.lst ([.bl true, .bl false, .bl false] ++ [.bl false, .bl false, .bl false])) = H3 at s3 e3
      refine ⟨_, rfl, .inl ⟨rfl, _, SqL.of e3⟩, L1, _, .bl true, rfl, rfl, SqL.of e3, rfl, rfl, rfl, _, rfl, ite2 (fun z => absurd z (by decide +kernel)) (fun _ => ?_)⟩
      refine ⟨_, rfl, _, _, _, true, rfl, L, .inl rfl, rfl, fun u r => r, Q.val, true, rfl, iteF ?_⟩
      refine ⟨by show 6 ≤ sizeLine; decide, fun L3 m3 => ?_⟩
      have s4 : Same H3 (upd H3 L3 (.lst [.str "contradiction", .str "number", .str "offer", .str "step", .str "generous", .str "kind"])) := same_new m3
      have e4 : (upd H3 L3 (.lst [.str "contradiction", .str "number", .str "offer", .str "step", .str "generous", .str "kind"])) L3 = some (.lst [.str "contradiction", .str "number", .str "offer", .str "step", .str "generous", .str "kind"]) := upd_same
      generalize upd H3 L3 (.lst [.str "contradiction", .str "number", .str "offer", .str "step", .str "generous", .str "kind"]) = H4 at s4 e4
      refine ⟨_, rfl, .inl ⟨rfl, _, SqL.of (s4 _ _ e3)⟩, L1, _, .bl true, 0, .bl true, rfl, rfl, SqL.of (s4 _ _ e3), rfl, rfl, rfl, rfl, ?_, L3, _, _, _, rfl, rfl, SqL.of e4, at_of (j := 0) rfl rfl, ?_⟩
      · intro m z' hm hz'
        exact absurd hm (Nat.not_lt_zero _)
      refine ⟨_, rfl, by show 2 ≤ sizeLine; decide, fun p5 m5 => ⟨p5, _, rfl, .inr (SqT.of upd_same), rfl, rfl, _, rfl, ?_⟩⟩
      have s5 := s3.trans (s4.trans (same_new (u := .tup [.str "offer", .str "step"]) m5))
      refine ite2 (fun z => absurd z (by decide +kernel)) (fun _ => ?_)
      exact ⟨_, rfl, by show 1 ≤ sizeLine; decide, fun p6 m6 => k _ p6 (s5.trans (same_new m6)) (SqT.of upd_same)⟩
  case hb =>
    intro W pn xe tk _
    refine ⟨fun pins s' σ H' D I h' => ?_⟩
    obtain ⟨Ech, hW, h1, h2, h3⟩ := h'
    exact (pss_one (ps_expr (act _ pn xe Ech _ _ (takes_len (n := 4) rfl tk) (fun cls d σ' H' e hl => hW cls d σ' H' hl e)))).run pins s' σ H' D I ⟨h1, h2, h3⟩
  · refine ⟨_, fun cls d σ' H' hl e => ⟨true, ?_, fun _ a _ => ⟨?_, e⟩, fun z => nomatch z⟩, rfl, hc, h⟩
    · rcases e with ⟨rfl, _⟩
      · exact PySem.W.exm_ref T.x_TradeError.base T.l_TradeError.1.hd T.x_TradeError.ty T.x_Contradiction.trade
    · match σ', hl with
      | [y0, y1, y2, y3], _ => exact ⟨y0, y2, y3, rfl⟩
end
end EB

namespace EB
open PySem PySem.Spec PyProof.Rows L2
theorem strsD_lay : ∀ ks : List Str, (∀ k ∈ ks, PyData.strOk k = true) → PyData.canLayAll0 (ks.map .str) = true ∧ PyData.depthAll (ks.map .str) ≤ 1
  | [], _ => ⟨rfl, by simp [PyData.depthAll]⟩
  | k :: ks, q => by
    have h := strsD_lay ks fun z m => q z (List.mem_cons_of_mem _ m)
    rw [List.map_cons]
    refine ⟨by rw [PyData.canLayAll0, h.1, PyData.canLay0, q k (List.mem_cons_self ..)]; rfl, ?_⟩
    simp only [PyData.depthAll, PyData.depth]
    omega
theorem strsD_shaped {ks : List Str} (q : ∀ k ∈ ks, PyData.strOk k = true) : SeqAt.shaped (PyData.list (ks.map .str)) = true := by
  have h := strsD_lay ks q
  unfold SeqAt.shaped
  rw [Bool.and_eq_true, decide_eq_true_eq]
  refine ⟨by rw [PyData.canLay0]; exact h.1, ?_⟩
  rw [PyData.depth]
  omega
theorem strsD_eqv (ks : List Str) : PyData.eqv (PyData.list (ks.map .str)) (.list []) = decide (ks = []) := by
  cases ks with
  | nil => rfl
  | cons k ks =>
    rw [decide_eq_false (by simp)]
    simp [PyData.eqv, PyData.eqvAll]
theorem strsD_dp {K : PySem.W.Frag} {H : Hp} : ∀ ks : List Str, DpAll K H (ks.map V.str) (ks.map PyData.str)
  | [] => .nil
  | k :: ks => .cons (.str k) (strsD_dp ks)
/-- a sign of a text that is data is data -/
theorem strOk_sign {z : Str} {c : Nat} (h : PyData.strOk z = true) (m : c ∈ z.cps.toList) : PyData.strOk ⟨#[c]⟩ = true := by
  unfold PyData.strOk at h ⊢
  have h2 : z.cps.toList.all (fun c => decide (c < 1114112)) = true := by
    rw [Array.all_toList]
    simpa using h
  have h3 := List.all_eq_true.mp h2 c m
  simpa using h3
/-! ### trades as data -/
def trD (t : Tr) : PyData := .tuple [.str t.k, .int t.l, .int t.n]
theorem trs_lay : ∀ ts : List Tr, (∀ t ∈ ts, PyData.strOk t.k = true) → PyData.canLayAll0 (ts.map trD) = true ∧ PyData.depthAll (ts.map trD) ≤ 4
  | [], _ => ⟨rfl, by simp [PyData.depthAll]⟩
  | t :: ts, q => by
    have h := trs_lay ts fun z m => q z (List.mem_cons_of_mem _ m)
    have ht := q t (List.mem_cons_self ..)
    rw [List.map_cons]
    refine ⟨by simp only [PyData.canLayAll0, trD, PyData.canLay0, h.1, ht, Bool.and_true, Bool.true_and], ?_⟩
    simp only [PyData.depthAll, trD, PyData.depth]
    omega
theorem trs_shaped {ts : List Tr} (q : ∀ t ∈ ts, PyData.strOk t.k = true) : SeqAt.shaped (PyData.tuple (ts.map trD)) = true := by
  have h := trs_lay ts q
  unfold SeqAt.shaped
  rw [Bool.and_eq_true, decide_eq_true_eq]
  refine ⟨by rw [PyData.canLay0]; exact h.1, ?_⟩
  rw [PyData.depth]
  omega
theorem trs_eqv (ts : List Tr) : PyData.eqv (PyData.tuple (ts.map trD)) (.tuple []) = decide (ts = []) := by
  cases ts with
  | nil => rfl
  | cons k ks =>
    rw [decide_eq_false (by simp)]
    simp [PyData.eqv, PyData.eqvAll]
theorem trs_dpl {K : PySem.W.Frag} {H : Hp} : ∀ {ps : List Addr} {ts : List Tr}, ps.length = ts.length → (∀ (i : Nat) (p : Addr) (t : Tr), ps[i]? = some p → ts[i]? = some t → SqT K H p t.vs) → DpAll K H (ps.map V.ref) (ts.map trD)
  | [], [], _, _ => .nil
  | [], _ :: _, h, _ => nomatch h
  | _ :: _, [], h, _ => nomatch h
  | a :: ps, t :: ts, h, k => .cons (.tup (k 0 a t rfl rfl) (.cons (.str _) (.cons (.int _) (.cons (.int _) .nil)))) (trs_dpl (Nat.succ.inj h) fun j b u e1 e2 => k (j + 1) b u e1 e2)
theorem TrAt.dp {K : PySem.W.Frag} {H : Hp} {a : Addr} {ts : List Tr} (h : TrAt K H a ts) : Dp K H (.ref a) (.tuple (ts.map trD)) := by
  obtain ⟨ps, h1, h2, h3⟩ := h.ex
  exact .tup h1 (trs_dpl h2 h3)
theorem shapedT : SeqAt.shaped (PyData.tuple []) = true := by decide +kernel
/-! ### what the law expects -/
def dueV (ts : List Tr) : List V := match badOf ts with
  | some i => [.str "offer", .int (i : Nat)]
  | none => if 9 * 27720 < 10 * worth ts then [.str "generous"] else [.str "none"]
theorem labelOk_law {z : Str} : labelOk z = (if (if decide ((1 : Int) ≤ z.length) = true then decide ((z.length : Int) ≤ 8) else false) = true then decide (z.cps.toList.filter (fun c => !signOk c) = []) else false) := by
  unfold labelOk
  generalize (if decide ((1 : Int) ≤ z.length) = true then decide ((z.length : Int) ≤ 8) else false) = b
  cases b with
  | false => rfl
  | true =>
    show (z.cps.toList.map signOk).all id = decide (z.cps.toList.filter (fun c => !signOk c) = [])
    generalize z.cps.toList = l
    induction l with
    | nil => rfl
    | cons c l ih =>
      rw [List.map_cons, List.all_cons, ih, List.filter_cons]
      cases signOk c with
      | true => rfl
      | false => rfl
theorem badTr_cons {seen : List Str} {i : Nat} {t : Tr} {ts : List Tr} (h : ¬ (i = 3 ∨ t.k ∈ seen ∨ trOk t = false)) : badTr seen i (t :: ts) = badTr (seen ++ [t.k]) (i + 1) ts := by
  conv => lhs; unfold badTr
  rw [if_neg h]
theorem badTr_hit {seen : List Str} {i : Nat} {t : Tr} {ts : List Tr} (h : i = 3 ∨ t.k ∈ seen ∨ trOk t = false) : badTr seen i (t :: ts) = some i := by
  unfold badTr
  rw [if_pos h]
theorem trOk_ok {t : Tr} (h : trOk t = true) : t.ok := by
  unfold trOk at h
  split at h
  · split at h
    · rename_i h2
      have h2 := numOk_iff.mp h2
      have h3 := numOk_iff.mp h
      exact ⟨h2.1, h2.2, h3.1, h3.2⟩
    · cases h
  · cases h
theorem badTr_none : ∀ {ts : List Tr} {seen : List Str} {i : Nat}, badTr seen i ts = none → i ≤ 3 → i + ts.length ≤ 3 ∧ (∀ t ∈ ts, trOk t = true) ∧ (ts.map Tr.k).Nodup ∧ ∀ t ∈ ts, t.k ∉ seen
  | [], seen, i, _, hi => ⟨by simpa using hi, fun t h => (by cases h), List.nodup_nil, fun t h => (by cases h)⟩
  | t :: ts, seen, i, h, hi => by
    by_cases hc : i = 3 ∨ t.k ∈ seen ∨ trOk t = false
    · rw [badTr_hit hc] at h
      cases h
    rw [badTr_cons hc] at h
    have hc1 : i ≠ 3 := fun z => hc (.inl z)
    have hc2 : t.k ∉ seen := fun z => hc (.inr (.inl z))
    have hc3 : trOk t = true := by
      cases q : trOk t with
      | true => rfl
      | false => exact absurd (.inr (.inr q)) hc
    obtain ⟨a, b, c, d⟩ := badTr_none h (by omega)
    refine ⟨by rw [List.length_cons]; omega, fun u hu => ?_, ?_, fun u hu => ?_⟩
    · rcases List.mem_cons.mp hu with rfl | hu
      · exact hc3
      · exact b u hu
    · rw [List.map_cons, List.nodup_cons]
      refine ⟨fun z => ?_, c⟩
      obtain ⟨u, hu, e⟩ := List.mem_map.mp z
      exact d u hu (by rw [e]; exact List.mem_append.mpr (.inr (List.mem_singleton.mpr rfl)))
    · rcases List.mem_cons.mp hu with rfl | hu
      · exact hc2
      · exact fun z => d u hu (List.mem_append.mpr (.inl z))
theorem trOk_kind {t : Tr} (h : trOk t = true) : kindOk t.k = true := by
  unfold trOk at h
  split at h
  · assumption
  · cases h
section
variable {P : Program} {w : World} {K : PySem.W.Frag} {mg : Str → Option Value} {base : Heap} (T : Tx K mg)
include T
end
end EB

namespace EB
open PySem PySem.Spec PyProof.Rows L2
theorem pe_bmK {X : Cx} {K : PySem.W.Frag} {o e : Expr} {es : List Expr} {to : TE} {t : TA} {name : Str} {apos cpos : Pos} {T id : String} {r : V → List V → Hp → VK → Prop} (h : X.K = K) (pa : PlainAttrs T) (slot : Slot T name id) (hty : typeOf (.builtin id) = pure (.type "method_descriptor")) (hm : MtR X id r) (ho : PE X o to) (ha : PA X (e :: es) t)
    (hbase : attributeBase o name X.env (eval o X.env) = eval o X.env := by rfl)
    (hfew : ((backTo cpos (starEach (e :: es) X.env)).all (fun x => !x.1) && (backToKw cpos (keywordEach [] X.env)).all (fun x => x.1.isSome)
      && decide ((e :: es).length + ([] : List Keyword).length + (if ([] : List Keyword).isEmpty then 0 else 1) < 30)) = true := by rfl)
    (hline : (apos.endLine == cpos.line) = true := by rfl) (hs : starEach (e :: es) X.env = (false, eval e X.env) :: starEach es X.env := by rfl) (hplain : (backTo cpos (starEach es X.env)).any (·.1) = false := by rfl) :
    PE X (.Call (.Attribute o name apos) (e :: es) [] cpos) (tBM K T r to t) := h ▸ pe_bm pa slot hty hm ho ha hbase hfew hline hs hplain
section
variable {P : Program} {w : World} {K : PySem.W.Frag} {mg : Str → Option Value} {base : Heap} (T : Tx K mg) {N0 : List Str} {ql0 : Str} {sc0 : Scope} {ad0 c Pt : Addr} {A0 : Around} {outer0 : List Env} {s0 : Shared} {H0 : Hp} {E1 : XK}
include T
theorem b_law_error : Binds K T.fd_law_error ["_law_call"] [] := bnd0 T.F_law_error sc_law_error rfl (fun _ _ _ _ _ _ us hl => match us, hl with | [_], _ => rfl)
abbrev lawCx (P : Program) (w : World) (K : PySem.W.Frag) (mg : Str → Option Value) (base : Heap) (N0 : List Str) (ql0 : Str) (sc0 : Scope) (ad0 c : Addr) (A0 : Around) (outer0 : List Env) (s0 : Shared) (H0 : Hp) (E1 : XK) : Cx := (cxOf CX0 P w K mg base N0 ql0 sc0 ad0 (.ref c) A0 outer0 s0 H0 E1).nox
theorem pe_err {k : Nat} {t : XK → TE} {params : Arguments} {body : Expr} {scope : Scope} {p lpos pos : Pos} (TB : LamX.TabB base mg c Pt) (hr : Room (k + 2) (lawCx P w K mg base N0 ql0 sc0 ad0 c A0 outer0 s0 H0 E1).A)
    (L : LamX.LamS sc0 scope) (hdef : defaultsOf params (lawCx P w K mg base N0 ql0 sc0 ad0 c A0 outer0 s0 H0 E1).env = ([], []))
    (hbind : ∀ (q : Str) (cl : List (Str × Addr)) (pm cv ctv : Value), bindArgs (PySem.W.kla_fn "<lambda>" q params body scope cl pm cv ctv) ⟨[], []⟩ = pure [])
    (hbody : ∀ (A : Around) (outer : List Env) (s : Shared) (H : Hp) (E : XK) (f c' : Addr), Room k (A.deeper (LamX.lamEnv (lawCx P w K mg base N0 ql0 sc0 ad0 c A0 outer0 s0 H0 E1) scope s.heap.objs.size f c')) → PE (LamX.lamCx (lawCx P w K mg base N0 ql0 sc0 ad0 c A0 outer0 s0 H0 E1) A outer s H E scope f c') body (t E))
    (hgl : Gl (lawCx P w K mg base N0 ql0 sc0 ad0 c A0 outer0 s0 H0 E1) "_law_error" := by rfl) :
    PE (lawCx P w K mg base N0 ql0 sc0 ad0 c A0 outer0 s0 H0 E1) (.Call (.Name "_law_error" p) [.Lambda params body scope lpos] [] pos) (LamX.tLam [(Pt, (lawCx P w K mg base N0 ql0 sc0 ad0 c A0 outer0 s0 H0 E1).env.qual ++ "<lambda>")] (TTErr K) t) := by
  obtain ⟨oc, od, dV, kV, doc, pm, an, cdv, ct, osl, e, lk, hcd, _, _⟩ := T.F_law_error.ex
  have b := b_law_error T
  rw [e] at b lk
  exact LamX.pe_lamcall (T := [(Pt, (lawCx P w K mg base N0 ql0 sc0 ad0 c A0 outer0 s0 H0 E1).env.qual ++ "<lambda>")]) hgl T.g_law_error T.F_law_error.kp lk hcd b sc_law_error rfl (.inl rfl) (err_gives T (N0 := N0) (H0 := H0) (E1 := E1)) TB rfl (List.mem_cons_self ..) (fun q hq _ => by cases List.mem_singleton.mp hq; rfl) hr L hdef hbind hbody
end
end EB

namespace EB
open PySem PySem.Spec PyProof.Rows L2
/-! ### the draws of a law that makes lambdas: the table of its code stands besides -/
theorem tabS_ne {H H' : Hp} {P : Addr} {q : Str} (t : LamX.TabS H P q) (k : ∀ b o, H b = some o → (∀ xs, o ≠ .lst xs) → H' b = some o) : LamX.TabS H' P q := by
  obtain ⟨ps, h1, h2, h3⟩ := t
  refine ⟨ps, k _ _ h1 (fun xs z => by cases z), h2, fun pos cv e => ?_⟩
  obtain ⟨c, e1, e2⟩ := h3 pos cv e
  exact ⟨c, e1, k _ _ e2 (fun xs z => by cases z)⟩
structure LT (H0 H : Hp) (h l P : Addr) (q : Str) : Prop where
  hs : HS H0 H h l
  tb : LamX.TabS H P q
  nt : NoT H0
theorem LT.hid {H0 H : Hp} {h l P : Addr} {q : Str} (x : LT H0 H h l P q) : LamX.TabS (hid2 H h l) P q := by
  obtain ⟨m, i, ns, e1, e2, _⟩ := x.hs.ex
  refine tabS_ne x.tb fun b o e n => ?_
  rw [hid2_ne (fun z => n _ (by rw [z, e1] at e; exact (Option.some.inj e).symm)) (fun z => n _ (by rw [z, e2] at e; exact (Option.some.inj e).symm))]
  exact e
theorem LT.step {H0 H H' : Hp} {h l P : Addr} {q : Str} (x : LT H0 H h l P q) (y : HS (hid2 H h l) H' h l) : LT H0 H' h l P q := ⟨x.hs.down y, x.hid.ext y.same, x.nt⟩
theorem LT.grow {H0 H H' : Hp} {h l P : Addr} {q : Str} (x : LT H0 H h l P q) (s : Same H H') : LT H0 H' h l P q := ⟨x.hs.grow s, x.tb.ext s, x.nt⟩
theorem LT.new {H0 H : Hp} {h l P b : Addr} {q : Str} {o : HO} (x : LT H0 H h l P q) (n : H b = none) : LT H0 (upd H b o) h l P q := x.grow (same_new n)
theorem LT.ext {H0 H H' : Hp} {h l P : Addr} {q : Str} (x : LT H0 H h l P q) (e : LamX.ExtN H H') (t : LamX.TabS H' P q) : LT H0 H' h l P q := by
  obtain ⟨m, i, ns, e1, e2, r⟩ := x.hs.ex
  refine ⟨⟨fun b o z => e b o (x.hs.same b o z) fun ps y => x.nt b ps (by rw [z, y]), x.hs.nh, x.hs.nl, x.hs.ne, m, i, ns, e _ _ e1 (fun ps z => by cases z), e _ _ e2 (fun ps z => by cases z), r⟩, t, x.nt⟩
theorem LT.mut {H0 H : Hp} {h l P R : Addr} {q : Str} {xs : List V} {o : HO} (x : LT H0 H h l P q) (e : H R = some (.lst xs)) (n : H0 R = none) (n1 : R ≠ h) (n2 : R ≠ l) : LT H0 (upd H R o) h l P q := by
  refine ⟨x.hs.mut n n1 n2, tabS_ne x.tb fun b u z k => ?_, x.nt⟩
  rw [upd_ne (fun y => k xs (by rw [y, e] at z; exact (Option.some.inj z).symm))]
  exact z
theorem sqT_nt {K : PySem.W.Frag} {H : Hp} {a : Addr} {xs : List V} (h : SqT K H a xs) : SqT K (nt H) a xs := by
  rcases h with (h | ⟨o, h⟩) | h
  · exact .inl (.inl (nt_at h fun ps z => by cases z))
  · exact .inl (.inr ⟨o, nt_at h fun ps z => by cases z⟩)
  · exact .inr h
theorem sqT_ext {K : PySem.W.Frag} {H H' : Hp} {a : Addr} {xs : List V} (e : LamX.ExtN H H') (h : SqT K H a xs) : SqT K H' a xs := Same.tup (nt_ext e) (sqT_nt h)
theorem TrAt.ext {K : PySem.W.Frag} {H H' : Hp} {a : Addr} {ts : List Tr} (e : LamX.ExtN H H') (h : TrAt K H a ts) : TrAt K H' a ts := by
  obtain ⟨ps, h1, h2, h3⟩ := h.ex
  exact ⟨ps, sqT_ext e h1, h2, fun i p t a b => sqT_ext e (h3 i p t a b)⟩
/-- the same, a list that is no tuple set anew -/
theorem sqT_mut {K : PySem.W.Frag} {H : Hp} {R a : Addr} {ys xs : List V} {o : HO} (e : H R = some (.lst ys)) (h : SqT K H a xs) : SqT K (upd H R o) a xs := by
  rcases h with (h | ⟨u, h⟩) | h
  · exact .inl (.inl (by rw [upd_ne (ne_of h e (by intro z; cases z))]; exact h))
  · exact .inl (.inr ⟨u, by rw [upd_ne (ne_of h e (by intro z; cases z))]; exact h⟩)
  · exact .inr h
theorem TrAt.mut {K : PySem.W.Frag} {H : Hp} {R a : Addr} {ys : List V} {ts : List Tr} {o : HO} (e : H R = some (.lst ys)) (h : TrAt K H a ts) : TrAt K (upd H R o) a ts := by
  obtain ⟨ps, h1, h2, h3⟩ := h.ex
  exact ⟨ps, sqT_mut e h1, h2, fun i p t a b => sqT_mut e (h3 i p t a b)⟩
theorem sqL_mut {K : PySem.W.Frag} {H : Hp} {R a : Addr} {xs : List V} {o : HO} (n : a ≠ R) (h : SqL K H a xs) : SqL K (upd H R o) a xs := by
  rcases h with (h | ⟨u, h⟩) | h
  · exact .inl (.inl (by rw [upd_ne n]; exact h))
  · exact .inl (.inr ⟨u, by rw [upd_ne n]; exact h⟩)
  · exact .inr h
theorem OfNew.mut {K : PySem.W.Frag} {H H1 : Hp} {R x : Addr} {ys : List V} {ts : List Tr} {v : HO} (o : OfNew K H H1 x ts) (s : Same H H1) (e : H R = some (.lst ys)) : OfAt K (upd H1 R v) x ts := by
  obtain ⟨dx, t, p, q, f, g, e1, e2, e3, e4, e5, e6, n1, n2, n3⟩ := o.ex
  have e' := s _ _ e
  exact ⟨dx, t, p, q, f, g, by rw [upd_ne (ne_of e1 e' (by intro z; cases z))]; exact e1, e2.mut e', sqT_mut e' e3, sqL_mut (ne_of_none e n1).symm e4, sqL_mut (ne_of_none e n2).symm e5, sqL_mut (ne_of_none e n3).symm e6⟩
theorem tabs1 {P : Addr} {q : Str} {H : Hp} (t : LamX.TabS H P q) : LamX.Tabs [(P, q)] H := fun p hp => by
  cases List.mem_singleton.mp hp
  exact t
theorem tabs1_of {P : Addr} {q : Str} {H : Hp} (t : LamX.Tabs [(P, q)] H) : LamX.TabS H P q := t (P, q) (List.mem_cons_self ..)
end EB

namespace EB
open PySem PySem.Spec PyProof.Rows L2
theorem op_eqDK {X : Cx} {K : PySem.W.Frag} (h : X.K = K) (hu : X.A.units + 64 < cLine) : OpR X (compareOp .Eq) (rEqD K) := h ▸ op_eqD hu
theorem op_neDK {X : Cx} {K : PySem.W.Frag} (h : X.K = K) (hu : X.A.units + 64 < cLine) : OpR X (compareOp .NotEq) (rNeD K) := h ▸ op_neD hu
section
variable {P : Program} {w : World} {K : PySem.W.Frag} {mg : Str → Option Value} {base : Heap} (T : Tx K mg) {N0 : List Str} {ql0 : Str} {sc0 : Scope} {ad0 c Pt : Addr} {A0 : Around} {outer0 : List Env} {s0 : Shared} {H0 : Hp} {E1 : XK}
include T
theorem pe_lamE {k : Nat} {params : Arguments} {body : Expr} {scope : Scope} {pos : Pos} {t : XK → TE} (df : List (Str × Int)) (TB : LamX.TabB base mg c Pt) (L : LamO N0 sc0 scope) (D : DfEv (lawCx P w K mg base N0 ql0 sc0 ad0 c A0 outer0 s0 H0 E1) params df) (B : BindL params body scope df)
    (run : ∀ (f : Addr) (A : Around) (outer : List Env) (s : Shared) (G : Hp) (E : XK) (c1 : Addr), Room k (A.deeper (LamX.lamEnv (lawCx P w K mg base N0 ql0 sc0 ad0 c A0 outer0 s0 H0 E1) scope s.heap.objs.size f c1)) → PE (LamX.lamCx (lawCx P w K mg base N0 ql0 sc0 ad0 c A0 outer0 s0 H0 E1) A outer s G E scope f c1) body (t E)) :
    PE (lawCx P w K mg base N0 ql0 sc0 ad0 c A0 outer0 s0 H0 E1) (.Lambda params body scope pos) (tLamV (lawCx P w K mg base N0 ql0 sc0 ad0 c A0 outer0 s0 H0 E1) k [(Pt, (lawCx P w K mg base N0 ql0 sc0 ad0 c A0 outer0 s0 H0 E1).env.qual ++ "<lambda>")] t) :=
  pe_lamV df TB rfl (List.mem_cons_self ..) (fun q hq _ => by cases List.mem_singleton.mp hq; rfl) L D B run
/-- _law_error(e) in a block of the law -/
theorem pe_errK {k : Nat} {pins : List (Addr × Obj)} {σ : L2.St} {s : Shared} {H : Hp} {scope : Scope} {ce : Env} {fp : List Addr} {e : Expr} {te : TE} {p pos : Pos} (hr : Room (k + 2) (lawCx P w K mg base N0 ql0 sc0 ad0 c A0 outer0 s0 H0 E1).A) (I : Inv (lawCx P w K mg base N0 ql0 sc0 ad0 c A0 outer0 s0 H0 E1) pins σ H s) (F : ∀ b ∈ fp, FpOk (lawCx P w K mg base N0 ql0 sc0 ad0 c A0 outer0 s0 H0 E1) pins H b)
    (he : PE ((lawCx P w K mg base N0 ql0 sc0 ad0 c A0 outer0 s0 H0 E1).blk s H scope ce fp) e te) (hgl : Gl ((lawCx P w K mg base N0 ql0 sc0 ad0 c A0 outer0 s0 H0 E1).blk s H scope ce fp) "_law_error" := by rfl) (hse : starEach [e] ce = [(false, eval e ce)] := by rfl) :
    PE ((lawCx P w K mg base N0 ql0 sc0 ad0 c A0 outer0 s0 H0 E1).blk s H scope ce fp) (.Call (.Name "_law_error" p) [e] [] pos) (tKept (lawCx P w K mg base N0 ql0 sc0 ad0 c A0 outer0 s0 H0 E1) k (TTErr K) σ te) := by
  obtain ⟨oc, od, dV, kV, doc, pm, an, cdv, ct, osl, e1, lk, hcd, _, _⟩ := T.F_law_error.ex
  have b := b_law_error T
  rw [e1] at b lk
  exact pe_kept (X := lawCx P w K mg base N0 ql0 sc0 ad0 c A0 outer0 s0 H0 E1) (fun pins1 σ1 H1 s1 I1 => ⟨pins, I.call' (ch := fp) I1.os I1.base I1.hok I1.bare fun b hb => let z := (F b hb).2; ⟨z.2.2.1, z.1, z.2.2.2.1, z.2.2.2.2⟩⟩) rfl rfl rfl rfl rfl rfl rfl
    hgl T.g_law_error T.F_law_error.kp lk hcd b sc_law_error rfl (.inl rfl) (err_gives T (N0 := N0) (H0 := H0) (E1 := E1)) hr he (hse := hse)
end
end EB

namespace EB
open PySem PySem.Spec PyProof.Rows L2
section
variable {X : Cx} {TT : (XK → Hp → VK → Prop) → Hp → VK → Prop} {x a : Str} {g : Addr} {k : Nat} {pg : Arguments} {bg : List Stmt} {sg : Scope} {dV kV doc pm cdv ct oc : Value} {an od : Option Addr} {osl : Array (Option Value)} {Ng : List Str} {te : TE} {e : Expr} {p pos : Pos}
/-- x(e), e a kept lambda, in the def itself that made it -/
theorem pe_keptX (hg : Gl X x) (hm : X.mg x = some (.ref g)) (hk : PySem.W.keepIn X.K (.ref g) = true)
    (lk : X.K.lookup g = some ⟨oc, od, .func (PySem.W.fnOf x x pg bg sg dV kV doc pm an cdv ct), osl⟩) (hcg : PySem.W.codeIn X.K cdv x = true) (hb : L2.Binds X.K (PySem.W.fnOf x x pg bg sg dV kV doc pm an cdv ct) [a] []) (Sg : FnScope Ng [a] sg) (hNg : Ng[0]? = some a) (hva : Vis sg a)
    (hG : LamX.GivesTo X Ng x sg g cdv bg a (X.env.qual ++ "<lambda>") TT) (hr : Room (k + 2) X.A) (he : PE X e te)
    (hdb : (x == ("__debug__" : Str)) = false := by decide) (hd : (a == ("__debug__" : Str)) = false := by decide) (hcd : (a == ("__classdict__" : Str)) = false := by decide)
    (hse : starEach [e] X.env = [(false, eval e X.env)] := by rfl) : PE X (.Call (.Name x p) [e] [] pos) (fun σ H Q => tKept X k TT σ te σ H Q) := by
  refine ⟨fun pins s σ H Q I h => ?_⟩
  refine wpAny_Call_Name_kw (ld_glob I hg hm ?_ hdb)
  refine PySem.W.callWith_K (h₀ := X.base) I.ok.mod.kin hk (thn ((pa_cons he pa_nil hse).run pos pins s σ H _ I h) fun us s1 ⟨vs, H1, I1, rv, q⟩ => ⟨I1.kIn, wpAny_call ?_⟩) hse (by rfl)
  obtain ⟨f, t, ev, ⟨params, body, scope, df, at_, L, B, run⟩, q⟩ := q
  have J := I1
  subst ev
  obtain ⟨c1, pm1, ct1, dV1, a1, a2, a3⟩ := id at_
  obtain ⟨u, hu⟩ : ∃ u, us = [u] := by
    cases rv with
    | cons _ r =>
      cases r
      exact ⟨_, rfl⟩
  subst hu
  have rc : codeAny (model X.prog X.w) X.A (.call (.ref g) ⟨[u], []⟩) (CR CX0 X.stack X.prog X.w H1 s1 Q E0) s1 := by
    refine LamX.run_ofS (N := Ng) (ps := [a]) (us := [u]) (vs := [.ref f]) lk hcg Sg hr J.env0 (hb s1 [u] J.kIn rfl) rv rfl fun hr' => ?_
    obtain ⟨ts, h1, h2⟩ := hG f c1 s1 H1 Q (fun E H' Q' => H' = H1 ∧ t E σ H' Q') (fun W pn xe E p1 p2 tk hW => by
      have z := pe_actT (CXg := CX0) (Eg := E0) (qg := x) (cdg := cdv) (g := g) (tb := t E) (p1 := p1) (p2 := p2) (E := E) (i := 0) J L B tk hW hr' (fun A outer s G c => run A outer s G E c) hNg hva hd hcd
      exact ⟨fun pins2 s2 σ2 H2 Q2 I2 h2 => z.run pins2 s2 σ2 H2 Q2 I2 ⟨h2.1, by rw [h2.2.2.1]; exact at_, h2.2.2.2⟩⟩) a2 q
    exact ⟨ts, h1.nox, h2⟩
  refine codeAny_mono rc fun r s2 q2 => ?_
  cases r with
  | error e => exact (show False from q2).elim
  | ok fl =>
    cases fl with
    | ret u => exact I1.after q2
    | next => exact False.elim q2
    | brk => exact False.elim q2
    | cont => exact False.elim q2
end
section
variable {P : Program} {w : World} {K : PySem.W.Frag} {mg : Str → Option Value} {base : Heap} (T : Tx K mg) {N0 : List Str} {ql0 : Str} {sc0 : Scope} {ad0 c Pt : Addr} {A0 : Around} {outer0 : List Env} {s0 : Shared} {H0 : Hp} {E1 : XK}
include T
theorem pe_errX {k : Nat} {e : Expr} {te : TE} {p pos : Pos} (hr : Room (k + 2) (lawCx P w K mg base N0 ql0 sc0 ad0 c A0 outer0 s0 H0 E1).A) (he : PE (lawCx P w K mg base N0 ql0 sc0 ad0 c A0 outer0 s0 H0 E1) e te)
    (hgl : Gl (lawCx P w K mg base N0 ql0 sc0 ad0 c A0 outer0 s0 H0 E1) "_law_error" := by rfl) (hse : starEach [e] (lawCx P w K mg base N0 ql0 sc0 ad0 c A0 outer0 s0 H0 E1).env = [(false, eval e (lawCx P w K mg base N0 ql0 sc0 ad0 c A0 outer0 s0 H0 E1).env)] := by rfl) :
    PE (lawCx P w K mg base N0 ql0 sc0 ad0 c A0 outer0 s0 H0 E1) (.Call (.Name "_law_error" p) [e] [] pos) (fun σ H Q => tKept (lawCx P w K mg base N0 ql0 sc0 ad0 c A0 outer0 s0 H0 E1) k (TTErr K) σ te σ H Q) := by
  obtain ⟨oc, od, dV, kV, doc, pm, an, cdv, ct, osl, e1, lk, hcd, _, _⟩ := T.F_law_error.ex
  have b := b_law_error T
  rw [e1] at b lk
  exact pe_keptX (X := lawCx P w K mg base N0 ql0 sc0 ad0 c A0 outer0 s0 H0 E1) hgl T.g_law_error T.F_law_error.kp lk hcd b sc_law_error rfl (.inl rfl) (err_gives T (N0 := N0) (H0 := H0) (E1 := E1)) hr he (hse := hse)
end
end EB

namespace EB
open PySem PySem.Spec PyProof.Rows L2
theorem obs_okN {K : PySem.W.Frag} {H : Hp} {a x dx : Addr} {ts : List Tr} {R : Hp → Prop} {E : XK} (ho : OfAt K H a ts) (hf : Fair ts) (nx : H x = none) (nd : H dx = none) (ned : dx ≠ x)
    (k : ∀ H' c lo, Same H H' → H' x = some (.ins (He.ga K "BottleObserver") dx (obf a c lo)) → CandNew K (upd H lo (.lst [])) H' c (startN ts) (early0 ts) 1 [0] → H' lo = some (.lst []) → H lo = none → R H') : spObsI K [.ref x, .ref a] (upd (upd H dx (.own x)) x (.ins (He.ga K "BottleObserver") dx [])) (fun v H2 => v = .non ∧ R H2) E := by
  have s : Same H (upd (upd H dx (.own x)) x (.ins (He.ga K "BottleObserver") dx [])) := (same_new nd).trans (same_new (by rw [upd_ne ned.symm]; exact nx))
  exact ⟨x, a, dx, H, ts, rfl, s, nx, upd_same, ho, hf, fun H' c l s' h1 h2 h3 h4 => ⟨rfl, k H' c l s' h1 h2 h3 h4⟩⟩
theorem tabS_ne2 {H H' : Hp} {P : Addr} {q : Str} (t : LamX.TabS H P q) (k : ∀ b o, H b = some o → (∀ xs, o ≠ .lst xs) → (∀ c d f, o ≠ .ins c d f) → H' b = some o) : LamX.TabS H' P q := by
  obtain ⟨ps, h1, h2, h3⟩ := t
  refine ⟨ps, k _ _ h1 (fun xs z => by cases z) (fun c d f z => by cases z), h2, fun pos cv e => ?_⟩
  obtain ⟨c, e1, e2⟩ := h3 pos cv e
  exact ⟨c, e1, k _ _ e2 (fun xs z => by cases z) (fun c d f z => by cases z)⟩
def hidM (G : Hp) (h l x lo t : Addr) : Hp := fun b => if b = h ∨ b = l ∨ b = x ∨ b = lo ∨ b = t then none else G b
theorem hidM_same {G : Hp} {h l x lo t : Addr} : Same (hidM G h l x lo t) G := fun b o e => by
  unfold hidM at e
  split at e
  · cases e
  · exact e
theorem hidM_ne {G : Hp} {h l x lo t b : Addr} (n : ¬ (b = h ∨ b = l ∨ b = x ∨ b = lo ∨ b = t)) : hidM G h l x lo t b = G b := if_neg n
theorem hidM_in {G : Hp} {h l x lo t b : Addr} (n : b = h ∨ b = l ∨ b = x ∨ b = lo ∨ b = t) : hidM G h l x lo t b = none := if_pos n
/-- what the law keeps: the draws, the observer, what it was told (es), what the law has told (fs) -/
structure St (K : PySem.W.Frag) (F G : Hp) (h l Pt : Addr) (q : Str) (x dx a c lo t : Addr) (ts : List Tr) (es fs : List En) (p : Nat) (rs qs : List Addr) (pt : Addr) : Prop where
  lt : LT F G h l Pt q
  ob : G x = some (.ins (He.ga K "BottleObserver") dx (obf a c lo))
  elo : G lo = some (.lst (rs.map V.ref))
  et : G t = some (.lst (qs.map V.ref))
  nx : F x = none
  nlo : F lo = none
  ntt : F t = none
  dlo : lo ≠ h ∧ lo ≠ l
  dt : t ≠ h ∧ t ≠ l
  dlt : lo ≠ t
  of : OfAt K F a ts
  tr : TrAt K F pt ts
  cd : CandAt K F c (startN ts) (takeN (allB ts es) (startN ts)) (p : Nat) (offT (allB ts es) (startN ts) p)
  lr : rs.length = es.length
  lq : qs.length = fs.length
  er : ∀ (i : Nat) (r : Addr) (e : En), rs[i]? = some r → es[i]? = some e → SqT K F r e.vs
  eq : ∀ (i : Nat) (r : Addr) (e : En), qs[i]? = some r → fs[i]? = some e → SqT K F r e.vs
  rp : Rpt (allB ts es) (startN ts) p
  pp : 0 < p
section
variable {K : PySem.W.Frag} {F G : Hp} {h l Pt : Addr} {q : Str} {x dx a c lo t : Addr} {ts : List Tr} {es fs : List En} {p : Nat} {rs qs : List Addr} {pt : Addr}
theorem St.xl (S : St K F G h l Pt q x dx a c lo t ts es fs p rs qs pt) {b : Addr} {ys : List V} (e : G b = some (.lst ys)) : x ≠ b := ne_of S.ob e (by intro z; cases z)
theorem St.xh (S : St K F G h l Pt q x dx a c lo t ts es fs p rs qs pt) : x ≠ h ∧ x ≠ l := by
  obtain ⟨m, i, ns, e1, e2, _⟩ := S.lt.hs.ex
  exact ⟨S.xl e1, S.xl e2⟩
theorem St.grow {G' : Hp} (S : St K F G h l Pt q x dx a c lo t ts es fs p rs qs pt) (s : Same G G') : St K F G' h l Pt q x dx a c lo t ts es fs p rs qs pt :=
  { S with lt := S.lt.grow s, ob := s _ _ S.ob, elo := s _ _ S.elo, et := s _ _ S.et }
theorem St.next {G' : Hp} (S : St K F G h l Pt q x dx a c lo t ts es fs p rs qs pt) (y : HS (hid2 G h l) G' h l) : St K F G' h l Pt q x dx a c lo t ts es fs p rs qs pt :=
  { S with lt := S.lt.step y, ob := y.same _ _ (HS.keep (H0 := F) S.ob S.xh.1 S.xh.2), elo := y.same _ _ (HS.keep (H0 := F) S.elo S.dlo.1 S.dlo.2), et := y.same _ _ (HS.keep (H0 := F) S.et S.dt.1 S.dt.2) }
theorem St.ext {G' : Hp} (S : St K F G h l Pt q x dx a c lo t ts es fs p rs qs pt) (e : LamX.ExtN G G') (tb : LamX.TabS G' Pt q) : St K F G' h l Pt q x dx a c lo t ts es fs p rs qs pt :=
  { S with lt := S.lt.ext e tb, ob := e _ _ S.ob (fun ps z => by cases z), elo := e _ _ S.elo (fun ps z => by cases z), et := e _ _ S.et (fun ps z => by cases z) }
theorem St.mutR {R : Addr} {ys : List V} {o : HO} (S : St K F G h l Pt q x dx a c lo t ts es fs p rs qs pt) (e : G R = some (.lst ys)) (n : F R = none) (n1 : R ≠ h ∧ R ≠ l) (n2 : R ≠ lo ∧ R ≠ t) : St K F (upd G R o) h l Pt q x dx a c lo t ts es fs p rs qs pt :=
  { S with lt := S.lt.mut e n n1.1 n1.2, ob := by rw [upd_ne (S.xl e)]; exact S.ob, elo := by rw [upd_ne n2.1.symm]; exact S.elo, et := by rw [upd_ne n2.2.symm]; exact S.et }
theorem St.sees (S : St K F G h l Pt q x dx a c lo t ts es fs p rs qs pt) : Sees K G x dx a c lo ts (allB ts es) p (rs.map V.ref) :=
  ⟨S.ob, S.of.mono S.lt.hs.same, S.cd.mono S.lt.hs.same, S.elo, S.rp, S.pp⟩
theorem St.tell (S : St K F G h l Pt q x dx a c lo t ts es fs p rs qs pt) : TellAt K G t fs :=
  ⟨qs, SqL.of S.et, S.lq, fun i r e u v => Same.tup S.lt.hs.same (S.eq i r e u v)⟩
theorem lt_of_parts {H : Hp} {F : Hp} {m i : Int} {ns : List Int} (same : Same F H) (nh : F h = none) (nl : F l = none) (ne : h ≠ l) (e1 : H h = some (.lst [.int m, .ref l, .int i])) (e2 : H l = some (.lst (ns.map V.int))) (r : 0 ≤ m ∧ m < 2147483647 ∧ 0 ≤ i ∧ ns.length ≤ 63) (tb : LamX.TabS H Pt q) (nt : NoT F) : LT F H h l Pt q :=
  ⟨⟨same, nh, nl, ne, m, i, ns, e1, e2, r⟩, tb, nt⟩
/-- what was told besides: the law's own list grows -/
theorem St.told {e : En} {ent : Addr} (S : St K F G h l Pt q x dx a c lo t ts es fs p rs qs pt) (he : G ent = some (.tup e.vs)) :
    ∃ F', St K F' (upd G t (.lst (qs.map V.ref ++ [.ref ent]))) h l Pt q x dx a c lo t ts es (fs ++ [e]) p rs (qs ++ [ent]) pt := by
  have S2 := S.lt.mut (o := .lst (qs.map V.ref ++ [.ref ent])) S.et S.ntt S.dt.1 S.dt.2
  obtain ⟨m, i, ns, e1, e2, r⟩ := S2.hs.ex
  have nent : ent ≠ t := ne_of he S.et (by intro z; cases z)
  have e3 : upd G t (.lst (qs.map V.ref ++ [.ref ent])) ent = some (.tup e.vs) := (upd_ne nent).trans he
  have ob2 : upd G t (.lst (qs.map V.ref ++ [.ref ent])) x = _ := (upd_ne (S.xl S.et)).trans S.ob
  have lo2 : upd G t (.lst (qs.map V.ref ++ [.ref ent])) lo = _ := (upd_ne S.dlt).trans S.elo
  have et2 : upd G t (.lst (qs.map V.ref ++ [.ref ent])) t = some (.lst (qs.map V.ref ++ [.ref ent])) := upd_same
  have sF : Same F (upd G t (.lst (qs.map V.ref ++ [.ref ent]))) := S2.hs.same
  have tb := S2.tb
  generalize upd G t (.lst (qs.map V.ref ++ [.ref ent])) = G2 at e1 e2 e3 ob2 lo2 et2 sF tb
  have n0 : ∀ b, hidM G2 h l x lo t b = none → nt (hidM G2 h l x lo t) b = none := fun b z => by
    unfold EB.nt
    rw [z]
  have sFM : Same F (nt (hidM G2 h l x lo t)) := same_nt S.lt.nt fun b o z => by
    rw [hidM_ne]
    · exact sF b o z
    · rintro (y | y | y | y | y) <;> subst y
      · rw [S.lt.hs.nh] at z; cases z
      · rw [S.lt.hs.nl] at z; cases z
      · rw [S.nx] at z; cases z
      · rw [S.nlo] at z; cases z
      · rw [S.ntt] at z; cases z
  have hent : nt (hidM G2 h l x lo t) ent = some (.tup e.vs) := nt_at (by
    rw [hidM_ne]
    · exact e3
    · rintro (y | y | y | y | y) <;> subst y
      · rw [e1] at e3; cases e3
      · rw [e2] at e3; cases e3
      · rw [ob2] at e3; cases e3
      · rw [lo2] at e3; cases e3
      · rw [et2] at e3; cases e3) (fun ps z => by cases z)
  refine ⟨nt (hidM G2 h l x lo t), lt_of_parts (nt_same.trans hidM_same) (n0 _ (hidM_in (.inl rfl))) (n0 _ (hidM_in (.inr (.inl rfl)))) S.lt.hs.ne e1 e2 r tb nt_noT, ob2, lo2, by rw [et2, List.map_append]; rfl, n0 _ (hidM_in (.inr (.inr (.inl rfl)))), n0 _ (hidM_in (.inr (.inr (.inr (.inl rfl))))), n0 _ (hidM_in (.inr (.inr (.inr (.inr rfl))))), S.dlo, S.dt, S.dlt, S.of.mono sFM, S.tr.mono sFM, S.cd.mono sFM, S.lr, by rw [List.length_append, List.length_append, S.lq]; rfl, fun i r e u v => Same.tup sFM (S.er i r e u v), fun i r' e' u v => ?_, S.rp, S.pp⟩
  rcases Nat.lt_or_ge i qs.length with z | z
  · rw [List.getElem?_append_left z] at u
    rw [List.getElem?_append_left (by rw [← S.lq]; exact z)] at v
    exact Same.tup sFM (S.eq i r' e' u v)
  · rw [List.getElem?_append_right z] at u
    rw [List.getElem?_append_right (by rw [← S.lq]; exact z)] at v
    have hi : i - qs.length = 0 := by
      have := lt_of_at u
      simp only [List.length_singleton] at this
      omega
    rw [hi] at u
    rw [← S.lq, hi] at v
    cases u
    cases v
    exact SqT.of hent
/-- what was seen besides: the observer's state changes, the count is kept in R -/
theorem St.seen {G3 : Hp} {e : En} {r c' R : Addr} {p' : Nat} {ys zs : List V} (S : St K F G h l Pt q x dx a c lo t ts es fs p rs qs pt) (s : Same G G3) (cn : CandNew K G G3 c' (startN ts) (takeN (allB ts (es ++ [e])) (startN ts)) (p' : Nat) (offT (allB ts (es ++ [e])) (startN ts) p')) (hr : G3 r = some (.tup e.vs))
    (eR : G R = some (.lst ys)) (nR : F R = none) (dR : R ≠ h ∧ R ≠ l) (dR2 : R ≠ lo ∧ R ≠ t) (rp' : Rpt (allB ts (es ++ [e])) (startN ts) p') (pp' : 0 < p') :
    ∃ F', St K F' (upd (upd (upd G3 x (.ins (He.ga K "BottleObserver") dx (obf a c' lo))) lo (.lst (rs.map V.ref ++ [.ref r]))) R (.lst zs)) h l Pt q x dx a c' lo t ts (es ++ [e]) fs p' (rs ++ [r]) qs pt := by
  have S3 := S.grow s
  have eR3 := s _ _ eR
  obtain ⟨m, i, ns, e1, e2, rr⟩ := S3.lt.hs.ex
  have xR := S3.xl eR3
  have xlo := S3.xl S3.elo
  have xt := S3.xl S3.et
  have look : ∀ b, b ≠ x → b ≠ lo → b ≠ R → upd (upd (upd G3 x (.ins (He.ga K "BottleObserver") dx (obf a c' lo))) lo (.lst (rs.map V.ref ++ [.ref r]))) R (.lst zs) b = G3 b := fun b n1 n2 n3 => by rw [upd_ne n3, upd_ne n2, upd_ne n1]
  have ob2 : upd (upd (upd G3 x (.ins (He.ga K "BottleObserver") dx (obf a c' lo))) lo (.lst (rs.map V.ref ++ [.ref r]))) R (.lst zs) x = some (.ins (He.ga K "BottleObserver") dx (obf a c' lo)) := by rw [upd_ne xR, upd_ne xlo, upd_same]
  have lo2 : upd (upd (upd G3 x (.ins (He.ga K "BottleObserver") dx (obf a c' lo))) lo (.lst (rs.map V.ref ++ [.ref r]))) R (.lst zs) lo = some (.lst (rs.map V.ref ++ [.ref r])) := by rw [upd_ne dR2.1.symm, upd_same]
  generalize upd (upd (upd G3 x (.ins (He.ga K "BottleObserver") dx (obf a c' lo))) lo (.lst (rs.map V.ref ++ [.ref r]))) R (.lst zs) = G2 at look ob2 lo2
  have f1 := (look h S3.xh.1.symm S3.dlo.1.symm dR.1.symm).trans e1
  have f2 := (look l S3.xh.2.symm S3.dlo.2.symm dR.2.symm).trans e2
  have et2 := (look t xt.symm S3.dlt.symm dR2.2.symm).trans S3.et
  have tb : LamX.TabS G2 Pt q := tabS_ne2 S3.lt.tb fun b o z k1 k2 => by
    rw [look b (fun y => k2 _ _ _ (by rw [y, S3.ob] at z; exact (Option.some.inj z).symm)) (fun y => k1 _ (by rw [y, S3.elo] at z; exact (Option.some.inj z).symm)) (fun y => k1 _ (by rw [y, eR3] at z; exact (Option.some.inj z).symm))]
    exact z
  have sF : Same F G2 := fun b o z => by
    rw [look b (fun y => by rw [y, S.nx] at z; cases z) (fun y => by rw [y, S.nlo] at z; cases z) (fun y => by rw [y, nR] at z; cases z)]
    exact S3.lt.hs.same b o z
  have n0 : ∀ b, hidM G2 h l x lo t b = none → nt (hidM G2 h l x lo t) b = none := fun b z => by
    unfold EB.nt
    rw [z]
  have sFM : Same F (nt (hidM G2 h l x lo t)) := same_nt S.lt.nt fun b o z => by
    rw [hidM_ne]
    · exact sF b o z
    · rintro (y | y | y | y | y) <;> subst y
      · rw [S.lt.hs.nh] at z; cases z
      · rw [S.lt.hs.nl] at z; cases z
      · rw [S.nx] at z; cases z
      · rw [S.nlo] at z; cases z
      · rw [S.ntt] at z; cases z
  have new : ∀ b o, G3 b = some o → (∀ ps, o ≠ .tbl ps) → ¬ (b = h ∨ b = l ∨ b = x ∨ b = lo ∨ b = t) → b ≠ R → nt (hidM G2 h l x lo t) b = some o := fun b o z k n nR => nt_at (by
    rw [hidM_ne n, look b (fun y => n (.inr (.inr (.inl y)))) (fun y => n (.inr (.inr (.inr (.inl y))))) nR]
    exact z) k
  have hnr : nt (hidM G2 h l x lo t) r = some (.tup e.vs) := new r _ hr (fun ps z => by cases z) (by
    rintro (y | y | y | y | y) <;> subst y
    · rw [e1] at hr; cases hr
    · rw [e2] at hr; cases hr
    · rw [S3.ob] at hr; cases hr
    · rw [S3.elo] at hr; cases hr
    · rw [S3.et] at hr; cases hr) (fun y => by rw [y, eR3] at hr; cases hr)
  obtain ⟨m0, i0, ns0, g1, g2, _⟩ := S.lt.hs.ex
  have fresh : ∀ b, G b = none → ¬ (b = h ∨ b = l ∨ b = x ∨ b = lo ∨ b = t) ∧ b ≠ R := fun b z => by
    refine ⟨?_, fun y => by rw [y, eR] at z; cases z⟩
    rintro (y | y | y | y | y) <;> subst y
    · rw [g1] at z; cases z
    · rw [g2] at z; cases z
    · rw [S.ob] at z; cases z
    · rw [S.elo] at z; cases z
    · rw [S.et] at z; cases z
  obtain ⟨dc, ea, oa, c1, c2, c3, c4, c5, c6⟩ := cn.ex
  have cd' : CandAt K (nt (hidM G2 h l x lo t)) c' (startN ts) (takeN (allB ts (es ++ [e])) (startN ts)) (p' : Nat) (offT (allB ts (es ++ [e])) (startN ts) p') :=
    ⟨dc, ea, oa, new _ _ c1 (fun ps z => by cases z) (fresh _ c4).1 (fresh _ c4).2, SqL.of (new _ _ c2 (fun ps z => by cases z) (fresh _ c5).1 (fresh _ c5).2), SqL.of (new _ _ c3 (fun ps z => by cases z) (fresh _ c6).1 (fresh _ c6).2)⟩
  refine ⟨nt (hidM G2 h l x lo t), lt_of_parts (nt_same.trans hidM_same) (n0 _ (hidM_in (.inl rfl))) (n0 _ (hidM_in (.inr (.inl rfl)))) S.lt.hs.ne f1 f2 rr tb nt_noT, ob2, by rw [lo2, List.map_append]; rfl, et2, n0 _ (hidM_in (.inr (.inr (.inl rfl)))), n0 _ (hidM_in (.inr (.inr (.inr (.inl rfl))))), n0 _ (hidM_in (.inr (.inr (.inr (.inr rfl))))), S.dlo, S.dt, S.dlt, S.of.mono sFM, S.tr.mono sFM, cd', by rw [List.length_append, List.length_append, S.lr]; rfl, S.lq, fun i r' e' u v => ?_, fun i r e u v => Same.tup sFM (S.eq i r e u v), rp', pp'⟩
  rcases Nat.lt_or_ge i rs.length with z | z
  · rw [List.getElem?_append_left z] at u
    rw [List.getElem?_append_left (by rw [← S.lr]; exact z)] at v
    exact Same.tup sFM (S.er i r' e' u v)
  · rw [List.getElem?_append_right z] at u
    rw [List.getElem?_append_right (by rw [← S.lr]; exact z)] at v
    have hi : i - rs.length = 0 := by
      have := lt_of_at u
      simp only [List.length_singleton] at this
      omega
    rw [hi] at u
    rw [← S.lr, hi] at v
    cases u
    cases v
    exact SqT.of hnr
theorem St.init {B H8 H9 G : Hp} (lt : LT B H8 h l Pt q) (oB : OfAt K B a ts) (tB : TrAt K B pt ts) (nx : H8 x = none) (s9 : Same H8 H9) (e9 : H9 x = some (.ins (He.ga K "BottleObserver") dx (obf a c lo))) (cn : CandNew K (upd H8 lo (.lst [])) H9 c (startN ts) (early0 ts) 1 [0]) (elo : H9 lo = some (.lst [])) (nlo : H8 lo = none)
    (nt9 : H9 t = none) (s10 : Same (upd H9 t (.lst [])) G) : ∃ F', St K F' G h l Pt q x dx a c lo t ts [] [] 1 [] [] pt := by
  have ltG := (lt.grow s9).grow ((same_new (u := .lst []) nt9).trans s10)
  obtain ⟨m, i, ns, e1, e2, r⟩ := ltG.hs.ex
  obtain ⟨m0, i0, ns0, g1, g2, _⟩ := lt.hs.ex
  have et : G t = some (.lst []) := s10 _ _ upd_same
  have up : ∀ b o, H9 b = some o → G b = some o := fun b o z => s10 _ _ (upd_old z nt9)
  have n0 : ∀ b, hidM G h l x lo t b = none → nt (hidM G h l x lo t) b = none := fun b z => by
    unfold EB.nt
    rw [z]
  have dt : t ≠ h ∧ t ≠ l := (lt.grow s9).hs.new nt9
  have dlo : lo ≠ h ∧ lo ≠ l := lt.hs.new nlo
  have dlt : lo ≠ t := fun z => by rw [z, nt9] at elo; cases elo
  have sB := lt.hs.same
  have sFM : Same B (nt (hidM G h l x lo t)) := same_nt lt.nt fun b o z => by
    rw [hidM_ne]
    · exact ltG.hs.same b o z
    · rintro (y | y | y | y | y) <;> subst y
      · rw [lt.hs.nh] at z; cases z
      · rw [lt.hs.nl] at z; cases z
      · rw [sB.free nx] at z; cases z
      · rw [sB.free nlo] at z; cases z
      · rw [(sB.trans s9).free nt9] at z; cases z
  have new : ∀ b o, H9 b = some o → (∀ ps, o ≠ .tbl ps) → (upd H8 lo (.lst [])) b = none → b ≠ x → nt (hidM G h l x lo t) b = some o := fun b o z k n nbx => nt_at (by
    rw [hidM_ne]
    · exact up b o z
    · obtain ⟨n1, n2⟩ := upd_none n
      rintro (y | y | y | y | y)
      · rw [y, g1] at n2; cases n2
      · rw [y, g2] at n2; cases n2
      · exact nbx y
      · exact n1 y
      · rw [y, nt9] at z; cases z) k
  obtain ⟨dc, ea, oa, c1, c2, c3, c4, c5, c6⟩ := cn.ex
  have ncx : c ≠ x := ne_of c1 e9 (by
    intro z
    injection z with _ _ z
    have := congrArg List.length z
    cases this)
  have cd' : CandAt K (nt (hidM G h l x lo t)) c (startN ts) (takeN (allB ts []) (startN ts)) (1 : Nat) (offT (allB ts []) (startN ts) 1) := by
    rw [allB_nil, ← early0_take, offs0_take]
    exact ⟨dc, ea, oa, new _ _ c1 (fun ps z => by cases z) c4 ncx, SqL.of (new _ _ c2 (fun ps z => by cases z) c5 (ne_of c2 e9 (by intro z; cases z))), SqL.of (new _ _ c3 (fun ps z => by cases z) c6 (ne_of c3 e9 (by intro z; cases z)))⟩
  exact ⟨nt (hidM G h l x lo t), lt_of_parts (nt_same.trans hidM_same) (n0 _ (hidM_in (.inl rfl))) (n0 _ (hidM_in (.inr (.inl rfl)))) lt.hs.ne e1 e2 r ltG.tb nt_noT, up _ _ e9, up _ _ elo, et, n0 _ (hidM_in (.inr (.inr (.inl rfl)))), n0 _ (hidM_in (.inr (.inr (.inr (.inl rfl))))), n0 _ (hidM_in (.inr (.inr (.inr (.inr rfl))))), dlo, dt, dlt, oB.mono sFM, tB.mono sFM, cd', rfl, rfl, fun i r e z => (by cases z), fun i r e z => (by cases z), fun n _ => rfl, by decide⟩
theorem St.see {e : En} {Q : VK} {E : XK} (S : St K F G h l Pt q x dx a c lo t ts es fs p rs qs pt) (f : Fair ts) (hl : es.length ≤ 1000) (p1 : p ≤ 1000000) (w1 : Nat.lcm p (e.span ts) ≤ 1000000) (hek : EnOk ts e)
    (k0 : cnt (allB ts (es ++ [e])) 1000000000000000001 = 0 → ∀ H', Same G H' → E (.ref (He.ga K "Contradiction")) none H')
    (k1 : cnt (allB ts (es ++ [e])) 1000000000000000001 ≠ 0 → ∀ G3 c' r, Same G G3 → CandNew K G G3 c' (startN ts) (takeN (allB ts (es ++ [e])) (startN ts)) (Nat.lcm p (e.span ts) : Nat) (offT (allB ts (es ++ [e])) (startN ts) (Nat.lcm p (e.span ts))) → G3 r = some (.tup e.vs) →
      Q (.int (cnt (allB ts (es ++ [e])) 1000000000000000001 : Nat)) (upd (upd G3 x (.ins (He.ga K "BottleObserver") dx (obf a c' lo))) lo (.lst (rs.map V.ref ++ [.ref r])))) : SeeP K x e G Q E := by
  rw [allB_snoc] at k0 k1
  refine ⟨dx, a, c, lo, ts, allB ts es, p, rs.map V.ref, S.sees, f, by rw [List.length_map, S.lr]; exact hl, p1, w1, ?_, k0, fun z H1 c' r s cn _ hr _ => k1 z H1 c' r s cn hr⟩
  cases e with
  | left k n => exact hek
  | round m q => exact hek
theorem lcm_span {e : En} (w : p ∣ 2 * perB ts * per ts) : Nat.lcm p (e.span ts) ∣ 2 * perB ts * per ts := by
  refine Nat.lcm_dvd w ?_
  cases e with
  | left k n => exact ⟨2 * per ts, by show 2 * perB ts * per ts = perB ts * (2 * per ts); rw [← Nat.mul_assoc, Nat.mul_comm (perB ts) 2]⟩
  | round m q =>
    show (if m = 1 then 2 else 2 * per ts) ∣ _
    split
    · exact ⟨perB ts * per ts, by rw [Nat.mul_assoc]⟩
    · exact ⟨perB ts, by rw [Nat.mul_assoc, Nat.mul_assoc, Nat.mul_comm (per ts)]⟩
theorem St.rp' {e : En} (S : St K F G h l Pt q x dx a c lo t ts es fs p rs qs pt) (f : Fair ts) : Rpt (allB ts (es ++ [e])) (startN ts) (Nat.lcm p (e.span ts)) ∧ 0 < Nat.lcm p (e.span ts) := by
  have sp := span_pos2 f e
  rw [allB_snoc]
  exact ⟨(narrow_rep (f := agB ts e) S.pp sp.1 S.rp (agB_rpt f e) fun _ _ => rfl).2.2, Nat.lcm_pos S.pp sp.1⟩
def En.d : En → PyData
  | .left k c => .tuple [.str "left", .str k, .int c]
  | .round m q => .tuple [.str "round", .int m, .int q]
theorem En.dp {H : Hp} {r : Addr} (e : En) (h : SqT K H r e.vs) : Dp K H (.ref r) e.d := by
  cases e with
  | left k c => exact .tup h (.cons (.str _) (.cons (.str _) (.cons (.int _) .nil)))
  | round m q => exact .tup h (.cons (.str _) (.cons (.int _) (.cons (.int _) .nil)))
theorem ens_dp {H : Hp} : ∀ {rs : List Addr} {es : List En}, rs.length = es.length → (∀ (i : Nat) (r : Addr) (e : En), rs[i]? = some r → es[i]? = some e → SqT K H r e.vs) → DpAll K H (rs.map V.ref) (es.map En.d)
  | [], [], _, _ => .nil
  | [], _ :: _, h, _ => by cases h
  | _ :: _, [], h, _ => by cases h
  | r :: rs, e :: es, h, k => .cons (e.dp (k 0 r e rfl rfl)) (ens_dp (Nat.succ.inj h) fun i r' e' a b => k (i + 1) r' e' a b)
theorem ens_lev (es : List En) (h : es.length ≤ 1000) : Lev 4 (.list (es.map En.d)) := by
  refine .lst (fun d m => ?_) (by rw [List.length_map]; omega)
  obtain ⟨e, _, rfl⟩ := List.mem_map.mp m
  cases e with
  | left k c =>
    refine .tup (fun d m => ?_) (by show 3 ≤ 10000; decide)
    simp only [List.mem_cons, List.not_mem_nil, or_false] at m
    rcases m with rfl | rfl | rfl
    · exact .str _
    · exact .str _
    · exact .int _
  | round k c =>
    refine .tup (fun d m => ?_) (by show 3 ≤ 10000; decide)
    simp only [List.mem_cons, List.not_mem_nil, or_false] at m
    rcases m with rfl | rfl | rfl
    · exact .str _
    · exact .int _
    · exact .int _
theorem St.told_at {e : En} {ent T2 : Addr} {G2 : Hp} (S : St K F G h l Pt q x dx a c lo t ts es fs p rs qs pt) (he : G ent = some (.tup e.vs)) (s : Same G G2) (e2 : G2 T2 = some (.lst (qs.map V.ref ++ [.ref ent]))) : TellAt K G2 T2 (fs ++ [e]) := by
  refine ⟨qs ++ [ent], SqL.of (by rw [e2, List.map_append]; rfl), by rw [List.length_append, List.length_append, S.lq]; rfl, fun i r' e' u v => ?_⟩
  rcases Nat.lt_or_ge i qs.length with z | z
  · rw [List.getElem?_append_left z] at u
    rw [List.getElem?_append_left (by rw [← S.lq]; exact z)] at v
    exact Same.tup (S.lt.hs.same.trans s) (S.eq i r' e' u v)
  · rw [List.getElem?_append_right z] at u
    rw [List.getElem?_append_right (by rw [← S.lq]; exact z)] at v
    have hi : i - qs.length = 0 := by
      have := lt_of_at u
      simp only [List.length_singleton] at this
      omega
    rw [hi] at u
    rw [← S.lq, hi] at v
    cases u
    cases v
    exact SqT.of (s _ _ he)
end
end EB

namespace EB
open PySem PySem.Spec PyProof.Rows L2
def okN (ts : List Tr) : Prop := ∀ t ∈ ts, t.k.length ≤ 1000 ∧ PyData.strOk t.k = true
/-- tuples made one after another -/
structure Bl (K : PySem.W.Frag) (H0 H : Hp) (ps : List Addr) (ts : List Tr) : Prop where
  same : Same H0 H
  len : ps.length = ts.length
  at_ : ∀ (i : Nat) (p : Addr) (t : Tr), ps[i]? = some p → ts[i]? = some t → SqT K H p t.vs
theorem Bl.nil {K : PySem.W.Frag} {H : Hp} : Bl K H H [] [] := ⟨Same.refl _, rfl, fun i p t a => (by cases a)⟩
theorem Bl.snoc {K : PySem.W.Frag} {H0 H : Hp} {ps : List Addr} {ts : List Tr} {p : Addr} (b : Bl K H0 H ps ts) (k : Str) (i j : Int) (n : H p = none) : Bl K H0 (upd H p (.tup [.str k, .int i, .int j])) (ps ++ [p]) (ts ++ [⟨k, i, j⟩]) := by
  refine ⟨b.same.trans (same_new n), by rw [List.length_append, List.length_append, b.len]; rfl, fun i q u e1 e2 => ?_⟩
  rcases Nat.lt_or_ge i ps.length with z | z
  · rw [List.getElem?_append_left z] at e1
    rw [List.getElem?_append_left (by rw [← b.len]; exact z)] at e2
    exact Same.tup (same_new n) (b.at_ i q u e1 e2)
  · rw [List.getElem?_append_right z] at e1
    rw [List.getElem?_append_right (by rw [← b.len]; exact z)] at e2
    have hi : i - ps.length = 0 := by
      have := lt_of_at e1
      simp only [List.length_singleton] at this
      omega
    rw [hi] at e1
    rw [← b.len, hi] at e2
    cases e1
    cases e2
    exact SqT.of upd_same
theorem Bl.mono {K : PySem.W.Frag} {H0 H H' : Hp} {ps : List Addr} {ts : List Tr} (b : Bl K H0 H ps ts) (s : Same H H') : Bl K H0 H' ps ts := ⟨b.same.trans s, b.len, fun i p t a e => Same.tup s (b.at_ i p t a e)⟩
theorem tabs_eq {P : Addr} {q q' : Str} {H : Hp} (e : q = q') (t : LamX.TabS H P q) : LamX.Tabs [(P, q')] H := by
  rw [← e]
  exact tabs1 t
theorem tabs_of_eq {P : Addr} {q q' : Str} {H : Hp} (e : q = q') (t : LamX.Tabs [(P, q')] H) : LamX.TabS H P q := by
  rw [← e] at t
  exact tabs1_of t
theorem cut_from2 {xs : List V} {k : Nat} : cutV xs (some (k : Int)) none = xs.drop k := by
  unfold cutV
  rw [HT.sIx_none, HT.sIx_nat]
  rcases Nat.le_total k xs.length with z | z
  · rw [Nat.min_eq_left z, List.take_of_length_le]
    rw [List.length_drop]
    omega
  · rw [Nat.min_eq_right z, Nat.sub_self, List.take_zero, List.drop_of_length_le z]
theorem shaped_lay {d : PyData} (h : SeqAt.shaped d = true) : d.canLay0 = true := by
  unfold SeqAt.shaped at h
  exact (Bool.and_eq_true_iff.mp h).1
def dueD (ts : List Tr) : List PyData := match badOf ts with
  | some i => [.str "offer", .int (i : Nat)]
  | none => if 9 * 27720 < 10 * worth ts then [.str "generous"] else [.str "none"]
theorem due_dp {K : PySem.W.Frag} {H : Hp} (ts : List Tr) : DpAll K H (dueV ts) (dueD ts) := by
  unfold dueV dueD
  cases badOf ts with
  | some i => exact .cons (.str _) (.cons (.int _) .nil)
  | none =>
    by_cases z : 9 * 27720 < 10 * worth ts
    · simp only [if_pos z]
      exact .cons (.str _) .nil
    · simp only [if_neg z]
      exact .cons (.str _) .nil
theorem due_shaped (ts : List Tr) : SeqAt.shaped (.tuple (dueD ts)) = true := by
  unfold dueD
  split
  · unfold SeqAt.shaped
    rw [Bool.and_eq_true, decide_eq_true_eq]
    have h : PyData.strOk "offer" = true := by decide +kernel
    refine ⟨by simp only [PyData.canLay0, PyData.canLayAll0, h, Bool.and_true], ?_⟩
    simp only [PyData.depthAll, PyData.depth]
    omega
  · split
    · decide +kernel
    · decide +kernel
theorem due_none {ts : List Tr} (h : PyData.eqv (.tuple (dueD ts)) (.tuple [.str "none"]) = true) : dueV ts = [.str "none"] := by
  unfold dueD at h
  unfold dueV
  split at h
  · exfalso
    simp [PyData.eqv, PyData.eqvAll] at h
  · rename_i e
    split at h
    · exact absurd h (by decide +kernel)
    · rename_i z
      simp only [e, if_neg z]
theorem simDue {n : Int} (h0 : -1 ≤ n) (h1 : n ≤ 14) : dueV [⟨"empty", 1, n⟩] = if (decide (1 ≤ n) && decide (n ≤ 12)) = true then (if decide (V.int n = V.int 1) = true then [.str "generous"] else [.str "none"]) else [.str "offer", .int 0] := by
  have h : n = -1 ∨ n = 0 ∨ n = 1 ∨ n = 2 ∨ n = 3 ∨ n = 4 ∨ n = 5 ∨ n = 6 ∨ n = 7 ∨ n = 8 ∨ n = 9 ∨ n = 10 ∨ n = 11 ∨ n = 12 ∨ n = 13 ∨ n = 14 := by omega
  rcases h with rfl | rfl | rfl | rfl | rfl | rfl | rfl | rfl | rfl | rfl | rfl | rfl | rfl | rfl | rfl | rfl <;> decide +kernel
def toldD (ts : List Tr) : PyData := .list [.tuple (ts.map trD), .tuple ((ts.map Tr.k).map PyData.str)]
theorem toldD_lev {ts : List Tr} (h : ts.length ≤ 3) : Lev 4 (toldD ts) := by
  refine .lst (fun e he => ?_) (by show 2 ≤ 10000; decide)
  simp only [List.mem_cons, List.not_mem_nil, or_false] at he
  rcases he with rfl | rfl
  · refine .tup (fun e he => ?_) (by rw [List.length_map]; omega)
    obtain ⟨t, _, rfl⟩ := List.mem_map.mp he
    refine .tup (fun e he => ?_) (by show 3 ≤ 10000; decide)
    simp only [List.mem_cons, List.not_mem_nil, or_false] at he
    rcases he with rfl | rfl | rfl
    · exact .str _
    · exact .int _
    · exact .int _
  · refine .tup (fun e he => ?_) (by rw [List.length_map, List.length_map]; omega)
    obtain ⟨t, _, rfl⟩ := List.mem_map.mp he
    exact .str _
theorem OfNew.at_ {K : PySem.W.Frag} {H0 H : Hp} {a : Addr} {ts : List Tr} (o : OfNew K H0 H a ts) : OfAt K H a ts := by
  obtain ⟨dx, t, p, q, f, g, e1, e2, e3, e4, e5, e6, _⟩ := o.ex
  exact ⟨dx, t, p, q, f, g, e1, e2, e3, e4, e5, e6⟩
def oddT : List Tr := [⟨"", 0, 3⟩, ⟨"toolongone", 0, 3⟩, ⟨"Cap", 0, 3⟩, ⟨"x", -1, 3⟩, ⟨"x", 13, 12⟩, ⟨"x", 12, 12⟩, ⟨"x", 0, 0⟩, ⟨"x", 0, 13⟩, ⟨"cap", 0, 1⟩, ⟨"x", 9, 10⟩, ⟨"x", 10, 11⟩, ⟨"abcdefgh", 0, 12⟩, ⟨"drink", 1, 7⟩]
theorem oddN : okN oddT := by
  unfold okN
  decide +kernel
theorem Drawn.okN {ts : List Tr} {a b : Int} (d : Drawn ts a b) : okN ts := by
  have hk : ∀ k ∈ kinds3, k.length ≤ 1000 ∧ PyData.strOk k = true := by decide +kernel
  intro t ht
  have : t.k ∈ ts.map Tr.k := List.mem_map.mpr ⟨t, ht, rfl⟩
  rw [d.ks] at this
  exact hk _ (List.mem_of_mem_take this)
end EB

namespace EB
open PySem PySem.Spec PyProof.Rows L2
theorem LT.rebase {H0 H : Hp} {h l P : Addr} {q : Str} (x : LT H0 H h l P q) : LT (EB.nt (hid2 H h l)) H h l P q := by
  have n1 : ∀ b, hid2 H h l b = none → EB.nt (hid2 H h l) b = none := fun b z => by
    unfold EB.nt
    rw [z]
  exact ⟨⟨nt_same.trans hid2_same, n1 _ hid2_h, n1 _ hid2_l, x.hs.ne, x.hs.ex⟩, x.tb, nt_noT⟩
theorem sqL_nt {K : PySem.W.Frag} {H : Hp} {a : Addr} {xs : List V} (h : SqL K H a xs) : SqL K (nt H) a xs := by
  rcases h with (h | ⟨o, h⟩) | h
  · exact .inl (.inl (nt_at h fun ps z => by cases z))
  · exact .inl (.inr ⟨o, nt_at h fun ps z => by cases z⟩)
  · exact .inr h
theorem TrAt.nt_ {K : PySem.W.Frag} {H : Hp} {a : Addr} {ts : List Tr} (h : TrAt K H a ts) : TrAt K (nt H) a ts := by
  obtain ⟨ps, h1, h2, h3⟩ := h.ex
  exact ⟨ps, sqT_nt h1, h2, fun i p t a b => sqT_nt (h3 i p t a b)⟩
theorem OfAt.nt_ {K : PySem.W.Frag} {H : Hp} {a : Addr} {ts : List Tr} (o : OfAt K H a ts) : OfAt K (nt H) a ts := by
  obtain ⟨dx, t, p, q, f, g, e1, e2, e3, e4, e5, e6⟩ := o.ex
  exact ⟨dx, t, p, q, f, g, nt_at e1 (fun ps z => by cases z), e2.nt_, sqT_nt e3, sqL_nt e4, sqL_nt e5, sqL_nt e6⟩
theorem per_le62 : ∀ (ts : List Tr) (d : Nat), (∀ t ∈ ts, t.ok ∧ t.n ≤ 6) → ts.foldl perS d ≤ d * 6 ^ ts.length
  | [], d, _ => by simp
  | t :: ts, d, h => by
    have h1 := per_le62 ts (perS d t) fun u hu => h u (List.mem_cons_of_mem _ hu)
    have ht := h t (List.mem_cons_self ..)
    have hq : (t.n / ((t.l.natAbs.gcd t.n.natAbs : Nat) : Int)).natAbs ≤ 6 := by
      have h4 := gcd_pos' ht.1
      have h2 := ht.1.2.2.1
      have h3 := ht.2
      have h5 : 0 ≤ t.n / ((t.l.natAbs.gcd t.n.natAbs : Nat) : Int) := Int.ediv_nonneg (by omega) (by omega)
      have h6 : t.n / ((t.l.natAbs.gcd t.n.natAbs : Nat) : Int) ≤ t.n := Int.ediv_le_self _ (by omega)
      omega
    have h2 : perS d t ≤ d * 6 := Nat.le_trans (PySem.W.mc_lcm_le _ _) (Nat.mul_le_mul_left _ hq)
    have h3 : perS d t * 6 ^ ts.length ≤ d * 6 * 6 ^ ts.length := Nat.mul_le_mul_right _ h2
    rw [List.foldl_cons, List.length_cons, Nat.pow_succ]
    rw [Nat.mul_assoc, Nat.mul_comm 6] at h3
    omega
theorem six_span {ts : List Tr} (d : Drawn ts 2 6) : 2 * perB ts * per ts ≤ 3000 ∧ 0 < 2 * perB ts * per ts := by
  have h1 := per_le62 ts 1 fun t m => ⟨(d.each t m).1, (d.each t m).2.1⟩
  have h2 : (6 : Nat) ^ ts.length ≤ 6 ^ 2 := Nat.pow_le_pow_right (by omega) (by have := d.len; omega)
  have h3 : per ts ≤ 36 := Nat.le_trans h1 (by omega)
  have h4 := perB_le d.fair
  have h5 := (cf d.fair).bpos
  have h6 := per_pos d.fair.g
  have h7 : perB ts * per ts ≤ 36 * 36 := Nat.mul_le_mul (Nat.le_trans h4 h3) h3
  have h8 : 0 < perB ts * per ts := Nat.mul_pos h5 h6
  rw [Nat.mul_assoc]
  omega
section
variable {w : World} {K : PySem.W.Frag} {mg : Str → Option Value} {base : Heap} (T : Tx K mg)
include T
def spLaw (K : PySem.W.Frag) (Pt : Addr) : Sp := fun vs H Q _ => ∃ (a : Addr) (ns : List Int), vs = [.ref a] ∧ SqL K H a (ns.map V.int) ∧ ns.length ≤ 63 ∧ H Pt = some (.tbl #[]) ∧ ∀ H', Q (.bl true) H'
theorem ok_law {c Pt : Addr} (hK : K.In base) (TB : LamX.TabB base mg c Pt) (hc : T.fd_law.code = .ref c) : FnOk PX w K mg base CX0 13 (a_law K) T.fd_law ["_law_script"] (spLaw K Pt) := by
  refine fnCK0 (d := d_law) T.F_law hc sc_law (fun vs H Q E h => ?_) (fun A outer s H vs Q E hr h => ?_)
  · obtain ⟨a, ns, rfl, _⟩ := h
    rfl
  obtain ⟨a, ns, rfl, hS, hl, hP, k⟩ := h
  refine ⟨_, (pss_cons (ps_set (i := 1) sc_law.nd rfl (Or.inl rfl) (pe_cR (ok_law_mix T) (hr.mono (by decide)) T.F_law_mix.kp T.g_law_mix pass0 (pa_cons (pv 0) (pa_cons pe_int pa_nil)))) (pss_cons (ps_set (i := 2) sc_law.nd rfl (Or.inl rfl) (pe_cR (ok_law_trades T) (hr.mono (by decide)) T.F_law_trades.kp T.g_law_trades pass0 (pa_cons (pv 1) (pa_cons pe_int (pa_cons pe_int pa_nil))))) (pss_cons (ps_asg (pe_tup (pa_cons (pe_cR (ok_law_offer T) (hr.mono (by decide)) T.F_law_offer.kp T.g_law_offer pass0 (pa_cons (pv 2) pa_nil)) (pa_cons (pe_cR (ok_law_next T) (hr.mono (by decide)) T.F_law_next.kp T.g_law_next pass0 (pa_cons (pv 1) (pa_cons (pe_ix ix_list (pe_lst (pa_cons pe_int (pa_cons (pe_op op_add (pe_op op_pow pe_int pe_int) pe_int) pa_nil))) (pe_cR (ok_law_next T) (hr.mono (by decide)) T.F_law_next.kp T.g_law_next pass0 (pa_cons (pv 1) (pa_cons pe_int pa_nil))) (fun _ _ => rfl)) pa_nil))) pa_nil))) (pg_tup rfl (pgs_cons (pg_name (i := 3) sc_law.nd rfl (Or.inr rfl)) (pgs_cons (pg_name (i := 4) sc_law.nd rfl (Or.inl rfl)) pgs_nil)))) (pss_cons (ps_asg (pe_tup (pa_cons (StX.pe_makeR T.mk_BottleObserver (ok_BottleObserver_init T) (hr.mono (by decide)) (by rfl) T.g_BottleObserver pass0 (pa_cons (pv 3) pa_nil)) (pa_cons (pe_lst pa_nil) pa_nil))) (pg_tup rfl (pgs_cons (pg_name (i := 16) sc_law.nd rfl (Or.inr rfl)) (pgs_cons (pg_name (i := 5) sc_law.nd rfl (Or.inr rfl)) pgs_nil)))) (pss_cons (ps_for PassesOwn.never rfl (pi_range1 rfl T.n_range (pa_cons (pe_cR (ok_law_next T) (hr.mono (by decide)) T.F_law_next.kp T.g_law_next pass0 (pa_cons (pv 1) (pa_cons pe_int pa_nil))) pa_nil)) (pg_name (i := 6) sc_law.nd rfl (Or.inl rfl)) (pss_cons (ps_par (i := 7) (j := 8) (by rfl) sc_law.nd rfl rfl (by decide) rfl rfl (pa_cons (pe_ix ix_tup (pe_prop (pv 3) T.k_Offer T.p_Offer_kinds (ok_Offer_kinds T) (hr.mono (by decide)) (b_Offer_kinds T) .nil pass0 rfl) (pe_cR (ok_law_next T) (hr.mono (by decide)) T.F_law_next.kp T.g_law_next pass0 (pa_cons (pv 1) (pa_cons (pe_callB call_len_seq (by rfl) T.n_len PySem.boot_len (pa_cons (pe_prop (pv 3) T.k_Offer T.p_Offer_kinds (ok_Offer_kinds T) (hr.mono (by decide)) (b_Offer_kinds T) .nil pass0 rfl) pa_nil)) pa_nil))) (fun _ _ => rfl)) (pa_cons (pe_methR (pv 16) T.k_BottleObserver T.m_BottleObserver_count_up_to (okX_BottleObserver_count_up_to T hK) (hr.mono (by decide)) passG (pa_cons (pe_op op_pow pe_int pe_int) pa_nil)) pa_nil)) (by rfl)) (pss_cons (ps_asg (pe_tup (pa_cons (pe_op op_add pe_int (pe_cR (ok_law_next T) (hr.mono (by decide)) T.F_law_next.kp T.g_law_next pass0 (pa_cons (pv 1) (pa_cons pe_int pa_nil)))) (pa_cons (pe_lst pa_nil) pa_nil))) (pg_tup rfl (pgs_cons (pg_name (i := 9) sc_law.nd rfl (Or.inl rfl)) (pgs_cons (pg_name (i := 17) sc_law.nd rfl (Or.inr rfl)) pgs_nil)))) (pss_cons (ps_set (i := 15) sc_law.nd rfl (Or.inr rfl) (pe_tup (pa_cons pe_str (pa_cons (pv 7) (pa_cons (pe_op op_add (pe_dget (hu_of hr) (pe_methR (pv 3) T.k_Offer T.m_Offer_left_over (ok_Offer_left_over T) (hr.mono (by decide)) pass0 (pa_cons (pv 4) pa_nil)) (pv 7) (fun _ _ => rfl)) (pe_op op_fdiv (pe_cR (ok_law_next T) (hr.mono (by decide)) T.F_law_next.kp T.g_law_next pass0 (pa_cons (pv 1) (pa_cons pe_int pa_nil))) pe_int)) pa_nil))))) (pss_cons (ps_if (pt_cmpR op_eq (pe_cR (ok_law_next T) (hr.mono (by decide)) T.F_law_next.kp T.g_law_next pass0 (pa_cons (pv 1) (pa_cons pe_int pa_nil))) pe_int (nomark _)) (pss_cons (ps_set (i := 10) sc_law.nd rfl (Or.inl rfl) (pe_ifExp (pt_cmpR op_eq (pv 9) pe_int (nomark _)) (pv 4) (pe_cR (ok_law_buys T) (hr.mono (by decide)) T.F_law_buys.kp T.g_law_buys pass0 (pa_cons (pv 2) (pa_cons (pv 4) pa_nil))))) (pss_one (ps_set (i := 15) sc_law.nd rfl (Or.inr rfl) (pe_tup (pa_cons pe_str (pa_cons (pv 9) (pa_cons (pe_op op_mod (pe_op op_add (pv 10) (pe_op op_fdiv (pe_cR (ok_law_next T) (hr.mono (by decide)) T.F_law_next.kp T.g_law_next pass0 (pa_cons (pv 1) (pa_cons pe_int pa_nil))) pe_int)) pe_int) pa_nil))))))) pss_nil) (pss_cons (ps_set (i := 11) sc_law.nd rfl (Or.inl rfl) (pe_ix ix_list (pe_lst (pa_cons (pe_lamE (k := 9) T [] TB (lamO_by (by kernel_rfl)) (.inl ⟨rfl, rfl⟩) (.inl ⟨rfl, fun _ _ _ _ _ => rfl⟩) (fun f A outer s H E c hr => (pe_bmK (K := K) rfl PySem.F.plainAttrs_list PySem.F.slot_list_append PySem.F.type_list_append mt_append (pv 17) (pa_cons (pe_methR (pv 16) T.k_BottleObserver T.m_BottleObserver_see_left (okX_BottleObserver_see_left T hK) (hr.mono (by decide)) (passes_call (takes_of rfl rfl rfl rfl) (fun _ _ _ _ h => h)) (pa_cons (pe_ix (ix_tupK (K := K) rfl) (pv 15) pe_int (fun _ _ => rfl)) (pa_cons (pe_ix (ix_tupK (K := K) rfl) (pv 15) pe_int (fun _ _ => rfl)) pa_nil))) pa_nil)))) (pa_cons (pe_lamE (k := 9) T [("_law_a", 0)] TB (lamO_by (by kernel_rfl)) (.inr ⟨_, _, _, rfl, rfl, pe_int⟩) (.inr ⟨_, _, rfl, by kernel_rfl, fun _ _ _ _ _ _ _ => ⟨_, rfl, rfl⟩⟩) (fun f A outer s H E c hr => (pe_bmK (K := K) rfl PySem.F.plainAttrs_list PySem.F.slot_list_append PySem.F.type_list_append mt_append (pv 17) (pa_cons (pe_methR (pv 16) T.k_BottleObserver T.m_BottleObserver_see_round (okX_BottleObserver_see_round T hK) (hr.mono (by decide)) (passes_call (takes_of rfl rfl rfl rfl) (fun _ _ _ _ h => h)) (pa_cons (pe_ix (ix_tupK (K := K) rfl) (pv 15) pe_int (fun _ _ => rfl)) (pa_cons (pe_ix (ix_tupK (K := K) rfl) (pv 15) pe_int (fun _ _ => rfl)) pa_nil))) pa_nil)))) pa_nil))) (pe_callTy call_int1 (by rfl) T.n_int (by decide +kernel) (pa_cons (pe_cmpR op_eq (pe_ix ix_tup (pv 15) pe_int (fun _ _ => rfl)) pe_str (nomark _)) pa_nil)) (fun _ _ => rfl))) (pss_cons (ps_set (i := 12) sc_law.nd rfl (Or.inl rfl) (pe_errX (k := 9) T (hr.mono (by decide)) (pv 11))) (pss_cons (ps_if (pt_cmpR (op_eqD hr.units) (pv 12) (pe_tup (pa_cons pe_str pa_nil)) (nomark _)) (pss_cons (ps_expr (pe_bm PySem.F.plainAttrs_list PySem.F.slot_list_append PySem.F.type_list_append mt_append (pv 5) (pa_cons (pv 15) pa_nil))) (pss_one (ps_if (PW.pt (pw_or (pt_not (pt_val (pe_cR (ok_law_alike T) (hr.mono (by decide)) T.F_law_alike.kp T.g_law_alike pass0 (pa_cons (pe_ix ix_list (pv 17) pe_int (fun _ _ => rfl)) (pa_cons (pe_methR (pv 16) T.k_BottleObserver T.m_BottleObserver_count_up_to (okX_BottleObserver_count_up_to T hK) (hr.mono (by decide)) passG (pa_cons (pe_op op_pow pe_int pe_int) pa_nil)) pa_nil))))) (pw_or1 (pt_cmpR op_lt (pe_ix ix_list (pv 17) pe_int (fun _ _ => rfl)) pe_int (nomark _))))) (pss_one (ps_ret pe_bl)) pss_nil))) (pss_one (ps_if (PW.pt (pw_or (pt_cmpR (op_neD hr.units) (pv 12) (pe_tup (pa_cons pe_str pa_nil)) (nomark _)) (pw_or1 (pt_val (pe_cR (ok_law_agrees T) (hr.mono (by decide)) T.F_law_agrees.kp T.g_law_agrees pass0 (pa_cons (pv 3) (pa_cons (pv 4) (pa_cons (pe_op op_cat (pv 5) (pe_lst (pa_cons (pv 15) pa_nil))) pa_nil)))))))) (pss_one (ps_ret pe_bl)) (pss_one (ps_if (pt_cmpR op_ne (pe_methR (pv 16) T.k_BottleObserver T.m_BottleObserver_count_up_to (okX_BottleObserver_count_up_to T hK) (hr.mono (by decide)) passG (pa_cons (pe_op op_pow pe_int pe_int) pa_nil)) (pv 8) (nomark _)) (pss_one (ps_ret pe_bl)) pss_nil))))) (pss_one (ps_if (PW.pt (pw_or (pt_not (pt_val (pe_cR (ok_law_alike T) (hr.mono (by decide)) T.F_law_alike.kp T.g_law_alike pass0 (pa_cons (pe_prop (pv 16) T.k_BottleObserver T.p_BottleObserver_records (ok_BottleObserver_records T) (hr.mono (by decide)) (b_BottleObserver_records T) .nil pass0 rfl) (pa_cons (pv 5) pa_nil))))) (pw_or1 (pt_not (pt_val (pe_cR (ok_law_first_right T hK) (hr.mono (by decide)) T.F_law_first_right.kp T.g_law_first_right pass0 (pa_cons (pv 3) (pa_cons (pv 16) (pa_cons (pv 5) pa_nil))))))))) (pss_one (ps_ret pe_bl)) pss_nil)))))))))) (pss_cons (ps_set (i := 13) sc_law.nd rfl (Or.inl rfl) (pe_methR (pv 16) T.k_BottleObserver T.m_BottleObserver_count_up_to (okX_BottleObserver_count_up_to T hK) (hr.mono (by decide)) passG (pa_cons (pe_op op_pow pe_int pe_int) pa_nil))) (pss_cons (ps_set (i := 14) sc_law.nd rfl (Or.inl rfl) (pe_methR (pv 16) T.k_BottleObserver T.m_BottleObserver_nth_possible (okX_BottleObserver_nth_possible T hK) (hr.mono (by decide)) passG (pa_cons (pv 13) pa_nil))) (pss_cons (ps_if (PW.pt (pw_or (pt_not (pt_val (pe_cR (ok_law_agrees T) (hr.mono (by decide)) T.F_law_agrees.kp T.g_law_agrees pass0 (pa_cons (pv 3) (pa_cons (pv 14) (pa_cons (pv 5) pa_nil)))))) (pw_or1 (pt_cmpR op_notIn_seq (pe_methR (pv 16) T.k_BottleObserver T.m_BottleObserver_nth_possible (okX_BottleObserver_nth_possible T hK) (hr.mono (by decide)) passG (pa_cons (pe_callB (call_min2 rfl) (by rfl) T.n_min (by decide +kernel) (pa_cons (pe_op op_add (pe_op op_pow pe_int pe_int) pe_int) (pa_cons (pe_op op_add (pv 13) pe_int) pa_nil))) pa_nil)) (pe_tup (pa_cons pe_non (pa_cons (pe_op op_pow pe_int pe_int) pa_nil))) rfl)))) (pss_one (ps_ret pe_bl)) pss_nil) (pss_one (ps_ret (pe_cmpR (op_eqD hr.units) (pe_lc (own := [("_law_n", 18)]) rfl sc_law.nd (pi_range2 rfl T.n_range (pa_cons (pe_op op_add (pv 14) pe_int) (pa_cons (pe_op op_add (pe_callB (call_min2 rfl) (by rfl) T.n_min (by decide +kernel) (pa_cons (pe_op op_pow pe_int pe_int) (pa_cons (pe_op op_add (pv 14) pe_int) pa_nil))) pe_int) pa_nil))) (blkOk_by (own := [("_law_n", 18)]) (N := N_law) (sc := defScope s_law) (by decide +kernel)) (fun _ _ _ _ _ => (pg_name (i := 18) sc_law.nd rfl (Or.inl rfl) (.inr rfl))) (fun _ _ _ _ _ => (pts_one (pt_val (pe_cR (ok_law_agrees T) (hr.mono (by decide)) T.F_law_agrees.kp T.g_law_agrees pass0 (pa_cons (pv 3) (pa_cons (pv 18) (pa_cons (pv 5) pa_nil))))))) (fun _ _ _ _ _ => (pv 18))) (pe_lst pa_nil) (nomark _)))))))))))), ?_⟩
  obtain ⟨q, eq⟩ : ∃ q : Str, q = (lawCx PX w K mg base N_law d_law.ql (defScope d_law.st) (d_law.adr K) c A outer s H E).env.qual ++ ("<lambda>" : Str) := ⟨_, rfl⟩
  refine ⟨_, rfl, a, ns, 12, rfl, hS, hl, by decide, by decide, fun H1 h l hs1 => ?_⟩
  have ntn : ∀ b, H b = none → nt H b = none := fun b z => by
    unfold EB.nt
    rw [z]
  have lt1 : LT (nt H) H1 h l Pt q := ⟨⟨nt_same.trans hs1.same, ntn _ hs1.nh, ntn _ hs1.nl, hs1.ne, hs1.ex⟩, (LamX.TabS.nil hP).ext hs1.same, nt_noT⟩
  clear hs1 ntn hP
  generalize nt H = H0 at lt1
  refine ⟨_, rfl, h, l, 2, 6, _, rfl, by decide, by decide, by decide, by decide, lt1.hs.re, fun H3 p1 ts hs3 tr3 hne dr => ?_⟩
  have lt3 := lt1.step hs3
  have fts := dr.fair
  refine ⟨_, rfl, p1, ts, rfl, tr3, fts, hne, dr.nm, fun H4 o1 s4 of4 => ?_⟩
  have lt4 := lt3.grow s4
  have tr4 := tr3.mono s4
  refine ⟨_, rfl, _, _, rfl, rfl, ⟨by decide, by decide, by decide⟩, _, _, rfl, rfl, by show 2 ≤ sizeLine; decide, fun L nL => ?_⟩
  have lt5 := lt4.new (o := .lst [.int 100, .int 1000000000000000001]) nL
  have eL5 : upd H4 L (.lst [.int 100, .int 1000000000000000001]) L = some (.lst [.int 100, .int 1000000000000000001]) := upd_same
  have dL := lt4.hs.new nL
  have oa5 := (HS.of_ lt3.hs s4 of4).mono (hid2_mono (h := h) (l := l) (same_new (u := .lst [.int 100, .int 1000000000000000001]) nL))
  have tr5 := tr4.mono (same_new (u := .lst [.int 100, .int 1000000000000000001]) nL)
  dsimp only [tC, tNil, tCons, tLst]
  rw [show (10 : Int) ^ Int.toNat 18 + 1 = 1000000000000000001 from rfl]
  generalize upd H4 L (.lst [.int 100, .int 1000000000000000001]) = H5 at lt5 eL5 oa5 tr5
  clear lt4 tr4 tr3 lt3 hs3 lt1 s4 of4 nL
  refine ⟨_, rfl, h, l, 2, hid2 H5 h l, rfl, by decide, by decide, lt5.hs.re, fun H6 r hs6 r0 r1 => ?_⟩
  have eL6 := hs6.same _ _ (HS.keep (H0 := H0) eL5 dL.1 dL.2)
  have oa6 := oa5.mono hs6.sub
  have tr6 := lt5.hs.trs tr5 hs6
  have lt6 := lt5.step hs6
  obtain ⟨lim, el, l0, l1⟩ : ∃ lim : Int, atI [.int 100, .int 1000000000000000001] r = some (V.int lim) ∧ 0 < lim ∧ lim ≤ 1000000000000000001 := by
    rcases (show r = 0 ∨ r = 1 by omega) with z | z
    · exact ⟨100, by rw [z]; rfl, by decide, by decide⟩
    · exact ⟨1000000000000000001, by rw [z]; rfl, by decide, by decide⟩
  clear lt5 hs6 tr5 oa5 eL5 r0 r1 dL
  refine ⟨L, _, _, _, rfl, rfl, SqL.of eL6, el, h, l, lim, hid2 H6 h l, rfl, l0, by omega, lt6.hs.re, fun H7 hd0 hs7 d0 d1 => ?_⟩
  have oa7 := oa6.mono hs7.sub
  have tr7 := lt6.hs.trs tr6 hs7
  have lt7 := lt6.step hs7
  clear lt6 hs7 tr6 oa6 eL6 el
  obtain ⟨hd, rfl⟩ := Int.eq_ofNat_of_zero_le d0
  have hdm : hd ≤ 1000000000000000000 := by omega
  clear l0 l1 d0 d1
  refine ⟨by show 2 ≤ sizeLine; decide, fun u hu => ⟨u, _, rfl, SqT.of upd_same, rfl, _, _, rfl, _, _, rfl, rfl, ?_⟩⟩
  have oa8 := oa7.mono (hid2_mono (h := h) (l := l) (same_new (u := .tup [.ref o1, .int (hd : Nat)]) hu))
  have tr8 := tr7.mono (same_new (u := .tup [.ref o1, .int (hd : Nat)]) hu)
  have lt8 := lt7.new (o := .tup [.ref o1, .int (hd : Nat)]) hu
  generalize upd H7 u (.tup [.ref o1, .int (hd : Nat)]) = H8 at oa8 tr8 lt8
  clear lt7 tr7 oa7 hu
  have ltB := lt8.rebase
  have trB := (lt8.hs.tr tr8).nt_
  have oB := oa8.nt_
  clear lt8 tr8 oa8
  generalize EB.nt (hid2 H8 h l) = B at ltB trB oB
  refine ⟨_, rfl, fun x dx nx nd ned => obs_okN (oB.mono ltB.hs.same) fts nx nd ned fun H9 cc lo s9 e9 cn elo nlo => ?_⟩
  refine ⟨by show 0 ≤ sizeLine; decide, fun t nt9 => ⟨by show 2 ≤ sizeLine; decide, fun u hu => ⟨u, _, rfl, SqT.of upd_same, rfl, _, _, rfl, _, _, rfl, rfl, ?_⟩⟩⟩
  obtain ⟨F, S⟩ : ∃ F, St K F (upd (upd H9 t (.lst [])) u (.tup [.ref x, .ref t])) h l Pt q x dx o1 cc lo t ts [] [] 1 [] [] p1 := St.init ltB oB trB nx s9 e9 cn elo nlo nt9 (same_new (u := .tup [.ref x, .ref t]) hu)
  generalize upd (upd H9 t (.lst [])) u (.tup [.ref x, .ref t]) = G at S
  clear ltB oB nx nd ned s9 e9 cn elo nlo nt9 hu trB
  have hlen : ts.length ≤ 2 := by have := dr.len; omega
  have sx := six_span dr
  dsimp only
  refine capSN [some (.ref a), some (.ref h), some (.ref p1), some (.ref o1), some (.int (hd : Nat)), some (.ref t), none, none, none, none, none, none, none, none, none, none, some (.ref x), none, none] rfl ?_
  refine ⟨_, rfl, h, l, 4, hid2 G h l, rfl, by decide, by decide, S.lt.hs.re, fun G1 nn hs1 n0 n1 => ?_⟩
  replace S := S.next hs1
  clear hs1
  obtain ⟨F0, eF0⟩ : ∃ F', F' = F := ⟨_, rfl⟩
  refine ⟨_, rfl, by omega, by omega, for_range (n := nn.toNat) (fun i σ G => ∃ (F : Hp) (cc : Addr) (es : List En) (p : Nat) (rs qs : List Addr) (x6 x7 x8 x9 x10 x11 x12 x13 x14 x15 x17 x18 : Option V), St K F G h l Pt q x dx o1 cc lo t ts es es p rs qs p1 ∧ es.length ≤ i ∧ p ∣ 2 * perB ts * per ts ∧ (∀ e ∈ es, EnOk ts e) ∧ 0 < cnt (allB ts es) 1000000000000000001 ∧
    σ = [some (.ref a), some (.ref h), some (.ref p1), some (.ref o1), some (.int (hd : Nat)), some (.ref t), x6, x7, x8, x9, x10, x11, x12, x13, x14, x15, some (.ref x), x17, x18]) ⟨F, cc, [], 1, [], [], _, _, _, _, _, _, _, _, _, _, _, _, S, Nat.le_refl _, Nat.one_dvd _, fun e m => (by cases m), ?_, rfl⟩ ?_ ?_⟩
  · rw [allB_nil]
    exact Nat.lt_of_lt_of_le (show 0 < cnt (fun _ => true) 1 by decide) (cnt_mono _ (by omega))
  · clear S eF0 F0 F G1 G cc
    rintro i σ G hi ⟨F, cc, es, p, rs, qs, x6, x7, x8, x9, x10, x11, x12, x13, x14, x15, x17, x18, S, hes, hp, hok, hpos, rfl⟩
    have hes3 : es.length ≤ 3 := by omega
    obtain ⟨dy, fy, oi0, on⟩ := S.of.ins
    -- the kind
    refine ⟨_, rfl, o1, dy, fy, rfl, S.lt.hs.same _ _ oi0, o1, ts, rfl, S.of.mono S.lt.hs.same, dr.len3, fun G1 kp s1 hkp => ?_⟩
    replace S := S.grow s1
    clear s1
    refine ⟨_, rfl, _, rfl, o1, dy, fy, rfl, S.lt.hs.same _ _ oi0, o1, ts, rfl, S.of.mono S.lt.hs.same, dr.len3, fun G2 kq s2 hkq => ⟨kq, _, rfl, .inr hkq, ?_⟩⟩
    replace S := S.grow s2
    replace hkp := Same.tup s2 hkp
    clear s2 hkq kq
    rw [List.length_map, List.length_map]
    have hl0 : 0 < ts.length := List.length_pos_iff.mpr hne
    refine ⟨h, l, (ts.length : Int), hid2 G2 h l, rfl, by omega, by omega, S.lt.hs.re, fun G3 r hs3 r0 r1 => ?_⟩
    have hkp3 := Same.tup hs3.same (HS.tup S.lt.hs hkp)
    replace S := S.next hs3
    obtain ⟨rn, rfl⟩ := Int.eq_ofNat_of_zero_le r0
    have hrn : rn < ts.length := by omega
    obtain ⟨kd, ekd⟩ : ∃ kd, (ts.map Tr.k)[rn]? = some kd := ⟨_, List.getElem?_eq_getElem (by rw [List.length_map]; exact hrn)⟩
    have hkd : kd ∈ ts.map Tr.k := List.mem_of_getElem? ekd
    clear hs3 r0 r1 hkp
    refine ⟨kp, _, _, _, rfl, rfl, hkp3, at_of (j := rn) rfl (by rw [List.getElem?_map, ekd]; rfl), ?_⟩
    clear hkp3 ekd hrn
    have p3 : p ≤ 3000 := Nat.le_trans (Nat.le_of_dvd sx.2 hp) sx.1
    refine ⟨_, rfl, x, dx, _, rfl, S.ob, lk_noo (by decide +kernel), _, _, rfl, rfl, ⟨by decide, by decide, by decide⟩, ?_⟩
    dsimp only [tNil]
    rw [show (10 : Int) ^ Int.toNat 18 = ((1000000000000000000 : Nat) : Int) from rfl]
    refine upTo_do S.sees fts (by omega) (Nat.le_refl _) fun G4 s4 => ⟨_, _, rfl, ?_⟩
    replace S := S.grow s4
    clear s4
    -- the number of the round, a list for what comes
    refine ⟨_, rfl, h, l, 2, hid2 G4 h l, rfl, by decide, by decide, S.lt.hs.re, fun G5 m0 hs5 m1 m2 => ⟨_, _, rfl, rfl, by show 0 ≤ sizeLine; decide, fun R nR => ⟨by show 2 ≤ sizeLine; decide, fun u hu => ⟨u, _, rfl, SqT.of upd_same, rfl, _, _, rfl, _, _, rfl, rfl, ?_⟩⟩⟩⟩
    replace S := S.next hs5
    have dR := S.lt.hs.new nR
    have nR0 : F R = none := S.lt.hs.same.free nR
    have dR2 : R ≠ lo ∧ R ≠ t := ⟨(ne_of_none S.elo nR).symm, (ne_of_none S.et nR).symm⟩
    have eR : upd (upd G5 R (.lst [])) u (.tup [.int (1 + m0), .ref R]) R = some (.lst []) := upd_old upd_same hu
    replace S := S.grow ((same_new (u := .lst []) nR).trans (same_new (u := .tup [.int (1 + m0), .ref R]) hu))
    generalize upd (upd G5 R (.lst [])) u (.tup [.int (1 + m0), .ref R]) = G6 at S eR
    clear hs5 nR hu
    -- what is told
    obtain ⟨cv, cv0, cv1, ecv⟩ := left_has fts.g hkd (D (cN ts) hd)
    refine ⟨_, rfl, _, rfl, o1, dy, fy, rfl, S.lt.hs.same _ _ oi0, on _ (by decide +kernel), _, rfl, o1, ts, hd, rfl, S.of.mono S.lt.hs.same, fts, hdm, fun G7 pd s7 hpd => ?_⟩
    replace S := S.grow s7
    replace eR := s7 _ _ eR
    clear s7
    refine ⟨_, rfl, pd, .int cv, rfl, by have z := DGet.k (k := .inr kd) hpd; rw [ecv] at z; exact z, _, rfl, h, l, 9, hid2 G7 h l, rfl, by decide, by decide, S.lt.hs.re, fun G8 z hs8 z0 z1 => ?_⟩
    replace eR := hs8.same _ _ (HS.keep (H0 := F) eR dR.1 dR.2)
    replace S := S.next hs8
    clear hs8 hpd pd
    refine ⟨_, _, rfl, rfl, ⟨by decide, by decide⟩, _, _, rfl, rfl, by show 3 ≤ sizeLine; decide, fun ent nent => ?_⟩
    have eent : (upd G8 ent (.tup [.str "left", .str kd, .int (cv + z / 8)])) ent = some (.tup (En.left kd (cv + z / 8)).vs) := upd_same
    replace eR := upd_old (u := .tup [.str "left", .str kd, .int (cv + z / 8)]) eR nent
    replace S := S.grow (same_new (u := .tup [.str "left", .str kd, .int (cv + z / 8)]) nent)
    generalize upd G8 ent (.tup [.str "left", .str kd, .int (cv + z / 8)]) = G9 at S eR eent
    clear nent
    dsimp only [gName]
    refine capSN [some (.ref a), some (.ref h), some (.ref p1), some (.ref o1), some (.int (hd : Nat)), some (.ref t), some (.int (0 + (i : Int))), some (.str kd), some (.int (cnt (allB ts es) (1000000000000000000 + 1) : Nat)), some (.int (1 + m0)), x10, x11, x12, x13, x14, some (.ref ent), some (.ref x), some (.ref R), x18] rfl ?_
    refine capI (fun σ' G' => ∃ (e : En) (ent : Addr) (y10 : Option V), St K F G' h l Pt q x dx o1 cc lo t ts es es p rs qs p1 ∧ G' R = some (.lst []) ∧ EnOk ts e ∧ G' ent = some (.tup e.vs) ∧
      σ' = [some (.ref a), some (.ref h), some (.ref p1), some (.ref o1), some (.int (hd : Nat)), some (.ref t), some (.int (0 + (i : Int))), some (.str kd), some (.int (cnt (allB ts es) (1000000000000000000 + 1) : Nat)), some (.int (1 + m0)), y10, x11, x12, x13, x14, some (.ref ent), some (.ref x), some (.ref R), x18]) ?_ (fun k2 => ?_)
    rotate_left
    · refine ⟨_, rfl, h, l, 2, hid2 G9 h l, rfl, by decide, by decide, S.lt.hs.re, fun G10 b hs10 b0 b1 => ⟨rfl, _, rfl, ite2 (fun _ => ?_) (fun _ => ?_)⟩⟩
      · replace eR := hs10.same _ _ (HS.keep (H0 := F) eR dR.1 dR.2)
        replace S := S.next hs10
        clear hs10 eent b0 b1
        dsimp only
        refine capA (fun σ' G' => ∃ sz : Int, St K F G' h l Pt q x dx o1 cc lo t ts es es p rs qs p1 ∧ G' R = some (.lst []) ∧
          σ' = [some (.ref a), some (.ref h), some (.ref p1), some (.ref o1), some (.int (hd : Nat)), some (.ref t), some (.int (0 + (i : Int))), some (.str kd), some (.int (cnt (allB ts es) (1000000000000000000 + 1) : Nat)), some (.int (1 + m0)), some (.int sz), x11, x12, x13, x14, some (.ref ent), some (.ref x), some (.ref R), x18]) ?_ (fun k3 => ?_)
        rotate_left
        · refine ⟨_, rfl, rfl, _, rfl, ite2 (fun _ => ?_) (fun _ => ?_)⟩
          · exact ⟨_, rfl, k3 _ _ ⟨_, S, eR, rfl⟩⟩
          · exact ⟨_, rfl, _, rfl, p1, ts, _, rfl, S.tr.mono S.lt.hs.same, fts.g, fun G11 s11 => k3 _ _ ⟨_, S.grow s11, s11 _ _ eR, rfl⟩⟩
        rintro _ G11 ⟨sz, S, eR, rfl⟩
        refine ⟨_, rfl, _, rfl, _, rfl, h, l, 9, hid2 G11 h l, rfl, by decide, by decide, S.lt.hs.re, fun G12 z hs12 z0 z1 => ?_⟩
        replace eR := hs12.same _ _ (HS.keep (H0 := F) eR dR.1 dR.2)
        replace S := S.next hs12
        refine ⟨_, _, rfl, rfl, ⟨by decide, by decide⟩, _, _, rfl, rfl, _, _, rfl, rfl, (by decide : (0 : Int) < 2), by show 3 ≤ sizeLine; decide, fun ent nent => ?_⟩
        exact k2 _ _ ⟨.round (1 + m0) ((sz + z / 8) % 2), ent, _, S.grow (same_new nent), upd_old eR nent, ⟨by omega, by omega, by omega, by omega⟩, upd_same, rfl⟩
      · exact k2 _ _ ⟨.left kd (cv + z / 8), ent, _, S.next hs10, hs10.same _ _ (HS.keep (H0 := F) eR dR.1 dR.2), hkd, HS.same hs10 _ _ (HS.keepT S.lt.hs eent), rfl⟩
    clear eR eent S ent ecv cv0 cv1 z0 z1
    rintro _ G13 ⟨e, ent, y10, S, eR, hek, eent, rfl⟩
    -- the two lambdas, one of them taken
    refine capA (fun σ' G' => ∃ (f : Addr) (tl : XK → TE), St K F G' h l Pt q x dx o1 cc lo t ts es es p rs qs p1 ∧ G' R = some (.lst []) ∧ G' ent = some (.tup e.vs) ∧ Lam (lawCx PX w K mg base N_law d_law.ql (defScope d_law.st) (d_law.adr K) c A outer s H E) 9 G' f tl ∧
      (∀ (E : XK) (Q' : VK), SeeP K x e G' (fun v H' => rAppend (.ref R) [v] H' Q') E → tl E σ' G' Q') ∧
      σ' = [some (.ref a), some (.ref h), some (.ref p1), some (.ref o1), some (.int (hd : Nat)), some (.ref t), some (.int (0 + (i : Int))), some (.str kd), some (.int (cnt (allB ts es) (1000000000000000000 + 1) : Nat)), some (.int (1 + m0)), y10, some (.ref f), x12, x13, x14, some (.ref ent), some (.ref x), some (.ref R), x18]) ?_ (fun k3 => ?_)
    rotate_left
    · refine ⟨tabs_eq eq S.lt.tb, fun G14 f1 eN14 T14 lam1 nf1 => ?_⟩
      replace S := S.ext eN14 (tabs_of_eq eq T14)
      replace eR := eN14 _ _ eR (fun ps z => by cases z)
      replace eent := eN14 _ _ eent (fun ps z => by cases z)
      refine ⟨tabs_eq eq S.lt.tb, fun G15 f2 eN15 T15 lam2 nf2 => ⟨by show 2 ≤ sizeLine; decide, fun Lc nLc => ?_⟩⟩
      replace S := (S.ext eN15 (tabs_of_eq eq T15)).grow (same_new (u := .lst [.ref f1, .ref f2]) nLc)
      replace eR := upd_old (u := .lst [.ref f1, .ref f2]) (eN15 _ _ eR (fun ps z => by cases z)) nLc
      replace eent := upd_old (u := .lst [.ref f1, .ref f2]) (eN15 _ _ eent (fun ps z => by cases z)) nLc
      replace lam1 := (lam1.ext eN15).mono (same_new (u := .lst [.ref f1, .ref f2]) nLc)
      replace lam2 := lam2.mono (same_new (u := .lst [.ref f1, .ref f2]) nLc)
      have eLc : upd G15 Lc (.lst [.ref f1, .ref f2]) Lc = some (.lst [.ref f1, .ref f2]) := upd_same
      generalize upd G15 Lc (.lst [.ref f1, .ref f2]) = G16 at S eR eent lam1 lam2 eLc
      clear nLc eN14 T14 nf1 eN15 T15 nf2
      cases e with
      | left k1 n1 =>
        refine ⟨_, rfl, ent, _, 0, _, rfl, rfl, SqT.of eent, rfl, rfl, .inr ⟨_, rfl, ?_⟩⟩
        rw [if_neg (by decide +kernel)]
        refine ⟨Lc, _, 0, _, rfl, rfl, SqL.of eLc, rfl, k3 _ _ ⟨f1, _, S, eR, eent, lam1, fun E Q' hs => ?_, rfl⟩⟩
        exact ⟨_, rfl, .inl ⟨rfl, _, SqL.of eR⟩, _, rfl, x, dx, _, rfl, S.ob, lk_noo (by decide +kernel), _, rfl, ent, _, 1, _, rfl, rfl, SqT.of eent, rfl, _, rfl, ent, _, 2, _, rfl, rfl, SqT.of eent, rfl, x, k1, n1, rfl, hs⟩
      | round k1 n1 =>
        refine ⟨_, rfl, ent, _, 0, _, rfl, rfl, SqT.of eent, rfl, rfl, .inr ⟨_, rfl, ?_⟩⟩
        rw [if_pos (by decide +kernel)]
        refine ⟨Lc, _, 1, _, rfl, rfl, SqL.of eLc, rfl, k3 _ _ ⟨f2, _, S, eR, eent, lam2, fun E Q' hs => ?_, rfl⟩⟩
        exact ⟨_, rfl, .inl ⟨rfl, _, SqL.of eR⟩, _, rfl, x, dx, _, rfl, S.ob, lk_noo (by decide +kernel), _, rfl, ent, _, 1, _, rfl, rfl, SqT.of eent, rfl, _, rfl, ent, _, 2, _, rfl, rfl, SqT.of eent, rfl, x, k1, n1, rfl, hs⟩
    clear S eR eent
    rintro _ G17 ⟨f, tl, S, eR, eent, lam, does, rfl⟩
    have hle : es.length ≤ 1000 := by omega
    have hlc := lcm_span (e := e) hp
    have hlb : Nat.lcm p (e.span ts) ≤ 1000000 := Nat.le_trans (Nat.le_of_dvd sx.2 hlc) (by have := sx.1; omega)
    refine capA (fun σ' G' => ∃ (pr : Addr), G' ent = some (.tup e.vs) ∧ ((∃ (F' : Hp) (c' r : Addr), St K F' G' h l Pt q x dx o1 c' lo t ts (es ++ [e]) es (Nat.lcm p (e.span ts)) (rs ++ [r]) qs p1 ∧ cnt (allB ts (es ++ [e])) 1000000000000000001 ≠ 0 ∧ G' R = some (.lst [.int (cnt (allB ts (es ++ [e])) 1000000000000000001 : Nat)]) ∧ SqT K G' pr [.str "none"]) ∨
      (St K F G' h l Pt q x dx o1 cc lo t ts es es p rs qs p1 ∧ cnt (allB ts (es ++ [e])) 1000000000000000001 = 0 ∧ SqT K G' pr [.str "contradiction"])) ∧
      σ' = [some (.ref a), some (.ref h), some (.ref p1), some (.ref o1), some (.int (hd : Nat)), some (.ref t), some (.int (0 + (i : Int))), some (.str kd), some (.int (cnt (allB ts es) (1000000000000000000 + 1) : Nat)), some (.int (1 + m0)), y10, some (.ref f), some (.ref pr), x13, x14, some (.ref ent), some (.ref x), some (.ref R), x18]) ?_ (fun k4 => ?_)
    rotate_left
    · refine ⟨_, rfl, f, tl, rfl, lam, ?_⟩
      show TTErr K (fun E H' Q' => H' = G17 ∧ tl E _ H' Q') G17 _
      unfold TTErr
      refine ⟨rfl, does _ _ (S.see fts hle (by omega) hlb hek (fun z H' s' => ?_) (fun z G3 c' r s3 cn hr => ?_))⟩
      · exact ⟨rfl, rfl, fun H2 pr s2 hpr => k4 _ _ ⟨pr, s2 _ _ (s' _ _ eent), .inr ⟨S.grow (s'.trans s2), z, hpr⟩, rfl⟩⟩
      · have xR := S.xl eR
        have eR3 : upd (upd G3 x (.ins (He.ga K "BottleObserver") dx (obf o1 c' lo))) lo (.lst (rs.map V.ref ++ [.ref r])) R = some (.lst []) := (upd_ne dR2.1).trans ((upd_ne xR.symm).trans (s3 _ _ eR))
        refine ⟨R, [], _, rfl, rfl, eR3, by decide, by show 1 ≤ sizeLine; decide, fun pr npr => ?_⟩
        obtain ⟨F', S'⟩ := S.seen (zs := [.int (cnt (allB ts (es ++ [e])) 1000000000000000001 : Nat)]) s3 cn hr eR nR0 dR dR2 (S.rp' fts).1 (S.rp' fts).2
        have e5 : upd (upd (upd G3 x (.ins (He.ga K "BottleObserver") dx (obf o1 c' lo))) lo (.lst (rs.map V.ref ++ [.ref r]))) R (.lst [.int (cnt (allB ts (es ++ [e])) 1000000000000000001 : Nat)]) ent = some (.tup e.vs) := by
          have e4 := s3 _ _ eent
          rw [upd_ne (ne_of e4 (s3 _ _ eR) (by intro z; cases z)), upd_ne (ne_of e4 (s3 _ _ S.elo) (by intro z; cases z)), upd_ne (ne_of e4 (s3 _ _ S.ob) (by intro z; cases z))]
          exact e4
        exact k4 _ _ ⟨pr, upd_old e5 npr, .inl ⟨F', c', r, S'.grow (same_new npr), z, upd_old upd_same npr, SqT.of upd_same⟩, rfl⟩
    clear S eR eent lam does tl
    rintro _ G18 ⟨pr, eent, hc, rfl⟩
    refine capI (fun σ' G' => ∃ (F : Hp) (cc : Addr) (fs : List En) (p : Nat) (rs qs : List Addr), St K F G' h l Pt q x dx o1 cc lo t ts fs fs p rs qs p1 ∧ fs.length ≤ i + 1 ∧ p ∣ 2 * perB ts * per ts ∧ (∀ e ∈ fs, EnOk ts e) ∧ 0 < cnt (allB ts fs) 1000000000000000001 ∧
      σ' = [some (.ref a), some (.ref h), some (.ref p1), some (.ref o1), some (.int (hd : Nat)), some (.ref t), some (.int (0 + (i : Int))), some (.str kd), some (.int (cnt (allB ts es) (1000000000000000000 + 1) : Nat)), some (.int (1 + m0)), y10, some (.ref f), some (.ref pr), x13, x14, some (.ref ent), some (.ref x), some (.ref R), x18]) ?_ (fun k5 => ?_)
    rotate_left
    · have hok' : ∀ e' ∈ es ++ [e], EnOk ts e' := fun e' m => by
        rcases List.mem_append.mp m with m | m
        · exact hok e' m
        · rw [List.mem_singleton.mp m]
          exact hek
      rcases hc with ⟨F', c', r, S, hz, eR, hpr⟩ | ⟨S, hz, hpr⟩
      · refine ⟨_, rfl, by show 1 ≤ sizeLine; decide, fun u hu => ⟨.tuple [.str "none"], .tuple [.str "none"], .tup (Same.tup (same_new hu) hpr) (.cons (.str _) .nil), .tup (SqT.of upd_same) (.cons (.str _) .nil), by decide +kernel, by decide +kernel, _, rfl, ?_⟩⟩
        rw [show PyData.eqv (.tuple [.str "none"]) (.tuple [.str "none"]) = true from by decide +kernel]
        refine iteT ?_
        replace S := S.grow (same_new (u := .tup [.str "none"]) hu)
        replace eR := upd_old (u := .tup [.str "none"]) eR hu
        replace eent := upd_old (u := .tup [.str "none"]) eent hu
        generalize upd G18 u (.tup [.str "none"]) = G19 at S eR eent
        clear hpr hu
        have hql : qs.length ≤ 3 := by rw [S.lq]; exact hes3
        refine ⟨_, rfl, .inl ⟨rfl, _, SqL.of S.et⟩, _, rfl, t, _, _, rfl, rfl, S.et, small3 (by rw [List.length_map]; omega), ?_⟩
        obtain ⟨F2, S2⟩ := S.told eent
        have eR2 : upd G19 t (.lst (qs.map V.ref ++ [.ref ent])) R = _ := (upd_ne dR2.2).trans eR
        generalize upd G19 t (.lst (qs.map V.ref ++ [.ref ent])) = G20 at S2 eR2
        clear S eR
        refine ⟨_, rfl, R, _, 0, _, rfl, rfl, SqL.of eR2, rfl, _, rfl, x, dx, _, rfl, S2.ob, lk_noo (by decide +kernel), _, _, rfl, rfl, ⟨by decide, by decide, by decide⟩, ?_⟩
        dsimp only [tNil]
        rw [show (10 : Int) ^ Int.toNat 18 = ((1000000000000000000 : Nat) : Int) from rfl]
        refine upTo_do S2.sees fts (by omega) (Nat.le_refl _) fun G21 s21 => ?_
        refine ⟨_, _, .int _, rfl, .int _, .int _, .int _, fun G22 s22 => ⟨true, rfl, ?_⟩⟩
        refine iteF ?_
        have eR3 := s22 _ _ (s21 _ _ eR2)
        refine ⟨_, rfl, R, _, 0, _, rfl, rfl, SqL.of eR3, rfl, _, _, rfl, rfl, _, rfl, ite2 (fun z => absurd (of_decide_eq_true z) (by omega)) (fun _ => ?_)⟩
        exact k5 _ _ ⟨F2, c', _, _, _, _, S2.grow (s21.trans s22), by rw [List.length_append]; exact Nat.succ_le_succ hes, hlc, hok', by omega, rfl⟩
      · refine ⟨_, rfl, by show 1 ≤ sizeLine; decide, fun u hu => ⟨.tuple [.str "contradiction"], .tuple [.str "none"], .tup (Same.tup (same_new hu) hpr) (.cons (.str _) .nil), .tup (SqT.of upd_same) (.cons (.str _) .nil), by decide +kernel, by decide +kernel, _, rfl, ?_⟩⟩
        rw [show PyData.eqv (.tuple [.str "contradiction"]) (.tuple [.str "none"]) = false from by decide +kernel]
        refine iteF ?_
        replace S := S.grow (same_new (u := .tup [.str "none"]) hu)
        replace hpr := Same.tup (same_new (u := .tup [.str "none"]) hu) hpr
        replace eent := upd_old (u := .tup [.str "none"]) eent hu
        generalize upd G18 u (.tup [.str "none"]) = G19 at S hpr eent
        clear hu
        refine ⟨_, rfl, by show 1 ≤ sizeLine; decide, fun u hu => ⟨.tuple [.str "contradiction"], .tuple [.str "contradiction"], .tup (Same.tup (same_new hu) hpr) (.cons (.str _) .nil), .tup (SqT.of upd_same) (.cons (.str _) .nil), by decide +kernel, by decide +kernel, _, rfl, ?_⟩⟩
        rw [show PyData.eqv (.tuple [.str "contradiction"]) (.tuple [.str "contradiction"]) = true from by decide +kernel]
        refine iteF ?_
        replace S := S.grow (same_new (u := .tup [.str "contradiction"]) hu)
        replace eent := upd_old (u := .tup [.str "contradiction"]) eent hu
        generalize upd G19 u (.tup [.str "contradiction"]) = G20 at S eent
        clear hu hpr
        refine ⟨_, rfl, _, rfl, _, rfl, _, rfl, by show 1 ≤ sizeLine; decide, fun L1 m1 => ?_⟩
        have hql : qs.length ≤ 3 := by rw [S.lq]; exact hes3
        have S1 := S.grow (same_new (u := .lst [.ref ent]) m1)
        refine ⟨t, L1, _, _, rfl, rfl, S1.et, upd_same, Nat.le_of_lt (small3 (by rw [List.length_map]; show qs.length + 1 ≤ _; omega)), fun L2 m2 => ?_⟩
        have S3 := S1.grow (same_new (u := .lst (qs.map V.ref ++ [.ref ent])) m2)
        have ta : TellAt K (upd (upd G20 L1 (.lst [.ref ent])) L2 (.lst (qs.map V.ref ++ [.ref ent]))) L2 (es ++ [e]) := S.told_at eent ((same_new m1).trans (same_new m2)) upd_same
        refine ⟨o1, L2, ts, es ++ [e], hd, rfl, S3.of.mono S3.lt.hs.same, fts, hdm, ta, hok', fun G21 s21 => ⟨_, rfl, ?_⟩⟩
        have hno : allB ts (es ++ [e]) hd = false := by
          cases hb : allB ts (es ++ [e]) hd with
          | false => rfl
          | true =>
            have h1 := cnt_mono (allB ts (es ++ [e])) (show hd + 1 ≤ 1000000000000000001 by omega)
            rw [cnt_t hb] at h1
            omega
        rw [hno]
        refine iteF ?_
        have S4 := S3.grow s21
        refine ⟨_, rfl, x, dx, _, rfl, S4.ob, lk_noo (by decide +kernel), _, _, rfl, rfl, ⟨by decide, by decide, by decide⟩, ?_⟩
        dsimp only [tNil]
        rw [show (10 : Int) ^ Int.toNat 18 = ((1000000000000000000 : Nat) : Int) from rfl]
        refine upTo_do S4.sees fts (by omega) (Nat.le_refl _) fun G22 s22 => ?_
        refine ⟨_, rfl, rfl, _, rfl, ite2 (fun z => absurd rfl (ne_of_not z)) (fun _ => ?_)⟩
        exact k5 _ _ ⟨F, cc, es, p, rs, qs, S4.grow s22, by omega, hp, hok, hpos, rfl⟩
    clear hc eent
    rintro _ G22 ⟨F, cc, fs, p, rs, qs, S, hfl, hp, hok, hpos, rfl⟩
    have hfl4 : fs.length ≤ 4 := by omega
    have p3 : p ≤ 3000 := Nat.le_trans (Nat.le_of_dvd sx.2 hp) sx.1
    refine ⟨_, rfl, x, dx, _, rfl, S.ob, x, dx, o1, cc, lo, rs.map V.ref, rfl, S.ob, S.elo, by rw [List.length_map, S.lr]; omega, fun Lr nLr => ?_⟩
    have eLr : upd G22 Lr (.lst (rs.map V.ref)) Lr = some (.lst (rs.map V.ref)) := upd_same
    replace S := S.grow (same_new (u := .lst (rs.map V.ref)) nLr)
    generalize upd G22 Lr (.lst (rs.map V.ref)) = G23 at S eLr
    have sB := S.lt.hs.same
    refine ⟨_, rfl, _, _, .list (fs.map En.d), rfl, .lst (SqL.of eLr) (ens_dp S.lr fun i r e u v => Same.tup sB (S.er i r e u v)), .lst (SqL.of S.et) (ens_dp S.lq fun i r e u v => Same.tup sB (S.eq i r e u v)), ens_lev fs (by omega), fun G24 s24 => ⟨true, rfl, iteF ?_⟩⟩
    replace S := S.grow s24
    refine ⟨_, rfl, _, rfl, _, rfl, o1, x, t, dx, cc, lo, ts, fs, p, rs.map V.ref, rfl, S.sees, fts, by omega, S.tell, hok, fun G25 s25 => ⟨true, rfl, ?_⟩⟩
    refine iteF ?_
    exact ⟨F, cc, fs, p, rs, qs, _, _, _, _, _, _, _, _, _, _, _, _, S.grow s25, hfl, hp, hok, hpos, rfl⟩
  · rintro σ G2 ⟨F, cc, es, p, rs, qs, x6, x7, x8, x9, x10, x11, x12, x13, x14, x15, x17, x18, S, hes, hp, hok, hpos, rfl⟩
    have p3 : p ≤ 3000 := Nat.le_trans (Nat.le_of_dvd sx.2 hp) sx.1
    refine ⟨_, rfl, x, dx, _, rfl, S.ob, lk_noo (by decide +kernel), _, _, rfl, rfl, ⟨by decide, by decide, by decide⟩, ?_⟩
    dsimp only [tNil]
    rw [show (10 : Int) ^ Int.toNat 18 = ((1000000000000000000 : Nat) : Int) from rfl]
    refine upTo_do S.sees fts (by omega) (Nat.le_refl _) fun G3 s3 => ?_
    replace S := S.grow s3
    clear s3
    have hle := cnt_le (allB ts es) 1000000000000000001
    obtain ⟨n, hn⟩ : ∃ n, cnt (allB ts es) 1000000000000000001 = n + 1 := ⟨cnt (allB ts es) 1000000000000000001 - 1, by omega⟩
    have hn' : cnt (allB ts es) (1000000000000000000 + 1) = n + 1 := hn
    rw [hn']
    refine ⟨_, rfl, x, dx, _, rfl, S.ob, lk_noo (by decide +kernel), _, rfl, ?_⟩
    dsimp only [tNil]
    refine nth_do S.sees fts (by omega) (by omega) fun G4 s4 => ⟨fun z => absurd z (by omega), fun b hb hc hb18 => ?_⟩
    replace S := S.grow s4
    clear s4
    dsimp only [gName]
    refine capSN [some (.ref a), some (.ref h), some (.ref p1), some (.ref o1), some (.int (hd : Nat)), some (.ref t), x6, x7, x8, x9, x10, x11, x12, some (.int ((n + 1 : Nat) : Int)), some (.int (b : Nat)), x15, some (.ref x), x17, x18] rfl ?_
    have hb1 := cnt_t hb
    refine capI (fun σ' G' => St K F G' h l Pt q x dx o1 cc lo t ts es es p rs qs p1 ∧ σ' = [some (.ref a), some (.ref h), some (.ref p1), some (.ref o1), some (.int (hd : Nat)), some (.ref t), x6, x7, x8, x9, x10, x11, x12, some (.int ((n + 1 : Nat) : Int)), some (.int (b : Nat)), x15, some (.ref x), x17, x18]) ?_ (fun k2 => ?_)
    rotate_left
    · refine ⟨_, rfl, _, rfl, _, rfl, o1, t, ts, es, b, rfl, S.of.mono S.lt.hs.same, fts, hb18, S.tell, hok, fun G5 s5 => ⟨_, rfl, ?_⟩⟩
      replace S := S.grow s5
      rw [hb]
      refine iteF ?_
      refine ⟨_, rfl, x, dx, _, rfl, S.ob, lk_noo (by decide +kernel), _, _, rfl, rfl, ⟨by decide, by decide, by decide⟩, _, _, rfl, rfl, _, rfl, _, _, rfl, rfl, _, _, rfl, ?_⟩
      dsimp only [tNil]
      obtain ⟨n2, ee, hn2, hn3⟩ : ∃ n2 : Nat, (if (((n + 1 : Nat) : Int) + 1) < ((10 : Int) ^ Int.toNat 18 + 1) then (((n + 1 : Nat) : Int) + 1) else ((10 : Int) ^ Int.toNat 18 + 1)) = ((n2 + 1 : Nat) : Int) ∧ n2 ≤ 1000000000000000000 ∧ (n2 = n + 1 ∨ n2 = 1000000000000000000) := by
        rw [show (10 : Int) ^ Int.toNat 18 + 1 = 1000000000000000001 from rfl]
        by_cases y : (((n + 1 : Nat) : Int) + 1) < 1000000000000000001
        · exact ⟨n + 1, by rw [if_pos y]; rfl, by omega, .inl rfl⟩
        · exact ⟨1000000000000000000, by rw [if_neg y]; rfl, Nat.le_refl _, .inr rfl⟩
      rw [ee]
      clear ee
      refine nth_do S.sees fts (by omega) hn2 fun G6 s6 => ⟨fun z => ?_, fun b2 hb2 hc2 hb3 => ?_⟩
      · refine ⟨_, _, rfl, rfl, ⟨by decide, by decide, by decide⟩, by show 2 ≤ sizeLine; decide, fun u hu => ⟨u, _, rfl, .inr (SqT.of upd_same), rfl, rfl, _, rfl, ?_⟩⟩
        rw [if_pos rfl]
        refine ite2 (fun z => absurd z (by decide +kernel)) (fun _ => ?_)
        exact k2 _ _ ⟨(S.grow s6).grow (same_new hu), rfl⟩
      · have hb2' : b2 = 1000000000000000000 := by
          have h1 := cnt_t hb2
          have h2 := cnt_mono (allB ts es) (show b2 + 1 ≤ 1000000000000000001 by omega)
          have h3 := cnt_le (allB ts es) b2
          rcases hn3 with hn3 | hn3
          · omega
          · rw [hn3] at hc2
            exact Nat.le_antisymm hb3 (by rw [← hc2]; exact h3)
        subst hb2'
        refine ⟨_, _, rfl, rfl, ⟨by decide, by decide, by decide⟩, by show 2 ≤ sizeLine; decide, fun u hu => ⟨u, _, rfl, .inr (SqT.of upd_same), rfl, rfl, _, rfl, ?_⟩⟩
        rw [if_pos rfl]
        refine ite2 (fun z => absurd z (by decide +kernel)) (fun _ => ?_)
        exact k2 _ _ ⟨(S.grow s6).grow (same_new hu), rfl⟩
    clear S
    rintro _ G7 ⟨S, rfl⟩
    obtain ⟨top, hi18, htop⟩ : ∃ top : Nat, (if ((b : Int) + 90) < ((10 : Int) ^ Int.toNat 18) then ((b : Int) + 90) else ((10 : Int) ^ Int.toNat 18)) = (top : Int) ∧ top ≤ 1000000000000000000 := by
      rw [show (10 : Int) ^ Int.toNat 18 = 1000000000000000000 from rfl]
      by_cases y : ((b : Int) + 90) < 1000000000000000000
      · exact ⟨b + 90, by rw [if_pos y]; rfl, by omega⟩
      · exact ⟨1000000000000000000, by rw [if_neg y]; rfl, Nat.le_refl _⟩
    refine ⟨_, rfl, _, _, rfl, rfl, _, _, rfl, rfl, ⟨by decide, by decide, by decide⟩, _, rfl, _, _, rfl, rfl, _, _, rfl, _, _, rfl, rfl, ?_⟩
    rw [hi18]
    clear hi18
    have h62 : (1000000000000000001 : Int) < 2 ^ 62 := by decide
    refine ⟨_, _, rfl, ⟨by omega, by omega, by omega, by omega⟩, fun D nD => ?_⟩
    refine lc_range (lo := (b : Int) + 1) (n := ((top : Int) + 1 - ((b : Int) + 1)).toNat) (fun j G1 => Same G7 G1 ∧ G1 D = some (.lst [])) ⟨same_new nD, upd_same⟩ ?_ ?_
    · rintro j G1 hj ⟨s5, e5⟩
      have S5 := And.intro (S.of.mono (S.lt.hs.same.trans s5)) (S.tell.mono s5)
      refine ⟨rfl, _, rfl, _, rfl, _, rfl, ?_⟩
      rw [show (b : Int) + 1 + (j : Int) = ((b + 1 + j : Nat) : Int) by push_cast; rfl]
      refine ⟨o1, t, ts, es, b + 1 + j, rfl, S5.1, fts, by omega, S5.2, hok, fun G6 s6 => ⟨_, rfl, ?_⟩⟩
      have hno : allB ts es (b + 1 + j) = false := by
        cases hb : allB ts es (b + 1 + j) with
        | false => rfl
        | true =>
          have h1 := cnt_mono (allB ts es) (show b + 1 + j + 1 ≤ 1000000000000000001 by omega)
          have h2 := cnt_mono (allB ts es) (show b + 1 ≤ b + 1 + j by omega)
          rw [cnt_t hb] at h1
          omega
      rw [hno]
      exact iteF ⟨s5.trans s6, s6 _ _ e5⟩
    rintro G1 ⟨s5, e5⟩
    refine ⟨Nat.zero_le _, fun W hW => ⟨.list [], .list [], .lst (SqL.of (upd_old e5 hW)) .nil, .lst (SqL.of upd_same) .nil, shapedN, shapedN, ?_⟩⟩
    exact k _
end
end EB

namespace EB
open PySem PySem.Spec PyProof.Rows L2
theorem facts {w : World} {K : PySem.W.Frag} {h : Heap} {mg : Str → Option Value} {f : Addr} (X : K.In h) (G : h.Ns mainGlobals mg) (hfa : mg ("law" : Str) = some (.ref f)) (c : SaysL fas moreB dds tfs h K) :
    LamX.LawAtS PySem.Challenge.rw_emptiesback_k12_whole_bottles_nobody_cou w K CX0 13 63 "_law_script" mg f h := by
  obtain ⟨T⟩ := tx_of X G c.t
  have e := hfa.symm.trans T.g_law
  cases e
  have b := FunD.bindsA (ps := ["_law_script"]) (show FunD K d_law.nm d_law.ql (defArgs d_law.st) (defBody d_law.st) (defScope d_law.st) [] [] (d_law.adr K) T.fd_law from T.F_law) fun _ _ _ _ _ _ us hl => match us, hl with | [_], _ => rfl
  obtain ⟨oc, od, osl, cd, lk, hcd⟩ := code_of T.F_law
  have ec : He.codeOf K (("law" : Str), none) = cd := He.codeOf_eq lk hcd
  have hm : ((("law" : Str), none) : He.Defn) ∈ tfs := by unfold tfs; simp
  have sub : ∀ p ∈ [He.cT K (("law" : Str), none)], ∃ d ∈ tfs, He.cT K d = p := fun p hp => ⟨_, hm, (List.mem_singleton.mp hp).symm⟩
  refine ⟨T.fd_law, [He.cT K (("law" : Str), none)], spLaw K (He.cT K (("law" : Str), none)).2, fun p hp => ?_, fun p hp => ?_, fun p hp => ?_, fun s v => b s [v] rfl, fun H a ns hl _ hP hS => ⟨a, ns, rfl, hS, hl, hP _ (List.mem_cons_self ..), fun _ => rfl⟩, fun base hK _ TB => ?_⟩
  · obtain ⟨d, hd, rfl⟩ := sub p hp
    exact c.empty d hd
  · obtain ⟨d, hd, rfl⟩ := sub p hp
    exact c.out d hd
  · obtain ⟨d, hd, rfl⟩ := sub p hp
    exact PySem.W.codeHd_of_K X (c.hd d hd)
  · have tb := TB _ (List.mem_cons_self ..)
    refine ok_law (c := cd) T hK ?_ hcd
    rw [← ec]
    exact tb
end EB
open PySem PySem.W PySem.Calls PyProof.Rows in
theorem PySem.Challenge.cw_emptiesback_k12_whole_bottles_nobody_cou_holds : PySem.Challenge.rw_emptiesback_k12_whole_bottles_nobody_cou.Holds := by
  w_on; o_law
  refine HandSHeadRun.head_imp (r := OpenLaw.row PySem.Challenge.rw_emptiesback_k12_whole_bottles_nobody_cou) (q := view (OpenLaw.row PySem.Challenge.rw_emptiesback_k12_whole_bottles_nobody_cou).prog [0, 51]) (H := EB.hk) (ob := EB.ob) (M := 12000) (loose := EB.loose) (d := HandSHeadRun.topDef (OpenLaw.row PySem.Challenge.rw_emptiesback_k12_whole_bottles_nobody_cou).prog 51) (kwd := [])
    EB.ob_eq EB.run (by kernel_rfl) (by kernel_rfl) (by kernel_rfl) (by rfl) (by first | assumption | decide +kernel) (by decide +kernel) ⟨rfl, rfl, rfl, rfl, rfl, by decide +kernel⟩ ?hw ?hc
  case hw => w_witness2
  case hc =>
    refine LamX.walk_ofTsE (l := PySem.Challenge.rw_emptiesback_k12_whole_bottles_nobody_cou) (n := 63) (k := 13) (x := "_law_script") (CX := fun _ => L2.CX0) rfl (by decide) (by kernel_rfl) ⟨rfl, by decide, by decide⟩ ?F (fun _ _ _ _ _ z => z)
    intro w mg fa h Y G hmg0
    obtain ⟨K, KX, c⟩ := Y
    have hmg : mg ("law" : PySem.Str) = some (.ref fa) := by
      have e : (HandSHeadRun.topDef (OpenLaw.row PySem.Challenge.rw_emptiesback_k12_whole_bottles_nobody_cou).prog 51).name = ("law" : PySem.Str) := by kernel_rfl
      rw [← e]
      exact hmg0
    exact ⟨K, KX, EB.facts (w := w) KX G hmg c⟩

