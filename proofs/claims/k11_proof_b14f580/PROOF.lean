import PyProof.Rows.All
import Wide.All
import OpenK.AllK
import Wide.FinOn
import KE.KStateDown
import KE.KMathGC
import HandS.ForMost
import HandS.More
import HandS.WordsExc
import HandS.Defaults
import HandS.Property
import HandS.ClsMeth
import HandS.Star
import HandS.Gcd
import HandS.Wide
import HandS.IsInst
import HandS.Walk
import HandS.Style
import HandS.TupAny
import HandS.DictComp
import HandS.Head0
import HandS.Head1
import HandS.Head2
import HandS.HeadEnd
import HandS.HeadHook1
import HandS.HeadHook2
import HandS.Exc
import HandS.ExcInit
import HandS.FStr
import KE.KExcSuper
import HandS.ExcOwn
import HandS.ExcField
import HandS.ExcIs
import KE.KExcIs
import HandS.SetFor
import KE.GoesEnum
import KE.KTupSum
import HandS.NoneIn
import HandS.SlotsOwn
import KE.KOpsOwn
import HandS.Lambda
import HandS.HeadHook4
import HandS.HeadWalk
import HandS.GenList
import HandS.Small
import HandS.ListItems
import HandS.Zip
import KE.KEqNest
import PyProof.NeData
import HandS.OwnEq
import HandS.Head3
import PySem.Challenge.RW_emptiesback_k11_whole_steps
set_option Elab.async false
set_option linter.all false
set_option maxRecDepth 100000
set_option maxHeartbeats 0
/-! What every law here leans on: calls by positional promises, facts of the head, a heap that only grows. -/
namespace EB
open PySem PySem.Spec PyProof.Rows L2
section
variable {X : Cx} {CX : CXT} {k : Nat} {f C : Addr} {sp : Sp} {E : XK} {x m : Str} {e o : Expr} {es : List Expr} {ta : TE} {t : TA} {p pos apos : Pos}
/-- the promise sp asked of the values of the arguments -/
def tCR (sp : Sp) (E : XK) (t : TA) : TE := fun σ H Q => t σ H fun vs H1 => sp vs H1 Q E
theorem pe_cR (F : FnR X.prog X.w X.K X.mg X.base CX k f sp) (hr : Room k X.A) (hk : PySem.W.keepIn X.K (.ref f) = true) (hm : X.mg x = some (.ref f)) (hx : Passes CX X E) (ha : PA X (e :: es) t) (hg : Gl X x := by rfl)
    (hd : (x == ("__debug__" : Str)) = false := by decide) (he : starEach (e :: es) X.env = (false, eval e X.env) :: starEach es X.env := by rfl) (hp : (backTo pos (starEach es X.env)).any (·.1) = false := by rfl) :
    PE X (.Call (.Name x p) (e :: es) [] pos) (tCR sp E t) := by
  constructor
  intro pins s σ H Q I h
  refine wpAny_Call_Name_kw (ld_glob I hg hm ?_ hd)
  refine PySem.W.callWith_K (h₀ := X.base) I.ok.mod.kin hk (thn (ha.run pos pins s σ H _ I h) fun us s1 ⟨vs, H1, I1, r, q⟩ => ⟨I1.kIn, wpAny_call (run_fnR F hr hx I1 r q)⟩) he hp
/-- a method without arguments -/
def tM0 (C : Addr) (m : Str) (sp : Sp) (E : XK) (ta : TE) : TE := fun σ H Q => ta σ H fun x H1 => ∃ a dx fs, x = .ref a ∧ H1 a = some (.ins C dx fs) ∧ fs.lookup m = none ∧ sp [x] H1 Q E
end
/-- a tuple as the target of a comprehension -/
theorem pg_tupB {X : Cx} {s : Shared} {H : Hp} {scope : Scope} {cenv : Env} {fp : List Addr} {es : List Expr} {k : Nat} {t : TGs} {n : Nat} {pos : Pos} (h : PGs (X.blk s H scope cenv fp) es t) (hc : X.calm = true := by rfl)
    (hn : (assignEach es cenv).length = n := by rfl) (hst : (assignEach es cenv).findIdx? (·.1) = none := by rfl) : PG (X.blk s H scope cenv fp) (.Tuple es k pos) (gTup X.K n t) := pg_tup (X := X.blk s H scope cenv fp) hc h hn hst
/-! ### a heap that only grows -/
theorem same_new {H : Hp} {q : Addr} {u : HO} (h : H q = none) : Same H (upd H q u) := fun b o e => by
  rw [upd_ne (ne_of_none e h)]
  exact e
theorem same_mut {H0 H : Hp} {q : Addr} {u : HO} (s : Same H0 H) (h : H0 q = none) : Same H0 (upd H q u) := fun b o e => by
  rw [upd_ne (ne_of_none e h)]
  exact s b o e
theorem Same.tup {K : PySem.W.Frag} {H H' : Hp} {a : Addr} {xs : List V} (e : Same H H') (h : SqT K H a xs) : SqT K H' a xs := by
  rcases h with (h | ⟨o, h⟩) | h
  · exact .inl (.inl (e _ _ h))
  · exact .inl (.inr ⟨o, e _ _ h⟩)
  · exact .inr h
theorem upd_old {H : Hp} {a q : Addr} {o u : HO} (h : H a = some o) (n : H q = none) : upd H q u a = some o := by
  rw [upd_ne (ne_of_none h n)]
  exact h
/-! ### the head's facts -/
/-- the object of a def -/
def fdAt (K : PySem.W.Frag) (a : Addr) : Option FuncData := match K.lookup a with
  | some o => (match o.data with
    | .func fd => some fd
    | _ => none)
  | none => none
abbrev FS : Type := Str × Str × Arguments × FuncBody × Scope × Addr × List (Str × Addr) × Addr
def fsOf (fd : FuncData) : FS := (fd.name, fd.qualname, fd.params, fd.body, fd.scope, fd.globals, fd.closure, fd.builtins)
/-- one def of the text: where it is found, what it is -/
structure DD where
  adr : PySem.W.Frag → Addr
  nm : Str
  ql : Str
  st : Stmt
  df : List He.Dv := []
  cl : Bool := false
def DD.fs (d : DD) : FS := (d.nm, d.ql, defArgs d.st, .stmts (defBody d.st), defScope d.st, mainGlobals, [], builtinsNs)
/-- cl: the def sees __class__ from outside; its closure is looked at apart -/
def DD.obs (K : PySem.W.Frag) (d : DD) : Option FS := (fdAt K (d.adr K)).map fun fd => if d.cl then fsOf { fd with closure := [] } else fsOf fd
def DD.ok (K : PySem.W.Frag) (d : DD) : Bool := PySem.W.keepIn K (.ref (d.adr K)) && (match fdAt K (d.adr K) with
  | some fd => PySem.W.codeIn K fd.code d.ql && He.dflB K fd.defaults (d.df.map (He.Dv.v K))
  | none => false)
/-- the def d, its function's data fd -/
abbrev FnP (K : PySem.W.Frag) (d : DD) (fd : FuncData) : Prop := FunD K d.nm d.ql (defArgs d.st) (defBody d.st) (defScope d.st) (d.df.map (He.Dv.v K)) [] (d.adr K) fd
theorem DD.fun {K : PySem.W.Frag} {d : DD} (hcl : d.cl = false) (e : d.obs K = some d.fs) (c : d.ok K = true) : ∃ fd, FnP K d fd := by
  obtain ⟨kp, c2⟩ := Bool.and_eq_true_iff.mp c
  unfold DD.obs at e
  cases q : fdAt K (d.adr K) with
  | none =>
    rw [q] at e
    cases e
  | some fd =>
    rw [q] at e c2
    rw [hcl] at e
    obtain ⟨c3, c4⟩ := Bool.and_eq_true_iff.mp c2
    unfold fdAt at q
    cases l : K.lookup (d.adr K) with
    | none =>
      rw [l] at q
      cases q
    | some o =>
      rw [l] at q
      obtain ⟨oc, od, dt, osl⟩ := o
      cases dt with
      | func fd' =>
        have ef : fd' = fd := Option.some.inj q
        subst ef
        have e2 : fsOf fd' = d.fs := Option.some.inj e
        obtain ⟨n1, n2, n3, n4, n5, n6, n7, n8, n9, n10, n11, n12, n13, n14, n15⟩ := fd'
        simp only [fsOf, DD.fs, Prod.mk.injEq] at e2
        obtain ⟨h1, h2, h3, h4, h5, h6, h7, h8⟩ := e2
        subst h1 h2 h3 h4 h5 h6 h7 h8
        exact ⟨_, ⟨oc, od, n8, n9, n10, n11, n12, n13, n14, osl, rfl, l, c3, He.dflB_ok c4, .inl rfl⟩, kp⟩
      | _ => cases q
/-- a property's getter -/
def propG (K : PySem.W.Frag) (C p : Addr) : Addr := match PySem.W.recIn K p "property" with
  | some (.ref g :: _) => g
  | _ => 0
def okProp (K : PySem.W.Frag) (x f : Str) : Bool :=
  He.eqO (PySem.W.findIn K (.ref (He.ga K x)) f) (some (some (.ref (He.ma K (He.ga K x) f)))) && (He.eqO (PySem.W.specialIn K (.ref (He.ma K (He.ga K x) f)) "__get__") (some (some (.builtin "property.__get__"))) &&
  (decide (PySem.W.takesIn K (.ref (He.ma K (He.ga K x) f)) = some true) && (match PySem.W.recIn K (He.ma K (He.ga K x) f) "property" with
    | some (.ref g :: _) => decide (g = propG K (He.ga K x) (He.ma K (He.ga K x) f))
    | _ => false)))
theorem okProp_of {K : PySem.W.Frag} {x f : Str} (h : okProp K x f = true) : PropOf K (He.ga K x) f (He.ma K (He.ga K x) f) (propG K (He.ga K x) (He.ma K (He.ga K x) f)) := by
  obtain ⟨h1, h⟩ := Bool.and_eq_true_iff.mp h
  obtain ⟨h2, h⟩ := Bool.and_eq_true_iff.mp h
  obtain ⟨h3, h4⟩ := Bool.and_eq_true_iff.mp h
  refine ⟨He.eqO_ok h1, He.eqO_ok h2, of_decide_eq_true h3, ?_⟩
  split at h4
  · rename_i g rest e
    exact ⟨rest, by rw [e, ← of_decide_eq_true h4]⟩
  · cases h4
def okCallO (K : PySem.W.Frag) (x : Str) : Bool :=
  He.eqO (PySem.W.findIn K (.ref (He.ga K x)) "__call__") (some (some (.ref (He.ma K (He.ga K x) "__call__")))) && (PySem.W.isFn K (.ref (He.ma K (He.ga K x) "__call__")) && PySem.W.fnIn K (He.ma K (He.ga K x) "__call__"))
theorem okCallO_of {K : PySem.W.Frag} {x : Str} (h : okCallO K x = true) : StX.CallO K (He.ga K x) (He.ma K (He.ga K x) "__call__") := by
  obtain ⟨h1, h⟩ := Bool.and_eq_true_iff.mp h
  obtain ⟨h2, h3⟩ := Bool.and_eq_true_iff.mp h
  exact ⟨He.eqO_ok h1, h2, h3⟩
def okBlt (K : PySem.W.Frag) (x : Str) (id : String) : Bool := He.eqO (PySem.W.nsIn K mainGlobals x) (some (some (.builtin id)))
theorem okBlt_of {K : PySem.W.Frag} {h : Heap} {mg : Str → Option Value} {x : Str} {id : String} (X : K.In h) (G : h.Ns mainGlobals mg) (c : okBlt K x id = true) : mg x = some (.builtin id) := PySem.W.mg_of X G (He.eqO_ok c)
/-- all that is looked at behind the top -/
abbrev Seen : Type := Bool × List (Option FS)
def seen (fa : List He.Fa) (more : PySem.W.Frag → Bool) (ds : List DD) (K : PySem.W.Frag) : Seen := ((fa.all fun f => f.ok K) && (more K && ds.all fun d => d.ok K), ds.map fun d => d.obs K)
def want (ds : List DD) : Seen := (true, ds.map fun d => some d.fs)
def Says (fa : List He.Fa) (more : PySem.W.Frag → Bool) (ds : List DD) (K : PySem.W.Frag) : Prop := seen fa more ds K = want ds
def hook (n : Nat) (fa : List He.Fa) (more : PySem.W.Frag → Bool) (ds : List DD) : PySem.W.Hook where
  α := Seen
  obs := fun s => seen fa more ds (He.frG s.heap.get? (cStatics :: He.asD s.heap.get? n))
  val := fun _ => want ds
  says := fun _ h => ∃ K : PySem.W.Frag, K.In h ∧ Says fa more ds K
  of := fun _ _ e => ⟨_, He.frG_in, e⟩
  keeps := fun _ _ _ ⟨K, hK, c⟩ k => ⟨K, PySem.W.Frag.In.keeps hK k, c⟩
section
variable {fa : List He.Fa} {more : PySem.W.Frag → Bool} {ds : List DD} {K : PySem.W.Frag}
theorem Says.bools (c : Says fa more ds K) : (∀ f ∈ fa, f.ok K = true) ∧ more K = true ∧ ∀ d ∈ ds, d.ok K = true := by
  have c1 : ((fa.all fun f => f.ok K) && (more K && ds.all fun d => d.ok K)) = true := congrArg (fun z : Seen => z.1) c
  obtain ⟨c2, c3⟩ := Bool.and_eq_true_iff.mp c1
  obtain ⟨c4, c5⟩ := Bool.and_eq_true_iff.mp c3
  exact ⟨fun f h => List.all_eq_true.mp c2 f h, c4, fun d h => List.all_eq_true.mp c5 d h⟩
theorem Says.fact (c : Says fa more ds K) (i : Nat) {f : He.Fa} (h : fa[i]? = some f := by rfl) : f.ok K = true := c.bools.1 f (List.mem_of_getElem? h)
theorem Says.fn0 (c : Says fa more ds K) (i : Nat) {d : DD} (h : ds[i]? = some d := by rfl) : d.obs K = some d.fs ∧ d.ok K = true := by
  have e : ds.map (fun d => d.obs K) = ds.map fun d => some d.fs := congrArg (fun z : Seen => z.2) c
  have e2 : (ds.map fun d => d.obs K)[i]? = (ds.map fun d => some d.fs)[i]? := by rw [e]
  rw [List.getElem?_map, List.getElem?_map, h] at e2
  exact ⟨Option.some.inj e2, c.bools.2.2 d (List.mem_of_getElem? h)⟩
theorem Says.fn (c : Says fa more ds K) (i : Nat) {d : DD} (h : ds[i]? = some d := by rfl) (hcl : d.cl = false := by rfl) : ∃ fd, FnP K d fd := DD.fun hcl (c.fn0 i h).1 (c.fn0 i h).2
end
end EB
namespace EB
open PySem PySem.Spec PyProof.Rows L2
theorem pe_cI {X : Cx} {x : Str} {i : Int} {pos : Pos} (hm : ∃ t, X.mg x = some (.int i t)) (hg : Gl X x := by rfl) (hd : (x == ("__debug__" : Str)) = false := by decide) : PE X (.Name x pos) (tC (.int i)) := by
  obtain ⟨t, h⟩ := hm
  exact pe_glob hg h ⟨t, rfl⟩ hd
theorem pe_cS {X : Cx} {x z : Str} {pos : Pos} (hm : ∃ t, X.mg x = some (.str z t)) (hg : Gl X x := by rfl) (hd : (x == ("__debug__" : Str)) = false := by decide) : PE X (.Name x pos) (tC (.str z)) := by
  obtain ⟨t, h⟩ := hm
  exact pe_glob hg h ⟨t, rfl⟩ hd
theorem pe_cC {X : Cx} {x : Str} {C : Addr} {pos : Pos} (hm : X.mg x = some (.ref C)) (hg : Gl X x := by rfl) (hd : (x == ("__debug__" : Str)) = false := by decide) : PE X (.Name x pos) (tC (.ref C)) := pe_glob hg hm rfl hd
/-- a constant of a class, read off the class -/
def okRead (K : PySem.W.Frag) (x : Str) : Bool := PySem.W.readsIn K (He.ga K x) (.type "type") && He.eqO (PySem.W.specialIn K (.ref (He.ga K x)) "__getattribute__") (some (some (.builtin "type.__getattribute__")))
theorem okRead_of {K : PySem.W.Frag} {x : Str} (h : okRead K x = true) : ClX.CRead K (He.ga K x) (.type "type") := by
  obtain ⟨h1, h2⟩ := Bool.and_eq_true_iff.mp h
  exact ⟨h1, He.eqO_ok h2⟩
def okCVal (K : PySem.W.Frag) (x f : Str) (v : V) : Bool := match PySem.W.findCls K (.ref (He.ga K x)) (.type "type") f with
  | some (.val u) => He.relB v u
  | _ => false
theorem okCVal_of {K : PySem.W.Frag} {x f : Str} {v : V} (h : okCVal K x f v = true) : ∃ u, ClX.CVal K (He.ga K x) (.type "type") f v u := by
  unfold okCVal at h
  split at h
  · rename_i u e
    exact ⟨u, e, He.relB_ok h⟩
  · cases h
/-! ### the same rules with the written part named: within a comprehension it may not hang on the block -/
section
variable {X : Cx} {K : PySem.W.Frag}
theorem ix_listK (h : X.K = K) : IxR X (rIxL K) := h ▸ ix_list
theorem ix_seqK (h : X.K = K) : IxR X (rIx K) := h ▸ ix_seq
theorem ix_tupK (h : X.K = K) : IxR X (rIxT K) := h ▸ ix_tup
theorem sl_listK (h : X.K = K) : SlR X (rSlL K) := h ▸ sl_list
theorem sl_tupAK (h : X.K = K) : SlR X (rSlA K) := h ▸ sl_tupA
theorem op_catAK (h : X.K = K) : OpR X (binaryOp .Add) (rCatA K) := h ▸ op_catA
theorem op_in_seqK (h : X.K = K) : OpR X (compareOp .In) (rIn K false) := h ▸ op_in_seq
theorem op_notIn_seqK (h : X.K = K) : OpR X (compareOp .NotIn) (rIn K true) := h ▸ op_notIn_seq
def rLenK (K : PySem.W.Frag) : List V → Hp → VK → Prop := fun xs H Q => ∃ p ys, xs = [.ref p] ∧ (SqL K H p ys ∨ SqT K H p ys) ∧ Q (.int ys.length) H
theorem call_len_seqK (h : X.K = K) : CallR X (.builtin "len") (rLenK K) := h ▸ call_len_seq
theorem cr_sumK (hc : X.calm = true) (h : X.K = K) : CallR X (.builtin "sum") (rSum K) := h ▸ cr_sum hc
theorem pi_listK {tg l : Expr} {tl : TE} (h : X.K = K) (hl : PE X l tl) : PI X tg l (iList K tl) := h ▸ pi_list hl
theorem pi_tupK {tg l : Expr} {tl : TE} (h : X.K = K) (hl : PE X l tl) : PI X tg l (iTup K tl) := h ▸ pi_tup hl
theorem pe_fldK {e : Expr} {f : Str} {ta : TE} {pos : Pos} (h : X.K = K) (he : PE X e ta) (hb : attributeBase e f X.env (eval e X.env) = eval e X.env) : PE X (.Attribute e f pos) (tFld K ta f) := h ▸ pe_fld he hb
end
end EB

/-! an own exception's __init__ that says super().__init__(text) and then keeps one field -/
namespace EB
open PySem PySem.Spec PyProof.Rows L2
/-- its names: two parameters, __class__ from outside, super the built-in -/
structure SupS (p : Str) (sc : Scope) : Prop where
  kind : sc.kind = .function
  co : sc.isCoroutine = false
  gen : sc.isGenerator = false
  cls : sc.names.lookup ("__class__" : Str) = some .free
  sup : sc.names.lookup ("super" : Str) = some .globalImplicit
  self : sc.names.lookup ("self" : Str) = some .local
  par : sc.names.lookup p = some .local
  own : ∀ y ∈ sc.names, y.2 ≠ .cell ∧ (y.2 = .free → y.1 = ("__class__" : Str))
  ne : ("self" : Str) ≠ p
abbrev supEnv (qual : Str) (scope : Scope) (L f : Addr) (cd : Value) (cc : Addr) : Env := PySem.W.ksEnv qual scope L f cd cc
/-- the context of its body -/
def supCx (CX : CXT) (P : Program) (w : World) (K : PySem.W.Frag) (mg : Str → Option Value) (base : Heap) (p qual : Str) (scope : Scope) (f : Addr) (cd : Value) (cc : Addr) (A : Around) (outer : List Env) (s : Shared) (H : Hp) (E : XK) : Cx where
  prog := P
  w := w
  K := K
  mg := mg
  base := base
  A := A.deeper (supEnv qual scope s.heap.objs.size f cd cc)
  N := ["self", p]
  s_0 := s
  H_0 := H
  env := supEnv qual scope s.heap.objs.size f cd cc
  outer := outer
  stack := supEnv qual scope s.heap.objs.size f cd cc :: outer
  ex := []
  fn := fun _ => false
  calm := true
  pn := []
  xe := fun e s' => wpAny (model P w) (A.deeper (supEnv qual scope s.heap.objs.size f cd cc)) (leaving (supEnv qual scope s.heap.objs.size f cd cc) e) (fun _ s'' => CX outer H s E e s'') (fun e' s'' => CX outer H s E e' s'') s'
section
variable {CX : CXT} {P : Program} {w : World} {K : PySem.W.Frag} {mg : Str → Option Value} {base : Heap} {p qual : Str} {scope : Scope} {f cc : Addr} {cd : Value} {A : Around} {outer : List Env} {s : Shared} {H : Hp} {E : XK}
theorem sup_start {h₁ : Heap} {tk : Nat} {v0 v1 : V} {u0 u1 : Value} (S : SupS p scope) (hd : A.handled = none) (e0 : Env0 P w K mg base A outer s H) (hc : ∃ v, base.IsCell cc v) (r0 : RelV v0 u0) (r1 : RelV v1 u1)
    (hns : h₁.Ns s.heap.objs.size fun y => ([("self", u0), (p, u1)] : List (Str × Value)).reverse.lookup y) (kp : ∀ b o, s.heap.get? b = some o → h₁.get? b = some o) :
    Inv (supCx CX P w K mg base p qual scope f cd cc A outer s H E) [] [some v0, some v1] H { s with heap := h₁, toks := tk } := by
  have cl : ∀ {x : Str} {c : Addr}, ([("__class__", cc)] : List (Str × Addr)).lookup x = some c → x = ("__class__" : Str) ∧ c = cc := fun {x c} e => by
    simp only [List.lookup] at e
    split at e
    · rename_i z
      exact ⟨beq_iff_eq.mp z, (Option.some.inj e).symm⟩
    · cases e
  obtain ⟨v, oc, hoc, hdc⟩ := hc
  have bc := e0.bs cc oc hoc
  have noA : ∀ b : Addr, b ∉ (supCx CX P w K mg base p qual scope f cd cc A outer s H E).ex := fun b z => absurd (show b ∈ ([] : List Addr) from z) (by simp)
  refine ⟨⟨e0.mod, S.kind, rfl, rfl, Nat.le_refl _, fun y z c e1 e2 => (cl e1).1.trans (cl e2).1.symm, fun y hy => ?_, fun y c z _ => Bool.noConfusion (show false = true from z), fun _ => hd, Around.frames_deeper e0.frames, .inr ⟨rfl, rfl⟩, fun b z => absurd z (noA b), e0.bs, e0.bsz, fun b _ _ => noA b,
      fun b z => absurd z (noA b), e0.funs, e0.frf⟩,
    rfl, e0.bare, Un.kept kp, ⟨_, hns, fun i y v e1 e2 e3 => ?_⟩, fun y c e => ?_, e0.hok.fresh (Nat.le_refl _), fun y c e => ?_, fun q hq => absurd (show q ∈ ([] : List (Addr × Obj)) ++ [] from hq) (by simp), e0.hok.kept kp, rfl⟩
  · have hy : scope.names.lookup y = some .cell ∨ scope.names.lookup y = some .free := hy
    rcases hy with hy | hy
    · exact absurd rfl (S.own _ (PySem.mem_of_lookup hy)).1
    · have z := (S.own _ (PySem.mem_of_lookup hy)).2 rfl
      dsimp only at z
      subst z
      exact ⟨cc, rfl⟩
  · have e1 : (["self", p] : List Str)[i]? = some y := e1
    match i, e1, e2 with
    | 0, e1, e2 =>
      cases e1
      cases e2
      refine ⟨u0, r0, .inl ⟨S.self, ?_⟩⟩
      have ne : (("self" : Str) == p) = false := by simpa using S.ne
      show List.lookup ("self" : Str) [(p, u1), ("self", u0)] = some u0
      simp only [List.lookup, ne, beq_self_eq_true]
    | 1, e1, e2 =>
      cases e1
      cases e2
      refine ⟨u1, r1, .inl ⟨S.par, ?_⟩⟩
      show List.lookup p [(p, u1), ("self", u0)] = some u1
      simp only [List.lookup, beq_self_eq_true]
    | i + 2, e1, _ => exact nomatch e1
  · obtain ⟨_, rfl⟩ := cl e
    exact ⟨v, oc, kp _ _ bc.1, hdc⟩
  · obtain ⟨_, rfl⟩ := cl e
    exact bc.2
/-- what the written part says of such a def f, its code, its cell, its class -/
structure SupF (P : Program) (K : PySem.W.Frag) (mg : Str → Option Value) (qual : Str) (params : Arguments) (body : List Stmt) (scope : Scope) (f : Addr) (fd : FuncData) (C cda cc : Addr) : Prop where
  fn : ∃ oc od kV doc pm an ct osl, fd = PySem.W.ksFn "__init__" qual params body scope .none kV doc pm an (.ref cda) ct cc ∧ K.lookup f = some ⟨oc, od, .func fd, osl⟩
  cd : PySem.W.codeIn K (.ref cda) qual = true
  code : ∃ ccl cdd vs ccs file tf, K.lookup cda = some ⟨ccl, cdd, .fields vs, ccs⟩ ∧ vs[2]? = some (.str file tf) ∧ ((P.main.file : Str) == file) = true
  cell : ∃ cl cld csl, K.lookup cc = some ⟨cl, cld, .cell (some (.ref C)), csl⟩
  par : ∃ ar, (params.posonlyargs ++ params.args).head? = some ar ∧ ar.arg = ("self" : Str)
  top : (P.main.scope.names.lookup ("super" : Str)).isSome = false
  mgs : mg "super" = none
  cls : ∃ cd, PySem.W.clsIn K C = some cd
  self : PySem.W.mroIn K C (.ref C) = some true
  init : PySem.W.ks_superIn K C C "__init__" = some (some (.builtin "ValueError.__init__"))
  val : PySem.W.subIn K (.ref C) (.type "ValueError") = some true
  opq : PySem.W.nsIn K cStatics "thirdparty.any" = some none
  oex : OexC K C
theorem boot_super : bootBuiltins "super" = some (.type "super") := by decide +kernel
section
variable {cda C a : Addr} {params : Arguments} {body : List Stmt} {fd : FuncData} {pins : List (Addr × Obj)} {σ : L2.St} {H1 : Hp} {s1 : Shared} {x1 : Option V} {e : Expr} {es : List Expr} {t : TA} {p0 p1 p2 p3 pos : Pos} {pl : Sem Bool} {R : Hp → Prop}
theorem sup_stmt (S : SupS p scope) (F : SupF P K mg qual params body scope f fd C cda cc) (I : Inv (supCx CX P w K mg base p qual scope f (.ref cda) cc A outer s H E) pins [some (.ref a), x1] H1 s1) (ea : H1 a = some (exo a C none))
    (ha : PA (supCx CX P w K mg base p qual scope f (.ref cda) cc A outer s H E) (e :: es) t) (ht : t [some (.ref a), x1] H1 fun vs H2 => vs.length ≤ 1000 ∧ H2 a = some (exo a C none) ∧ R H2)
    (he : starEach (e :: es) (supEnv qual scope s.heap.objs.size f (.ref cda) cc) = (false, eval e (supEnv qual scope s.heap.objs.size f (.ref cda) cc)) :: starEach es (supEnv qual scope s.heap.objs.size f (.ref cda) cc) := by rfl) (hpl : (backTo pos (starEach es (supEnv qual scope s.heap.objs.size f (.ref cda) cc))).any (·.1) = false := by rfl)
    (hc : eval (.Call (.Attribute (.Call (.Name "super" p0) [] [] p1) "__init__" p2) (e :: es) [] pos) (supEnv qual scope s.heap.objs.size f (.ref cda) cc) = (do
      let ov ← attributeBase (.Call (.Name "super" p0) [] [] p1) "__init__" (supEnv qual scope s.heap.objs.size f (.ref cda) cc) (eval (.Call (.Name "super" p0) [] [] p1) (supEnv qual scope s.heap.objs.size f (.ref cda) cc))
      standAt p2.atName
      let (g, first) ← holding [ov] (getMethod ov "__init__" pl)
      callWith pos g first (backTo pos (starEach (e :: es) (supEnv qual scope s.heap.objs.size f (.ref cda) cc))) []) := by rfl)
    (hi : interactive (supEnv qual scope s.heap.objs.size f (.ref cda) cc) = false := by rfl)
    (hsw : swapsWith (.Call (.Attribute (.Call (.Name "super" p0) [] [] p1) "__init__" p2) (e :: es) [] pos) none p3.line (supEnv qual scope s.heap.objs.size f (.ref cda) cc) = pure false := by rfl) :
    PySem.wpAt (model P w) (A.deeper (supEnv qual scope s.heap.objs.size f (.ref cda) cc)) (.func body (supEnv qual scope s.heap.objs.size f (.ref cda) cc))
      (exec (.Expr (.Call (.Attribute (.Call (.Name "super" p0) [] [] p1) "__init__" p2) (e :: es) [] pos) p3) (supEnv qual scope s.heap.objs.size f (.ref cda) cc))
      (fun fl s' => fl = .next ∧ ∃ H2, Inv (supCx CX P w K mg base p qual scope f (.ref cda) cc A outer s H E) pins [some (.ref a), x1] H2 s' ∧ R H2)
      (supCx CX P w K mg base p qual scope f (.ref cda) cc A outer s H E).xe s1 := by
  obtain ⟨oc, od, kV, doc, pm, an, ct, osl, rfl, lk⟩ := F.fn
  obtain ⟨ccl, cdd, vs, ccs, file, tf, hcode, hvs, hfile⟩ := F.code
  obtain ⟨cl, cld, csl, hcell⟩ := F.cell
  obtain ⟨ar, hp, har⟩ := F.par
  obtain ⟨cdD, hD⟩ := F.cls
  have X : K.In s1.heap := I.kIn
  obtain ⟨oD, hD1, hD2⟩ : ∃ oD, s1.heap.get? C = some oD ∧ oD.data = .cls cdD := by
    unfold PySem.W.clsIn at hD
    split at hD
    · rename_i c d cd' sl ho
      cases hD
      exact ⟨_, X _ _ ho, rfl⟩
    · cases hD
  obtain ⟨t1, hox⟩ := exo_at I.hok ea
  refine ks_wpAt_Expr_any (ks_wpAt_MethodCall (pl := pl) ?_ hc) hi hsw
  refine ks_wpAt_super_base (env := supEnv qual scope s.heap.objs.size f (.ref cda) cc) S.sup S.cls rfl rfl (X _ _ lk) rfl hp rfl (X _ _ hcode) rfl hvs hfile F.top ?_
  obtain ⟨mb, hb1, hb2⟩ := I.mod.blt
  refine PySem.W.ks_loadName_global S.kind S.sup (PySem.Calls.loadGlobal_builtin (I.mod.glob.keeps I.bk) F.mgs (hb1.keeps I.bk) ((hb2 _ (by decide)).trans boot_super) ⟨rfl, ?_⟩)
  refine wpAny_loadName_free S.kind S.cls rfl ⟨_, X _ _ hcell, rfl⟩ ?_
  obtain ⟨m, hns, hl⟩ := I.loc
  obtain ⟨u, ru, hu⟩ := hl 0 "self" (.ref a) rfl rfl (.inl S.self)
  obtain rfl : u = Value.ref a := ru
  have hm : m "self" = some (.ref a) := by
    rcases hu with ⟨_, z⟩ | ⟨z, _⟩
    · exact z
    · have z : scope.names.lookup ("self" : Str) = some NameKind.cell ∨ scope.names.lookup ("self" : Str) = some NameKind.free := z
      rw [S.self] at z
      rcases z with z | z <;> cases z
  refine wpAny_loadName_local S.kind (show scope.names.lookup ar.arg = some .local by rw [har]; exact S.self) hns (by rw [har]; exact hm) ?_
  obtain ⟨hh, g, d, tk, os⟩ := s1
  refine ks_wpAny_isType_cls hD1 hD2 ⟨rfl, ?_⟩
  refine ks_wpAny_call_super hD1 hD2 hox rfl (fun c z => nomatch z) (PySem.W.looks_mroIn X F.self) (fun h' e1 k1 => ?_)
  have I1 := ClX.pin_new (t' := tk) I k1 (Nat.le_refl _) e1 (fun v z => nomatch z)
  have X1 : K.In h' := X.keeps k1
  have J1 : PySem.W.InstAt h' a _ C none := ⟨k1 _ _ hox, rfl, rfl, trivial⟩
  have hin := F.init
  unfold PySem.W.ks_superIn at hin
  rw [hD] at hin
  refine PySem.W.kxs_getMethod PySem.W.kxs_ValueError e1 (PySem.W.looks_opaque X1 F.opq) (l₀ := cdD.mro) (fun A Q E s k q => wpAny_bind ((PySem.W.looks_clsIn X1 hD) A _ E s k (wpAny_pure q))) rfl X1 hin (J1.type.andThen (PySem.W.looks_subIn X1 F.val)) (PySem.W.ks_ne X1 J1 hD) rfl ?_
  have I2 := ClX.pin_new (o := PySem.W.kxs_mw "ValueError.__init__" a) (h' := h'.push (PySem.W.kxs_mw "ValueError.__init__" a)) (t' := tk + 1) I1 (fun _ _ z => Heap.get?_push_of_some _ z) (Nat.le_refl _) (Heap.get?_push_size h' rfl) (fun v z => nomatch z)
  have hA : wpAny _ _ (spliced (backTo pos (starEach (e :: es) (supEnv qual scope s.heap.objs.size f (.ref cda) cc)))) _ _ _ := ha.run pos _ _ _ _ _ I2 ht
  rw [he] at hA ⊢
  refine PySem.W.kxs_callWith (i := "ValueError.__init__") (x := a) (by show (false || (backTo pos (starEach es (supEnv qual scope s.heap.objs.size f (.ref cda) cc))).any (·.1)) = false; rw [hpl]; rfl) (PySem.Calls.evalArgs_plain (thn hA fun us s3 ⟨vs2, H3, I3, r3, hz, ea3, hR⟩ => ?_))
  have hu := ClX.pin_at I3
  refine ⟨hu, ?_⟩
  have hlen : us.length ≤ sizeLine := by
    rw [← Paired.length r3, sizeLine_eq]
    omega
  obtain ⟨t3, hox3⟩ := exo_at I3.hok ea3
  obtain ⟨nm, q, N', bs, bm, sn, sub, ab, col, dd, k0, k1', k2, k3, k5, hC, hbm⟩ := F.oex.cls
  obtain ⟨hh3, g3, d3, tk3, os3⟩ := s3
  refine wpAny_call (codeAny_of_tree ?_)
  show wpAny _ _ (callAny (.ref h'.objs.size) ⟨us, []⟩) _ _ _
  simp only [callAny]
  refine wpAny_bind (wpAny_load hu ?_)
  simp only [PySem.W.kxs_mw, show (Value.type "method-wrapper" == Value.type "method" || Value.type "method-wrapper" == Value.type "builtin_function_or_method" || Value.type "method-wrapper" == Value.type "method-wrapper") = true by decide, if_true]
  refine PySem.W.KFB.if_so (by decide) ?_
  refine wpAny_bind (PySem.W.check_bound_init PySem.F.excBase_ValueError.toExcCallFacts (I3.kIn _ _ hC) hox3 rfl ?_)
  refine wpAny_bind (wpAny_pure (wpAny_pure ?_))
  refine ⟨plainId_quiet PySem.F.excBase_ValueError.init.plain _, codeAny_builtin PySem.F.excBase_ValueError.initEntry ?_⟩
  refine PySem.W.exc_init_tree (cls := .ref C) (t0 := t3) (dv := none) (c2 := .none) (c3 := .none) (b4 := .bool false) hox3 hlen fun h4 k4 e4 _ => ?_
  have J := I3.write (t' := tk3) (x := a) (e := a) (o := exo a C none) (by rw [ea3]; exact True.intro) (.inl rfl) k4 ⟨_, e4⟩ (exo_ok e4)
  have eu : upd H3 a (exo a C none) = H3 := by
    funext b
    by_cases hb : b = a
    · rw [hb, upd_same, ea3]
    · rw [upd_ne hb]
  rw [eu] at J
  exact ⟨trivial, H3, ClX.unpin (ClX.unpin J), hR⟩
/-- such a def, by its two statements -/
theorem sup_of {k : Nat} {st : Stmt} {tA : TA} {tB : TS} (S : SupS p scope) (F : SupF P K mg qual params [.Expr (.Call (.Attribute (.Call (.Name "super" p0) [] [] p1) "__init__" p2) (e :: es) [] pos) p3, st] scope f fd C cda cc)
    (hcell : ∃ v, base.IsCell cc v)
    (ha : ∀ (A : Around) (outer : List Env) (s : Shared) (H : Hp) (E : XK), PA (supCx CX P w K mg base p qual scope f (.ref cda) cc A outer s H E) (e :: es) tA)
    (hst : ∀ (A : Around) (outer : List Env) (s : Shared) (H : Hp) (E : XK), PSs (supCx CX P w K mg base p qual scope f (.ref cda) cc A outer s H E) [st] tB)
    (he : ∀ L, starEach (e :: es) (supEnv qual scope L f (.ref cda) cc) = (false, eval e (supEnv qual scope L f (.ref cda) cc)) :: starEach es (supEnv qual scope L f (.ref cda) cc) := by intro _; rfl) (hpl : ∀ L, (backTo pos (starEach es (supEnv qual scope L f (.ref cda) cc))).any (·.1) = false := by intro _; rfl)
    (hc : ∀ L, eval (.Call (.Attribute (.Call (.Name "super" p0) [] [] p1) "__init__" p2) (e :: es) [] pos) (supEnv qual scope L f (.ref cda) cc) = (do
      let ov ← attributeBase (.Call (.Name "super" p0) [] [] p1) "__init__" (supEnv qual scope L f (.ref cda) cc) (eval (.Call (.Name "super" p0) [] [] p1) (supEnv qual scope L f (.ref cda) cc))
      standAt p2.atName
      let (g, first) ← holding [ov] (getMethod ov "__init__" pl)
      callWith pos g first (backTo pos (starEach (e :: es) (supEnv qual scope L f (.ref cda) cc))) []) := by intro _; rfl)
    (hi : ∀ L, interactive (supEnv qual scope L f (.ref cda) cc) = false := by intro _; rfl)
    (hsw : ∀ L, swapsWith (.Call (.Attribute (.Call (.Name "super" p0) [] [] p1) "__init__" p2) (e :: es) [] pos) none p3.line (supEnv qual scope L f (.ref cda) cc) = pure false := by intro _; rfl) :
    FnOk P w K mg base CX (k + 1) f fd ["self", p] (fun vs H Q _ => ∃ (a : Addr) (v : V), vs = [.ref a, v] ∧ H a = some (exo a C none) ∧
      tA [some (.ref a), some v] H fun ws H2 => ws.length ≤ 1000 ∧ H2 a = some (exo a C none) ∧ tB { nx := fun _ H' => Q .non H', rt := Q } [some (.ref a), some v] H2) := by
  have F0 := F
  obtain ⟨oc, od, kV, doc, pm, an, ct, osl, rfl, lk⟩ := F.fn
  refine ⟨fun vs H Q E h => ?_, fun A outer s H args us vs Q E hr e0 hb r hsp => ?_⟩
  · obtain ⟨a, v, rfl, _⟩ := h
    rfl
  obtain ⟨a, v, rfl, ea, ht⟩ := hsp
  have KX : K.In s.heap := e0.mod.kin.keeps fun b o e => (e0.bs b o e).1
  have lim : s.heap.NoLimit := e0.mod.nolimit.keeps fun b o e => (e0.bs b o e).1
  cases r with
  | @cons _ u0 _ ur ra rw' =>
  cases rw' with
  | @cons _ u1 _ ur' rb rn =>
  cases rn
  have hloc : ∀ x ∈ (["self", p] : List Str).zip [u0, u1], scope.names.lookup x.1 = some .local := fun x hx => by
    have hx : x ∈ [(("self" : Str), u0), (p, u1)] := hx
    simp only [List.mem_cons, List.not_mem_nil, or_false] at hx
    rcases hx with rfl | rfl
    · exact S.self
    · exact S.par
  refine ks_codeAny_call_defAt (body := [.Expr (.Call (.Attribute (.Call (.Name "super" p0) [] [] p1) "__init__" p2) (e :: es) [] pos) p3, st]) (binds := (["self", p] : List Str).zip [u0, u1]) hr.depth (KX _ _ lk) rfl lim (PySem.W.codeRec_of KX F.cd) rfl hb (fun x hx => (S.own x hx).1) hloc (fun h₁ hns kp => ?_) S.co S.gen S.kind
  have I : Inv (supCx CX P w K mg base p qual scope f (.ref cda) cc A outer s H E) [] [some (.ref a), some v] H { s with heap := h₁, toks := s.toks + 2 } := sup_start S hr.hd e0 hcell ra rb hns kp
  refine ks_wpAt_execs_cons (ks_wpAt_mono (sup_stmt S F0 I ea (ha A outer s H E) ht (he _) (hpl _) (hc _) (hi _) (hsw _)) (fun fl s' h => ?_) fun _ _ z => z)
  obtain ⟨rfl, H2, I2, h2⟩ := h
  refine wpAt_of_wpAny (wpAny_mono ((hst A outer s H E).run [] s' _ H2 _ I2 h2) (fun fl s2 hs => ?_) fun _ _ z => z)
  have fin : ∀ {σ' : L2.St} {H' : Hp} {v' : V} {u : Value}, Inv (supCx CX P w K mg base p qual scope f (.ref cda) cc A outer s H E) [] σ' H' s2 → RelV v' u → Q v' H' → CE outer P w H s Q u s2 :=
    fun {σ' H' v' u} J rv q => ⟨v', H', J.os, J.bare, J.base, J.hok, rv, q⟩
  cases fl with
  | ret u =>
    obtain ⟨v', σ', H', J, rv, q⟩ := hs
    exact fin J rv q
  | next =>
    obtain ⟨σ', H', J, q⟩ := hs
    exact fin (v' := V.non) (u := Value.none) J rfl q
  | brk =>
    obtain ⟨_, _, _, q⟩ := hs
    exact False.elim q
  | cont =>
    obtain ⟨_, _, _, q⟩ := hs
    exact False.elim q
end
end
end EB

/-! what the head says of own exceptions, as Bools -/
namespace EB
open PySem PySem.Spec PyProof.Rows L2
def okOexCls (K : PySem.W.Frag) (C : Addr) : Bool := match K.lookup C with
  | some ⟨.type t, _, .cls cd, sl⟩ => decide (t = "type") && (match cd.mro, sl.toList with
    | .ref C' :: bm, [_, _, _, _, some (.builtin n), _] => decide (C' = C) && (decide (n = "ValueError.__new__") && (!cd.hasDel && (cd.hasDict && PySem.HandSPX.refsVE bm)))
    | _, _ => false)
  | _ => false
def okOex (K : PySem.W.Frag) (C : Addr) : Bool := okOexCls K C && (He.eqO (PySem.W.findIn K (.ref C) "__setattr__") (some (some (.builtin "object.__setattr__"))) && (decide (PySem.W.subIn K (.ref C) (.type "BaseException") = some true) &&
  (decide (PySem.W.typeIn K (.ref C) = some (.type "type")) && PySem.W.keepIn K (.ref C))))
theorem okOexCls_of {K : PySem.W.Frag} {C : Addr} (h : okOexCls K C = true) : ∃ nm q N bs bm sn sub ab col dd k0 k1 k2 k3 k5, K.lookup C = some (excClassObj nm q C N bs bm true sn sub ab col dd k0 k1 k2 k3 k5 "ValueError.__new__") ∧ PySem.HandSPX.refsVE bm = true := by
  unfold okOexCls at h
  split at h
  · rename_i t dd cd sl ho
    obtain ⟨h1, h⟩ := Bool.and_eq_true_iff.mp h
    have h1 : t = "type" := of_decide_eq_true h1
    split at h
    · rename_i C' bm k0 k1 k2 k3 n k5 hm hs
      obtain ⟨h2, h⟩ := Bool.and_eq_true_iff.mp h
      obtain ⟨h3, h⟩ := Bool.and_eq_true_iff.mp h
      obtain ⟨h4, h⟩ := Bool.and_eq_true_iff.mp h
      obtain ⟨h5, h6⟩ := Bool.and_eq_true_iff.mp h
      have h2 : C' = C := of_decide_eq_true h2
      have h3 : n = "ValueError.__new__" := of_decide_eq_true h3
      obtain ⟨nm, bs, mro, ns, qn, hd, sn, sub, ab, col, del⟩ := cd
      dsimp only at hm h4 h5
      have hdel : del = false := by
        cases del with
        | false => rfl
        | true => cases h4
      have hsl : sl = #[k0, k1, k2, k3, some (.builtin n), k5] := by
        obtain ⟨l⟩ := sl
        simp only at hs
        rw [hs]
      subst h1 h2 h3 hm hdel hsl
      have h5 : hd = true := h5
      subst h5
      exact ⟨nm, qn, ns, bs, bm, sn, sub, ab, col, dd, k0, k1, k2, k3, k5, ho, h6⟩
    · cases h
  · cases h
theorem okOex_of {K : PySem.W.Frag} {C : Addr} (h : okOex K C = true) : OexC K C := by
  obtain ⟨h1, h⟩ := Bool.and_eq_true_iff.mp h
  obtain ⟨h2, h⟩ := Bool.and_eq_true_iff.mp h
  obtain ⟨h3, h⟩ := Bool.and_eq_true_iff.mp h
  obtain ⟨h4, h5⟩ := Bool.and_eq_true_iff.mp h
  exact ⟨okOexCls_of h1, He.eqO_ok h2, of_decide_eq_true h3, of_decide_eq_true h4, h5⟩
/-- the def's code object, its cell -/
def codeA (K : PySem.W.Frag) (a : Addr) : Addr := match fdAt K a with
  | some fd => (match fd.code with
    | .ref c => c
    | _ => 0)
  | none => 0
def cellA (K : PySem.W.Frag) (a : Addr) : Addr := match fdAt K a with
  | some fd => (match fd.closure with
    | [(_, c)] => c
    | _ => 0)
  | none => 0
def okSup (K : PySem.W.Frag) (x file : Str) (a : Addr) : Bool :=
  (match fdAt K a with
    | some fd => (match fd.closure with
      | [(n, _)] => decide (n = ("__class__" : Str))
      | _ => false) && (match fd.code with
      | .ref _ => true
      | _ => false)
    | none => false) &&
  ((match K.lookup (codeA K a) with
    | some ⟨_, _, .fields vs, _⟩ => (match (vs[2]? : Option Value) with
      | some (Value.str f _) => decide (f = file)
      | _ => false)
    | _ => false) &&
  ((match K.lookup (cellA K a) with
    | some ⟨_, _, .cell (some (.ref D)), _⟩ => decide (D = He.ga K x)
    | _ => false) &&
  ((PySem.W.clsIn K (He.ga K x)).isSome && (decide (PySem.W.mroIn K (He.ga K x) (.ref (He.ga K x)) = some true) && (He.eqO (PySem.W.ks_superIn K (He.ga K x) (He.ga K x) "__init__") (some (some (.builtin "ValueError.__init__"))) &&
  (decide (PySem.W.subIn K (.ref (He.ga K x)) (.type "ValueError") = some true) && (decide (PySem.W.nsIn K cStatics "thirdparty.any" = some none) && okOex K (He.ga K x))))))))
/-- all of it but the def's text -/
structure SupG (K : PySem.W.Frag) (file : Str) (a C : Addr) : Prop where
  code : ∃ ccl cdd vs ccs tf, K.lookup (codeA K a) = some ⟨ccl, cdd, .fields vs, ccs⟩ ∧ vs[2]? = some (.str file tf)
  cell : ∃ cl cld csl, K.lookup (cellA K a) = some ⟨cl, cld, .cell (some (.ref C)), csl⟩
  fd : ∀ fd, fdAt K a = some fd → fd.closure = [(("__class__" : Str), cellA K a)] ∧ fd.code = .ref (codeA K a)
  cls : ∃ cd, PySem.W.clsIn K C = some cd
  self : PySem.W.mroIn K C (.ref C) = some true
  init : PySem.W.ks_superIn K C C "__init__" = some (some (.builtin "ValueError.__init__"))
  val : PySem.W.subIn K (.ref C) (.type "ValueError") = some true
  opq : PySem.W.nsIn K cStatics "thirdparty.any" = some none
  oex : OexC K C
theorem okSup_of {K : PySem.W.Frag} {x file : Str} {a : Addr} (h : okSup K x file a = true) : SupG K file a (He.ga K x) := by
  obtain ⟨h1, h⟩ := Bool.and_eq_true_iff.mp h
  obtain ⟨h2, h⟩ := Bool.and_eq_true_iff.mp h
  obtain ⟨h3, h⟩ := Bool.and_eq_true_iff.mp h
  obtain ⟨h4, h⟩ := Bool.and_eq_true_iff.mp h
  obtain ⟨h5, h⟩ := Bool.and_eq_true_iff.mp h
  obtain ⟨h6, h⟩ := Bool.and_eq_true_iff.mp h
  obtain ⟨h7, h⟩ := Bool.and_eq_true_iff.mp h
  obtain ⟨h8, h9⟩ := Bool.and_eq_true_iff.mp h
  refine ⟨?_, ?_, fun fd e => ?_, Option.isSome_iff_exists.mp h4, of_decide_eq_true h5, He.eqO_ok h6, of_decide_eq_true h7, of_decide_eq_true h8, okOex_of h9⟩
  · split at h2
    · rename_i o1 o2 vs o3 e
      split at h2
      · rename_i f tk e2
        rw [of_decide_eq_true h2] at e2
        exact ⟨_, _, vs, _, tk, e, e2⟩
      · cases h2
    · cases h2
  · split at h3
    · rename_i o1 o2 D o3 e
      rw [of_decide_eq_true h3] at e
      exact ⟨_, _, _, e⟩
    · cases h3
  · unfold cellA codeA
    rw [e] at h1 ⊢
    obtain ⟨k1, k2⟩ := Bool.and_eq_true_iff.mp h1
    refine ⟨?_, ?_⟩
    · clear h1 k2
      dsimp only
      split at k1
      · rename_i n c e2
        rw [e2, of_decide_eq_true k1]
      · cases k1
    · clear h1 k1
      dsimp only
      split at k2
      · rename_i c e2
        rw [e2]
      · cases k2
theorem DD.funS {P : Program} {K : PySem.W.Frag} {mg : Str → Option Value} {d : DD} {file x : Str} {ar : Arg} (hcl : d.cl = true) (hdf : d.df = []) (hn : d.nm = ("__init__" : Str)) (e : d.obs K = some d.fs) (c : d.ok K = true) (g : SupG K file (d.adr K) (He.ga K x))
    (hfile : ((P.main.file : Str) == file) = true) (htop : (P.main.scope.names.lookup ("super" : Str)).isSome = false) (hmg : mg "super" = none) (hp : ((defArgs d.st).posonlyargs ++ (defArgs d.st).args).head? = some ar) (har : ar.arg = ("self" : Str)) :
    ∃ fd, SupF P K mg d.ql (defArgs d.st) (defBody d.st) (defScope d.st) (d.adr K) fd (He.ga K x) (codeA K (d.adr K)) (cellA K (d.adr K)) := by
  obtain ⟨kp, c2⟩ := Bool.and_eq_true_iff.mp c
  unfold DD.obs at e
  cases q : fdAt K (d.adr K) with
  | none =>
    rw [q] at e
    cases e
  | some fd =>
    obtain ⟨g1, g2⟩ := g.fd fd q
    rw [q] at e c2
    rw [hcl] at e
    obtain ⟨c3, c4⟩ := Bool.and_eq_true_iff.mp c2
    unfold fdAt at q
    cases l : K.lookup (d.adr K) with
    | none =>
      rw [l] at q
      cases q
    | some o =>
      rw [l] at q
      obtain ⟨oc, od, dt, osl⟩ := o
      cases dt with
      | func fd' =>
        have ef : fd' = fd := Option.some.inj q
        subst ef
        have e2 : fsOf { fd' with closure := [] } = d.fs := Option.some.inj e
        obtain ⟨n1, n2, n3, n4, n5, n6, n7, n8, n9, n10, n11, n12, n13, n14, n15⟩ := fd'
        simp only [fsOf, DD.fs, Prod.mk.injEq] at e2
        obtain ⟨h1, h2, h3, h4, h5, h6, h7, h8⟩ := e2
        dsimp only at g1 g2 c3
        rw [hn] at h1
        subst h1 h2 h3 h4 h5 h6 h8
        obtain ⟨ccl, cdd, vs, ccs, tf, k1, k2⟩ := g.code
        have hdv : n8 = .none := by
          have z := He.dflB_ok c4
          rw [hdf] at z
          rcases z with ⟨_, h⟩ | ⟨h, _⟩
          · exact h
          · exact absurd rfl h
        subst hdv
        refine ⟨_, ⟨oc, od, n9, n10, n11, n12, n14, osl, ?_, l⟩, by rw [← g2]; exact c3, ⟨ccl, cdd, vs, ccs, file, tf, k1, k2, hfile⟩, g.cell, ⟨ar, hp, har⟩, htop, hmg, g.cls, g.self, g.init, g.val, g.opq, g.oex⟩
        rw [g1, g2]
      | _ => cases q
end EB

/-! an own exception class: what the head says of it -/
namespace EB
open PySem PySem.Spec PyProof.Rows L2
abbrev bmV : List Value := [.type "ValueError", .type "Exception", .type "BaseException", .type "object"]
structure ExcG (K : PySem.W.Frag) (x : Str) (C : Addr) : Prop where
  keep : PySem.W.keepIn K (.ref C) = true
  base : PySem.W.subIn K (.ref C) (.type "BaseException") = some true
  ty : PySem.W.typeIn K (.ref C) = some (.type "type")
  self : PySem.W.subIn K (.ref C) (.ref C) = some true
  trade : PySem.W.subIn K (.ref C) (.ref (He.ga K "TradeError")) = some true
  val : PySem.W.subIn K (.ref C) (.type "ValueError") = some true
  isc : PySem.W.isClsIn K C = true
structure ExcN (K : PySem.W.Frag) (x : Str) (C : Addr) : Prop extends ExcG K x C where
  own : PySem.W.excIn K C bmV "ValueError.__new__" = true
structure ExcI (K : PySem.W.Frag) (x : Str) (C : Addr) : Prop extends ExcG K x C where
  ini : PySem.W.findIn K (.ref C) "__init__" = some (some (.ref (He.ma K C "__init__")))
  tyi : PySem.W.typeIn K (.ref (He.ma K C "__init__")) = some (.type "function")
  idx : PySem.W.findIn K (.ref C) "index" = some none
def okExc0 (K : PySem.W.Frag) (C : Addr) : Bool := PySem.W.keepIn K (.ref C) && (decide (PySem.W.subIn K (.ref C) (.type "BaseException") = some true) && (decide (PySem.W.typeIn K (.ref C) = some (.type "type")) && (decide (PySem.W.subIn K (.ref C) (.ref C) = some true) &&
  (decide (PySem.W.subIn K (.ref C) (.ref (He.ga K "TradeError")) = some true) && (decide (PySem.W.subIn K (.ref C) (.type "ValueError") = some true) && PySem.W.isClsIn K C)))))
def okExc (K : PySem.W.Frag) (x : Str) : Bool := okExc0 K (He.ga K x) && PySem.W.excIn K (He.ga K x) bmV "ValueError.__new__"
def okExcI (K : PySem.W.Frag) (x : Str) : Bool := okExc0 K (He.ga K x) && (He.eqO (PySem.W.findIn K (.ref (He.ga K x)) "__init__") (some (some (.ref (He.ma K (He.ga K x) "__init__")))) &&
  (decide (PySem.W.typeIn K (.ref (He.ma K (He.ga K x) "__init__")) = some (.type "function")) && decide (PySem.W.findIn K (.ref (He.ga K x)) "index" = some none)))
theorem okExc_of {K : PySem.W.Frag} {x : Str} (h : okExc K x = true) : ExcN K x (He.ga K x) := by
  obtain ⟨h, h0⟩ := Bool.and_eq_true_iff.mp h
  obtain ⟨h1, h⟩ := Bool.and_eq_true_iff.mp h
  obtain ⟨h2, h⟩ := Bool.and_eq_true_iff.mp h
  obtain ⟨h3, h⟩ := Bool.and_eq_true_iff.mp h
  obtain ⟨h4, h⟩ := Bool.and_eq_true_iff.mp h
  obtain ⟨h5, h⟩ := Bool.and_eq_true_iff.mp h
  obtain ⟨h6, h7⟩ := Bool.and_eq_true_iff.mp h
  exact ⟨⟨h1, of_decide_eq_true h2, of_decide_eq_true h3, of_decide_eq_true h4, of_decide_eq_true h5, of_decide_eq_true h6, h7⟩, h0⟩
theorem okExcI_of {K : PySem.W.Frag} {x : Str} (h : okExcI K x = true) : ExcI K x (He.ga K x) := by
  obtain ⟨h, h0⟩ := Bool.and_eq_true_iff.mp h
  obtain ⟨k1, k⟩ := Bool.and_eq_true_iff.mp h0
  obtain ⟨k2, k3⟩ := Bool.and_eq_true_iff.mp k
  obtain ⟨h1, h⟩ := Bool.and_eq_true_iff.mp h
  obtain ⟨h2, h⟩ := Bool.and_eq_true_iff.mp h
  obtain ⟨h3, h⟩ := Bool.and_eq_true_iff.mp h
  obtain ⟨h4, h⟩ := Bool.and_eq_true_iff.mp h
  obtain ⟨h5, h⟩ := Bool.and_eq_true_iff.mp h
  obtain ⟨h6, h7⟩ := Bool.and_eq_true_iff.mp h
  exact ⟨⟨h1, of_decide_eq_true h2, of_decide_eq_true h3, of_decide_eq_true h4, of_decide_eq_true h5, of_decide_eq_true h6, h7⟩, He.eqO_ok k1, of_decide_eq_true k2, of_decide_eq_true k3⟩
end EB

/-! isinstance of a caught error of an own class, with or without fields of its own -/
namespace EB
open PySem PySem.Spec PyProof.Rows L2
def okExcC (K : PySem.W.Frag) (D : Addr) : Bool := He.eqO (PySem.W.findIn K (.ref D) "__getattribute__") (some (some (.builtin "BaseException.__getattribute__"))) && (decide (PySem.W.findIn K (.ref D) "__getattr__" = some none) && (decide (PySem.W.subIn K (.ref D) (.type "BaseException") = some true) &&
  (PySem.W.hasDictIn K D && (He.eqO (PySem.W.findIn K (.ref D) "__class__") (some (some (.builtin "object.__class__"))) && (He.eqO (PySem.W.specialIn K (.builtin "object.__class__") "__get__") (some (some (.builtin "getset_descriptor.__get__"))) &&
  (decide (PySem.W.takesIn K (.builtin "object.__class__") = some true) && decide (PySem.W.mroIn K D (.type "object") = some true)))))))
theorem okExcC_of {K : PySem.W.Frag} {D : Addr} (h : okExcC K D = true) : ExcC K D ∧ XfC K D := by
  obtain ⟨h1, h⟩ := Bool.and_eq_true_iff.mp h
  obtain ⟨h2, h⟩ := Bool.and_eq_true_iff.mp h
  obtain ⟨h3, h⟩ := Bool.and_eq_true_iff.mp h
  obtain ⟨h4, h⟩ := Bool.and_eq_true_iff.mp h
  obtain ⟨h5, h⟩ := Bool.and_eq_true_iff.mp h
  obtain ⟨h6, h⟩ := Bool.and_eq_true_iff.mp h
  obtain ⟨h7, h8⟩ := Bool.and_eq_true_iff.mp h
  exact ⟨⟨He.eqO_ok h1, of_decide_eq_true h2, of_decide_eq_true h3, h4, He.eqO_ok h5, He.eqO_ok h6, of_decide_eq_true h7, of_decide_eq_true h8⟩, ⟨He.eqO_ok h1, of_decide_eq_true h2, of_decide_eq_true h3, h4⟩⟩
/-- isinstance(e, c), e the exception that the suite holds, of the class cls, its dict d -/
def rIsX (K : PySem.W.Frag) (cls : Value) (d : Option Addr) (a : Addr) : List V → Hp → VK → Prop := fun xs H Q => ∃ (D : Addr) (c : V) (cv : Value) (b : Bool), cls = .ref D ∧ ExcC K D ∧ (d = none ∨ ∃ dd fs, d = some dd ∧ H dd = some (.xd fs)) ∧
  xs = [.ref a, c] ∧ (∀ u, RelV c u → u = cv) ∧ PySem.W.kitOne K (.ref D) cv = some b ∧ Q (.bl b) H
theorem call_isX {X : Cx} {a : Addr} {oe : Obj} {cls : Value} {d : Option Addr} {pn : List (Addr × Obj)} (hz : Zc cls d oe) (hf : ∃ vs, oe.data = .fields vs) : CallR (X.suite a ((a, oe) :: pn)) (.builtin "isinstance") (rIsX X.K cls d a) := by
  intro pins s σ H xs us Q I r h
  obtain ⟨D, c, cv, b, rfl, C, hd, rfl, hcv, e, q⟩ := h
  cases r with
  | cons rx rr =>
    cases rr with
    | cons rt rr =>
      cases rr
      cases rx
      have ec := hcv _ rt
      subst ec
      obtain ⟨hget, _⟩ := I.pin (a, oe) (List.mem_append.mpr (.inl List.mem_cons_self))
      obtain ⟨vs, hv⟩ := hf
      obtain ⟨od, J⟩ : ∃ od, PySem.W.InstAt s.heap a oe D od := by
        obtain ⟨oc, odd, oda, osl⟩ := oe
        obtain ⟨h1, h2⟩ := hz
        dsimp only at h1 h2 hv
        subst h1 h2 hv
        rcases hd with rfl | ⟨dd, fs, rfl, ed⟩
        · exact ⟨none, hget, rfl, rfl, trivial⟩
        · have hx : ObjOk X.prog X.w H s.heap dd (.xd fs) := I.hok dd _ ed
          obtain ⟨mA, hns, hr⟩ := hx
          obtain ⟨od, ho, hl⟩ := lookIn_ns hns
          exact ⟨some od, hget, rfl, rfl, ho⟩
      have hcl : (PySem.W.clsIn X.K D).isSome = true := by
        obtain ⟨cd, hc, _⟩ := PySem.W.any_some C.hd
        rw [hc]
        rfl
      exact PySem.W.kia_one (PySem.W.kitx_exc hcl C.hg C.hk C.hs C.ha C.hn C.ht C.hm) I.kIn J e (fun z => nomatch z) fun tk => ⟨.bl b, H, I.kept (t' := tk) fun _ _ z => z, rfl, q⟩
/-- which of the six kinds of errors it is -/
def kindsX : List Str := ["Contradiction", "InvalidNumber", "InvalidOffer", "InvalidStep", "TooGenerous", "UnknownKind"]
def okKit (K : PySem.W.Frag) (x : Str) : Bool := (kindsX.all fun y => decide (PySem.W.kitOne K (.ref (He.ga K x)) (.ref (He.ga K y)) = some (decide (x = y)))) && decide (PySem.W.kitOne K (.ref (He.ga K x)) (.type "ValueError") = some true)
structure KitX6 (K : PySem.W.Frag) (x : Str) : Prop where
  own : ∀ y ∈ kindsX, PySem.W.kitOne K (.ref (He.ga K x)) (.ref (He.ga K y)) = some (decide (x = y))
  val : PySem.W.kitOne K (.ref (He.ga K x)) (.type "ValueError") = some true
theorem okKit_of {K : PySem.W.Frag} {x : Str} (h : okKit K x = true) : KitX6 K x := by
  obtain ⟨h1, h2⟩ := Bool.and_eq_true_iff.mp h
  exact ⟨fun y hy => of_decide_eq_true (List.all_eq_true.mp h1 y hy), of_decide_eq_true h2⟩
/-- xs.count(y), flat items -/
def rCntV (K : PySem.W.Frag) : V → List V → Hp → VK → Prop := fun x xs H Q => ∃ (p : Addr) (ys : List V) (y : V), x = .ref p ∧ xs = [y] ∧ SqL K H p ys ∧ flatV y = true ∧ ys.all flatV = true ∧ Q (.int ((ys.countP fun z => eqV z y : Nat) : Int)) H
theorem count_eqU {x : V} : ∀ {xs : List V} {us : List Value}, Vals xs us → xs.all flatV = true → us.countP (eqU x) = xs.countP fun y => eqV y x
  | _, _, .nil, _ => rfl
  | y :: xs, u :: us, .cons r t, f => by
    rw [List.all_cons, Bool.and_eq_true] at f
    rw [List.countP_cons, List.countP_cons, eqU_of r f.1, count_eqU t f.2]
theorem mt_countV {X : Cx} : MtR X "list.count" (rCntV X.K) := by
  intro pins s σ H x xs v us Q I rx rxs h
  obtain ⟨p, ys, y, rfl, rfl, hs, fy, fys, q⟩ := h
  cases rx
  cases rxs with
  | cons ry rt =>
    rename_i uy ut
    cases rt
    obtain ⟨its, rv, ⟨⟨cls, dd, data, sl⟩, n, ho, hc, hdn, hd⟩, hlen⟩ := I.list hs
    simp only at hc hd
    subst hc hd
    refine call_meets PySem.F.slot_list_count ⟨_, ho, rfl⟩ PySem.F.entry_list_count (PySem.F.args_list_count_2 _ _)
      (SeqAt.list_countAt p its.toArray n dd sl uy (eqU y)) ⟨ho, fun u' hu' => mem_eqAt ry fy rv fys u' (by simpa using hu'), ?_⟩
    refine ⟨.int ((ys.countP fun z => eqV z y : Nat) : Int), H, I.tok _, ⟨s.toks, ?_⟩, q⟩
    show Value.int ((its.toArray.toList.countP (eqU y) : Nat) : Int) s.toks = _
    rw [show its.toArray.toList = its from rfl, count_eqU rv fys]
end EB

/-! enumerate over a tuple; lcm. -/
namespace EB
open PySem PySem.Spec PyProof.Rows L2
def rLcm : List V → Hp → VK → Prop := fun vs H Q => ∃ x y : Int, vs = [.int x, .int y] ∧ x.natAbs < 2 ^ 64 ∧ y.natAbs < 2 ^ 64 ∧ Q (.int ((x.natAbs.lcm y.natAbs : Nat) : Int)) H
theorem cr_lcm {X : Cx} : CallR X (.builtin "math.lcm") rLcm := by
  rintro pins s σ H vs us Q I r ⟨x, y, rfl, hx, hy, q⟩
  obtain ⟨t, u, rfl⟩ := Vals.int2 r
  exact PySem.W.mc_lcm hx hy fun _ => ⟨.int _, H, I.tok _, ⟨_, rfl⟩, q⟩
/-- sum of a tuple of ints -/
def rSumT (K : PySem.W.Frag) : List V → Hp → VK → Prop := fun vs H Q => ∃ (a : Addr) (ns : List Int), vs = [V.ref a] ∧ SqT K H a (ns.map V.int) ∧ Q (.int ns.sum) H
theorem cr_sumT {X : Cx} (hc : X.calm = true) : CallR X (.builtin "sum") (rSumT X.K) := by
  rintro pins s σ H vs us Q I r ⟨a, ns, rfl, hs, q⟩
  obtain ⟨its, rv, ht, _⟩ := I.tuple hs
  rw [Vals.ref1 r]
  have hi : IntsAre its ns := rv.ints
  obtain ⟨xs, e⟩ := hi.allInts.items
  have hn : numsOf (intItems xs).toList = ns := by
    rw [← e]
    exact hi.numsOf
  rw [nums_intItems] at hn
  have ht2 : s.heap.IsTuple a (intItems xs) := by
    rw [← e]
    exact ht
  refine PySem.W.ktm_sumG (I.ok.hd hc) ht2 fun h' tk t' hk => ?_
  rw [preSum_eq, List.take_of_length_le (by simp), hn]
  exact ⟨.int _, H, I.kept hk, ⟨_, rfl⟩, q⟩
/-- o.m(), a positional promise -/
theorem pe_methR0 {X : Cx} {CX : CXT} {k : Nat} {C f : Addr} {m : Str} {sp : Sp} {E : XK} {o : Expr} {ta : TE} {apos pos : Pos} {pl : Sem Bool} (he : PE X o ta) (c : Cls X.K C) (hm : Meth X.K C m f) (F : FnR X.prog X.w X.K X.mg X.base CX k f sp) (hr : Room k X.A) (hx : Passes CX X E)
    (ht : eval (.Call (.Attribute o m apos) [] [] pos) X.env = (do
      let v ← eval o X.env
      standAt apos.atName
      let (g, fst) ← holding [v] (getMethod v m pl)
      callWith pos g fst (backTo pos (starEach [] X.env)) (backToKw pos (keywordEach [] X.env))) := by rfl) : PE X (.Call (.Attribute o m apos) [] [] pos) (tM0 C m sp E ta) := by
  constructor
  intro pins s σ H Q I h
  refine PySem.W.methodCall_KW (pl := pl) (thn (he.run pins s σ H _ I h) fun u s1 ⟨x, H1, I1, rx, a, dx, fs, ex, ea, l, q⟩ => ?_) ht
  subst ex
  obtain rfl : u = Value.ref a := rx
  refine getmeth_ok I1 ea c hm l ?_
  exact PySem.W.callWith_K0 (first := [.ref a]) I1.kIn hm.kp (wpAny_call (run_fnR (us := [.ref a]) (vs := [.ref a]) F hr hx I1 (.cons rfl .nil) q))
theorem meets_enumV {v : Value} {o : Obj} {G : Heap → Prop} (B : Begins v o G) :
    Meets (Builtin.«enumerate.__new__» ⟨[.type "enumerate", v], []⟩) (fun _ R s => G s.heap ∧
      R (.ok (.ret (.ref (s.heap.push o).objs.size))) { s with heap := (s.heap.push o).push { cls := .type "enumerate", data := .fields #[.none, .bool false, .ref s.heap.objs.size, rawInt 0, .none, .none] } }) :=
  .of_wp fun prog w A R s h => by
    obtain ⟨hp, g, d, tk, os⟩ := s
    obtain ⟨h1, h⟩ := h
    have hsub := sub_enumerate
    have q1 : ∀ {A' : Around} {E : Value → Shared → Prop} {Q : Value → Shared → Prop}, Q (.ref hp.objs.size) ⟨hp.push o, g, d, tk, os⟩ → wpAny (model prog w) A' (pyIter v) Q E ⟨hp, g, d, tk, os⟩ :=
      fun q => B.iter prog w _ _ ⟨hp, g, d, tk, os⟩ _ h1 q
    wp_walk using q1
    refine wpAny_stack_any fun st => wpAny_pure ?_
    split
    · rename_i c _ _ _ _ _
      cases (c == Value.type "enumerate")
      · wp_walk using q1
        exact ⟨_, rfl, h⟩
      · wp_walk using q1
        exact ⟨_, rfl, h⟩
    · wp_walk using q1
      exact ⟨_, rfl, h⟩
theorem call_enumT {prog : Program} {w : World} {A : Around} {E : Value → Shared → Prop} {s : Shared} {a : Addr} {its : Array Value} {Q : Value → Shared → Prop} (ht : s.heap.IsTuple a its)
    (h : ∀ h', IsEnum h' (s.heap.objs.size + 1) s.heap.objs.size 0 .none → h'.IsTupleIter s.heap.objs.size a 0 → (∀ b o, s.heap.get? b = some o → h'.get? b = some o) → Q (.ref (s.heap.objs.size + 1)) { s with heap := h' }) :
    wpAny (model prog w) A (call (.type "enumerate") [.ref a]) Q E s := by
  refine callType_new F.called_enumerate (by decide) (F.typeCall_enumerate_1 _) (F.newCall_enumerate_1 _) (fun obj => F.args_object_init_2 obj _) F.entry_enumerate_new (meets_enumV (begins_tuple a its)) ⟨ht, ?_⟩
  have hz : (s.heap.push { cls := .type "tuple_iterator", data := .fields #[.ref a, .int 0 0] }).objs.size = s.heap.objs.size + 1 := Heap.size_push ..
  show _ ∧ _
  rw [hz]
  have he : IsEnum ((s.heap.push { cls := .type "tuple_iterator", data := .fields #[.ref a, .int 0 0] }).push { cls := .type "enumerate", data := .fields #[.none, .bool false, .ref s.heap.objs.size, rawInt 0, .none, .none] }) (s.heap.objs.size + 1) s.heap.objs.size 0 .none := by
    have z := Heap.get?_push_size (s.heap.push { cls := .type "tuple_iterator", data := .fields #[.ref a, .int 0 0] }) (o := { cls := .type "enumerate", data := .fields #[.none, .bool false, .ref s.heap.objs.size, rawInt 0, .none, .none] }) rfl
    rw [hz] at z
    exact z
  exact ⟨⟨_, he, rfl⟩, h _ he ⟨_, Heap.get?_push_of_some _ (Heap.get?_push_size _ rfl), rfl, rfl⟩ fun b o x => Heap.get?_push_of_some _ (Heap.get?_push_of_some _ x)⟩
/-- the tuple at a as it stands at each turn, each item in a new pair with its place -/
def ItE (K : PySem.W.Frag) (a : Addr) : It :=
  ⟨fun i H => ∃ (xs : List V) (x : V), SqT K H a xs ∧ xs[i]? = some x, fun i H v H' => ∃ q x, v = .ref q ∧ H q = none ∧ H' = upd H q (.tup [.int (i : Nat), x]) ∧ ∀ xs, SqT K H a xs → xs[i]? = some x,
    fun i H => ∃ xs : List V, SqT K H a xs ∧ xs.length = i⟩
theorem turn_E {P : Program} {w : World} {K : PySem.W.Frag} {elts : List Expr} {kk : Nat} {tpos : Pos} (a e it : Addr) :
    Turn P w K (.Tuple elts kk tpos) (ItE K a) [e, it] e (fun i h => (∃ old, IsEnum h e it ((i : Nat) : Int) old) ∧ h.IsTupleIter it a i ∧ e ≠ it ∧ a ≠ it ∧ a ≠ e) where
  mem := by simp
  obj := fun i h st b hb => by
    obtain ⟨⟨old, he⟩, ⟨o, ho, hc, hd⟩, _⟩ := st
    rcases (show b = e ∨ b = it by simpa using hb) with rfl | rfl
    · exact ⟨_, he, fun v q => nomatch q⟩
    · exact ⟨o, ho, fun v q => by rw [hd] at q; cases q⟩
  keep := fun i h h' st k => by
    obtain ⟨⟨old, he⟩, hi, hne⟩ := st
    exact ⟨⟨old, k e (by simp) _ he⟩, hi.at fun o q => k it (by simp) o q, hne⟩
  item := by
    intro X hP hw hK hc i pins s σ H E I hf st hg
    subst hP hw hK
    obtain ⟨⟨old, he⟩, hit, hne, hai, hae⟩ := st
    obtain ⟨xs, x, hq, hx⟩ := hg
    obtain ⟨its, rv, p, hz⟩ := I.tuple hq
    obtain ⟨u, hu, ru⟩ := rv.get hx
    have hlt : i < its.toArray.size := by
      have z := (List.getElem?_eq_some_iff.mp hu).1
      simpa using z
    have hel : e < s.heap.objs.size := Heap.lt_size he
    have hil : it < s.heap.objs.size := by
      obtain ⟨_, q, _⟩ := hit
      exact Heap.lt_size q
    have p' : s.heap.IsTuple a its.toArray := p
    refine wpAny_pyNext_enum_itemC (Draws.tuple (prog := X.prog) (w := X.w) (show X.A.in1.handled = none from I.ok.hd hc) it a hai its.toArray) he ⟨hit, p'⟩ hlt hne (by simp [hne, Ne.symm hae]) fun u' h' tk hu' ho hs' hT hsz hk => ?_
    have eu : u' = u := by
      have z : its.toArray[i]? = some u' := hu'
      rw [show its.toArray[i]? = some u by simpa using hu] at z
      exact (Option.some.inj z).symm
    subst eu
    refine ⟨_, rfl, wpAny_letOwnedTupleGo_enum (s := { s with heap := h', toks := tk + 1 }) ho fun h'' he' sb => ?_⟩
    have hT2 : h''.get? s.heap.objs.size = some { cls := .type "tuple", data := .seq #[.int i tk, u'] } := (sb.2 _ (Nat.ne_of_gt hel)).trans hT
    have new : ObjOk X.prog X.w (upd H s.heap.objs.size (.tup [.int (i : Nat), x])) h'' s.heap.objs.size (.tup [.int (i : Nat), x]) := by
      refine ⟨?_, [.int i tk, u'], .cons ⟨_, rfl⟩ (.cons ru .nil), ⟨_, hT2, rfl, _, rfl⟩⟩
      show 2 ≤ sizeLine
      decide
    have I1 : Inv X pins σ (upd H s.heap.objs.size (.tup [.int (i : Nat), x])) { s with heap := h'', toks := tk + 1 } := by
      refine I.turnedNew (ch := [e, it]) (fun b ob hb q => ?_) hf (Nat.le_refl _) new
      have b1 : b ≠ e := fun z => hb (by simp [z])
      have b2 : b ≠ it := fun z => hb (by simp [z])
      exact (sb.2 b b1).trans (hk b ob b1 b2 q)
    refine ⟨.ref s.heap.objs.size, _, I1, rfl, ⟨_, x, rfl, I.hok.fresh (Nat.le_refl _), rfl, fun ys hy => ?_⟩, ⟨⟨u', ?_⟩, ?_, hne, hai, hae⟩, fun b hb => ?_⟩
    · rw [I.tuple_inj hy hq]
      exact hx
    · rw [show ((i + 1 : Nat) : Int) = (i : Int) + 1 by omega]
      exact he'
    · exact hs'.1.at fun o q => (sb.2 it (Ne.symm hne)).trans q
    · have hb' : b < s.heap.objs.size := by
        rcases (show b = e ∨ b = it by simpa using hb) with rfl | rfl
        · exact hel
        · exact hil
      rw [upd_ne (Nat.ne_of_lt hb')]
      exact (hf b hb).1
  done := by
    intro X hP hw hK hc i pins s σ H E I hf st hg
    subst hP hw hK
    obtain ⟨⟨old, he⟩, hit, hne, hai, hae⟩ := st
    obtain ⟨xs, hq, hx⟩ := hg
    obtain ⟨its, rv, p, hz⟩ := I.tuple hq
    obtain ⟨f0, f1, f2, f3, f4, f5⟩ := hf it (by simp)
    have hl := rv.length
    have p' : s.heap.IsTuple a its.toArray := p
    have es : its.toArray.size = i := by
      rw [List.size_toArray]
      omega
    refine wpAny_pyNext_enum_endD (Draws.tuple (prog := X.prog) (w := X.w) (show X.A.in1.handled = none from I.ok.hd hc) it a hai its.toArray) he ?_ fun h' eb => ⟨rfl, I.turned (t' := s.toks) (fun b o hb q => eb b o hb q) f0 f1 f3 f4 f5⟩
    rw [es]
    exact ⟨hit, p'⟩
  self := fun A i s Q E st h => by
    obtain ⟨⟨_, he⟩, _⟩ := st
    exact wpAny_pyIter_enum he h
def iEnumT (K : PySem.W.Frag) (ta : TA) : TI := fun σ H R => ta σ H fun vs H1 => ∃ a xs, vs = [.ref a] ∧ SqT K H1 a xs ∧ R (ItE K a) H1
theorem pi_enumT {X : Cx} {e : Expr} {ta : TA} {p pos tpos : Pos} {elts : List Expr} {kk : Nat} (hg : Gl X "enumerate") (hm : X.mg "enumerate" = none) (ha : PA X [e] ta) (hs : starEach [e] X.env = [(false, eval e X.env)] := by rfl) :
    PI X (.Tuple elts kk tpos) (.Call (.Name "enumerate" p) [e] [] pos) (iEnumT X.K ta) := by
  constructor
  intro pins s σ H R I h
  refine Call_ (ld_blt I hg hm boot_enumerate (PyProof.Rows.callWith_type1 (thn (ha.run pos pins s σ H _ I h) fun us s1 ⟨vs, H1, I1, r1, q1⟩ => ?_) hs rfl))
  obtain ⟨a, xs, rfl, hq, q⟩ := q1
  cases r1 with
  | cons r rr =>
    cases rr
    cases r
    obtain ⟨its, rv, p', hz⟩ := I1.tuple hq
    have al : a < s1.heap.objs.size := by
      obtain ⟨_, z, _⟩ := (show s1.heap.IsTuple a its.toArray from p')
      exact Heap.lt_size z
    refine call_enumT (show s1.heap.IsTuple a its.toArray from p') fun h' he hit hk => wpAny_pyIter_enum he ?_
    have I2 : Inv X pins σ H1 { s1 with heap := h' } := I1.kept (t' := s1.toks) hk
    refine ⟨s1.heap.objs.size + 1, [s1.heap.objs.size + 1, s1.heap.objs.size], _, _, H1, rfl, I2, turn_E a (s1.heap.objs.size + 1) s1.heap.objs.size, ⟨⟨.none, he⟩, hit, Nat.succ_ne_self _, Nat.ne_of_lt al, Nat.ne_of_lt (Nat.lt_succ_of_lt al)⟩, fun b hb => ?_, q⟩
    have hle : s1.heap.objs.size ≤ b := by
      rcases (show b = s1.heap.objs.size + 1 ∨ b = s1.heap.objs.size by simpa using hb) with z | z
      · rw [z]
        exact Nat.le_add_right _ _
      · rw [z]
        exact Nat.le_refl _
    exact I1.fpOk hle (I1.hok.fresh hle)
theorem walk_enumT {K : PySem.W.Frag} {a : Addr} {xs : List V} : Walk (ItE K a) xs.length (fun H => SqT K H a xs) (YPair (fun i => some (.int (i : Nat))) (fun i => xs[i]?)) where
  goes := fun i H hi hs => ⟨xs, xs[i], hs, List.getElem?_eq_getElem hi⟩
  stops := fun H hs => ⟨xs, hs, rfl⟩
  yields := fun i H x H' hi hs h => by
    obtain ⟨q, y, e1, e2, e3, e4⟩ := h
    exact ⟨q, .int (i : Nat), y, e1, e2, e3, rfl, e4 xs hs⟩
end EB
namespace EB
open PySem PySem.Spec PyProof.Rows L2
section
variable {X : Cx} {CX : CXT} {k : Nat} {C g : Addr} {sp : Sp} {E : XK}
/-- x in o, o an instance whose class says __contains__ -/
def rInO (C : Addr) (neg : Bool) (sp : Sp) (E : XK) : R2 := fun x y H Q => ∃ a dx fs, y = .ref a ∧ H a = some (.ins C dx fs) ∧ sp [y, x] H (fun z H' => ∃ b, z = .bl b ∧ Q (.bl (if neg then !b else b)) H') E
theorem op_inO (hs : PySem.W.findIn X.K (.ref C) "__contains__" = some (some (.ref g))) (hf : PySem.W.isFn X.K (.ref g) = true) (F : FnR X.prog X.w X.K X.mg X.base CX k g sp) (hr : Room k X.A) (hx : Passes CX X E) : OpR X (compareOp .In) (rInO C false sp E) := by
  rintro pins s σ H x y v u Q I rx ry ⟨a, dx, fs, rfl, ha, q⟩
  cases (show u = Value.ref a from ry)
  obtain ⟨ox, od, J, _⟩ := StX.insC_at I (.inr ⟨dx, fs, ha⟩)
  obtain ⟨m, hF⟩ := I.fr
  refine PySem.W.in_K hF I.ok.mod.kin J hs hf (thn (wpAny_call (run_fnR (us := [.ref a, v]) (vs := [.ref a, x]) F hr hx I (.cons rfl (.cons rx .nil)) q)) fun w' s' hz => ?_)
  obtain ⟨z, H', I', rz, b, rfl, qb⟩ := hz
  exact thn (tru_ok (X := X) pins s' σ H' (.bl b) w' (fun k H'' => k = b ∧ H'' = H') I' rz ⟨b, rfl, rfl, rfl⟩) fun k s'' ⟨H'', I'', e1, e2⟩ => by
    subst e1 e2
    exact ⟨.bl k, H'', I'', rfl, qb⟩
theorem op_notInO (hs : PySem.W.findIn X.K (.ref C) "__contains__" = some (some (.ref g))) (hf : PySem.W.isFn X.K (.ref g) = true) (F : FnR X.prog X.w X.K X.mg X.base CX k g sp) (hr : Room k X.A) (hx : Passes CX X E) : OpR X (compareOp .NotIn) (rInO C true sp E) := by
  rintro pins s σ H x y v u Q I rx ry ⟨a, dx, fs, rfl, ha, q⟩
  cases (show u = Value.ref a from ry)
  obtain ⟨ox, od, J, _⟩ := StX.insC_at I (.inr ⟨dx, fs, ha⟩)
  obtain ⟨m, hF⟩ := I.fr
  refine PySem.W.notIn_K hF I.ok.mod.kin J hs hf (thn (wpAny_call (run_fnR (us := [.ref a, v]) (vs := [.ref a, x]) F hr hx I (.cons rfl (.cons rx .nil)) q)) fun w' s' hz => ?_)
  obtain ⟨z, H', I', rz, b, rfl, qb⟩ := hz
  exact thn (tru_ok (X := X) pins s' σ H' (.bl b) w' (fun k H'' => k = b ∧ H'' = H') I' rz ⟨b, rfl, rfl, rfl⟩) fun k s'' ⟨H'', I'', e1, e2⟩ => by
    subst e1 e2
    exact ⟨.bl (!k), H'', I'', rfl, qb⟩
/-- x op y, both instances; the class of x says op -/
def rCmpO (K : PySem.W.Frag) (C : Addr) (sp : Sp) (E : XK) : R2 := fun x y H Q => ∃ a dx fs b dy gs, x = .ref a ∧ y = .ref b ∧ H a = some (.ins C dx fs) ∧ H b = some (.ins C dy gs) ∧ PySem.W.notFirst K C (.ref C) = true ∧ sp [x, y] H Q E
theorem op_cmpO {op : CmpOp} (hop : ∀ a b, compareOp op a b = richCompare op a b) (hs : PySem.W.findIn X.K (.ref C) (cmpInfo op).2.1 = some (some (.ref g))) (hf : PySem.W.isFn X.K (.ref g) = true) (F : FnR X.prog X.w X.K X.mg X.base CX k g sp)
    (hr : Room k X.A) (hx : Passes CX X E) : OpR X (compareOp op) (rCmpO X.K C sp E) := by
  rintro pins s σ H x y v u Q I rx ry ⟨a, dx, fs, b, dy, gs, rfl, rfl, ha, hb, hn, q⟩
  cases (show v = Value.ref a from rx)
  cases (show u = Value.ref b from ry)
  obtain ⟨_, _, J, _⟩ := StX.insC_at I (.inr ⟨dx, fs, ha⟩)
  obtain ⟨_, _, J', _⟩ := StX.insC_at I (.inr ⟨dy, gs, hb⟩)
  obtain ⟨m, hF⟩ := I.fr
  rw [hop]
  refine PySem.W.cmp_K (op := op) (tb := .ref C) hr.units0 hF I.ok.mod.kin J J'.type hn hs hf (thn (wpAny_call (run_fnR (us := [.ref a, .ref b]) (vs := [.ref a, .ref b]) F hr hx I (.cons rfl (.cons rfl .nil)) q)) fun w' s' hz => ?_)
  obtain ⟨z, H', I', rz, qz⟩ := hz
  exact SlX.cmpback rz ⟨z, H', I', rz, qz⟩
end
end EB
namespace EB
open PySem PySem.Spec PyProof.Rows L2
section
variable {X : Cx} {CX : CXT} {k : Nat} {C g : Addr} {sp : Sp} {E : XK} {fe e : Expr} {es : List Expr} {tf : TE} {t : TA} {pos : Pos}
/-- o(e, ..), o an instance; its reading names no context -/
def tCallI (C : Addr) (sp : Sp) (E : XK) (tf : TE) (t : TA) : TE := fun σ H Q => tf σ H fun y H1 => ∃ a, y = V.ref a ∧ t σ H1 fun vs H2 => (∃ dx fs, H2 a = some (.ins C dx fs)) ∧ sp (V.ref a :: vs) H2 Q E
theorem pe_callI (hf : PE X fe tf) (c : StX.CallO X.K C g) (F : FnR X.prog X.w X.K X.mg X.base CX k g sp) (hr : Room k X.A) (hx : Passes CX X E) (ha : PA X (e :: es) t)
    (ht : eval (.Call fe (e :: es) [] pos) X.env = (do callWith pos (← eval fe X.env) [] (backTo pos (starEach (e :: es) X.env)) (backToKw pos (keywordEach [] X.env))) := by rfl)
    (hs : starEach (e :: es) X.env = (false, eval e X.env) :: starEach es X.env := by rfl) (hp : (backTo pos (starEach es X.env)).any (·.1) = false := by rfl) : PE X (.Call fe (e :: es) [] pos) (tCallI C sp E tf t) := by
  constructor
  intro pins s σ H Q I h
  refine Call_ (thn (hf.run pins s σ H _ I h) fun u s1 ⟨y, H1, I1, ry, a, ey, q⟩ => ?_) ht
  subst ey
  obtain rfl : u = Value.ref a := ry
  refine StX.callO_with (thn (ha.run pos pins s1 σ H1 _ I1 q) fun us s2 ⟨vs, H2, I2, r, hi, q2⟩ => ?_) hs hp
  obtain ⟨ox, od, J, hd⟩ := StX.insC_at I2 (.inr hi)
  exact ⟨⟨C, ox, od, J, hd⟩, StX.run_callO c F hr hx I2 (.inr hi) r q2⟩
end
end EB

/-! Operators and subscripts of own instances. -/
namespace EB
open PySem PySem.Spec PyProof.Rows L2
section
variable {X : Cx} {CX : CXT} {k : Nat} {C g : Addr} {sp : Sp} {E : XK}
/-- x op y, both instances of C -/
def rBinI (C : Addr) (sp : Sp) (E : XK) : R2 := fun x y H Q => ∃ a dx fs b dy gs, x = .ref a ∧ y = .ref b ∧ H a = some (.ins C dx fs) ∧ H b = some (.ins C dy gs) ∧ sp [x, y] H Q E
theorem op_binI {op : Operator} (hc : PySem.W.selfFirst X.K C = true) (hs : PySem.W.findIn X.K (.ref C) (PySem.dunder op.info.2) = some (some (.ref g))) (hf : PySem.W.isFn X.K (.ref g) = true) (F : FnR X.prog X.w X.K X.mg X.base CX k g sp)
    (hr : Room k X.A) (hx : Passes CX X E) : OpR X (binaryOp op) (rBinI C sp E) := by
  rintro pins s σ H x y v u Q I rx ry ⟨a, dx, fs, b, dy, gs, rfl, rfl, ha, hb, q⟩
  cases (show v = Value.ref a from rx)
  cases (show u = Value.ref b from ry)
  obtain ⟨_, _, J, _⟩ := StX.insC_at I (.inr ⟨dx, fs, ha⟩)
  obtain ⟨_, _, J', _⟩ := StX.insC_at I (.inr ⟨dy, gs, hb⟩)
  obtain ⟨m, hF⟩ := I.fr
  refine PySem.W.binop_K hF I.ok.mod.kin J J'.type hc hs hf (thn (wpAny_call (run_fnR (us := [.ref a, .ref b]) (vs := [.ref a, .ref b]) F hr hx I (.cons rfl (.cons rfl .nil)) q)) fun w' s' hz => ?_)
  obtain ⟨z, H', I', rz, qz⟩ := hz
  exact SlX.cmpback rz ⟨z, H', I', rz, qz⟩
/-- what the head says of such an operator with a text or an int on the right -/
def okBinT (K : PySem.W.Frag) (C : Addr) (nm ty : String) : Bool := (PySem.W.selfFirst K C && (decide (PySem.W.findIn K (.ref C) (dunderR nm) = some none) && ((PySem.W.findIn K (.type ty) (PySem.dunder nm)).isSome && ((PySem.W.findIn K (.type ty) (dunderR nm)).isSome && decide (PySem.W.subIn K (.type ty) (.ref C) = some false)))))
structure BinT (K : PySem.W.Frag) (C : Addr) (nm ty : String) : Prop where
  first : PySem.W.selfFirst K C = true
  noR : PySem.W.findIn K (.ref C) (dunderR nm) = some none
  fo : ∃ o, PySem.W.findIn K (.type ty) (PySem.dunder nm) = some o
  ro : ∃ o, PySem.W.findIn K (.type ty) (dunderR nm) = some o
  sub : PySem.W.subIn K (.type ty) (.ref C) = some false
theorem okBinT_of {K : PySem.W.Frag} {C : Addr} {nm ty : String} (h : okBinT K C nm ty = true) : BinT K C nm ty := by
  obtain ⟨h1, h⟩ := Bool.and_eq_true_iff.mp h
  obtain ⟨h2, h⟩ := Bool.and_eq_true_iff.mp h
  obtain ⟨h3, h⟩ := Bool.and_eq_true_iff.mp h
  obtain ⟨h4, h5⟩ := Bool.and_eq_true_iff.mp h
  exact ⟨h1, of_decide_eq_true h2, Option.isSome_iff_exists.mp h3, Option.isSome_iff_exists.mp h4, of_decide_eq_true h5⟩
/-- x op y, x an instance of C, y a text or an int -/
def rBinT (C : Addr) (sp : Sp) (E : XK) (y : V → Prop) : R2 := fun x z H Q => ∃ a dx fs, x = .ref a ∧ H a = some (.ins C dx fs) ∧ y z ∧ sp [x, z] H Q E
theorem op_binS {op : Operator} (B : BinT X.K C op.info.2 "str") (hs : PySem.W.findIn X.K (.ref C) (PySem.dunder op.info.2) = some (some (.ref g))) (hf : PySem.W.isFn X.K (.ref g) = true) (F : FnR X.prog X.w X.K X.mg X.base CX k g sp)
    (hr : Room k X.A) (hx : Passes CX X E) : OpR X (binaryOp op) (rBinT C sp E fun z => ∃ t : Str, z = .str t) := by
  rintro pins s σ H x y v u Q I rx ry ⟨a, dx, fs, rfl, ha, ⟨z, rfl⟩, q⟩
  cases (show v = Value.ref a from rx)
  have ry' := ry
  obtain ⟨t, rfl⟩ := ry
  obtain ⟨_, _, J, _⟩ := StX.insC_at I (.inr ⟨dx, fs, ha⟩)
  obtain ⟨m, hF⟩ := I.fr
  obtain ⟨fo, h1⟩ := B.fo
  obtain ⟨ro, h2⟩ := B.ro
  refine PySem.W.ksp_binT (T := "str") (rc := none) hF I.ok.mod.kin J rfl B.first hs hf B.noR (.inl rfl) h1 h2 B.sub (thn (wpAny_call (run_fnR (us := [.ref a, .str z t]) (vs := [.ref a, .str z]) F hr hx I (.cons rfl (.cons ry' .nil)) q)) fun w' s' hz => ?_)
  obtain ⟨z, H', I', rz, qz⟩ := hz
  exact SlX.cmpback rz ⟨z, H', I', rz, qz⟩
theorem op_binN {op : Operator} (B : BinT X.K C op.info.2 "int") (hs : PySem.W.findIn X.K (.ref C) (PySem.dunder op.info.2) = some (some (.ref g))) (hf : PySem.W.isFn X.K (.ref g) = true) (F : FnR X.prog X.w X.K X.mg X.base CX k g sp)
    (hr : Room k X.A) (hx : Passes CX X E) : OpR X (binaryOp op) (rBinT C sp E fun z => ∃ t : Int, z = .int t) := by
  rintro pins s σ H x y v u Q I rx ry ⟨a, dx, fs, rfl, ha, ⟨z, rfl⟩, q⟩
  cases (show v = Value.ref a from rx)
  have ry' := ry
  obtain ⟨t, rfl⟩ := ry
  obtain ⟨_, _, J, _⟩ := StX.insC_at I (.inr ⟨dx, fs, ha⟩)
  obtain ⟨m, hF⟩ := I.fr
  obtain ⟨fo, h1⟩ := B.fo
  obtain ⟨ro, h2⟩ := B.ro
  refine PySem.W.ksp_binT (T := "int") (rc := none) hF I.ok.mod.kin J rfl B.first hs hf B.noR (.inl rfl) h1 h2 B.sub (thn (wpAny_call (run_fnR (us := [.ref a, .int z t]) (vs := [.ref a, .int z]) F hr hx I (.cons rfl (.cons ry' .nil)) q)) fun w' s' hz => ?_)
  obtain ⟨z, H', I', rz, qz⟩ := hz
  exact SlX.cmpback rz ⟨z, H', I', rz, qz⟩
/-- o[i], o's class says __getitem__ -/
def rIxO (C : Addr) (sp : Sp) (E : XK) : R2 := fun x y H Q => ∃ a dx fs, x = .ref a ∧ H a = some (.ins C dx fs) ∧ sp [x, y] H Q E
theorem pe_ixO {o i : Expr} {to ti : TE} {pos : Pos} (hs : PySem.W.findIn X.K (.ref C) "__getitem__" = some (some (.ref g))) (hf : PySem.W.fnIn X.K g = true) (hfn : PySem.W.isFn X.K (.ref g) = true) (F : FnR X.prog X.w X.K X.mg X.base CX k g sp)
    (hr : Room (k + 1) X.A) (hx : Passes CX X E) (ho : PE X o to) (hi : PE X i ti) (hsl : ∀ v u, subscripted i true v u = runValue (.builtin "lifetime.subscript" ⟨[v, u], []⟩) := by exact fun _ _ => rfl) :
    PE X (.Subscript o i pos) (tOp (rIxO C sp E) to ti) := by
  refine ⟨fun pins s σ H Q I h => ?_⟩
  refine Subscript_ (binT ho hi I h fun v u s2 x y H2 I2 rx ry q => ?_)
  obtain ⟨a, dx, fs, rfl, ha, q⟩ := q
  cases (show v = Value.ref a from rx)
  obtain ⟨_, _, J, _⟩ := StX.insC_at I2 (.inr ⟨dx, fs, ha⟩)
  obtain ⟨m, hF⟩ := I2.fr
  refine PySem.W.sub_K hF I2.ok.mod.kin J hs hf hfn (wpAny_call ?_) (hsl _ _)
  refine codeAny_mono (F X.A.in1 X.stack s2 H2 [.ref a, u] [.ref a, y] Q E hr.in1 I2.env0.in1 (.cons rfl (.cons ry .nil)) q) fun r s' hq => ?_
  cases r with
  | error er => exact hx pins σ H2 s2 er s' I2 hq
  | ok fl =>
    cases fl with
    | ret u => exact I2.after hq
    | next => exact False.elim hq
    | brk => exact False.elim hq
    | cont => exact False.elim hq
end
section
variable {X : Cx} {CX : CXT} {k : Nat} {C f : Addr} {sp : Sp} {E : XK} {x : Str} {e : Expr} {te : TE} {p pos sp_ : Pos}
/-- C(*y) -/
def tMakeS (K : PySem.W.Frag) (C : Addr) (sp : Sp) (E : XK) (te : TE) : TE := fun σ H Q => te σ H fun y H1 => ∃ a xs, y = V.ref a ∧ (SqT K H1 a xs ∨ SqL K H1 a xs) ∧ ∀ o dx, H1 o = none → H1 dx = none → dx ≠ o →
  sp (V.ref o :: xs) (upd (upd H1 dx (.own o)) o (.ins C dx [])) (fun v H2 => v = .non ∧ Q (.ref o) H2) E
theorem pe_makeS1 (M : Mk X.K C f) (F : FnR X.prog X.w X.K X.mg X.base CX k f sp) (hr : Room (k + 1) X.A) (hg : Gl X x) (hm : X.mg x = some (.ref C)) (hx : Passes CX X E) (he : PE X e te) (hd : (x == ("__debug__" : Str)) = false := by decide)
    (hst : starEach [.Starred e sp_] X.env = [(true, eval e X.env)] := by rfl) : PE X (.Call (.Name x p) [.Starred e sp_] [] pos) (tMakeS X.K C sp E te) := by
  refine ⟨fun pins s σ H Q I h => ?_⟩
  refine wpAny_Call_Name_kw (ld_glob I hg hm ?_ hd)
  refine PySem.W.callWith_S (h₀ := X.base) I.ok.mod.kin M.kp (thn (he.run pins s σ H _ I h) fun v s1 ⟨y, H1, I1, ry, a, xs, ey, hxs, q⟩ => ?_) hst
  subst ey
  obtain rfl : v = Value.ref a := ry
  exact StX.star_any I1 hxs fun us s2 I2 rv => ⟨I2.kIn, StX.run_makeR M F hr hx I2 rv q⟩
end
end EB

/-! A law that makes lambdas: the tables of code objects, in the heap and at the head. -/
namespace EB
open PySem PySem.Spec PyProof.Rows L2
/-- the head's facts and the tables of the defs tf: empty, not in K -/
structure SaysL (fa : List He.Fa) (more : PySem.W.Frag → Bool) (ds : List DD) (tf : List He.Defn) (h : Heap) (K : PySem.W.Frag) : Prop where
  t : Says fa more ds K
  hd : ∀ p ∈ tf, PySem.W.codeHdIn K (He.cT K p).1 (He.cT K p).2 = true
  out : ∀ p ∈ tf, K.lookup (He.cT K p).2 = none
  empty : ∀ p ∈ tf, h.get? (He.cT K p).2 = some { cls := .none, data := .fields #[] }
abbrev SeenL : Type := Seen × Bool
def obsL (fa : List He.Fa) (more : PySem.W.Frag → Bool) (ds : List DD) (tf : List He.Defn) (g : Addr → Option Obj) (as : List Addr) : SeenL := (seen fa more ds (He.frT g as), He.tabsB g tf (He.frT g as))
theorem saysL_of {fa : List He.Fa} {more : PySem.W.Frag → Bool} {ds : List DD} {tf : List He.Defn} {h : Heap} {as : List Addr} (e : obsL fa more ds tf h.get? as = (want ds, true)) : SaysL fa more ds tf h (He.frT h.get? as) := by
  have e1 : seen fa more ds (He.frT h.get? as) = want ds := congrArg (fun z : SeenL => z.1) e
  have h2 : He.tabsB h.get? tf (He.frT h.get? as) = true := congrArg (fun z : SeenL => z.2) e
  have key : ∀ p ∈ tf, PySem.W.codeHdIn (He.frT h.get? as) (He.cT (He.frT h.get? as) p).1 (He.cT (He.frT h.get? as) p).2 = true ∧ ∃ o, h.get? (He.cT (He.frT h.get? as) p).2 = some o ∧ He.emptyTab o = true := fun p hp => by
    obtain ⟨h3, h4⟩ := Bool.and_eq_true_iff.mp (List.all_eq_true.mp h2 p hp)
    refine ⟨h3, ?_⟩
    cases q : h.get? (He.cT (He.frT h.get? as) p).2 with
    | none =>
      rw [q] at h4
      cases h4
    | some o =>
      rw [q] at h4
      exact ⟨o, rfl, h4⟩
  exact ⟨e1, fun p hp => (key p hp).1, fun p hp => by
    obtain ⟨_, o, q, z⟩ := key p hp
    exact He.frT_none q z, fun p hp => by
    obtain ⟨_, o, q, z⟩ := key p hp
    rw [q, He.emptyTab_eq z]⟩
def hookL (n : Nat) (fa : List He.Fa) (more : PySem.W.Frag → Bool) (ds : List DD) (tf : List He.Defn) : PySem.W.Hook where
  α := SeenL
  obs := fun s => obsL fa more ds tf s.heap.get? (cStatics :: He.asD s.heap.get? n)
  val := fun _ => (want ds, true)
  says := fun _ h => ∃ K : PySem.W.Frag, K.In h ∧ SaysL fa more ds tf h K
  of := fun _ _ e => ⟨_, He.frT_in, saysL_of e⟩
  keeps := fun _ _ _ ⟨K, hK, c⟩ k => ⟨K, PySem.W.Frag.In.keeps hK k, ⟨c.t, c.hd, c.out, fun p hp => k _ _ (c.empty p hp)⟩⟩
section
variable {P : Program} {w : World} {K : PySem.W.Frag} {mg : Str → Option Value} {base : Heap}
/-- a def whose code object is known -/
theorem fnCK0 {d : DD} {fd : FuncData} {N ps : List Str} {k : Nat} {sp : Sp} {c : Addr} (F : FnP K d fd) (hc : fd.code = .ref c) (S : FnScope N ps (defScope d.st)) (len : ∀ vs H Q E, sp vs H Q E → vs.length = ps.length)
    (hbody : ∀ (A : Around) (outer : List Env) (s : Shared) (H : Hp) (vs : List V) (Q : VK) (E : XK), Room k (A.deeper (envOfC d.ql (defScope d.st) s.heap.objs.size (d.adr K) (.ref c))) → sp vs H Q E →
      ∃ t, PSs (cxOf CX0 P w K mg base N d.ql (defScope d.st) (d.adr K) (.ref c) A outer s H E).nox (defBody d.st) t ∧ t { nx := fun _ H' => Q .non H', rt := Q } (start N vs) H) :
    FnOk P w K mg base CX0 (k + 1) (d.adr K) fd ps sp := by
  obtain ⟨oc, od, dV, kV, doc, pm, an, cdv, ct, osl, rfl, lk, hcd, _, _⟩ := F.ex
  obtain rfl : cdv = .ref c := hc
  refine fn_of lk hcd S len fun A outer s H vs Q E hr hsp => ?_
  obtain ⟨t, h1, h2⟩ := hbody A outer s H vs Q E hr hsp
  exact ⟨t, h1.nox, h2⟩
theorem code_of {d : DD} {fd : FuncData} (F : FnP K d fd) : ∃ oc od osl c, K.lookup (d.adr K) = some ⟨oc, od, .func fd, osl⟩ ∧ fd.code = .ref c := by
  obtain ⟨oc, od, dV, kV, doc, pm, an, cdv, ct, osl, rfl, lk, hcd, _, _⟩ := F.ex
  obtain ⟨c, rfl⟩ := He.codeIn_ref hcd
  exact ⟨oc, od, osl, c, lk, rfl⟩
end
/-! ### the heap without its tables -/
def nt (H : Hp) : Hp := fun b => match H b with
  | some (.tbl _) => none
  | o => o
theorem nt_same {H : Hp} : Same (nt H) H := fun b o e => by
  unfold nt at e
  split at e
  · cases e
  · exact e
theorem nt_no {H : Hp} {b : Addr} {ps : Array Value} : nt H b ≠ some (.tbl ps) := fun e => by
  unfold nt at e
  split at e
  · cases e
  · rename_i h
    exact h ps e
theorem nt_at {H : Hp} {b : Addr} {o : HO} (e : H b = some o) (h : ∀ ps, o ≠ .tbl ps) : nt H b = some o := by
  unfold nt
  rw [e]
  cases o with
  | tbl ps => exact absurd rfl (h ps)
  | _ => rfl
theorem nt_ext {H H1 : Hp} (e : LamX.ExtN H H1) : Same (nt H) H1 := fun b o z => e b o (nt_same b o z) fun ps q => by
  rw [q] at z
  exact nt_no z
/-- a heap that knows no table -/
def NoT (H : Hp) : Prop := ∀ b ps, H b ≠ some (.tbl ps)
theorem nt_noT {H : Hp} : NoT (nt H) := fun b ps => nt_no
theorem same_nt {B H : Hp} (n : NoT B) (s : Same B H) : Same B (nt H) := fun b o e => nt_at (s b o e) fun ps q => n b ps (by rw [e, q])
theorem tabS_same {H H' : Hp} {P : Addr} {q : Str} (t : LamX.TabS H P q) (s : Same H H') : LamX.TabS H' P q := t.ext s
end EB

namespace EB
/-! ### costs -/
structure CF (c : Nat → Int) (P B : Nat) : Prop where
  zero : c 0 = 0
  step : ∀ d, c (d + 1) ≤ c d + 1
  per : ∀ d, c (d + P) = c d + B
  ppos : 0 < P
  ten : ∀ d : Nat, (d : Int) ≤ 10 * c d
  sub : ∀ x y, c (x + y) ≤ c x + c y
namespace CF
variable {c : Nat → Int} {P B : Nat}
theorem bpos (h : CF c P B) : 0 < B := by
  have h1 := h.ten P
  have h2 := h.per 0
  have h3 := h.zero
  have h4 := h.ppos
  rw [Nat.zero_add, h3] at h2
  omega
theorem nonneg (h : CF c P B) (d : Nat) : 0 ≤ c d := by
  have := h.ten d
  omega
theorem le_self (h : CF c P B) : ∀ d : Nat, c d ≤ d
  | 0 => by rw [h.zero]; exact Int.le_refl _
  | d + 1 => by
    have h1 := h.le_self d
    have h2 := h.step d
    push_cast
    omega
theorem steps (h : CF c P B) (d : Nat) : ∀ k : Nat, c (d + k) ≤ c d + k
  | 0 => by simp
  | k + 1 => by
    have h1 := h.steps d k
    have h2 := h.step (d + k)
    rw [← Nat.add_assoc]
    push_cast
    omega
theorem perm (h : CF c P B) (d : Nat) : ∀ k : Nat, c (d + k * P) = c d + k * B
  | 0 => by simp
  | k + 1 => by
    have h1 := h.perm d k
    have h2 := h.per (d + k * P)
    rw [Nat.succ_mul, ← Nat.add_assoc, h2, h1]
    push_cast
    rw [Int.add_mul]
    omega
end CF
/-- the number of drinks of n bottles -/
def IsD (c : Nat → Int) (n d : Nat) : Prop := (n : Int) ≤ c d ∧ ∀ j, j < d → c j < n
theorem IsD.uniq {c : Nat → Int} {n d e : Nat} (h : IsD c n d) (g : IsD c n e) : d = e := by
  rcases Nat.lt_trichotomy d e with q | q | q
  · have := g.2 d q
    have := h.1
    omega
  · exact q
  · have := h.2 e q
    have := g.1
    omega
theorem least (p : Nat → Prop) [DecidablePred p] : ∀ n, p n → ∃ d, p d ∧ ∀ j, j < d → ¬ p j := by
  intro n
  induction n using Nat.strongRecOn with
  | ind n ih =>
    intro hn
    by_cases q : ∃ j, j < n ∧ p j
    · obtain ⟨j, hj, pj⟩ := q
      exact ih j hj pj
    · exact ⟨n, hn, fun j hj pj => q ⟨j, hj, pj⟩⟩
theorem CF.exD {c : Nat → Int} {P B : Nat} (h : CF c P B) (n : Nat) : ∃ d, IsD c n d := by
  have h1 : (n : Int) ≤ c (10 * n) := by
    have := h.ten (10 * n)
    push_cast at this
    omega
  obtain ⟨d, hd, hj⟩ := least (fun d => (n : Int) ≤ c d) (10 * n) h1
  exact ⟨d, hd, fun j q => by have := hj j q; omega⟩
open Classical in
noncomputable def D (c : Nat → Int) (n : Nat) : Nat := if h : ∃ d, IsD c n d then Classical.choose h else 0
/-- the greatest cost up to d -/
def T (c : Nat → Int) : Nat → Int
  | 0 => c 0
  | d + 1 => if c (d + 1) > T c d then c (d + 1) else T c d
namespace CF
variable {c : Nat → Int} {P B : Nat}
theorem D_is (h : CF c P B) (n : Nat) : IsD c n (D c n) := by
  have e := h.exD n
  unfold D
  rw [dif_pos e]
  exact Classical.choose_spec e
theorem D_eq (h : CF c P B) {n d : Nat} (g : IsD c n d) : D c n = d := (h.D_is n).uniq g
theorem D_cost (h : CF c P B) (n : Nat) : c (D c n) = n := by
  have g := h.D_is n
  cases e : D c n with
  | zero =>
    rw [e] at g
    have g1 := g.1
    rw [h.zero] at g1 ⊢
    omega
  | succ d =>
    rw [e] at g
    have g1 := g.1
    have g2 := g.2 d (Nat.lt_succ_self d)
    have g3 := h.step d
    omega
theorem D_zero (h : CF c P B) : D c 0 = 0 := h.D_eq ⟨by rw [h.zero]; exact Int.le_refl _, fun j q => absurd q (Nat.not_lt_zero j)⟩
theorem D_ge (h : CF c P B) (n : Nat) : n ≤ D c n := by
  have := h.D_cost n
  have := h.le_self (D c n)
  omega
theorem D_le_ten (h : CF c P B) (n : Nat) : D c n ≤ 10 * n := by
  have := h.D_cost n
  have := h.ten (D c n)
  omega
theorem D_lt (h : CF c P B) {n m : Nat} (q : n < m) : D c n < D c m := by
  have h1 := h.D_is n
  have h2 := h.D_cost m
  have h3 := h.D_cost n
  apply Nat.lt_of_not_le
  intro z
  rcases Nat.lt_or_eq_of_le z with z | z
  · have := h1.2 _ z
    omega
  · rw [z] at h2
    omega
theorem D_mono (h : CF c P B) {n m : Nat} (q : n ≤ m) : D c n ≤ D c m := by
  rcases Nat.lt_or_eq_of_le q with q | q
  · exact Nat.le_of_lt (h.D_lt q)
  · rw [q]; exact Nat.le_refl _
theorem D_super (h : CF c P B) (a b : Nat) : D c a + D c b ≤ D c (a + b) := by
  apply Nat.le_of_not_lt
  intro q
  have ca := h.D_cost a
  have cb := h.D_cost b
  have cab := h.D_cost (a + b)
  have ha := h.D_is a
  have hb := h.D_is b
  by_cases z : D c (a + b) < D c a
  · have := ha.2 _ z
    push_cast at cab
    omega
  · cases e : D c a with
    | zero =>
      rw [e] at ca q
      rw [h.zero] at ca
      have : a = 0 := by omega
      rw [this, Nat.zero_add, Nat.zero_add] at q
      exact Nat.lt_irrefl _ q
    | succ x =>
      rw [e] at q z ha
      have hx := ha.2 x (Nat.lt_succ_self x)
      obtain ⟨y, hy⟩ : ∃ y, D c (a + b) = x + y := ⟨D c (a + b) - x, by omega⟩
      have hs := h.sub x y
      rw [hy] at cab q
      push_cast at cab
      rcases Nat.lt_or_ge y (D c b) with w | w
      · have := hb.2 y w
        omega
      · have : y = D c b := by omega
        rw [this, cb] at hs
        rw [this] at cab
        omega
/-! ### the greatest cost -/
theorem T_ge (c : Nat → Int) : ∀ {d j : Nat}, j ≤ d → c j ≤ T c d
  | 0, j, q => by
    have : j = 0 := by omega
    rw [this]
    exact Int.le_refl _
  | d + 1, j, q => by
    unfold T
    rcases Nat.lt_or_eq_of_le q with q | q
    · have := T_ge c (d := d) (j := j) (by omega)
      split <;> omega
    · rw [q]
      split <;> omega
theorem T_at (c : Nat → Int) : ∀ d : Nat, ∃ j, j ≤ d ∧ T c d = c j
  | 0 => ⟨0, Nat.le_refl _, rfl⟩
  | d + 1 => by
    unfold T
    split
    · exact ⟨d + 1, Nat.le_refl _, rfl⟩
    · obtain ⟨j, q, e⟩ := T_at c d
      exact ⟨j, by omega, e⟩
theorem T_mono (c : Nat → Int) {d e : Nat} (q : d ≤ e) : T c d ≤ T c e := by
  obtain ⟨j, hj, ej⟩ := T_at c d
  rw [ej]
  exact T_ge c (by omega)
theorem T_eq (c : Nat → Int) {d : Nat} {t : Int} (h1 : ∃ j, j ≤ d ∧ c j = t) (h2 : ∀ j, j ≤ d → c j ≤ t) : T c d = t := by
  obtain ⟨j, hj, ej⟩ := h1
  obtain ⟨i, hi, ei⟩ := T_at c d
  have := T_ge c hj
  have := h2 i hi
  omega
theorem T_nonneg (h : CF c P B) (d : Nat) : 0 ≤ T c d := by
  have := T_ge c (Nat.zero_le d)
  rw [h.zero] at this
  exact this
theorem T_step (h : CF c P B) (d : Nat) : T c (d + 1) ≤ T c d + 1 := by
  show (if c (d + 1) > T c d then c (d + 1) else T c d) ≤ T c d + 1
  have := T_ge c (Nat.le_refl d)
  have := h.step d
  split <;> omega
/-- n bottles give at most d drinks just if n is at most the greatest cost up to d -/
theorem D_le_iff (h : CF c P B) {n d : Nat} : D c n ≤ d ↔ (n : Int) ≤ T c d := by
  constructor
  · intro q
    have := T_ge c q
    rw [h.D_cost] at this
    exact this
  · intro q
    obtain ⟨j, hj, ej⟩ := T_at c d
    apply Nat.le_of_not_lt
    intro z
    have := (h.D_is n).2 j (by omega)
    omega
theorem T_per (h : CF c P B) {d : Nat} (q : P ≤ d + 1) : T c (d + P) = T c d + B := by
  refine T_eq c ?_ ?_
  · obtain ⟨j, hj, ej⟩ := T_at c d
    exact ⟨j + P, by omega, by rw [h.per, ej]⟩
  · intro j hj
    rcases Nat.lt_or_ge j P with z | z
    · have := T_ge c (d := d) (j := j) (by omega)
      omega
    · obtain ⟨i, rfl⟩ : ∃ i, j = i + P := ⟨j - P, by omega⟩
      rw [h.per]
      have := T_ge c (d := d) (j := i) (by omega)
      omega
theorem T_perk (h : CF c P B) {d : Nat} (q : P ≤ d + 1) : ∀ k : Nat, T c (d + k * P) = T c d + k * B
  | 0 => by simp
  | k + 1 => by
    have h1 := h.T_perk q k
    have h2 := h.T_per (d := d + k * P) (by omega)
    rw [Nat.succ_mul, ← Nat.add_assoc, h2, h1]
    push_cast
    rw [Int.add_mul]
    omega
/-- from T (P - 1) + 1 - B on, drinks repeat -/
theorem D_per (h : CF c P B) {n : Nat} (q : T c (P - 1) < n + B) : D c (n + B) = D c n + P := by
  refine h.D_eq ⟨?_, fun j hj => ?_⟩
  · rw [h.per, h.D_cost]
    push_cast
    exact Int.le_refl _
  · rcases Nat.lt_or_ge j P with z | z
    · have := T_ge c (d := P - 1) (j := j) (by omega)
      push_cast
      omega
    · obtain ⟨i, rfl⟩ : ∃ i, j = i + P := ⟨j - P, by omega⟩
      rw [h.per]
      have := (h.D_is n).2 i (by omega)
      push_cast
      omega
theorem D_perk (h : CF c P B) {n : Nat} (q : T c (P - 1) < n + B) : ∀ k : Nat, D c (n + k * B) = D c n + k * P
  | 0 => by simp
  | k + 1 => by
    have h1 := h.D_perk q k
    have h2 := h.D_per (n := n + k * B) (by push_cast; have : (0:Int) ≤ (k : Int) * B := Int.mul_nonneg (Int.natCast_nonneg _) (Int.natCast_nonneg _); omega)
    rw [Nat.succ_mul, ← Nat.add_assoc, h2, h1, Nat.succ_mul, Nat.add_assoc]
theorem D_per_not (h : CF c P B) {n : Nat} (q : (n : Int) + B ≤ T c (P - 1)) : D c (n + B) < D c n + P := by
  have := (h.D_le_iff (n := n + B) (d := P - 1)).mpr (by push_cast; exact q)
  have := h.ppos
  omega
end CF
end EB

namespace PySem
open Sem (wp)
section
variable {prog : Program} {w : World} {A : Around} {R : GenEnd} {Y : Protocol} {n : Nat} {s₀ : Shared} {fs : List Frame} {s : Shared} {env : Env}
/-- what a loop's code does with an exception -/
def loopEx (env : Env) (x : Value) : Sem Fin := (do noteFrame x env; theTreesLotGoes x : Sem Unit).wrap (fun _ => .raise x) .raise id id
theorem seg_forLoop {target : Expr} {it : Value} {body : List Stmt}
    (h : wpAny (model prog w) (A.over (.forLoop target it body [] env) fs) (pyNext it) (fun r s₁ => match r with
        | none => Seg (model prog w) A R Y n s₀ (.forLoop target it body [] env) (.pure (.again (.block [] env))) fs s₁
        | some v => wpAny (model prog w) (A.over (.forLoop target it body [] env) fs) (letOwnedTupleGo target it v) (fun _ s₂ =>
            wpAny (model prog w) (A.over (.forLoop target it body [] env) fs) (assign target env v) (fun _ s₃ =>
              Seg (model prog w) A R Y n s₀ (.forLoop target it body [] env) ((execs body env).wrap (fun f => match f with
                | .next | .cont => .pure (.again (.forLoop target it body [] env))
                | .brk => .pure (.done .next)
                | .ret v => .pure (.done (.ret v))) (loopEx env) id id) fs s₃)
              (fun x s' => Seg (model prog w) A R Y n s₀ (.forLoop target it body [] env) (loopEx env x) fs s') s₂)
            (fun x s' => Seg (model prog w) A R Y n s₀ (.forLoop target it body [] env) (loopEx env x) fs s') s₁)
      (fun x s' => Seg (model prog w) A R Y n s₀ (.forLoop target it body [] env) (loopEx env x) fs s') s) :
    Seg (model prog w) A R Y n s₀ (.forLoop target it body [] env) ((model prog w).den (.forLoop target it body [] env)) fs s := by
  have ex : ∀ x, ((do noteFrame x env; theTreesLotGoes x : Sem Unit).bind fun _ => (Sem.raise x : Sem Fin)) = loopEx env x := fun x => by rw [Sem.bind_eq_wrap]; rfl
  show Seg _ A R Y n s₀ _ ((forTurn target it body [] env).onRaise (fun x => do noteFrame x env; theTreesLotGoes x)) fs s
  unfold forTurn
  rw [Sem.onRaise_eq_wrap]
  refine seg_at ?_
  show Seg _ A R Y n s₀ _ (Sem.wrap _ _ _ _ ((pyNext it).onRaise (fun _ => standAt { target.pos with line := 0 }) >>= _)) fs s
  rw [Sem.bind_eq_wrap', Sem.wrap_wrap]
  refine seg_wrap (wpAny_onRaise (wpAny_mono h (fun r s₁ h₁ => ?_) fun x s' hx => wpAny_standAt ?_))
  · cases r with
    | none => exact h₁
    | some v =>
      show Seg _ A R Y n s₀ _ (Sem.wrap _ _ _ _ (letOwnedTupleGo target it v >>= _)) fs s₁
      rw [Sem.bind_eq_wrap', Sem.wrap_wrap]
      refine seg_wrap (wpAny_mono h₁ (fun _ s₂ h₂ => ?_) fun x s' hx => ?_)
      · show Seg _ A R Y n s₀ _ (Sem.wrap _ _ _ _ (assign target env v >>= _)) fs s₂
        rw [Sem.bind_eq_wrap', Sem.wrap_wrap]
        refine seg_wrap (wpAny_mono h₂ (fun _ s₃ h₃ => ?_) fun x s' hx => ?_)
        · show Seg _ A R Y n s₀ _ (Sem.wrap _ _ _ _ (execs body env >>= _)) fs s₃
          rw [Sem.bind_eq_wrap', Sem.wrap_wrap]
          rw [Sem.wrap_congr (execs body env) _ _ (K' := fun f => match f with
            | .next | .cont => .pure (.again (.forLoop target it body [] env))
            | .brk => .pure (.done .next)
            | .ret v => .pure (.done (.ret v))) (H' := loopEx env) (fun f => by cases f <;> rfl) (fun e => by exact ex e)]
          exact h₃
        · show Seg _ A R Y n s₀ _ ((do noteFrame x env; theTreesLotGoes x : Sem Unit).bind fun _ => .raise x) fs s'
          rw [ex]
          exact hx
      · show Seg _ A R Y n s₀ _ ((do noteFrame x env; theTreesLotGoes x : Sem Unit).bind fun _ => .raise x) fs s'
        rw [ex]
        exact hx
  · show Seg _ A R Y n s₀ _ ((do noteFrame x env; theTreesLotGoes x : Sem Unit).bind fun _ => .raise x) fs s'
    rw [ex]
    exact hx
end
section
variable {M : Model} {A : Around} {R : GenEnd} {Y : Protocol} {n : Nat} {s₀ : Shared} {c : Code} {fs : List Frame} {s : Shared} {env : Env}
  {K : Flow → Sem Fin} {H : Value → Sem Fin} {gd : Bool → Bool} {lv : List Value → List Value}
theorem seg_For {target iter : Expr} {body : List Stmt} {pos : Pos}
    (h : wpAny M (A.over c fs) (eval iter env) (fun v s₁ => wpAny M (A.over c fs) (pyIter v) (fun it s₂ => ∀ p, Seg M A R Y n s₀ (.forLoop target it body [] env) (M.den (.forLoop target it body [] env))
      (.ret (fun r => ((match r with | .ok f => (.pure f : Sem Flow) | .error e => .raise e).onRaise fun (x : Value) => do
        if (← field x 1) == Value.none then unsupported "frame.own-activation:exception-without-traceback"
        setFlight x env.frame).wrap K H gd lv) none (gd false) (lv []) c p [] :: fs) s₂)
      (fun x s' => Seg M A R Y n s₀ c (H x) fs s') s₁) (fun x s' => Seg M A R Y n s₀ c (H x) fs s') s)
    (hs : ∀ x, foldedSetIterable iter env x = pure x) :
    Seg M A R Y n s₀ c ((exec (.For target iter body [] pos) env).wrap K H gd lv) fs s := by
  rw [exec_For]
  refine seg_at ?_
  show Seg M A R Y n s₀ c (Sem.wrap _ _ _ _ (eval iter env >>= _)) fs s
  rw [Sem.bind_eq_wrap', Sem.wrap_wrap]
  refine seg_wrap (wpAny_mono h (fun v s₁ h₁ => ?_) fun x s' hx => hx)
  show Seg M A R Y n s₀ c (Sem.wrap _ _ _ _ (foldedSetIterable iter env v >>= _)) fs s₁
  rw [hs v]
  refine seg_at ?_
  show Seg M A R Y n s₀ c (Sem.wrap _ _ _ _ (holding [v] (pyIter v) >>= _)) fs s₁
  rw [Sem.bind_eq_wrap', Sem.wrap_wrap]
  refine seg_wrap (wpAny_holding (wpAny_mono h₁ (fun it s₂ h₂ => ?_) fun x s' hx => hx))
  exact seg_call h₂
end
end PySem
namespace L2
open PySem PySem.Spec PyProof.Rows
section
variable {X : Cx} {c : Expr} {a b : List Stmt} {pos : Pos} {tc : TT} {t u : TGn}
def tGIf (tc : TT) (t u : TGn) : TGn := fun D ys σ H => tc σ H fun d H1 => if d = true then t D ys σ H1 else u D ys σ H1
theorem gs_if (hc : PT X c tc) (ha : GSs X a t) (hb : GSs X b u) : GS X (.If c a b pos) (tGIf tc t u) := by
  refine ⟨fun A S ip R n ys s₀ cc fs K J gd lv s σ H D g hn k hI ht => ?_⟩
  rw [exec_If]
  refine seg_at ?_
  show Seg _ _ _ _ _ _ _ (Sem.wrap _ _ _ _ (isTrue c X.env (eval c X.env) >>= fun z => if z = true then execs a X.env else execs b X.env)) _ _
  rw [Sem.bind_eq_wrap', Sem.wrap_wrap]
  obtain ⟨acc, cn, r, I⟩ := hI
  refine seg_wrap ?_
  rw [g.over]
  refine wpAny_mono (hc.run _ s σ H _ I ht) (fun z s' hz => ?_) fun x s' hx => k.exc n s₀ x s' hx
  obtain ⟨H1, I1, q1⟩ := hz
  cases z with
  | true => exact ha.run A S ip R n ys s₀ cc fs K J gd lv s' σ H1 D g hn k ⟨acc, cn, r, I1⟩ q1
  | false => exact hb.run A S ip R n ys s₀ cc fs K J gd lv s' σ H1 D g hn k ⟨acc, cn, r, I1⟩ q1
def tGFor (wi : TI) (g : TG) (tb : TGn) : TGn := fun D ys σ H => wi σ H fun J H2 => ∃ W : Nat → Nat → List V → L2.St → Hp → Prop, (∃ m, W 0 m ys σ H2) ∧ ∀ i m ys σ H, W i m ys σ H →
  (J.stop i H ∧ D.nx ys σ H) ∨ (J.go i H ∧ ∃ N : List V → L2.St → Hp → Prop, (∀ ys' σ' H', N ys' σ' H' → ∃ m', m' < m ∧ W (i + 1) m' ys' σ' H') ∧ ∀ x H', J.yld i H x H' → g x σ H' fun σ2 H2 => tb { D with nx := N, ct := N, bk := D.nx } ys σ2 H2)
theorem gs_for {tg iter : Expr} {body : List Stmt} {wi : TI} {g : TG} {tb : TGn} {pos : Pos} (hp : PassesOwn (model X.prog X.w) X.A X.env X.xe) (hc : X.calm = true) (hi : PI X tg iter wi) (hg : PG X tg g) (hb : GSs X body tb)
    (hs : ∀ x, foldedSetIterable iter X.env x = pure x := by intro _; rfl) : GS X (.For tg iter body [] pos) (tGFor wi g tb) := by
  refine ⟨fun A S ip R n ys s₀ c fs K J gd lv s σ H D gc hn k hI ht => ?_⟩
  obtain ⟨acc, cc, r, I⟩ := hI
  refine seg_For ?_ hs
  rw [gc.over]
  refine wpAny_mono (hi.run _ s σ H _ I ht) (fun v s1 h1 => ?_) fun x s' hx => k.exc n s₀ x s' hx
  refine wpAny_mono h1 (fun itv s2 h2 => ?_) fun x s' hx => k.exc n s₀ x s' hx
  obtain ⟨it, fp, tn, It, H2, rfl, I2, T, st2, f2, W, ⟨m0, w0⟩, turn⟩ := h2
  intro p
  have gl := fun (ip' : List (Addr × Obj)) (hip : ∀ q ∈ ip', q.1 ≠ S) (kk : Result → Sem PySem.Fin) (c' : Code) (hw : c'.weight = 0) (hu : c'.cUnits = 0) => ({ gc_loop (k := kk) (c' := c') (l := lv []) (kp := []) (p := p) gc hw hu with ip := hip } : GC X S ip' A c' (.ret kk none (gd false) (lv []) c p [] :: fs) id)
  have stat : ∀ {acc' : Array Value} {cc' : Nat} {H' : Hp}, (∀ b ∈ fp, H' b = none) → ∀ b ∈ fp, FpOk X ((S, lstObj acc' cc') :: ip) H' b := by
    intro acc' cc' H' hnn b hb
    obtain ⟨_, a1, a2, a3, a4, a5⟩ := f2 b hb
    refine ⟨hnn b hb, a1, a2, a3, a4, fun q hq => ?_⟩
    rcases List.mem_append.mp hq with z | z
    · exact a5 q (List.mem_append_left _ z)
    · rcases List.mem_cons.mp z with rfl | z
      · exact a5 (S, lstObj acc cc) (List.mem_append_right _ (List.mem_cons_self ..))
      · exact a5 q (List.mem_append_right _ (List.mem_cons_of_mem _ z))
  have fpS : ∀ b ∈ fp, b ≠ S := by
    intro b hb
    obtain ⟨_, _, _, _, _, a5⟩ := f2 b hb
    exact fun z => a5 (S, lstObj acc cc) (List.mem_append_right _ (List.mem_cons_self ..)) z.symm
  have loop : ∀ (m n i : Nat) (ys : List V) (s₀ s : Shared) (σ : L2.St) (H : Hp), n + ys.length = sizeLine → W i m ys σ H → GI X S ip ys σ H s → tn i s.heap → (∀ b ∈ fp, H b = none) →
      Seg (model X.prog X.w) A R (GY X S) n s₀ (.forLoop tg (.ref it) body [] X.env) ((model X.prog X.w).den (.forLoop tg (.ref it) body [] X.env))
        (.ret (fun r => ((match r with | .ok f => (.pure f : Sem Flow) | .error e => .raise e).onRaise (cameBack X.env)).wrap K J gd lv) none (gd false) (lv []) c p [] :: fs) s := by
    intro m
    induction m using Nat.strongRecOn with
    | ind m ih =>
      intro n i ys s₀ s σ H hn w hI st fr
      have ee : ∀ (n : Nat) (s₀ : Shared) (x : Value) (s' : Shared), X.xe x s' → Seg (model X.prog X.w) A R (GY X S) n s₀ (.forLoop tg (.ref it) body [] X.env) (loopEx X.env x)
          (.ret (fun r => ((match r with | .ok f => (.pure f : Sem Flow) | .error e => .raise e).onRaise (cameBack X.env)).wrap K J gd lv) none (gd false) (lv []) c p [] :: fs) s' := fun n s₀ x s' hx => by
        refine seg_wrap ?_
        rw [(gl ip gc.ip _ _ rfl rfl).over]
        refine wpAny_bind (wpAny_mono (hp x s' hx) (fun _ s'' hcb => wpAny_theTreesLotGoes ?_) fun y s'' hcb => ?_)
        · exact seg_leaf (.error x) (seg_cameBack gc k hcb)
        · exact seg_leaf (.error y) (seg_cameBack gc k hcb)
      refine seg_forLoop ?_
      rw [(gl ip gc.ip _ _ rfl rfl).over]
      obtain ⟨acc, cc, r, I⟩ := hI
      rcases turn i m ys σ H w with ⟨stop, qn⟩ | ⟨go, N, hN, step⟩
      · refine wpAny_mono (T.done X rfl rfl rfl hc i _ s σ H X.xe I (stat fr) st stop) (fun r' s4 ⟨hr, I4⟩ => ?_) fun x s' hx => ee n s₀ x s' hx
        subst hr
        refine seg_again rfl ?_
        exact seg_leaf (.ok .next) (k.ok n ys s₀ s4 .next hn ⟨σ, H, ⟨acc, cc, r, I4⟩, qn⟩)
      · refine wpAny_mono (T.item X rfl rfl rfl hc i _ s σ H X.xe I (stat fr) st go) (fun r' s4 ⟨u, hr, h4⟩ => ?_) fun x s' hx => ee n s₀ x s' hx
        subst hr
        refine wpAny_mono h4 (fun _ s5 ⟨x, H5, I5, r5, y5, st5, fr5⟩ => ?_) fun x s' hx => ee n s₀ x s' hx
        have I5' := I5.pinned (stat fr5) (T.obj _ _ st5)
        refine wpAny_mono (hg.run _ s5 σ H5 x u _ I5' r5 (step x H5 y5)) (fun _ s6 ⟨σ6, H6, I6, q6⟩ => ?_) fun x s' hx => ee n s₀ x s' hx
        have hip' : ∀ q ∈ ip ++ pinsAt fp s5.heap, q.1 ≠ S := fun q hq => (List.mem_append.mp hq).elim (gc.ip q) fun z => fpS _ (of_pinsAt z).1
        have again : ∀ (n' : Nat) (ys' : List V) (s₀' s7 : Shared), n' + ys'.length = sizeLine → (∃ σ7 H7, GI X S (ip ++ pinsAt fp s5.heap) ys' σ7 H7 s7 ∧ N ys' σ7 H7) → Seg (model X.prog X.w) A R (GY X S) n' s₀' (.forLoop tg (.ref it) body [] X.env) (.pure (.again (.forLoop tg (.ref it) body [] X.env)))
            (.ret (fun r => ((match r with | .ok f => (.pure f : Sem Flow) | .error e => .raise e).onRaise (cameBack X.env)).wrap K J gd lv) none (gd false) (lv []) c p [] :: fs) s7 := by
          rintro n' ys' s₀' s7 hn' ⟨σ7, H7, ⟨acc7, cc7, r7, I7⟩, n7⟩
          obtain ⟨m', hm, w7⟩ := hN ys' σ7 H7 n7
          have pin : ∀ b ∈ fp, ∀ o, s5.heap.get? b = some o → _ := fun b hb o e => I7.pin (b, o) (List.mem_append_right _ (List.mem_cons_of_mem _ (List.mem_append_right _ (mem_pinsAt hb e))))
          refine seg_again rfl (ih m' hm n' (i + 1) ys' s₀' s7 σ7 H7 hn' w7 ⟨acc7, cc7, r7, Inv.unpinned (pins := (S, lstObj acc7 cc7) :: ip) I7⟩ (T.keep _ _ _ st5 fun b hb o e => (pin b hb o e).1) fun b hb => ?_)
          obtain ⟨o, e, d⟩ := T.obj _ _ st5 b hb
          exact (pin b hb o e).2.1
        refine hb.run A S (ip ++ pinsAt fp s5.heap) R n ys s₀ _ _ _ _ id id s6 σ6 H6 { D with nx := N, ct := N, bk := D.nx } (gl _ hip' _ _ rfl rfl) hn ⟨fun n' ys' s₀' s7 f hn' hs => ?_, fun n' s₀' x s7 hx => ee n' s₀' x s7 hx⟩ ⟨acc, cc, r, I6⟩ q6
        cases f with
        | next => exact again n' ys' s₀' s7 hn' hs
        | cont => exact again n' ys' s₀' s7 hn' hs
        | brk =>
          obtain ⟨σ7, H7, ⟨acc7, cc7, r7, I7⟩, q7⟩ := hs
          exact seg_leaf (.ok .next) (k.ok n' ys' s₀' s7 .next hn' ⟨σ7, H7, ⟨acc7, cc7, r7, Inv.unpinned (pins := (S, lstObj acc7 cc7) :: ip) I7⟩, q7⟩)
        | ret v =>
          obtain ⟨x7, σ7, H7, ⟨acc7, cc7, r7, I7⟩, rv, q7⟩ := hs
          exact seg_leaf (.ok (.ret v)) (k.ok n' ys' s₀' s7 (.ret v) hn' ⟨x7, σ7, H7, ⟨acc7, cc7, r7, Inv.unpinned (pins := (S, lstObj acc7 cc7) :: ip) I7⟩, rv, q7⟩)
  exact loop m0 n 0 ys s₀ s2 σ H2 hn w0 ⟨acc, cc, r, I2⟩ st2 fun b hb => (f2 b hb).1
theorem gfor_range {lo : Int} {n : Nat} {g : TG} {tb : TGn} {D : GEnds} {ys : List V} {σ : L2.St} {H : Hp} (Pv : Nat → List V → L2.St → Hp → Prop) (h0 : Pv 0 ys σ H)
    (hs : ∀ i ys σ H, i < n → Pv i ys σ H → g (.int (lo + i)) σ H fun σ2 H2 => tb { D with nx := Pv (i + 1), ct := Pv (i + 1), bk := D.nx } ys σ2 H2) (hd : ∀ ys σ H, Pv n ys σ H → D.nx ys σ H) :
    ∃ W : Nat → Nat → List V → L2.St → Hp → Prop, (∃ m, W 0 m ys σ H) ∧ ∀ i m ys σ H, W i m ys σ H →
      ((Itr lo n).stop i H ∧ D.nx ys σ H) ∨ ((Itr lo n).go i H ∧ ∃ N : List V → L2.St → Hp → Prop, (∀ ys' σ' H', N ys' σ' H' → ∃ m', m' < m ∧ W (i + 1) m' ys' σ' H') ∧ ∀ x H', (Itr lo n).yld i H x H' → g x σ H' fun σ2 H2 => tb { D with nx := N, ct := N, bk := D.nx } ys σ2 H2) := by
  refine ⟨fun i m ys σ H => m = n - i ∧ i ≤ n ∧ Pv i ys σ H, ⟨n, by simp, Nat.zero_le _, h0⟩, ?_⟩
  rintro i m ys σ H ⟨rfl, hi, p⟩
  by_cases hlt : i < n
  · refine .inr ⟨hlt, Pv (i + 1), fun ys' σ' H' p' => ⟨n - (i + 1), by omega, rfl, hlt, p'⟩, fun x H' y => ?_⟩
    obtain ⟨e, y⟩ := y
    subst e y
    exact hs i ys σ _ hlt p
  · have e : i = n := by omega
    subst e
    exact .inl ⟨Nat.le_refl _, hd ys σ H p⟩
end
end L2

/-! One segment of a generator's run, from a waking to what it hands out next or to its end: what is wanted of the end may speak of the continuation itself. -/
namespace EBG
open PySem PySem.Spec PyProof.Rows L2 GenW
open Sem (wp)
def Run1 (M : Model) (A : Around) (Φ : End → Shared → Prop) (c : Code) (t : Sem PySem.Fin) (fs : List Frame) (s : Shared) : Prop :=
  ∀ Γ p, Γ.code = c → Γ.Woken A → ∃ e s', Runs M Γ p t fs s e s' ∧ Φ e s'
section
variable {M : Model} {A : Around} {Φ : End → Shared → Prop} {c : Code} {fs : List Frame} {s : Shared}
theorem r1_mono {Ψ : End → Shared → Prop} {t : Sem PySem.Fin} (h : Run1 M A Φ c t fs s) (k : ∀ e s', Φ e s' → Ψ e s') : Run1 M A Ψ c t fs s := fun Γ p e1 e2 =>
  let ⟨e, s', r, q⟩ := h Γ p e1 e2
  ⟨e, s', r, k e s' q⟩
theorem r1_wrap {α : Type} {m : Sem α} {K : α → Sem PySem.Fin} {J : Value → Sem PySem.Fin} {gd : Bool → Bool} {lv : List Value → List Value} (h : wpAny M (A.over c fs) m (fun v z => Run1 M A Φ c (K v) fs z) (fun v z => Run1 M A Φ c (J v) fs z) s) : Run1 M A Φ c (m.wrap K J gd lv) fs s := by
  intro Γ p e hΓ
  subst e
  exact runs_wrap_of_wp K J gd lv m (h (Γ.over fs) p (hΓ.over fs)) (fun v q z hz => hz Γ q rfl hΓ) fun v q z hz => hz Γ q rfl hΓ
theorem r1_bind {α : Type} {m : Sem α} {K : α → Sem PySem.Fin} (h : wpAny M (A.over c fs) m (fun v z => Run1 M A Φ c (K v) fs z) (fun v z => Run1 M A Φ c (.raise v) fs z) s) : Run1 M A Φ c (m >>= K) fs s :=
  (Sem.bind_eq_wrap' m K) ▸ r1_wrap h
theorem r1_at {q : Pos} {k : Unit → Sem PySem.Fin} (h : Run1 M A Φ c (k ()) fs s) : Run1 M A Φ c (.at q k) fs s := r1_wrap (m := standAt q) (K := k) (J := .raise) (gd := id) (lv := id) (wpAny_standAt h)
theorem r1_point {l : List Value} {k : Unit → Sem PySem.Fin} (h : Run1 M A Φ c (k ()) fs s) : Run1 M A Φ c (.point l k) fs s := r1_wrap (m := point) (K := k) (J := .raise) (gd := id) (lv := fun _ => l) (wpAny_point h)
theorem r1_call {d : Code} {h : Option Value} {g : Bool} {l : List Value} {k : Result → Sem PySem.Fin} (hc : ∀ q, Run1 M A Φ d (M.den d) (.ret k h g l c q [] :: fs) s) : Run1 M A Φ c (.call d h g l k) fs s := by
  intro Γ p e hΓ
  subst e
  exact let ⟨e, z, r, q⟩ := hc p (Γ.goto d) p rfl (hΓ.goto d); ⟨e, z, runs_call_seg r, q⟩
theorem r1_leaf {k : Result → Sem PySem.Fin} {h : Option Value} {g : Bool} {l kp : List Value} {d : Code} {q : Pos} (r : Result) (hk : Run1 M A Φ d (k r) fs s) : Run1 M A Φ c (leafOf r) (.ret k h g l d q kp :: fs) s := by
  intro Γ p e hΓ
  subst e
  exact let ⟨e, z, r1, w⟩ := hk (Γ.goto d) q rfl (hΓ.goto d); ⟨e, z, Runs.pop r r1, w⟩
theorem r1_again {d : Code} (hq : d.quiet = true) (hc : Run1 M A Φ d (M.den d) fs s) : Run1 M A Φ c (.pure (.again d)) fs s := by
  intro Γ p e hΓ
  subst e
  exact let ⟨e, z, r, w⟩ := hc (Γ.goto d) p rfl (hΓ.goto d); ⟨e, z, Runs.head (c₁ := d) (fun _ _ y => .again hq y) r, w⟩
theorem r1_end (r : Result) (h : Φ (.ret r) s) : Run1 M A Φ c (leafOf r) [] s := fun Γ p _ _ => ⟨.ret r, s, Runs.leaf r, h⟩
theorem r1_susp {v : Value} {g : Bool} {l : List Value} {k : Resume → Sem PySem.Fin} (hfs : splitAtGen fs = none) (h : ∀ q, Φ (.susp v g l k c q fs) s) : Run1 M A Φ c (.yield v g l k) fs s := by
  intro Γ p e _
  subst e
  exact ⟨_, s, Runs.yield' fs hfs, h p⟩
end
section
variable {M : Model} {A : Around} {Φ : End → Shared → Prop} {c : Code} {fs : List Frame} {s : Shared} {env : Env} {K : Flow → Sem PySem.Fin} {J : Value → Sem PySem.Fin} {gd : Bool → Bool} {lv : List Value → List Value}
theorem r1_cons {st : Stmt} {rest : List Stmt} (h : Run1 M A Φ c ((exec st env).wrap (fun f => match f with | .next => (execs rest env).wrap K J gd lv | f => K f) J gd lv) fs s) : Run1 M A Φ c ((execs (st :: rest) env).wrap K J gd lv) fs s :=
  (execs_cons_wrap st rest (env := env) (K := K) (H := J) (gd := gd) (lv := lv)).symm ▸ h
/-- yield e: what is wanted where it sleeps, told by its own continuation -/
theorem r1_yield {e : Expr} {yp pos : Pos} (hfs : splitAtGen fs = none) (hgd : gd false = false)
    (h : wpAny M (A.over c fs) (eval e env) (fun v z => ∀ (kk : Resume → Sem PySem.Fin) (l : List Value) (q : Pos), (∀ (A' : Around) (Ψ : End → Shared → Prop) (z' : Shared), Run1 M A' Ψ c (K .next) fs z' → Run1 M A' Ψ c (kk (.send .none)) fs z') → Φ (.susp v false l kk c q fs) z) (fun v z => Run1 M A Φ c (J v) fs z) s)
    (hco : env.scope.isCoroutine = false := by rfl) (hi : interactive env = false := by rfl) : Run1 M A Φ c ((exec (.Expr (.Yield (some e) yp) pos) env).wrap K J gd lv) fs s := by
  have ho : ∀ v, yieldOut env v = yieldValue v := fun v => by
    unfold yieldOut
    rw [hco]
    rfl
  rw [exec_Expr env _ pos hi rfl]
  show Run1 M A Φ c (.at pos fun _ => ((eval e env >>= fun v => (standAt yp >>= fun _ => yieldOut env v)) >>= fun x => dropValue (.Yield (some e) yp) pos x).wrap K J gd lv) fs s
  refine r1_at ?_
  simp only [ho]
  rw [Sem.bind_eq_wrap', Sem.bind_eq_wrap', Sem.wrap_wrap, Sem.wrap_wrap]
  refine r1_wrap (wpAny_mono h (fun v z hz => r1_at ?_) fun _ _ y => y)
  refine r1_susp hfs fun q => ?_
  show Φ (.susp v (gd false) _ _ c q fs) z
  rw [hgd]
  exact hz _ _ q fun A' Ψ z' hr => hr
/-- a while of a generator -/
theorem r1_While {test : Expr} {body orelse : List Stmt} {pos : Pos}
    (h : ∀ q, Run1 M A Φ (.whileLoop test body orelse env) (M.den (.whileLoop test body orelse env)) (.ret (fun r => ((match r with | .ok f => (.pure f : Sem Flow) | .error e => .raise e).onRaise (cameBack env)).wrap K J gd lv) none (gd false) (lv []) c q [] :: fs) s) :
    Run1 M A Φ c ((exec (.While test body orelse pos) env).wrap K J gd lv) fs s := r1_at (r1_call h)
end
section
variable {P : Program} {w : World} {A : Around} {Φ : End → Shared → Prop} {fs : List Frame} {s : Shared} {env : Env}
/-- what a loop's turn makes of an exception -/
abbrev offLoop (env : Env) (e : Value) : Sem PySem.Fin := (do noteFrame e env; theTreesLotGoes e : Sem Unit).wrap (fun _ => .raise e) .raise id id
abbrev turnK (test : Expr) (body orelse : List Stmt) (env : Env) : Flow → Sem PySem.Fin := fun f => match f with
  | .next | .cont => .pure (.again (.whileLoop test body orelse env))
  | .brk => .pure (.done .next)
  | .ret v => .pure (.done (.ret v))
theorem r1_whileLoop {test : Expr} {body orelse : List Stmt}
    (h : wpAny (model P w) (A.over (.whileLoop test body orelse env) fs) (isTrue test env (eval test env)) (fun b z => if b = true then Run1 (model P w) A Φ (.whileLoop test body orelse env) ((execs body env).wrap (turnK test body orelse env) (offLoop env) id id) fs z
        else Run1 (model P w) A Φ (.whileLoop test body orelse env) ((execs orelse env).wrap (fun f => .pure (.done f)) (offLoop env) id id) fs z)
      (fun v z => Run1 (model P w) A Φ (.whileLoop test body orelse env) (offLoop env v) fs z) s) :
    Run1 (model P w) A Φ (.whileLoop test body orelse env) ((model P w).den (.whileLoop test body orelse env)) fs s := by
  show Run1 _ A Φ _ ((whileTurn test body orelse env).onRaise (fun x => do noteFrame x env; theTreesLotGoes x)) fs s
  have off : ∀ e : Value, (do noteFrame e env; theTreesLotGoes e : Sem Unit).bind (fun _ => (.raise e : Sem PySem.Fin)) = offLoop env e := fun e => Sem.bind_eq_wrap _ _
  unfold whileTurn
  rw [Sem.onRaise_eq_wrap, Sem.bind_eq_wrap', Sem.wrap_wrap]
  refine r1_wrap (wpAny_mono h (fun b z hb => ?_) fun v z hv => ?_)
  rotate_left
  · show Run1 _ A Φ _ ((do noteFrame v env; theTreesLotGoes v : Sem Unit).bind fun _ => (.raise v : Sem PySem.Fin)) fs z
    rw [off]
    exact hv
  cases b with
  | true =>
    rw [if_pos rfl] at hb
    show Run1 _ A Φ _ (Sem.wrap _ _ _ _ (if true = true then _ else _)) fs z
    rw [if_pos rfl, Sem.bind_eq_wrap', Sem.wrap_wrap, Sem.wrap_congr (execs body env) _ _ (K' := turnK test body orelse env) (H' := offLoop env) (fun f => by cases f <;> rfl) fun e => by exact off e]
    exact hb
  | false =>
    rw [if_neg Bool.false_ne_true] at hb
    show Run1 _ A Φ _ (Sem.wrap _ _ _ _ (if false = true then _ else _)) fs z
    rw [if_neg Bool.false_ne_true, Sem.bind_eq_wrap', Sem.wrap_wrap, Sem.wrap_congr (execs orelse env) _ _ (K' := fun f => (.pure (.done f) : Sem PySem.Fin)) (H' := offLoop env) (fun f => by rfl) fun e => by exact off e]
    exact hb
/-- a generator's code -/
theorem r1_func {body : List Stmt} (h : Run1 (model P w) A Φ (.func body env) ((execs body env).wrap (fun f => .pure (.done (.ret (match f with | .ret v => v | _ => .none)))) (fun e => (leaving env e).wrap (fun _ => .raise e) .raise id id) id id) fs s) :
    Run1 (model P w) A Φ (.func body env) ((model P w).den (.func body env)) fs s := by
  show Run1 _ A Φ _ (.point [] fun _ => ((execs body env).onRaise (leaving env)) >>= _) fs s
  refine r1_point ?_
  rw [Sem.onRaise_eq_wrap, Sem.bind_eq_wrap', Sem.wrap_wrap, Sem.wrap_congr (execs body env) _ _ (K' := fun f => .pure (.done (.ret (match f with | .ret v => v | _ => .none)))) (H' := fun e => (leaving env e).wrap (fun _ => .raise e) .raise id id) (fun f => by cases f <;> rfl) fun e => by rw [Sem.bind_eq_wrap, Sem.wrap_wrap]; rfl]
  exact h
/-- a sleeping generator, or one that has not begun, woken -/
def Woken1 (M : Model) (A : Around) (Φ : End → Shared → Prop) (gs : GenState) (s : Shared) : Prop := match gs with
  | .fresh c => Run1 M A Φ c (M.den c) [] s
  | .suspended k _ c _ fs _ => Run1 M A Φ c (k (.send .none)) fs s
  | _ => False
theorem resume1 {M : Model} {E : Value → Shared → Prop} {g : Nat} {gs : GenState} {l : List Value} {α : Type} {k : GenResult → Sem α} {Q : α → Shared → Prop} (hg : s.gens[g]? = some gs) (hgo : Woken1 M A Φ gs (s.setGen g .running)) (hq : ∀ e z, Φ e z → e.quiet = true)
    (hQ : ∀ e z, Φ e z → g < z.gens.size → wpAny M A (k e.result) Q E (z.setGen g e.genState)) : wpAny M A (.resume g (.send .none) l k) Q E s := by
  have hlt : g < s.gens.size := by
    rcases Nat.lt_or_ge g s.gens.size with q | q
    · exact q
    · rw [Array.getElem?_eq_none q] at hg
      cases hg
  intro Γ p hΓ
  rw [Sem.wp_resume]
  have fin : ∀ (e : End) (z : Shared), Φ e z → Wakes M Γ p g (.send .none) s e.result (z.setGen g e.genState) → ∃ r z', Wakes M Γ p g (.send .none) s r z' ∧ wp M Γ (k r) (fun a _ s' => Q a s') (fun e _ s' => E e s') p z' := fun e z w hw => by
    have h1 := GenW.wakes_gsz hw
    rw [GenW.setGen_size] at h1
    exact ⟨_, _, hw, hQ e z w (Nat.lt_of_lt_of_le hlt h1) Γ p hΓ⟩
  cases gs with
  | fresh c =>
    obtain ⟨e, z, r, w⟩ := hgo (Γ.wake c p) p rfl (hΓ.wake c p)
    exact fin e z w (by unfold Wakes; rw [hg]; exact ⟨e, z, r, hq e z w, rfl, rfl⟩)
  | suspended k' l' c q fs' cl =>
    obtain ⟨e, z, r, w⟩ := hgo (Γ.wake c p) q rfl (hΓ.wake c p)
    exact fin e z w (by unfold Wakes; rw [hg]; exact ⟨e, z, r, hq e z w, rfl, rfl⟩)
  | running => exact hgo.elim
  | finished => exact hgo.elim
end
end EBG

/-! A generator def's body, its context based anew at each waking. -/
namespace EBG
open PySem PySem.Spec PyProof.Rows L2 GenW EB
/-- where a segment begins: its state, what is tracked there -/
abbrev Bs := Shared × Hp
abbrev XeF := Bs → Value → Shared → Prop
/-- the context, based at a -/
abbrev reb (X0 : Cx) (xe : XeF) (a : Bs) : Cx := { X0 with s_0 := a.1, H_0 := a.2, xe := xe a }
/-- what a sleeping generator keeps: what it shares with its consumer, and its own lists, tuples, dicts, sets -/
def kg (L : Nat) (F H : Hp) : Hp := fun b => match F b with
  | some o => some o
  | none => if L < b then (match H b with
    | some (.lst xs) => some (.lst xs)
    | some (.dK kvs) => some (.dK kvs)
    | some (.set S n) => some (.set S n)
    | _ => none) else none
theorem kg_same (L : Nat) (F H : Hp) : Same F (kg L F H) := fun b o e => by
  unfold kg
  rw [e]
theorem kg_own {L : Nat} {F H : Hp} {b : Addr} {o : HO} (e : kg L F H b = some o) (n : F b = none) : L < b ∧ H b = some o ∧ ((∃ xs, o = .lst xs) ∨ (∃ kvs, o = .dK kvs) ∨ ∃ S m, o = .set S m) := by
  unfold kg at e
  rw [n] at e
  by_cases hL : L < b
  · rw [if_pos hL] at e
    cases q : H b with
    | none =>
      rw [q] at e
      cases e
    | some u =>
      rw [q] at e
      cases u with
      | lst xs => cases e; exact ⟨hL, rfl, .inl ⟨_, rfl⟩⟩
      | dK kvs => cases e; exact ⟨hL, rfl, .inr (.inl ⟨_, rfl⟩)⟩
      | set S m => cases e; exact ⟨hL, rfl, .inr (.inr ⟨_, _, rfl⟩)⟩
      | _ => cases e
  · rw [if_neg hL] at e
    cases e
theorem kg_none {L : Nat} {F H : Hp} {b : Addr} (s : Same F H) (n : H b = none) : kg L F H b = none := by
  have hF := s.free n
  unfold kg
  simp only [hF, n]
  exact ite_self ..
theorem kg_self (L : Nat) (F : Hp) : kg L F F = F := by
  funext b
  unfold kg
  cases q : F b with
  | some o => rfl
  | none => exact ite_self ..
/-- what is told of a generator: its heap at each waking, what is known of each item, of the end, of an exception -/
structure Told where
  F : Hp
  Yp : List V → V → Hp → Prop
  Fin : List V → Prop
  Exc : XeF
structure YEnds where
  nx : List V → L2.St → Hp → Prop
  rt : List V → VK
  bk : List V → L2.St → Hp → Prop := fun _ _ _ => False
  ct : List V → L2.St → Hp → Prop := fun _ _ _ => False
abbrev TY := Bs → YEnds → List V → L2.St → Hp → Prop
def YEnds.at (D : YEnds) (ys : List V) : Ends := { nx := D.nx ys, rt := D.rt ys, bk := D.bk ys, ct := D.ct ys }
/-- the run's end -/
def AftR (X0 : Cx) (xe : XeF) (T : Told) (a : Bs) (C : List (Addr × Obj)) (ys : List V) (r : Result) (z : Shared) : Prop := match r with
  | .error e => T.Exc a e z
  | .ok f => (f = .ret .none ∨ f = .next) ∧ T.Fin ys ∧ ∃ σ H, Inv (reb X0 xe a) C σ H z ∧ Same T.F H
/-- a segment's end, n items at most still to come -/
def Aft (X0 : Cx) (xe : XeF) (T : Told) (A : Around) : Nat → Bs → List (Addr × Obj) → List V → End → Shared → Prop
  | 0, a, C, ys, e, z => match e with
    | .ret r => AftR X0 xe T a C ys r z
    | .susp .. => False
  | n + 1, a, C, ys, e, z => match e with
    | .ret r => AftR X0 xe T a C ys r z
    | .susp v g l k c q fs => (End.susp v g l k c q fs).quiet = true ∧ ∃ x σ H, RelV x v ∧ T.Yp ys x H ∧ Inv (reb X0 xe a) C σ H z ∧ Same T.F H ∧
        ∀ a' C' z', Inv (reb X0 xe a') C' σ (kg X0.env.locals T.F H) z' → Run1 (model X0.prog X0.w) A (Aft X0 xe T A n a' C' (ys ++ [x])) c (k (.send .none)) fs z'
theorem aft_ret {X0 : Cx} {xe : XeF} {T : Told} {A : Around} {n : Nat} {a : Bs} {C : List (Addr × Obj)} {ys : List V} {r : Result} {z : Shared} (h : AftR X0 xe T a C ys r z) : Aft X0 xe T A n a C ys (.ret r) z := by
  cases n with
  | zero => exact h
  | succ n => exact h
theorem aft_quiet {X0 : Cx} {xe : XeF} {T : Told} {A : Around} {n : Nat} {a : Bs} {C : List (Addr × Obj)} {ys : List V} {e : End} {z : Shared} (h : Aft X0 xe T A n a C ys e z) : e.quiet = true := by
  cases e with
  | ret r => rfl
  | susp v g l k c q fs =>
    cases n with
    | zero => exact h.elim
    | succ n => exact h.1
/-- where the code stands -/
structure YC (X0 : Cx) (A : Around) (c : Code) (fs : List Frame) (gd : Bool → Bool) : Prop where
  over : A.over c fs = X0.A
  split : splitAtGen fs = none
  guard : fs.any Frame.guarded = false
  gd : gd false = false
/-- what follows -/
structure YK (X0 : Cx) (xe : XeF) (T : Told) (A : Around) (c : Code) (fs : List Frame) (K : Flow → Sem PySem.Fin) (J : Value → Sem PySem.Fin) (D : YEnds) : Prop where
  ok : ∀ n a C ys z f, n + ys.length = sizeLine → SP (reb X0 xe a) C (D.at ys) f z → Run1 (model X0.prog X0.w) A (Aft X0 xe T A n a C ys) c (K f) fs z
  exc : ∀ n a C ys e z, xe a e z → Run1 (model X0.prog X0.w) A (Aft X0 xe T A n a C ys) c (J e) fs z
/-- a statement, statements of a generator -/
structure YS (X0 : Cx) (xe : XeF) (T : Told) (st : Stmt) (t : TY) : Prop where
  same : ∀ a b, t a = t b
  run : ∀ A c fs K J gd lv D, YC X0 A c fs gd → YK X0 xe T A c fs K J D → ∀ n a C ys z σ H, n + ys.length = sizeLine → Inv (reb X0 xe a) C σ H z → t a D ys σ H → Run1 (model X0.prog X0.w) A (Aft X0 xe T A n a C ys) c ((exec st X0.env).wrap K J gd lv) fs z
structure YSs (X0 : Cx) (xe : XeF) (T : Told) (st : List Stmt) (t : TY) : Prop where
  same : ∀ a b, t a = t b
  run : ∀ A c fs K J gd lv D, YC X0 A c fs gd → YK X0 xe T A c fs K J D → ∀ n a C ys z σ H, n + ys.length = sizeLine → Inv (reb X0 xe a) C σ H z → t a D ys σ H → Run1 (model X0.prog X0.w) A (Aft X0 xe T A n a C ys) c ((execs st X0.env).wrap K J gd lv) fs z
section
variable {X0 : Cx} {xe : XeF} {T : Told} {st : Stmt} {rest : List Stmt}
def tYPlain (t : Bs → TS) : TY := fun a D ys σ H => t a (D.at ys) σ H
theorem ys_ps {t : Bs → TS} (h : ∀ a, PS (reb X0 xe a) st (t a)) (hs : ∀ a b, t a = t b := by intros; rfl) : YS X0 xe T st (tYPlain t) := by
  refine ⟨fun a b => by unfold tYPlain; rw [hs a b], fun A c fs K J gd lv D g k n a C ys z σ H hn I ht => r1_wrap ?_⟩
  rw [g.over]
  exact wpAny_mono ((h a).run C z σ H (D.at ys) I ht) (fun f z' q => k.ok n a C ys z' f hn q) fun e z' q => k.exc n a C ys e z' q
theorem yss_pss {t : Bs → TS} (h : ∀ a, PSs (reb X0 xe a) rest (t a)) (hs : ∀ a b, t a = t b := by intros; rfl) : YSs X0 xe T rest (tYPlain t) := by
  refine ⟨fun a b => by unfold tYPlain; rw [hs a b], fun A c fs K J gd lv D g k n a C ys z σ H hn I ht => r1_wrap ?_⟩
  rw [g.over]
  exact wpAny_mono ((h a).run C z σ H (D.at ys) I ht) (fun f z' q => k.ok n a C ys z' f hn q) fun e z' q => k.exc n a C ys e z' q
def tYNil : TY := fun _ D ys σ H => D.nx ys σ H
theorem yss_nil : YSs X0 xe T [] tYNil := ⟨fun _ _ => rfl, fun A c fs K J gd lv D g k n a C ys z σ H hn I ht => k.ok n a C ys z .next hn ⟨σ, H, I, ht⟩⟩
def tYThen (t u : TY) : TY := fun a D ys σ H => t a { D with nx := fun ys' σ' H' => u a D ys' σ' H' } ys σ H
theorem yss_cons {t u : TY} (h : YS X0 xe T st t) (h2 : YSs X0 xe T rest u) : YSs X0 xe T (st :: rest) (tYThen t u) := by
  refine ⟨fun a b => by unfold tYThen; rw [h.same a b, h2.same a b], fun A c fs K J gd lv D g k n a C ys z σ H hn I ht => r1_cons ?_⟩
  refine h.run A c fs _ J gd lv { D with nx := fun ys' σ' H' => u a D ys' σ' H' } g ⟨fun n' a' C' ys' z' f hn' q => ?_, k.exc⟩ n a C ys z σ H hn I ht
  cases f with
  | next =>
    obtain ⟨σ', H', I', w⟩ := q
    have w' : u a D ys' σ' H' := w
    rw [h2.same a a'] at w'
    exact h2.run A c fs K J gd lv D g k n' a' C' ys' z' σ' H' hn' I' w'
  | brk => exact k.ok n' a' C' ys' z' .brk hn' q
  | cont => exact k.ok n' a' C' ys' z' .cont hn' q
  | ret v => exact k.ok n' a' C' ys' z' (.ret v) hn' q
def tYYield (L : Nat) (T : Told) (te : Bs → TE) : TY := fun a D ys σ H => ys.length < sizeLine ∧ te a σ H fun x H1 => Same T.F H1 ∧ T.Yp ys x H1 ∧ D.nx (ys ++ [x]) σ (kg L T.F H1)
theorem ys_yield {e : Expr} {yp pos : Pos} {te : Bs → TE} (h : ∀ a, PE (reb X0 xe a) e (te a)) (hs : ∀ a b, te a = te b := by intros; rfl) (hco : X0.env.scope.isCoroutine = false := by rfl) (hi : interactive X0.env = false := by rfl) :
    YS X0 xe T (.Expr (.Yield (some e) yp) pos) (tYYield X0.env.locals T te) := by
  refine ⟨fun a b => by unfold tYYield; rw [hs a b], fun A c fs K J gd lv D g k n a C ys z σ H hn I ht => r1_yield g.split g.gd ?_ hco hi⟩
  obtain ⟨hlt, ht⟩ := ht
  obtain ⟨m, rfl⟩ : ∃ m, n = m + 1 := ⟨n - 1, by omega⟩
  rw [g.over]
  refine wpAny_mono ((h a).run C z σ H _ I ht) (fun v z' q kk l q' hk => ?_) fun e z' q => k.exc _ a C ys e z' q
  obtain ⟨x, H1, I1, rv, sF, hy, hD⟩ := q
  refine ⟨by simp [End.quiet, g.guard], x, σ, H1, rv, hy, I1, sF, fun a' C' z2 I2 => hk _ _ _ (k.ok m a' C' (ys ++ [x]) z2 .next ?_ ⟨σ, _, I2, hD⟩)⟩
  rw [List.length_append, List.length_singleton]
  omega
/-! ### while -/
def tYWhile (tc : Bs → TT) (tb : TY) : TY := fun a D ys σ H => ∃ W : Nat → List V → L2.St → Hp → Prop, (∃ m, W m ys σ H) ∧ ∀ m ys σ H, W m ys σ H →
  tc a σ H fun b H1 => if b = true then ∃ N : List V → L2.St → Hp → Prop, (∀ ys' σ' H', N ys' σ' H' → ∃ m', m' < m ∧ W m' ys' σ' H') ∧ tb a { D with nx := N, ct := N, bk := D.nx } ys σ H1 else D.nx ys σ H1
theorem yc_loop {A : Around} {c d : Code} {fs : List Frame} {gd : Bool → Bool} {k : Result → Sem PySem.Fin} {l kp : List Value} {q : Pos} (g : YC X0 A c fs gd) (hw : d.weight = 0) (hu : d.cUnits = 0) : YC X0 A d (.ret k none (gd false) l c q kp :: fs) id where
  over := (over_loop hw hu).trans g.over
  split := by
    show (splitAtGen fs).map _ = none
    rw [g.split]
    rfl
  guard := by
    show (gd false || fs.any Frame.guarded) = false
    rw [g.gd, g.guard]
    rfl
  gd := rfl
/-- an exception leaves a loop's code -/
theorem r1_back {A : Around} {c : Code} {fs : List Frame} {K : Flow → Sem PySem.Fin} {J : Value → Sem PySem.Fin} {gd : Bool → Bool} {lv : List Value → List Value} {D : YEnds} {n : Nat} {a : Bs} {C : List (Addr × Obj)} {ys : List V} {z : Shared} {e : Value} (g : YC X0 A c fs gd) (k : YK X0 xe T A c fs K J D)
    (h : cameBackBy (model X0.prog X0.w) X0.A X0.env (xe a) e z) : Run1 (model X0.prog X0.w) A (Aft X0 xe T A n a C ys) c (((Sem.raise e : Sem Flow).onRaise (cameBack X0.env)).wrap K J gd lv) fs z := by
  show Run1 _ _ _ _ (((cameBack X0.env e).bind fun _ => (Sem.raise e : Sem Flow)).wrap K J gd lv) _ _
  rw [Sem.bind_eq_wrap, Sem.wrap_wrap]
  refine r1_wrap ?_
  rw [g.over]
  exact wpAny_mono h (fun _ z' q => k.exc n a C ys e z' q) fun e' z' q => k.exc n a C ys e' z' q
theorem ys_while {test : Expr} {body : List Stmt} {pos : Pos} {tc : Bs → TT} {tb : TY} (hp : ∀ a, PassesOwn (model X0.prog X0.w) X0.A X0.env (xe a)) (hc : ∀ a, PT (reb X0 xe a) test (tc a)) (hb : YSs X0 xe T body tb) (hs : ∀ a b, tc a = tc b := by intros; rfl) : YS X0 xe T (.While test body [] pos) (tYWhile tc tb) := by
  refine ⟨fun a b => by unfold tYWhile; rw [hs a b, hb.same a b], fun A c fs K J gd lv D g k n a C ys z σ H hn I ht => r1_While fun q => ?_⟩
  obtain ⟨W, ⟨m0, w0⟩, turn⟩ := ht
  have turn : ∀ a' m ys σ H, W m ys σ H → tc a' σ H fun b H1 => if b = true then ∃ N : List V → L2.St → Hp → Prop, (∀ ys' σ' H', N ys' σ' H' → ∃ m', m' < m ∧ W m' ys' σ' H') ∧ tb a' { D with nx := N, ct := N, bk := D.nx } ys σ H1 else D.nx ys σ H1 := fun a' => by
    rw [hs a' a, hb.same a' a]
    exact turn
  have gl := fun (kk : Result → Sem PySem.Fin) => yc_loop (k := kk) (d := .whileLoop test body [] X0.env) (l := lv []) (kp := []) (q := q) g rfl rfl
  generalize hkk : (fun (r : Result) => ((match r with | .ok f => (.pure f : Sem Flow) | .error e => .raise e).onRaise (cameBack X0.env)).wrap K J gd lv) = kk
  have out : ∀ f, kk (.ok f) = K f := fun f => by rw [← hkk]; rfl
  have outE : ∀ e, kk (.error e) = ((Sem.raise e : Sem Flow).onRaise (cameBack X0.env)).wrap K J gd lv := fun e => by rw [← hkk]
  clear hkk
  have main : ∀ (m n : Nat) (a : Bs) (C : List (Addr × Obj)) (ys : List V) (z : Shared) (σ : L2.St) (H : Hp), n + ys.length = sizeLine → W m ys σ H → Inv (reb X0 xe a) C σ H z →
      Run1 (model X0.prog X0.w) A (Aft X0 xe T A n a C ys) (.whileLoop test body [] X0.env) ((model X0.prog X0.w).den (.whileLoop test body [] X0.env)) (.ret kk none (gd false) (lv []) c q [] :: fs) z := by
    intro m
    induction m using Nat.strongRecOn with
    | ind m ih =>
      intro n a C ys z σ H hn w I
      have ee : ∀ (n : Nat) (a : Bs) (C : List (Addr × Obj)) (ys : List V) (e : Value) (z' : Shared), xe a e z' → Run1 (model X0.prog X0.w) A (Aft X0 xe T A n a C ys) (.whileLoop test body [] X0.env) (offLoop X0.env e) (.ret kk none (gd false) (lv []) c q [] :: fs) z' := fun n a C ys e z' hx => by
        refine r1_wrap ?_
        rw [(gl _).over]
        refine wpAny_bind (wpAny_mono (hp a e z' hx) (fun _ z2 y => wpAny_theTreesLotGoes ?_) fun e2 z2 y => ?_)
        · exact r1_leaf (.error e) (by rw [outE]; exact r1_back g k y)
        · exact r1_leaf (.error e2) (by rw [outE]; exact r1_back g k y)
      refine r1_whileLoop ?_
      rw [(gl _).over]
      refine wpAny_mono ((hc a).run C z σ H _ I (turn a m ys σ H w)) (fun b z' hb' => ?_) fun e z' hx => ee n a C ys e z' hx
      obtain ⟨H2, I2, q2⟩ := hb'
      cases b with
      | true =>
        obtain ⟨N, hN, q2⟩ := q2
        rw [if_pos rfl]
        have again : ∀ n' a' C' ys' z3 σ3 H3, n' + ys'.length = sizeLine → Inv (reb X0 xe a') C' σ3 H3 z3 → N ys' σ3 H3 → Run1 (model X0.prog X0.w) A (Aft X0 xe T A n' a' C' ys') (.whileLoop test body [] X0.env) (.pure (.again (.whileLoop test body [] X0.env))) (.ret kk none (gd false) (lv []) c q [] :: fs) z3 := fun n' a' C' ys' z3 σ3 H3 hn' I3 n3 => by
          obtain ⟨m', hm, w3⟩ := hN ys' σ3 H3 n3
          exact r1_again rfl (ih m' hm n' a' C' ys' z3 σ3 H3 hn' w3 I3)
        refine hb.run A _ _ _ _ id id { D with nx := N, ct := N, bk := D.nx } (gl _) ⟨fun n' a' C' ys' z3 f hn' q3 => ?_, fun n' a' C' ys' e z3 hx => ee n' a' C' ys' e z3 hx⟩ n a C ys z' σ H2 hn I2 q2
        cases f with
        | next =>
          obtain ⟨σ3, H3, I3, n3⟩ := q3
          exact again n' a' C' ys' z3 σ3 H3 hn' I3 n3
        | cont =>
          obtain ⟨σ3, H3, I3, n3⟩ := q3
          exact again n' a' C' ys' z3 σ3 H3 hn' I3 n3
        | brk => exact r1_leaf (.ok .next) (by rw [out]; exact k.ok n' a' C' ys' z3 .next hn' q3)
        | ret v => exact r1_leaf (.ok (.ret v)) (by rw [out]; exact k.ok n' a' C' ys' z3 (.ret v) hn' q3)
      | false =>
        rw [if_neg Bool.false_ne_true]
        exact r1_leaf (.ok .next) (by rw [out]; exact k.ok n a C ys z' .next hn ⟨σ, H2, I2, q2⟩)
  exact main m0 n a C ys z σ H hn w0 I
end
end EBG

/-! A generator def called; a sleeping generator's context based anew. -/
namespace EBG
open PySem PySem.Spec PyProof.Rows L2 GenW EB
/-! ### the heap cut to its first objects -/
def cutH (h : Heap) (n : Nat) : Heap := ⟨h.objs.extract 0 n, h.life⟩
theorem cutH_lt {h : Heap} {n : Nat} {b : Addr} (hb : b < n) : (cutH h n).get? b = h.get? b := by
  have hb' : (b : Nat) < n := hb
  have e : (h.objs.extract 0 n)[(b : Nat)]? = h.objs[(b : Nat)]? := by
    rw [Array.getElem?_extract]
    split
    · rw [Nat.zero_add]
    · rename_i z
      exact (Array.getElem?_eq_none (Nat.le_of_not_lt fun y => z (by have := Nat.lt_min.mpr ⟨hb', y⟩; simpa using this))).symm
  show (match (h.objs.extract 0 n)[(b : Nat)]? with | some ⟨_, _, .freed, _⟩ => none | o => o) = (match h.objs[(b : Nat)]? with | some ⟨_, _, .freed, _⟩ => none | o => o)
  rw [e]
theorem cutH_size {h : Heap} {n : Nat} (hn : n ≤ h.objs.size) : (cutH h n).objs.size = n := by
  show (h.objs.extract 0 n).size = n
  rw [Array.size_extract]
  omega
theorem cutH_of {h : Heap} {n : Nat} (hn : n ≤ h.objs.size) {b : Addr} {o : Obj} (e : (cutH h n).get? b = some o) : b < n ∧ h.get? b = some o := by
  have hb : b < n := by
    have z := Heap.lt_size e
    rw [cutH_size hn] at z
    exact z
  exact ⟨hb, (cutH_lt hb) ▸ e⟩
abbrev cut (z : Shared) (n : Nat) : Shared := { z with heap := cutH z.heap n }
theorem frames_cut {h base : Heap} {n : Nat} : ∀ {l : List Env}, (∀ b ∈ frs l, b < n) → h.FunFrames base l → (cutH h n).FunFrames base l
  | [], _, _ => trivial
  | env :: r, hs, ⟨hk, ⟨L, o, hf, hn, ho, hd⟩, hr⟩ => by
    have hL : L < n := hs L (by unfold frs; rw [List.filterMap_cons, hf]; exact List.mem_cons_self ..)
    exact ⟨hk, ⟨L, o, hf, hn, (cutH_lt hL).trans ho, hd⟩, frames_cut (fun b hb => hs b (by unfold frs; rw [List.filterMap_cons, hf]; exact List.mem_cons_of_mem _ hb)) hr⟩
/-- the sleeping generator's context, based at the state cut to what was there at its call -/
theorem rebase {X0 : Cx} {xe : XeF} {a : Bs} {z z' : Shared} {C C' : List (Addr × Obj)} {σ : L2.St} {F H : Hp} {n0 : Nat} (I : Inv (reb X0 xe a) C σ H z) (hF : Same F H) (hc : X0.env.cells = []) (hex : X0.ex = []) (hn : n0 ≤ X0.env.locals) (hb0 : X0.base.objs.size ≤ n0) (hfn : ∀ b ∈ X0.fs, b < n0)
    (keepL : ∀ o, z.heap.get? X0.env.locals = some o → z'.heap.get? X0.env.locals = some o) (hb : ∀ b o, X0.base.get? b = some o → z'.heap.get? b = some o) (hf : z'.heap.FunFrames X0.base X0.outer) (hbare : AllBare z'.gens) (hok : HOk X0.prog X0.w (kg X0.env.locals F H) z'.heap)
    (hpin : ∀ p ∈ X0.pn ++ C', z'.heap.get? p.1 = some p.2 ∧ kg X0.env.locals F H p.1 = none ∧ p.1 ≠ X0.env.locals ∧ p.1 ∉ X0.fs ∧ ∀ v, p.2.data ≠ .cell v) : Inv (reb X0 xe (cut z' n0, kg X0.env.locals F H)) C' σ (kg X0.env.locals F H) z' := by
  obtain ⟨m, hns, hl⟩ := I.loc
  obtain ⟨oL, es, ep, hoL, hrest⟩ := id hns
  have hoL' := keepL oL hoL
  have hsz : n0 ≤ z'.heap.objs.size := Nat.le_of_lt (Nat.lt_of_le_of_lt hn (Heap.lt_size hoL'))
  have noc : ∀ (x : Str) (c : Addr), X0.env.cells.lookup x ≠ some c := fun x c e => by
    rw [hc] at e
    cases e
  have ok := I.ok
  have hHb : ∀ b o, X0.base.get? b = some o → kg X0.env.locals F H b = none := fun b o e => kg_none hF (I.bs b o e).2
  refine ⟨⟨ok.mod, ok.kind, ok.glob, ok.blt, ?_, ok.inj, ok.has, fun x c _ e => absurd e (noc x c), ok.hd, ok.frames, ok.stk, ok.exf, fun b o e => ⟨?_, hHb b o e⟩, ?_, ok.noex, ok.exfs, frames_cut hfn hf, fun b hb => ?_⟩, rfl, hbare, ?_, ⟨m, ⟨oL, es, ep, hoL', hrest⟩, fun i x v e1 e2 e3 => ?_⟩, fun x c e => absurd e (noc x c), ?_, fun x c e => absurd e (noc x c), hpin, hok, I.len⟩
  · show (cutH z'.heap n0).objs.size ≤ _
    rw [cutH_size hsz]
    exact hn
  · exact (cutH_lt (Nat.lt_of_lt_of_le (Heap.lt_size e) hb0)).trans (hb b o e)
  · show _ ≤ (cutH z'.heap n0).objs.size
    rw [cutH_size hsz]
    exact hb0
  · obtain ⟨_, o, e, _⟩ := ok.funs.mem hb
    exact kg_none hF (I.base.free b o e (ok.frf b hb) (by rw [show (reb X0 xe a).ex = [] from hex]; exact List.not_mem_nil))
  · show Un X0.fs X0.ex (kg X0.env.locals F H) (kg X0.env.locals F H) (cutH z'.heap n0) z'.heap
    exact Un.kept fun b o e => (cutH_of hsz e).2
  · obtain ⟨u, r, q⟩ := hl i x v e1 e2 e3
    refine ⟨u, r, ?_⟩
    rcases q with q | ⟨_, c, e, _⟩
    · exact .inl q
    · exact absurd e (noc x c)
  · exact kg_none hF I.free
/-! ### what leaves it -/
abbrev xeG (X0 : Cx) (E : XK) : XeF := fun a e z => wpAny (model X0.prog X0.w) X0.A (leaving X0.env e) (fun _ z' => CX X0.prog X0.w X0.outer a.2 a.1 E e z' ∧ ∀ p ∈ X0.pn, z'.heap.get? p.1 = some p.2) (fun _ _ => False) z
abbrev excG (X0 : Cx) (E : XK) : XeF := fun a e z => CX X0.prog X0.w X0.outer a.2 a.1 E e z ∧ ∀ p ∈ X0.pn, z.heap.get? p.1 = some p.2
theorem takesG {X0 : Cx} {E : XK} {a : Bs} (hs : X0.stack = X0.env :: X0.outer) (hf : X0.env.frame = some X0.env.locals) (hex : X0.ex = []) : Takes (reb X0 (xeG X0 E) a) (fun cls d _ H' => E cls d H') := fun u s' x =>
  XE.leaveG (X := reb X0 (xeG X0 E) a) (W := fun cls d _ H' => E cls d H') (E := E) hs hf hex (fun _ _ _ _ h => h) x
theorem ownsG {X0 : Cx} {E : XK} {a : Bs} (hf : X0.env.frame = some X0.env.locals) : PassesOwn (model X0.prog X0.w) X0.A X0.env (xeG X0 E a) :=
  passes_of (X := reb X0 (xeG X0 E) a) (K := fun e s'' => CX X0.prog X0.w X0.outer a.2 a.1 E e s'' ∧ ∀ p ∈ X0.pn, s''.heap.get? p.1 = some p.2) (E₁ := fun _ _ => False) rfl
/-! ### a generator def called -/
abbrev SP1 := List V → Hp → (List V → V → Hp → Prop) → (List V → Prop) → XK → Prop
abbrev gx (P : Program) (w : World) (K : PySem.W.Frag) (mg : Str → Option Value) (base : Heap) (N : List Str) (qual : Str) (scope : Scope) (f : Addr) (cd : Value) (outer : List Env) (s : Shared) (F : Hp) (E : XK) (pn : List (Addr × Obj)) (A : Around) : Cx := gcxOf P w K mg base N qual scope f cd A outer s F E pn
def GMade1 (P : Program) (w : World) (K : PySem.W.Frag) (mg : Str → Option Value) (base : Heap) (k : Nat) (outer : List Env) (F : Hp) (Yp : List V → V → Hp → Prop) (Fin : List V → Prop) (E : XK) (s : Shared) (u : Value) (s' : Shared) : Prop :=
  ∃ (ag : Addr) (g : Nat) (c : Code) (N : List Str) (qual : Str) (scope : Scope) (f : Addr) (cd : Value) (go : Obj) (σ0 : L2.St), u = .ref ag ∧ s.heap.objs.size < ag ∧ ag < s'.heap.objs.size ∧ s'.heap.IsGen ag g ∧ s'.gens[g]? = some (.fresh c) ∧ s'.os = s.os ∧ AllBare s'.gens ∧ s'.heap.NoLimit ∧
    (∀ b o, s.heap.get? b = some o → s'.heap.get? b = some o) ∧ s'.heap.get? ag = some go ∧ (∀ v, go.data ≠ .cell v) ∧ (∀ n, cellsFrom n scope.names [] = []) ∧
    ∀ A, Room k A → A.frames = some outer → Inv (reb (gx P w K mg base N qual scope f cd outer s F E [(ag, go)] A) (xeG (gx P w K mg base N qual scope f cd outer s F E [(ag, go)] A) E) (s, F)) [] σ0 F s' ∧
      ∀ a' C' z', Inv (reb (gx P w K mg base N qual scope f cd outer s F E [(ag, go)] A) (xeG (gx P w K mg base N qual scope f cd outer s F E [(ag, go)] A) E) a') C' σ0 F z' →
        Run1 (model P w) A (Aft (gx P w K mg base N qual scope f cd outer s F E [(ag, go)] A) (xeG (gx P w K mg base N qual scope f cd outer s F E [(ag, go)] A) E) ⟨F, Yp, Fin, excG (gx P w K mg base N qual scope f cd outer s F E [(ag, go)] A) E⟩ A sizeLine a' C' []) c ((model P w).den c) [] z'
structure GFn1 (P : Program) (w : World) (K : PySem.W.Frag) (mg : Str → Option Value) (base : Heap) (k : Nat) (f : Addr) (fd : FuncData) (ps : List Str) (sp : SP1) : Prop where
  len : ∀ vs F Yp Fin E, sp vs F Yp Fin E → vs.length = ps.length
  run : ∀ (A : Around) (outer : List Env) (s : Shared) (F : Hp) (args : Args) (us : List Value) (vs : List V) (Yp : List V → V → Hp → Prop) (Fin : List V → Prop) (E : XK), Room k A → Env0 P w K mg base A outer s F → BindsTo s fd args (ps.zip us) → Vals vs us → sp vs F Yp Fin E →
    codeAny (model P w) A (.call (.ref f) args) (fun r s' => match r with | .ok (.ret u) => GMade1 P w K mg base k outer F Yp Fin E s u s' | _ => False) s
theorem gfn1_of {P : Program} {w : World} {K : PySem.W.Frag} {mg : Str → Option Value} {base : Heap} {k : Nat} {f : Addr} {name qual : Str} {params : Arguments} {body : List Stmt} {scope : Scope} {dV kV doc pm cdv ct oc : Value} {an od : Option Addr} {osl : Array (Option Value)} {N ps : List Str} {sp : SP1}
    (lk : K.lookup f = some ⟨oc, od, .func (PySem.W.fnOf name qual params body scope dV kV doc pm an cdv ct), osl⟩) (hcd : PySem.W.codeIn K cdv qual = true) (S : GScope N ps scope) (hnc : ∀ n, cellsFrom n scope.names [] = []) (len : ∀ vs F Yp Fin E, sp vs F Yp Fin E → vs.length = ps.length)
    (hbody : ∀ (A : Around) (outer : List Env) (s : Shared) (F : Hp) (vs : List V) (Yp : List V → V → Hp → Prop) (Fin : List V → Prop) (E : XK) (pn : List (Addr × Obj)), Room k (A.deeper (envOfC qual scope s.heap.objs.size f cdv)) → sp vs F Yp Fin E →
      ∃ t, YSs (gx P w K mg base N qual scope f cdv outer s F E pn A) (xeG (gx P w K mg base N qual scope f cdv outer s F E pn A) E) ⟨F, Yp, Fin, excG (gx P w K mg base N qual scope f cdv outer s F E pn A) E⟩ body t ∧
        t (s, F) { nx := fun ys _ H' => Same F H' ∧ Fin ys, rt := fun ys v H' => v = .non ∧ Same F H' ∧ Fin ys } [] (start N vs) F) :
    GFn1 P w K mg base (k + 1) f (PySem.W.fnOf name qual params body scope dV kV doc pm an cdv ct) ps sp := by
  refine ⟨len, fun A outer s F args us vs Yp Fin E hr e0 hb r hsp => ?_⟩
  have hl := len _ _ _ _ _ hsp
  have inS : ∀ b o, base.get? b = some o → s.heap.get? b = some o := fun b o e => (e0.bs b o e).1
  have KX : K.In s.heap := e0.mod.kin.keeps inS
  have lim : s.heap.NoLimit := e0.mod.nolimit.keeps inS
  have kinds : ∀ y ∈ ps.zip us, scope.names.lookup y.1 = some .local ∨ (scope.names.lookup y.1 = some .cell ∧ ((cellsFrom (s.heap.objs.size + 1) scope.names []).lookup y.1).isSome = true) := fun ⟨x, v⟩ hy => by
    rcases S.par x (List.of_mem_zip hy).1 with q | q
    · exact .inl q
    · exact .inr ⟨q, PySem.W.cellsFrom_some _ _ _ (.inl q)⟩
  refine codeAny_call_generator hr.depth (KX _ _ lk) rfl S.co S.gen rfl (PySem.W.codeRec_of KX hcd) (hb _ _ _ _ ?_)
  refine wpAny_newFunctionEnv_cells S.kind kinds fun env he s1 x => ?_
  subst he
  refine ⟨lim.keeps x.toInCall.keep, ?_⟩
  have lt1 : s.heap.objs.size < s1.heap.objs.size := x.toInCall.ns.lt
  have kp := x.toInCall.keep
  obtain ⟨os1, gen1⟩ : s1.os = s.os ∧ s1.gens = s.gens := by
    obtain ⟨h1, tk, e1, _⟩ := x.done
    rw [e1]
    exact ⟨rfl, rfl⟩
  have main : ∀ (go : Obj) (nm qn : Value) (tk : Nat), go.cls = .type "generator" → go.data = .fields #[.int s1.gens.size 0, nm, qn] → go.slots = #[] → (∀ h : Heap, (h.push go).get? h.objs.size = some go) →
      GMade1 P w K mg base (k + 1) outer F Yp Fin E s (.ref s1.heap.objs.size) { s1 with gens := s1.gens.push (.fresh (.func body (envOfC qual scope s.heap.objs.size f cdv))), toks := tk, heap := s1.heap.push go } := by
    intro go nm qn tk g1 g2 g3 g4
    have ncell : ∀ v, go.data ≠ .cell v := fun v q => by
      rw [g2] at q
      cases q
    have bareN : AllBare (s1.gens.push (.fresh (.func body (envOfC qual scope s.heap.objs.size f cdv)))) := AllBare.push (by rw [gen1]; exact e0.bare) rfl
    have kp2 : ∀ b o, s1.heap.get? b = some o → (s1.heap.push go).get? b = some o := fun b o e => Heap.get?_push_of_some _ e
    refine ⟨s1.heap.objs.size, s1.gens.size, _, N, qual, scope, f, cdv, go, start N vs, rfl, lt1, ?_, ⟨go, nm, qn, g4 _, g1, g2, g3⟩, Array.getElem?_push_size .., os1, bareN, (lim.keeps kp).keeps kp2, fun b o e => kp2 b o (kp b o e), g4 _, ncell, hnc, fun Aw hrw hfr => ?_⟩
    · show _ < (s1.heap.push _).objs.size
      rw [Heap.size_push]
      exact Nat.lt_succ_self _
    have e0w : Env0 P w K mg base Aw outer s F := ⟨hfr, e0.mod, e0.bs, e0.bsz, e0.funs, e0.frf, e0.hok, e0.bare⟩
    obtain ⟨t, ht, hq⟩ := hbody Aw outer s F vs Yp Fin E [(s1.heap.objs.size, go)] (hrw.deeper _) hsp
    have I1 : Inv (gcxOf P w K mg base N qual scope f cdv Aw outer s F E []) [] (start N vs) F s1 := inv_startG S hrw.hd e0w hl r x
    have I2 : Inv (gcxOf P w K mg base N qual scope f cdv Aw outer s F E []) [] (start N vs) F { s1 with gens := s1.gens.push (.fresh (.func body (envOfC qual scope s.heap.objs.size f cdv))), toks := tk, heap := s1.heap.push go } :=
      I1.call' (ch := []) rfl (Un.kept kp2) (I1.hok.kept kp2) bareN fun b z => nomatch z
    have I3 : Inv (gcxOf P w K mg base N qual scope f cdv Aw outer s F E [(s1.heap.objs.size, go)]) [] (start N vs) F { s1 with gens := s1.gens.push (.fresh (.func body (envOfC qual scope s.heap.objs.size f cdv))), toks := tk, heap := s1.heap.push go } := Inv.pinnedG I2 fun p hp => by
      rw [List.append_nil] at hp
      rw [List.mem_singleton.mp hp]
      exact ⟨g4 _, I1.hok.fresh (Nat.le_refl _), Nat.ne_of_gt lt1, I1.nofs (Nat.le_refl _), ncell⟩
    refine ⟨I3, fun a' C' z' I' => r1_func ?_⟩
    refine ht.run Aw _ [] _ _ id id { nx := fun ys _ H' => Same F H' ∧ Fin ys, rt := fun ys v H' => v = .non ∧ Same F H' ∧ Fin ys } ⟨over_func, rfl, rfl, rfl⟩ ⟨fun n a C ys z fl hn q => ?_, fun n a C ys e z hx => ?_⟩ sizeLine a' C' [] z' (start N vs) F (Nat.add_zero _) I' (by rw [ht.same a' (s, F)]; exact hq)
    · cases fl with
      | next =>
        obtain ⟨σ', H', I4, sF, hf⟩ := q
        exact r1_end (.ok (.ret .none)) (aft_ret ⟨.inl rfl, hf, σ', H', I4, sF⟩)
      | brk =>
        obtain ⟨_, _, _, q⟩ := q
        exact q.elim
      | cont =>
        obtain ⟨_, _, _, q⟩ := q
        exact q.elim
      | ret u =>
        obtain ⟨v, σ', H', I4, rv, ev, sF, hf⟩ := q
        subst ev
        cases (show u = Value.none from rv)
        exact r1_end (.ok (.ret .none)) (aft_ret ⟨.inl rfl, hf, σ', H', I4, sF⟩)
    · refine r1_wrap ?_
      rw [over_func]
      exact wpAny_mono (show wpAny (model P w) (Aw.deeper (envOfC qual scope s.heap.objs.size f cdv)) (leaving (envOfC qual scope s.heap.objs.size f cdv) e) _ _ z from hx) (fun _ z2 q => r1_end (.error e) (aft_ret q)) fun _ z2 q => q.elim
  exact main _ _ _ _ rfl rfl rfl fun h => Heap.get?_push_size _ rfl
end EBG

/-! next of a generator, one segment. -/
namespace EBG
open PySem PySem.Spec PyProof.Rows L2 GenW EB
theorem next1 {P : Program} {w : World} {A : Around} {E : Value → Shared → Prop} {s : Shared} {a : Addr} {g : Nat} {gs : GenState} {Φ : End → Shared → Prop} {Q : Option Value → Shared → Prop} (hh : A.handled = none) (hl : s.heap.NoLimit) (hroom : A.depth < recursionLimit) (hg : s.heap.IsGen a g) (hgs : s.gens[g]? = some gs)
    (hgo : Woken1 (model P w) A.in1 Φ gs (s.setGen g .running)) (hq : ∀ e z, Φ e z → e.quiet = true)
    (hY : ∀ v gd l k c q fs z, Φ (.susp v gd l k c q fs) z → g < z.gens.size → Q (some v) (z.setGen g (End.susp v gd l k c q fs).genState))
    (hP : ∀ fl z, Φ (.ret (.ok fl)) z → (fl = .ret .none ∨ fl = .next) ∧ ∀ h', (∀ b o, z.heap.get? b = some o → h'.get? b = some o) → Q none { z.setGen g .finished with heap := h' })
    (hE : ∀ e z, Φ (.ret (.error e)) z → z.heap.IsGen a g ∧ NotStop (model P w) e z.heap ∧ E e (z.setGen g .finished)) : wpAny (model P w) A (pyNext (.ref a)) Q E s := by
  unfold pyNext
  refine wpAny_bind (wpAny_attempt (wpAny_callSpecial?_slot (name := Str.ofString "__next__") hg.typeIs slot_gen_next (wpAny_call_entry slot_gen_next hg.typeIs entry_gen_next ?_ (args_gen_next _))))
  show wpAny _ A.in1 (Builtin.Generator.genWake (.ref a) (.send .none)) _ _ s
  unfold Builtin.Generator.genWake
  refine wpAny_bind (wpAny_holding (wpAny_genNumber hg (wpAny_bind (wpAny_genState hgs ?_))))
  have go : ∀ {l : List Value} {α : Type} {k : GenResult → Sem α} {Q' : α → Shared → Prop} {E' : Value → Shared → Prop}, (∀ e z, Φ e z → g < z.gens.size → wpAny (model P w) A.in1 (k e.result) Q' E' (z.setGen g e.genState)) → wpAny (model P w) A.in1 (.resume g (.send .none) l k) Q' E' s := fun h => resume1 hgs hgo hq h
  cases gs with
  | running => exact hgo.elim
  | finished => exact hgo.elim
  | _ =>
    refine wpAny_bind (wpAny_roomToWake hl hroom ?_)
    show wpAny _ A.in1 (.resume g (.send .none) [] _) _ _ s
    refine go fun e z hz hgz => ?_
    cases e with
    | susp v gd l k c q fs => exact wpAny_pure ⟨v, rfl, wpAny_pure (hY v gd l k c q fs z hz hgz)⟩
    | ret r =>
      cases r with
      | ok fl =>
        obtain ⟨hr, hp⟩ := hP fl z hz
        have hres : End.result (.ret (.ok fl)) = .returned .none := by
          rcases hr with hr | hr <;> rw [hr] <;> rfl
        first | rw [hres] | simp only [hres]
        show wpAny _ A.in1 (newExc (.type "StopIteration") [] >>= _) _ _ _
        refine wpAny_bind ?_
        simp only [newExc, newTuple]
        refine wpAny_bind (wpAny_newObj_type (wpAny_bind (m := firstArgMember _ _) (wpAny_of_eq (a := Value.none) (by first | rfl | (simp only [firstArgMember]; rfl)) (wpAny_newObj_type ?_ (by size_fits)))) (by size_fits))
        simp only [raiseNew]
        refine wpAny_bind (wpAny_bind (wpAny_handled ?_))
        first | rw [show A.in1.handled = none from hh] | rw [hh]
        refine wpAny_throw (wpAny_bind (wpAny_isInstance (T := "StopIteration") (b := true) ⟨_, Heap.get?_push_size _ rfl, rfl⟩ isSubtype_stop ?_))
        exact wpAny_pure (hp _ fun b o e => Heap.get?_push_of_some _ (Heap.get?_push_of_some _ e))
      | error e =>
        obtain ⟨hg1, hns, hx⟩ := hE e z hz
        obtain ⟨o, nm, qn, ho, hc, hd, hsl⟩ := hg1
        show wpAny _ A.in1 (Builtin.Generator.genLeft (.ref a) e) _ _ _
        unfold Builtin.Generator.genLeft Builtin.Generator.madeByALambda
        refine wpAny_bind (wpAny_bind (wpAny_load (o := o) ho (wpAny_pure (wpAny_bind (hns _ _ _ _ rfl ?_)))))
        rw [Bool.and_false, if_neg Bool.false_ne_true]
        unfold Builtin.Generator.genEscaped
        first
          | refine wpAny_bind (hns _ _ _ _ rfl ?_)
          | refine wpAny_bind (wpAny_pure (wpAny_bind (hns _ _ _ _ rfl ?_)))
        rw [if_pos (show (!false) = true from rfl)]
        first
          | refine wpAny_throw (wpAny_bind (hns _ _ _ _ rfl ?_))
          | refine wpAny_bind (wpAny_throw (wpAny_bind (hns _ _ _ _ rfl ?_)))
        rw [if_neg Bool.false_ne_true]
        exact wpAny_throw hx
end EBG

/-! What a generator and its consumer know in common, and the consumer's state behind a segment. -/
namespace EBG
open PySem PySem.Spec PyProof.Rows L2 GenW EB
/-! ### what they share: instances, their dicts, tuples, ranges, methods -/
def kindF : HO → Bool
  | .dT _ | .tbl _ | .ext _ | .xd _ => false
  | .frz _ u => kindF u
  | _ => true
def fzO : HO → Bool
  | .lst _ | .dK _ | .set _ _ => false
  | o => kindF o
def noIns : HO → Bool
  | .ins _ _ _ => false
  | .frz _ u => noIns u
  | _ => true
theorem kindF_of {o : HO} (h : fzO o = true) : kindF o = true := by
  cases o <;> first | rfl | exact h
theorem noIns_kind {o : HO} (h : kindF o = false) : noIns o = true := by
  induction o with
  | frz _ u ih => exact ih h
  | ins _ _ _ => cases h
  | _ => rfl
theorem noIns_of {o : HO} (h : fzO o = false) : noIns o = true := by
  cases o with
  | lst _ => rfl
  | dK _ => rfl
  | set _ _ => rfl
  | ins _ _ _ => cases h
  | frz q u => exact noIns_kind (o := .frz q u) h
  | _ => rfl
def fz (H : Hp) : Hp := fun b => match H b with
  | some o => if fzO o = true then some o else none
  | none => none
theorem fz_of {H : Hp} {b : Addr} {o : HO} (e : fz H b = some o) : H b = some o ∧ fzO o = true := by
  unfold fz at e
  cases q : H b with
  | none =>
    rw [q] at e
    cases e
  | some u =>
    rw [q] at e
    have e : (if fzO u = true then some u else none) = some o := e
    by_cases h : fzO u = true
    · rw [if_pos h] at e
      cases e
      exact ⟨rfl, h⟩
    · rw [if_neg h] at e
      cases e
theorem fz_to {H : Hp} {b : Addr} {o : HO} (e : H b = some o) (h : fzO o = true) : fz H b = some o := by
  unfold fz
  rw [e]
  exact if_pos h
theorem fz_not {H : Hp} {b : Addr} {o : HO} (e : H b = some o) (h : fz H b = none) : fzO o = false := by
  cases q : fzO o with
  | false => rfl
  | true =>
    rw [fz_to e q] at h
    cases h
theorem fz_same (H : Hp) : Same (fz H) H := fun _ _ e => (fz_of e).1
section
variable {P : Program} {w : World} {Ha Hb Hr H H1 : Hp} {ha hb h h' h1 : Heap} {a b : Addr} {u o : HO}
theorem mixO (hk : kindF u = true) (x : ObjOk P w Ha ha a u) (y : ObjOk P w Hb hb a u) (ho : ∀ c, Ha c = some (.own a) → Hr c = some (.own a)) : ObjOk P w Hr hb a u := by
  induction u with
  | ins C dx fs => exact ⟨ho _ x.1, y.2⟩
  | frz q u ih => exact ⟨y.1, ih hk x.2 y.2⟩
  | dT _ => cases hk
  | _ => exact y
theorem fz_down (ok1 : HOk P w H1 h1) (ok : HOk P w H h) (s : Same (fz H1) H) : HOk P w (fz H1) h := fun b o e => by
  obtain ⟨e1, ho⟩ := fz_of e
  exact mixO (kindF_of ho) (ok1 b o e1) (ok b o (s b o e)) fun c q => fz_to q rfl
/-- an object with no dict of its own elsewhere -/
theorem stayI (n : noIns u = true) (x : ObjOk P w H h a u) (k : ∀ q, h.get? a = some q → h'.get? a = some q) (ht : ∀ b xs, H b = some (.tup xs) → Hr b = some (.tup xs)) : ObjOk P w Hr h' a u := by
  induction u with
  | lst xs => exact let ⟨z, its, n, r, e⟩ := x; ⟨z, its, n, r, k _ e⟩
  | tup xs => exact let ⟨z, its, r, ob, e, c⟩ := x; ⟨z, its, r, ob, k _ e, c⟩
  | dK kvs => exact let ⟨z, y, vs, r, ob, es, ep, e, c⟩ := x; ⟨z, y, vs, r, ob, es, ep, k _ e, c⟩
  | dT kvs => exact let ⟨z, y, xs, r, ob, es, ep, e, c⟩ := x; ⟨z, y, xs, Paired.mapP r fun p q t => ⟨t.1, ht _ _ t.2.1, t.2.2⟩, ob, es, ep, k _ e, c⟩
  | set S m => exact let ⟨ob, es, ep, t, e, c⟩ := x; ⟨ob, es, ep, t, k _ e, c⟩
  | ins C dx fs => cases n
  | own y => exact let ⟨ob, e⟩ := x; ⟨ob, k _ e⟩
  | xd fs => exact let ⟨mA, ⟨od, es, ep, e, c⟩, r⟩ := x; ⟨mA, ⟨od, es, ep, k _ e, c⟩, r⟩
  | rng lo hi => exact let ⟨t, u, v, e⟩ := x; ⟨t, u, v, k _ e⟩
  | frz ob u ih => exact ⟨k _ x.1, ih n x.2⟩
  | tbl ps => exact k _ x
  | met f y => exact k _ x
  | ext φ => exact let ⟨p, ⟨o, e⟩, st⟩ := x; ⟨st _ _ p fun o q => k _ q, ⟨o, k _ e⟩, st⟩
/-- what is tracked is there -/
theorem obj_at (ok : HOk P w H h) (e : H a = some o) : ∃ q, h.get? a = some q := by
  have x := ok a o e
  cases o with
  | frz q u => exact ⟨_, x.1⟩
  | lst xs => exact let ⟨_, _, _, _, e⟩ := x; ⟨_, e⟩
  | tup xs => exact let ⟨_, _, _, _, e, _⟩ := x; ⟨_, e⟩
  | dK kvs => exact let ⟨_, _, _, _, _, _, _, e, _⟩ := x; ⟨_, e⟩
  | dT kvs => exact let ⟨_, _, _, _, _, _, _, e, _⟩ := x; ⟨_, e⟩
  | set S n => exact let ⟨_, _, _, _, e, _⟩ := x; ⟨_, e⟩
  | ins C dx fs => exact let ⟨_, _, _, e, _⟩ := x; ⟨_, e⟩
  | own y => exact x
  | xd fs => exact let ⟨_, ⟨_, _, _, e, _⟩, _⟩ := x; ⟨_, e⟩
  | rng lo hi => exact let ⟨_, _, _, e⟩ := x; ⟨_, e⟩
  | tbl ps => exact ⟨_, x⟩
  | met f y => exact ⟨_, x⟩
  | ext φ => exact x.2.1
/-- lists, tuples, dicts, sets -/
def solid : HO → Bool
  | .lst _ | .tup _ | .dK _ | .set _ _ => true
  | _ => false
theorem solid_noIns (h : solid u = true) : noIns u = true := by
  cases u <;> first | rfl | cases h
theorem solid_obj (hs : solid u = true) (x : ObjOk P w H h a u) : ∃ q, h.get? a = some q ∧ ∀ v, q.data ≠ .cell v := by
  cases u with
  | lst xs =>
    obtain ⟨z, its, n, r, e⟩ := x
    exact ⟨_, e, fun v q => by cases q⟩
  | tup xs =>
    obtain ⟨z, its, r, ob, e, c, n, d⟩ := x
    exact ⟨_, e, fun v q => by rw [d] at q; cases q⟩
  | dK kvs =>
    obtain ⟨z, y, vs, r, ob, es, ep, e, c, d, _⟩ := x
    exact ⟨_, e, fun v q => by rw [d] at q; cases q⟩
  | set S m =>
    obtain ⟨ob, es, ep, t, e, x⟩ := x
    refine ⟨_, e, fun v q => ?_⟩
    obtain ⟨_, d, _⟩ := x
    rw [d] at q
    cases q
  | _ => cases hs
/-- the generator's own things where it slept, as they were -/
theorem kg_down {L : Nat} {F Hg : Hp} {zg : Heap} (ok : HOk P w F h) (okg : HOk P w Hg zg) (pv : ∀ b, kg L F Hg b ≠ none → F b = none → h.get? b = zg.get? b) : HOk P w (kg L F Hg) h := fun b o e => by
  cases q : F b with
  | some o' =>
    have e' := kg_same L F Hg b o' q
    rw [e] at e'
    cases e'
    exact (ok b o q).stay (fun _ _ _ z => z) (fun c z => kg_same _ _ _ _ _ z) fun c xs z => kg_same _ _ _ _ _ z
  | none =>
    obtain ⟨_, e1, k⟩ := kg_own e q
    have hp := pv b (by rw [e]; exact fun z => by cases z) q
    have x := okg b o e1
    rcases k with ⟨xs, rfl⟩ | ⟨kvs, rfl⟩ | ⟨S, m, rfl⟩
    · exact let ⟨z, its, n, r, e⟩ := x; ⟨z, its, n, r, hp.trans e⟩
    · exact let ⟨z, y, vs, r, ob, es, ep, e, c⟩ := x; ⟨z, y, vs, r, ob, es, ep, hp.trans e, c⟩
    · exact let ⟨ob, es, ep, t, e, c⟩ := x; ⟨ob, es, ep, t, hp.trans e, c⟩
end
/-! ### all that is not tracked -/
def isCellB (o : Obj) : Bool := match o.data with
  | .cell _ => true
  | _ => false
theorem isCellB_false {o : Obj} : isCellB o = false ↔ ∀ v, o.data ≠ .cell v := by
  unfold isCellB
  constructor
  · intro h v e
    rw [e] at h
    cases h
  · intro h
    split
    · rename_i v e
      exact absurd e (h v)
    · rfl
def restAll (h : Heap) (H : Hp) (no : List Addr) : List (Addr × Obj) := (List.range h.objs.size).filterMap fun b => match h.get? b with
  | some o => if ((H b).isNone && !(decide (b ∈ no)) && !(isCellB o)) = true then some (b, o) else none
  | none => none
theorem mem_rest {h : Heap} {H : Hp} {no : List Addr} {b : Addr} {o : Obj} (e : h.get? b = some o) (n : H b = none) (hb : b ∉ no) (d : ∀ v, o.data ≠ .cell v) : (b, o) ∈ restAll h H no := by
  refine List.mem_filterMap.mpr ⟨b, List.mem_range.mpr (Heap.lt_size e), ?_⟩
  rw [e]
  refine if_pos ?_
  rw [n, isCellB_false.mpr d, decide_eq_false hb]
  rfl
theorem of_rest {h : Heap} {H : Hp} {no : List Addr} {p : Addr × Obj} (hp : p ∈ restAll h H no) : h.get? p.1 = some p.2 ∧ H p.1 = none ∧ p.1 ∉ no ∧ ∀ v, p.2.data ≠ .cell v := by
  obtain ⟨b, _, e⟩ := List.mem_filterMap.mp hp
  cases q : h.get? b with
  | none =>
    rw [q] at e
    cases e
  | some o =>
    rw [q] at e
    have e : (if ((H b).isNone && !(decide (b ∈ no)) && !(isCellB o)) = true then some (b, o) else none) = some p := e
    by_cases c : ((H b).isNone && !(decide (b ∈ no)) && !(isCellB o)) = true
    · rw [if_pos c] at e
      cases e
      rw [Bool.and_eq_true, Bool.and_eq_true] at c
      obtain ⟨⟨c1, c2⟩, c3⟩ := c
      exact ⟨q, Option.isNone_iff_eq_none.mp c1, of_decide_eq_false (by simpa using c2), isCellB_false.mp (by simpa using c3)⟩
    · rw [if_neg c] at e
      cases e
/-- the cells from n0 on, the generator's own things -/
def youngs (h : Heap) (G F : Hp) (n0 : Nat) : List Addr := (List.range h.objs.size).filter fun b => (decide (n0 < b) && (match h.get? b with | some o => isCellB o | none => false)) || ((G b).isSome && (F b).isNone)
theorem mem_young {h : Heap} {G F : Hp} {n0 : Nat} {b : Addr} {o : Obj} (e : h.get? b = some o) (hk : (n0 < b ∧ ¬ ∀ v, o.data ≠ .cell v) ∨ (G b ≠ none ∧ F b = none)) : b ∈ youngs h G F n0 := by
  refine List.mem_filter.mpr ⟨List.mem_range.mpr (Heap.lt_size e), ?_⟩
  rw [e]
  rcases hk with ⟨h1, h2⟩ | ⟨h1, h2⟩
  · have q : isCellB o = true := by
      cases q : isCellB o with
      | true => rfl
      | false => exact absurd (isCellB_false.mp q) h2
    show ((decide (n0 < b) && isCellB o) || _) = true
    rw [decide_eq_true h1, q]
    rfl
  · have q : (G b).isSome = true := Option.isSome_iff_ne_none.mpr h1
    rw [q, h2, Bool.or_eq_true]
    exact .inr rfl
theorem of_young {h : Heap} {G F : Hp} {n0 : Nat} {b : Addr} (hb : b ∈ youngs h G F n0) : n0 < b ∨ (G b ≠ none ∧ F b = none) := by
  have z := (List.mem_filter.mp hb).2
  rw [Bool.or_eq_true] at z
  rcases z with z | z
  · rw [Bool.and_eq_true] at z
    exact .inl (of_decide_eq_true z.1)
  · rw [Bool.and_eq_true] at z
    exact .inr ⟨Option.isSome_iff_ne_none.mp z.1, Option.isNone_iff_eq_none.mp z.2⟩
/-! ### the consumer's heap -/
/-- since H1 only lists, tuples, dicts, sets were laid or changed -/
structure Grow (H1 H : Hp) : Prop where
  same : Same (fz H1) H
  new : ∀ b o, H b = some o → fz H1 b = none → H1 b = some o ∨ solid o = true
theorem Grow.refl (H : Hp) : Grow H H := ⟨fz_same H, fun _ _ e _ => .inl e⟩
theorem Grow.upd {H1 H : Hp} {a : Addr} {o : HO} (g : Grow H1 H) (ha : fz H1 a = none) (ho : solid o = true) : Grow H1 (upd H a o) := by
  refine ⟨fun b u e => ?_, fun b u e n => ?_⟩
  · rw [upd_ne (fun z => by rw [z, ha] at e; cases e)]
    exact g.same b u e
  · by_cases hb : b = a
    · rw [hb, upd_same] at e
      cases e
      exact .inr ho
    · rw [upd_ne hb] at e
      exact g.new b u e n
/-- tuples that came with an item -/
def mrg (H T : Hp) : Hp := fun b => match H b with
  | some o => some o
  | none => match T b with
    | some (.tup xs) => some (.tup xs)
    | _ => none
theorem mrg_same (H T : Hp) : Same H (mrg H T) := fun b o e => by
  unfold mrg
  rw [e]
theorem mrg_new {H T : Hp} {b : Addr} {o : HO} (e : mrg H T b = some o) (n : H b = none) : ∃ xs, o = .tup xs ∧ T b = some (.tup xs) := by
  unfold mrg at e
  rw [n] at e
  cases q : T b with
  | none =>
    rw [q] at e
    cases e
  | some u =>
    rw [q] at e
    cases u with
    | tup xs => cases e; exact ⟨xs, rfl, rfl⟩
    | _ => cases e
theorem Grow.mrg {H1 H T : Hp} (g : Grow H1 H) : Grow H1 (mrg H T) := by
  refine ⟨g.same.trans (mrg_same H T), fun b o e n => ?_⟩
  cases q : H b with
  | some u =>
    have e' := mrg_same H T b u q
    rw [e] at e'
    cases e'
    exact g.new b o q n
  | none =>
    obtain ⟨xs, rfl, _⟩ := mrg_new e q
    exact .inr rfl
end EBG

/-! The consumer's state behind a segment of its generator. -/
namespace EBG
open PySem PySem.Spec PyProof.Rows L2 GenW EB
/-- the consumer's things lie below n0, what was there when the generator was made -/
structure Bel (X : Cx) (pins : List (Addr × Obj)) (n0 : Nat) : Prop where
  s0 : X.s_0.heap.objs.size ≤ n0
  loc : X.env.locals < n0
  cel : ∀ x c, X.env.cells.lookup x = some c → c < n0
  pin : ∀ p ∈ X.pn ++ pins, p.1 < n0
  fr : ∀ b ∈ frs X.stack, b < n0
theorem bel_of {X : Cx} {pins : List (Addr × Obj)} {σ : L2.St} {H : Hp} {sc : Shared} (I : Inv X pins σ H sc) : Bel X pins sc.heap.objs.size := by
  refine ⟨I.sz, I.lt, fun x c e => ?_, fun p hp => Heap.lt_size (I.pin p hp).1, fun b hb => ?_⟩
  · obtain ⟨v, o, e1, _⟩ := I.cell x c e
    exact Heap.lt_size e1
  · obtain ⟨_, o, e1, _⟩ := I.stack.mem hb
    exact Heap.lt_size e1
abbrev gX (X : Cx) (N : List Str) (qual : Str) (scope : Scope) (f : Addr) (cd : Value) (sc : Shared) (F : Hp) (ag : Addr) (go : Obj) : Cx := gx X.prog X.w X.K X.mg X.base N qual scope f cd X.stack sc F E0 [(ag, go)] X.A.in1
section
variable {X : Cx} {N : List Str} {qual : Str} {scope : Scope} {f : Addr} {cd : Value} {sc : Shared} {ag : Addr} {go : Obj} {pins : List (Addr × Obj)} {σ σ2 : L2.St} {H1 Hc H2 G Hr : Hp} {z z2 : Shared}
/-- no young thing of the consumer is a cell -/
theorem young_noncell {P : Program} {w : World} {h : Heap} {n0 : Nat} (hok : HOk P w Hc h) (gr : Grow H1 Hc) (hF1 : ∀ b : Addr, n0 ≤ b → H1 b = none) {b : Addr} {ob : HO} {o : Obj} (hb : n0 ≤ b) (e : Hc b = some ob) (eo : h.get? b = some o) : solid ob = true ∧ ∀ v, o.data ≠ .cell v := by
  have n1 := hF1 b hb
  have nf : fz H1 b = none := by
    unfold fz
    rw [n1]
  have s : solid ob = true := by
    rcases gr.new b ob e nf with q | q
    · rw [n1] at q
      cases q
    · exact q
  obtain ⟨q, eq, d⟩ := solid_obj s (hok b ob e)
  rw [eo] at eq
  cases eq
  exact ⟨s, d⟩
theorem behind (B : Bel X pins sc.heap.objs.size) (I : Inv X pins σ Hc z) (gr : Grow H1 Hc) (hF1 : ∀ b : Addr, sc.heap.objs.size ≤ b → H1 b = none) (hlg : Hc sc.heap.objs.size = none) (hag : Hc ag = none) (hgl : sc.heap.objs.size < ag)
    (J : Inv (reb (gX X N qual scope f cd sc (fz H1) ag go) (xeG (gX X N qual scope f cd sc (fz H1) ag go) E0) (cut z sc.heap.objs.size, G)) (restAll z.heap G (sc.heap.objs.size :: frs X.stack)) σ2 H2 z2) (hz : sc.heap.objs.size ≤ z.heap.objs.size)
    (s2 : Same (fz H1) H2) (hG : ∀ b : Addr, G b ≠ none → fz H1 b = none → sc.heap.objs.size < b ∧ Hc b = none) (hr : Hr = Hc ∨ Hr = mrg Hc H2) : Inv X pins σ Hr z2 := by
  have sR : Same Hc Hr := by
    rcases hr with rfl | rfl
    · exact fun _ _ e => e
    · exact mrg_same _ _
  have nR : ∀ {b o}, Hr b = some o → Hc b = none → ∃ xs, o = .tup xs ∧ H2 b = some (.tup xs) := by
    intro b o e n
    rcases hr with rfl | rfl
    · rw [n] at e
      cases e
    · exact mrg_new e n
  -- what the consumer does not share is as it was
  have kp : ∀ b o, z.heap.get? b = some o → G b = none → b ≠ sc.heap.objs.size → b ∉ frs X.stack → (sc.heap.objs.size ≤ b → ∀ v, o.data ≠ .cell v) → z2.heap.get? b = some o ∧ H2 b = none := fun b o e n h1 h2 h3 => by
    by_cases hb : sc.heap.objs.size ≤ b
    · have q := J.pin (b, o) (List.mem_append_right _ (mem_rest e n (fun y => (List.mem_cons.mp y).elim h1 h2) (h3 hb)))
      exact ⟨q.1, q.2.1⟩
    · have e' : (cut z sc.heap.objs.size).heap.get? b = some o := (cutH_lt (Nat.lt_of_not_le hb)).trans e
      exact ⟨J.base.keep b o e' n h2 List.not_mem_nil, J.base.free b o e' n List.not_mem_nil⟩
  have kf : ∀ b ∈ frs X.stack, ∀ o, z.heap.get? b = some o → (∃ sl, z2.heap.get? b = some { o with slots := sl }) ∧ H2 b = none := fun b hb o e => by
    have e' : (cut z sc.heap.objs.size).heap.get? b = some o := (cutH_lt (B.fr b hb)).trans e
    have n : G b = none := J.ok.frf b hb
    exact ⟨J.base.slot b o e' n hb List.not_mem_nil, J.base.free b o e' n List.not_mem_nil⟩
  have gN : ∀ b ob, Hc b = some ob → fz H1 b = none → G b = none := fun b ob e n => by
    cases q : G b with
    | none => rfl
    | some o =>
      have := (hG b (by rw [q]; exact fun z => by cases z) n).2
      rw [e] at this
      cases this
  have kc : ∀ b ob o, Hc b = some ob → fz H1 b = none → z.heap.get? b = some o → z2.heap.get? b = some o := fun b ob o e n eo =>
    (kp b o eo (gN b ob e n) (fun y => by rw [y, hlg] at e; cases e) (fun y => by rw [I.stkFree b y] at e; cases e) fun hb => (young_noncell I.hok gr hF1 hb e eo).2).1
  refine I.call' (ch := sc.heap.objs.size :: ag :: youngs z.heap G (fz H1) sc.heap.objs.size) J.os ⟨fun b o e n hb hc => ?_, fun b o e n hb hc => (kf b hb o e).1, fun b o e n hc => ?_, fun b o e hc => ?_, fun b xs e => sR _ _ e, fun b o u e => sR _ _ e, fun b ps e => ⟨#[], by rw [Array.append_empty]; exact sR _ _ e⟩⟩ (fun b ob e => ?_) J.bare fun b hb => ?_
  · have nf : fz H1 b = none := gr.same.free n
    refine (kp b o e ?_ (fun y => hc (y ▸ List.mem_cons_self ..)) hb fun hl => ?_).1
    · cases q : G b with
      | none => rfl
      | some u => exact absurd (List.mem_cons_of_mem _ (List.mem_cons_of_mem _ (mem_young e (.inr ⟨(by rw [q]; exact fun z => nomatch z), nf⟩)))) hc
    · refine Classical.byContradiction fun y => hc (List.mem_cons_of_mem _ (List.mem_cons_of_mem _ (mem_young e (.inl ⟨?_, y⟩))))
      exact Nat.lt_of_le_of_ne hl fun z => hc (z ▸ List.mem_cons_self ..)
  · cases q : Hr b with
    | none => rfl
    | some u =>
      obtain ⟨xs, _, e2⟩ := nR q n
      have nf : fz H1 b = none := gr.same.free n
      have contra : H2 b = none := by
        by_cases hb : b ∈ frs X.stack
        · exact (kf b hb o e).2
        refine (kp b o e ?_ (fun y => hc (y ▸ List.mem_cons_self ..)) hb fun hl => ?_).2
        · cases q : G b with
          | none => rfl
          | some u => exact absurd (List.mem_cons_of_mem _ (List.mem_cons_of_mem _ (mem_young e (.inr ⟨(by rw [q]; exact fun z => nomatch z), nf⟩)))) hc
        · refine Classical.byContradiction fun y => hc (List.mem_cons_of_mem _ (List.mem_cons_of_mem _ (mem_young e (.inl ⟨?_, y⟩))))
          exact Nat.lt_of_le_of_ne hl fun z => hc (z ▸ List.mem_cons_self ..)
      rw [contra] at e2
      cases e2
  · by_cases hb : b ∈ frs X.stack
    · obtain ⟨sl, q⟩ := (kf b hb o e).1
      exact ⟨_, q⟩
    cases qF : fz H1 b with
    | some u => exact obj_at J.hok (s2 b u qF)
    | none =>
      cases q : G b with
      | some u => exact absurd (List.mem_cons_of_mem _ (List.mem_cons_of_mem _ (mem_young e (.inr ⟨(by rw [q]; exact fun z => nomatch z), qF⟩)))) hc
      | none =>
        refine ⟨o, (kp b o e q (fun y => hc (y ▸ List.mem_cons_self ..)) hb fun hl => ?_).1⟩
        refine Classical.byContradiction fun y => hc (List.mem_cons_of_mem _ (List.mem_cons_of_mem _ (mem_young e (.inl ⟨?_, y⟩))))
        exact Nat.lt_of_le_of_ne hl fun z => hc (z ▸ List.mem_cons_self ..)
  · cases qc : Hc b with
    | none =>
      obtain ⟨xs, rfl, e2⟩ := nR e qc
      exact J.hok b _ e2
    | some u =>
      have e' := sR b u qc
      rw [e] at e'
      cases e'
      cases qF : fz H1 b with
      | some u =>
        have q1 := gr.same b u qF
        rw [qc] at q1
        cases q1
        exact mixO (kindF_of (fz_of qF).2) (I.hok b ob qc) (J.hok b ob (s2 b ob qF)) fun c q => sR _ _ q
      | none =>
        obtain ⟨o, eo⟩ := obj_at I.hok qc
        have nI : noIns ob = true := by
          rcases gr.new b ob qc qF with q | q
          · exact noIns_of (fz_not q qF)
          · exact solid_noIns q
        refine stayI nI (I.hok b ob qc) (fun q eq => ?_) fun c xs q => sR _ _ q
        exact kc b ob q qc qF eq
  · have big : sc.heap.objs.size ≤ b := by
      rcases List.mem_cons.mp hb with rfl | hb
      · exact Nat.le_refl _
      rcases List.mem_cons.mp hb with rfl | hb
      · exact Nat.le_of_lt hgl
      rcases of_young hb with q | ⟨q1, q2⟩
      · exact Nat.le_of_lt q
      · exact Nat.le_of_lt (hG b q1 q2).1
    exact ⟨.inr (Nat.le_trans B.s0 big), Nat.ne_of_gt (Nat.lt_of_lt_of_le B.loc big), fun x c e => Nat.ne_of_lt (Nat.lt_of_lt_of_le (B.cel x c e) big), fun p hp => Nat.ne_of_lt (Nat.lt_of_lt_of_le (B.pin p hp) big)⟩
end
end EBG

/-! Rules that keep the table of generators: for a body that is run while a generator sleeps. -/
namespace EBG
open PySem PySem.Spec PyProof.Rows L2 GenW EB
abbrev GK (s z : Shared) : Prop := z.gens = s.gens
structure KE (X : Cx) (e : Expr) (t : TE) : Prop where
  go : ∀ pins s σ H Q, Inv X pins σ H s → t σ H Q → wpAny (model X.prog X.w) X.A (eval e X.env) (fun u z => EP X pins σ Q u z ∧ GK s z) X.xe s
structure KT (X : Cx) (e : Expr) (t : TT) : Prop where
  go : ∀ pins s σ H Q, Inv X pins σ H s → t σ H Q → wpAny (model X.prog X.w) X.A (isTrue e X.env (eval e X.env)) (fun b z => TP X pins σ Q b z ∧ GK s z) X.xe s
structure KA (X : Cx) (es : List Expr) (t : TA) : Prop where
  go : ∀ pos pins s σ H Q, Inv X pins σ H s → t σ H Q → wpAny (model X.prog X.w) X.A (spliced (backTo pos (starEach es X.env))) (fun us z => AP X pins σ Q us z ∧ GK s z) X.xe s
structure KS (X : Cx) (st : Stmt) (t : TS) : Prop where
  go : ∀ pins s σ H D, Inv X pins σ H s → t D σ H → wpAny (model X.prog X.w) X.A (exec st X.env) (fun f z => SP X pins D f z ∧ GK s z) X.xe s
structure KSs (X : Cx) (st : List Stmt) (t : TS) : Prop where
  go : ∀ pins s σ H D, Inv X pins σ H s → t D σ H → wpAny (model X.prog X.w) X.A (execs st X.env) (fun f z => SP X pins D f z ∧ GK s z) X.xe s
structure KG (X : Cx) (e : Expr) (t : TG) : Prop where
  go : ∀ pins s σ H v u Q, Inv X pins σ H s → RelV v u → t v σ H Q → wpAny (model X.prog X.w) X.A (assign e X.env u) (fun _ z => (∃ σ' H', Inv X pins σ' H' z ∧ Q σ' H') ∧ GK s z) X.xe s
structure KGs (X : Cx) (es : List Expr) (t : TGs) : Prop where
  go : ∀ pins s σ H vs us Q, Inv X pins σ H s → Vals vs us → t vs σ H Q → wpAny (model X.prog X.w) X.A (assignInOrder ((assignEach es X.env).map (·.2)) us) (fun _ z => (∃ σ' H', Inv X pins σ' H' z ∧ Q σ' H') ∧ GK s z) X.xe s
section
variable {X : Cx} {e a b : Expr} {es : List Expr} {te ta tb : TE} {t : TA} {pos p : Pos} {st : Stmt} {rest : List Stmt}
theorem k_var {i : Nat} {x : Str} (hN : X.N[i]? = some x) (hv : Vis X.env.scope x) (hd : (x == ("__debug__" : Str)) = false := by decide) (hcd : (x == ("__classdict__" : Str)) = false := by decide) : KE X (.Name x pos) (tVar i) := ⟨fun pins s σ H Q I ⟨v, e1, q⟩ => by
  obtain ⟨m, ns, at_⟩ := I.loc
  obtain ⟨u, r, l⟩ := at_ i x v hN e1 hv
  have out : EP X pins σ Q u s ∧ GK s s := ⟨⟨v, H, I, r, q⟩, rfl⟩
  rcases l with ⟨k1, k2⟩ | ⟨k1 | k1, c, k2, k3⟩
  · exact wpAny_Name (wpAny_loadName_local I.ok.kind k1 ns k2 out) hd
  · exact wpAny_Name (wpAny_loadName_cell I.ok.kind k1 k2 k3 out) hd
  · exact wpAny_Name (wpAny_loadName_free I.ok.kind k1 k2 k3 out hcd) hd⟩
theorem k_int {i : Int} {j : Nat} : KE X (.Constant (.int i) j pos) (tC (.int i)) := ⟨fun _ _ _ H _ I q => wpAny_Constant_int ⟨⟨.int i, H, I.tok _, ⟨_, rfl⟩, q⟩, rfl⟩⟩
theorem k_str {x : Str} {j : Nat} : KE X (.Constant (.str x) j pos) (tC (.str x)) := ⟨fun _ _ _ H _ I q => Calls.Constant_str ⟨⟨.str x, H, I.tok _, ⟨_, rfl⟩, q⟩, rfl⟩⟩
theorem k_glob {x : Str} {v : V} {u : Value} (hg : Gl X x) (hm : X.mg x = some u) (r : RelV v u) (hd : (x == ("__debug__" : Str)) = false := by decide) : KE X (.Name x pos) (tC v) := ⟨fun _ _ _ H _ I q => ld_glob I hg hm ⟨⟨v, H, I, r, q⟩, rfl⟩ hd⟩
theorem ka_nil : KA X [] tNil := ⟨fun pos pins s σ H Q I q => Calls.spliced_nil ⟨⟨[], H, I, .nil, q⟩, rfl⟩⟩
theorem ka_cons (h : KE X e te) (h2 : KA X es t) (hs : starEach (e :: es) X.env = (false, eval e X.env) :: starEach es X.env := by rfl) : KA X (e :: es) (tCons te t) := ⟨fun pos pins s σ H Q I q => by
  rw [hs]
  show wpAny _ _ (spliced ((false, eval e X.env) :: backTo pos (starEach es X.env))) _ _ s
  exact Calls.spliced_cons (thn (h.go pins s σ H _ I q) fun u s1 ⟨⟨x, H1, I1, r1, q1⟩, g1⟩ => thn (h2.go pos pins s1 σ H1 _ I1 q1) fun us s2 ⟨⟨xs, H2, I2, r2, q2⟩, g2⟩ => ⟨⟨x :: xs, H2, I2, .cons r1 r2, q2⟩, g2.trans g1⟩)⟩
theorem k_tup {x1} (h : KA X es t) : KE X (.Tuple es x1 pos) (tTup t) := ⟨fun pins s σ H Q I q => by
  refine wpAny_Tuple_spliced (thn (h.go pos pins s σ H _ I q) fun us s1 ⟨⟨xs, H1, I1, r, z, q1⟩, g1⟩ => ⟨r.length ▸ z, ?_⟩)
  have new := I1.hok.fresh (Nat.le_refl s1.heap.objs.size)
  exact ⟨⟨.ref s1.heap.objs.size, _, I1.laid (o := .tup xs) (t' := s1.toks) (fun c w e1 => Heap.get?_push_of_some _ e1) (Nat.le_refl _) ⟨z, us, r, ⟨_, Heap.get?_push_size _ rfl, rfl, _, rfl⟩⟩, rfl, q1 _ new⟩, g1⟩⟩
def KOp (X : Cx) (f : Value → Value → Sem Value) (r : R2) : Prop := ∀ pins s σ H x y v u Q, Inv X pins σ H s → RelV x v → RelV y u → r x y H Q → wpAny (model X.prog X.w) X.A (f v u) (fun c z => EP X pins σ Q c z ∧ GK s z) X.xe s
theorem ko_add : KOp X (binaryOp .Add) (rI0 fun i j => .int (i + j)) := fun pins s σ H x y v u Q I rx ry ⟨i, j, e1, e2, q⟩ => by
  subst e1 e2
  obtain ⟨t1, rfl⟩ := rx
  obtain ⟨t2, rfl⟩ := ry
  exact add_int ⟨⟨.int (i + j), H, I.tok _, ⟨_, rfl⟩, q⟩, rfl⟩
theorem ko_mul : KOp X (binaryOp .Mult) (rI CMul fun i j => .int (i * j)) := fun pins s σ H x y v u Q I rx ry ⟨i, j, e1, e2, hc, q⟩ => by
  subst e1 e2
  obtain ⟨t1, rfl⟩ := rx
  obtain ⟨t2, rfl⟩ := ry
  exact mul_int ⟨⟨.int (i * j), H, I.tok _, ⟨_, rfl⟩, q⟩, rfl⟩ hc.ok
theorem k_op {op : Operator} {r : R2} (ho : KOp X (binaryOp op) r) (ha : KE X a ta) (hb : KE X b tb) : KE X (.BinOp a op b pos) (tOp r ta tb) := ⟨fun pins s σ H Q I q => by
  refine wpAny_BinOp (thn (ha.go pins s σ H _ I q) fun v s1 ⟨⟨x, H1, I1, r1, q1⟩, g1⟩ => thn (hb.go pins s1 σ H1 _ I1 q1) fun u s2 ⟨⟨y, H2, I2, r2, q2⟩, g2⟩ => ?_)
  exact thn (ho pins s2 σ H2 x y v u Q I2 r1 r2 q2) fun c z ⟨w, g3⟩ => ⟨w, g3.trans (g2.trans g1)⟩⟩
theorem ko_gt : KOp X (compareOp .Gt) (rI0 fun i j => .bl (decide (j < i))) := fun pins s σ H x y v u Q I rx ry ⟨i, j, e1, e2, q⟩ => by
  subst e1 e2
  obtain ⟨t1, rfl⟩ := rx
  obtain ⟨t2, rfl⟩ := ry
  exact PyProof.Rows.gt_int ⟨⟨.bl (decide (j < i)), H, I, rfl, q⟩, rfl⟩
theorem kt_cmp {op : CmpOp} {r : R2} (ho : KOp X (compareOp op) r) (ha : KE X a ta) (hb : KE X b tb) (hm : behindInMarks op b = false) : KT X (.Compare a [op] [b] pos) (tTest (tOp r ta tb)) := ⟨fun pins s σ H Q I q => by
  refine wpAny_isTrue_Compare1 (thn (ha.go pins s σ H _ I q) fun v s1 ⟨⟨x, H1, I1, r1, q1⟩, g1⟩ => thn (hb.go pins s1 σ H1 _ I1 q1) fun u s2 ⟨⟨y, H2, I2, r2, q2⟩, g2⟩ => thn (ho pins s2 σ H2 x y v u _ I2 r1 r2 q2) fun c s3 ⟨⟨z, H3, I3, r3, k, e1, q3⟩, g3⟩ => ?_) hm
  subst e1
  cases r3
  exact wpAny_truthy_bool ⟨⟨H3, I3, q3⟩, g3.trans (g2.trans g1)⟩⟩
/-- d[y] -/
theorem k_dget {o i : Expr} {td ty : TE} (hu : X.A.units + 1 < cLine) (ho : KE X o td) (hi : KE X i ty) (hs : NoSl i) : KE X (.Subscript o i pos) (tDGet td ty) := ⟨fun pins s σ H Q I q => by
  refine subD_of PySem.F.slot_dict_getitem.lookup hs (thn (ho.go pins s σ H _ I q) fun u s1 ⟨⟨x, H1, I1, rx, q1⟩, g1⟩ => thn (hi.go pins s1 σ H1 _ I1 q1) fun iv s2 ⟨⟨y, H2, I2, ry, da, v, ex, g, q2⟩, g2⟩ => ?_)
  subst ex
  cases (show u = Value.ref da from rx)
  refine ⟨dict_typeIs I2 g, ?_⟩
  rcases g with ⟨kvs, k, e1, ey, l⟩ | ⟨kvs, k, kb, e1, ey, eb, l⟩
  · subst ey
    obtain ⟨_, _, vs, rel, dd⟩ := dk_rd I2.hok e1
    obtain ⟨w', hw, rw'⟩ := RelO.some_of (v := v) (o := valueAt vs k) (l ▸ rel.val k)
    exact wpAny_getItem_of (kV_is ry) dd.mapOf hw ⟨⟨v, H2, I2.tok _, rw', q2⟩, g2.trans g1⟩
  · subst ey
    cases (show iv = Value.ref kb from ry)
    obtain ⟨_, _, xs, rel, dd⟩ := dt_rd I2.hok e1
    obtain ⟨w', hw, rw'⟩ := RelO.some_of (v := v) (o := (atKey xs k).map (·.2)) (l ▸ rel.val k)
    obtain ⟨pr, hp, hp2⟩ := Option.map_eq_some_iff.mp hw
    refine wpAny_getItem_heap (tupleKind_room_in1 hu) (key_of I2.hok eb) dd hp ?_
    rw [hp2]
    exact ⟨⟨v, H2, I2.tok _, rw', q2⟩, g2.trans g1⟩⟩
theorem k_divmod {x : Str} (hg : Gl X x) (hm : X.mg x = none) (hv : bootBuiltins x = some (.builtin "divmod")) (ha : KA X (e :: es) t) (hn : x ≠ "__name__" := by decide) (hdb : (x == ("__debug__" : Str)) = false := by decide)
    (he : starEach (e :: es) X.env = (false, eval e X.env) :: starEach es X.env := by rfl) (hpl : (backTo pos (starEach es X.env)).any (·.1) = false := by rfl) :
    KE X (.Call (.Name x p) (e :: es) [] pos) (tCB (fun xs H Q => ∃ i j, xs = [.int i, .int j] ∧ CDiv i j ∧ ∀ q, H q = none → Q (.ref q) (upd H q (.tup [.int (i / j), .int (i % j)]))) t) := ⟨fun pins s σ H Q I q => by
  refine wpAny_Call_Name_kw (ld_blt I hg hm hv ?_ hn hdb)
  refine PyProof.Rows.callWith_builtin1 (thn (ha.go pos pins s σ H _ I q) fun us s1 ⟨⟨vs, H1, I1, r1, i, j, ev, ⟨h1, h2⟩, q1⟩, g1⟩ => ?_) he hpl
  subst ev
  obtain ⟨u, u', rfl, ⟨t1, rfl⟩, ⟨t2, rfl⟩⟩ := vals2 r1
  refine divmod_int (by omega) ?_ (.inl (PyProof.noPylong_small (by omega)))
  rw [Int.fdiv_eq_ediv_of_nonneg i (by omega), Int.fmod_eq_emod_of_nonneg i (by omega)]
  refine ⟨⟨.ref s1.heap.objs.size, _, ?_, rfl, q1 _ (I1.hok.fresh (Nat.le_refl _))⟩, g1⟩
  exact I1.laid (fun c o e1 => Heap.get?_push_of_some _ e1) (Nat.le_refl _) ⟨by show 2 ≤ sizeLine; decide, [.int (i / j) s1.toks, .int (i % j) (s1.toks + 1)], .cons ⟨_, rfl⟩ (.cons ⟨_, rfl⟩ .nil), ⟨_, Heap.get?_push_size s1.heap rfl, rfl, 0, rfl⟩⟩⟩
/-! ### targets -/
theorem inv_stored {pins : List (Addr × Obj)} {σ : L2.St} {H : Hp} {s : Shared} {i : Nat} {x : Str} {v : V} {u : Value} {m : Str → Option Value} {h' : Heap} {tk : Nat} (I : Inv X pins σ H s) (hN : X.N.Nodup) (hi : X.N[i]? = some x) (hk : X.env.kindOf x = some .local) (r : RelV v u)
    (hm : s.heap.Ns X.env.locals m) (look : ∀ (i : Nat) (x : Str) (v : V), X.N[i]? = some x → σ[i]? = some (some v) → Vis X.env.scope x → ∃ u, RelV v u ∧ Look X.env s.heap m x u) (ns : h'.Ns X.env.locals (fun y => if y = x then some u else m y)) (sb : Heap.SameBut X.env.locals s.heap h') :
    Inv X pins (σ.set i (some v)) H { s with heap := h', toks := tk } := by
  have young : ∀ b o, X.s_0.heap.get? b = some o → b ≠ X.env.locals := fun b o e1 => Nat.ne_of_lt (Nat.lt_of_lt_of_le (Heap.lt_size e1) I.ok.above)
  have hiσ : i < σ.length := I.len ▸ (List.getElem?_eq_some_iff.mp hi).1
  refine ⟨I.ok, I.os, I.bare, ⟨fun b o e1 n hb hx => (sb.2 b (young b o e1)).trans (I.base.keep b o e1 n hb hx), fun b o e1 n hb hx => ?_, I.base.free, fun b o e1 hx => ?_, I.base.tups, I.base.frzs, I.base.tbls⟩, ⟨_, ns, fun j y w e1 e2 e3 => ?_⟩, fun y c e1 => ?_, I.free, I.freeC, fun pr hp => ?_, fun b ob e1 => ?_, by rw [List.length_set]; exact I.len⟩
  · obtain ⟨sl, e2⟩ := I.base.slot b o e1 n hb hx
    exact ⟨sl, (sb.2 b (young b o e1)).trans e2⟩
  · obtain ⟨o', e2⟩ := I.base.there b o e1 hx
    exact ⟨o', (sb.2 b (young b o e1)).trans e2⟩
  · by_cases hj : j = i
    · subst hj
      rw [hi] at e1
      cases e1
      rw [List.getElem?_set_self hiσ] at e2
      cases e2
      exact ⟨u, r, .inl ⟨hk, if_pos rfl⟩⟩
    · rw [List.getElem?_set_ne (Ne.symm hj)] at e2
      obtain ⟨u', r', l⟩ := look j y w e1 e2 e3
      refine ⟨u', r', ?_⟩
      rcases l with ⟨k1, k2⟩ | ⟨k1, c, k2, k3⟩
      · have hy : y ≠ x := fun z => hj (nodup_ix hN e1 (z.symm ▸ hi))
        exact .inl ⟨k1, by show (if y = x then _ else _) = _; rw [if_neg hy]; exact k2⟩
      · exact .inr ⟨k1, c, k2, k3.sameBut sb (I.cne y c k2)⟩
  · obtain ⟨w, k⟩ := I.cell y c e1
    exact ⟨w, k.sameBut sb (I.cne y c e1)⟩
  · obtain ⟨k1, k2, k3, k4⟩ := I.pin pr hp
    exact ⟨(sb.2 pr.1 k3).trans k1, k2, k3, k4⟩
  · refine (I.hok b ob e1).stay (fun c w hc k => (sb.2 c ?_).trans k) (fun _ k => k) fun _ _ k => k
    rintro rfl
    rcases hc with rfl | hc
    · rw [I.free] at e1
      cases e1
    · rw [I.free] at hc
      cases hc
theorem kg_name {i : Nat} {x : Str} (hN : X.N.Nodup) (hi : X.N[i]? = some x) (hk : X.env.kindOf x = some .local) : KG X (.Name x pos) (gName i) := ⟨fun pins s σ H v u Q I r q => by
  obtain ⟨m, ns, look⟩ := I.loc
  refine wpAny_assign_Name (wpAny_storeName_local hk ns (fun h' ns' sb => ⟨⟨σ.set i (some v), H, inv_stored I hN hi hk r ns look ns' sb, q⟩, rfl⟩) ?_)
  rw [I.ok.kind]
  rfl⟩
theorem kgs_nil : KGs X [] gNil := ⟨fun pins s σ H vs us Q I r ⟨e1, q⟩ => by
  subst e1
  cases r
  exact assignInOrder_nil ⟨⟨σ, H, I, q⟩, rfl⟩⟩
theorem kgs_cons {g : TG} {gs : TGs} (h : KG X e g) (h2 : KGs X es gs) (hs : (assignEach (e :: es) X.env).map (·.2) = assign e X.env :: (assignEach es X.env).map (·.2) := by rfl) : KGs X (e :: es) (gCons g gs) := ⟨fun pins s σ H vs us Q I r ⟨v, vr, e1, q⟩ => by
  subst e1
  cases r with
  | cons r rr =>
    rw [hs]
    exact assignInOrder_cons (thn (h.go pins s σ H _ _ _ I r q) fun _ s1 ⟨⟨σ1, H1, I1, q1⟩, g1⟩ => thn (h2.go pins s1 σ1 H1 _ _ Q I1 rr q1) fun _ s2 ⟨w, g2⟩ => ⟨w, g2.trans g1⟩)⟩
theorem kg_tup {k : Nat} {gs : TGs} {n : Nat} (hc : X.calm = true) (h : KGs X es gs) (hn : (assignEach es X.env).length = n := by rfl) (hst : (assignEach es X.env).findIdx? (·.1) = none := by rfl) : KG X (.Tuple es k pos) (gTup X.K n gs) := ⟨fun pins s σ H v u Q I r ⟨ad, xs, e1, hq, hl, q⟩ => by
  subst e1
  cases r
  obtain ⟨its, rv, ht, hz⟩ := I.tuple hq
  refine assign_Tuple_tuple (I.ok.hd hc) ht (by simp [hn, ← hl, rv.length]) hst fun h' hx => ?_
  exact h.go pins _ σ H xs _ Q (I.kept (t' := s.toks) fun c o e1 => hx c o (Nat.ne_of_lt (Heap.lt_size e1)) e1) (by simpa using rv) q⟩
/-- d[y] = v as a target -/
theorem kg_dset {o i : Expr} {to ti : TE} (hu : X.A.units + 1 < cLine) (ho : KE X o to) (hi : KE X i ti)
    (ha : ∀ v, assign (.Subscript o i pos) X.env v = (do
      let ov ← holding [v] (eval o X.env)
      let iv ← holding [v, ov] (eval i X.env)
      standAt pos
      holding [v, ov, iv] (setItem ov iv v)
      release [v, ov, iv] []) := by intro _; rfl) : KG X (.Subscript o i pos) (gSub to ti fun o i v H Q => ∃ ad kvs k, o = .ref ad ∧ H ad = some (.dK kvs) ∧ i = kV k ∧ kvs.length < sizeLine ∧ Q (upd H ad (.dK (putK kvs k v)))) := ⟨fun pins s σ H v u Q I r q => by
  rw [ha]
  refine wpAny_bind (wpAny_holding (thn (ho.go pins s σ H _ I q) fun ov s1 ⟨⟨x, H1, I1, r1, q1⟩, g1⟩ => ?_))
  refine wpAny_bind (wpAny_holding (thn (hi.go pins s1 σ H1 _ I1 q1) fun iv s2 ⟨⟨y, H2, I2, r2, ad, kvs, k, ex, eH, ey, hl, q2⟩, g2⟩ => ?_))
  subst ex ey
  cases (show ov = Value.ref ad from r1)
  obtain ⟨z, hd, vs, rel, dd⟩ := dk_of I2.hok eH
  have lp : (putK kvs k v).length ≤ sizeLine := by
    have := length_putK kvs k v
    omega
  refine wpAny_bind (wpAny_standAt (wpAny_bind (wpAny_holding (wpAny_setItem_pairs (hsz := by rw [← rel.length]; exact z) (kV_is r2) dd fun h' dd' hs => wpAny_release ⟨⟨σ, _, ?_, q2⟩, g2.trans g1⟩))))
  exact d_write I2 (by rw [eH]; exact True.intro) hs (let ⟨w, _, _, hw, _⟩ := dd'; ⟨w, hw⟩) (dk_new lp hd (rel.put k r) dd')⟩
/-! ### statements -/
theorem ks_asg {tg : Expr} {g : TG} (he : KE X e te) (hg : KG X tg g) (hs : swapsWithSole [tg] e pos.line X.env = pure false := by rfl) (hw : swappedStores [tg] e X.env = pure none := by rfl) (h1 : (assignEach [tg] X.env).map (·.2) = [assign tg X.env] := by rfl) : KS X (.Assign [tg] e pos) (tAsg te g) := ⟨fun pins s σ H D I q => by
  refine wpAny_Assign_stores (thn (he.go pins s σ H _ I q) fun v s1 ⟨⟨x, H1, I1, r1, q1⟩, g1⟩ => ?_) hs hw
  rw [h1]
  exact thn (hg.go pins s1 σ H1 x v _ I1 r1 q1) fun _ s2 ⟨w, g2⟩ => ⟨w, g2.trans g1⟩⟩
theorem ks_expr (he : KE X e te) (hs : swapsWith e none pos.line X.env = pure false := by rfl) : KS X (.Expr e pos) (tDrop te) := ⟨fun pins s σ H D I q =>
  wpAny_Expr_any (thn (he.go pins s σ H _ I q) fun v s1 ⟨⟨x, H1, I1, _, q1⟩, g1⟩ => ⟨⟨σ, H1, I1, q1⟩, g1⟩) I.quiet hs⟩
theorem ks_if {c : Expr} {sa sb : List Stmt} {tc : TT} {t1 t2 : TS} (hc : KT X c tc) (ha : KSs X sa t1) (hb : KSs X sb t2) : KS X (.If c sa sb pos) (tIfS tc t1 t2) := ⟨fun pins s σ H D I q => by
  refine wpAny_If (thn (hc.go pins s σ H _ I q) fun d s1 ⟨⟨H1, I1, q1⟩, g1⟩ => ?_)
  cases d with
  | true => exact thn (ha.go pins s1 σ H1 D I1 q1) fun f z ⟨w, g2⟩ => ⟨w, g2.trans g1⟩
  | false => exact thn (hb.go pins s1 σ H1 D I1 q1) fun f z ⟨w, g2⟩ => ⟨w, g2.trans g1⟩⟩
theorem kss_nil : KSs X [] tNext := ⟨fun pins s σ H D I q => wpAny_execs_nil ⟨⟨σ, H, I, q⟩, rfl⟩⟩
theorem kss_cons {t1 t2 : TS} (h : KS X st t1) (h2 : KSs X rest t2) : KSs X (st :: rest) (tSeq t1 t2) := ⟨fun pins s σ H D I q => by
  refine wpAny_execs_cons (thn (h.go pins s σ H { D with nx := t2 D } I q) fun f s1 ⟨q1, g1⟩ => ?_)
  cases f with
  | next =>
    obtain ⟨σ', H', I', q2⟩ := q1
    exact thn (h2.go pins s1 σ' H' D I' q2) fun f z ⟨w, g2⟩ => ⟨w, g2.trans g1⟩
  | ret v => exact ⟨q1, g1⟩
  | brk => exact ⟨q1, g1⟩
  | cont => exact ⟨q1, g1⟩⟩
/-- xs.append(e) -/
theorem k_append {o : Expr} {to : TE} {apos : Pos} (ho : KE X o to) (he : KE X e te) (hbase : attributeBase o "append" X.env (eval o X.env) = eval o X.env := by rfl)
    (hfew : ((backTo pos (starEach [e] X.env)).all (fun x => !x.1) && (backToKw pos (keywordEach [] X.env)).all (fun x => x.1.isSome) && decide ([e].length + ([] : List Keyword).length + (if ([] : List Keyword).isEmpty then 0 else 1) < 30)) = true := by rfl)
    (hline : (apos.endLine == pos.line) = true := by rfl) (hs : starEach [e] X.env = (false, eval e X.env) :: starEach [] X.env := by rfl) (hplain : (backTo pos (starEach [] X.env)).any (·.1) = false := by rfl) :
    KE X (.Call (.Attribute o "append" apos) [e] [] pos) (tBM X.K "list" rAppend to (tCons te tNil)) := ⟨fun pins s σ H Q I q => by
  refine wpAny_Call_method_late hbase hfew hline rfl (thn (ho.go pins s σ H _ I q) fun v s1 ⟨⟨x, H1, I1, r1, ty, q1⟩, g1⟩ => ?_)
  obtain ⟨h1, h2⟩ := tyV_is I1 r1 ty
  refine ⟨"list", "list.append", PySem.F.plainAttrs_list, PySem.F.slot_list_append, PySem.F.type_list_append, h1, h2, ?_⟩
  have hA := (ka_cons (X := X) he ka_nil hs).go pos pins s1 σ H1 _ I1 q1
  rw [hs] at hA ⊢
  refine Calls.callWith_builtin (by show (false || (backTo pos (starEach [] X.env)).any (·.1)) = false; rw [hplain] <;> rfl) (Calls.evalArgs_plain (thn hA fun us s2 ⟨⟨vs, H2, I2, r2, l, xs, y, ex, ev, eH, hz, q2⟩, g2⟩ => ?_))
  subst ex ev
  cases (show v = Value.ref l from r1)
  obtain ⟨u, rfl, ru⟩ := r2.one
  obtain ⟨_, its, n, r, hl, e1⟩ := I2.lstM eH
  refine call_meets F.slot_list_append ⟨_, e1, rfl⟩ F.entry_list_append (F.args_list_append_2 _ _) (PySem.list_append l its.toArray n u (by rw [List.size_toArray]; omega)) ⟨e1, ?_⟩
  refine ⟨⟨.non, _, I2.lset (its' := its ++ [u]) eH e1 (by simp) (r.append (.cons ru .nil)) ?_, rfl, q2⟩, g2.trans g1⟩
  rw [List.length_append, List.length_singleton]
  omega⟩
end
end EBG

/-! A for over an own generator, its body any. -/
namespace EBG
open PySem PySem.Spec PyProof.Rows L2 GenW EB
theorem e0_no {P : Program} {w : World} {outer : List Env} {H : Hp} {s z : Shared} {e : Value} (h : CX P w outer H s E0 e z) : False := by
  obtain ⟨_, _, _, _, _, _, _, _, _, _, _, _, q⟩ := h
  exact q
theorem aft_of {X0 : Cx} {xe : XeF} {T : Told} {A : Around} {n : Nat} {a : Bs} {C : List (Addr × Obj)} {ys : List V} {r : Result} {z : Shared} (h : Aft X0 xe T A n a C ys (.ret r) z) : AftR X0 xe T a C ys r z := by
  cases n <;> exact h
section
variable (X : Cx) (N : List Str) (qual : Str) (scope : Scope) (f : Addr) (cd : Value) (sc : Shared) (ag : Addr) (go : Obj) (H1 : Hp) (Yp : List V → V → Hp → Prop) (Fin : List V → Prop) (g : Nat)
/-- it sleeps -/
def Slp (ys : List V) (Hc : Hp) (z : Shared) : Prop :=
  ∃ (gs : GenState) (a : Bs) (C : List (Addr × Obj)) (σg : L2.St) (Hg : Hp) (zg : Shared) (n : Nat), n + ys.length = sizeLine ∧ z.gens[g]? = some gs ∧ z.heap.get? ag = some go ∧ Hc ag = none ∧ Hc sc.heap.objs.size = none ∧
    z.heap.get? sc.heap.objs.size = zg.heap.get? sc.heap.objs.size ∧ Inv (reb (gX X N qual scope f cd sc (fz H1) ag go) (xeG (gX X N qual scope f cd sc (fz H1) ag go) E0) a) C σg Hg zg ∧ Same (fz H1) Hg ∧
    (∀ b, kg sc.heap.objs.size (fz H1) Hg b ≠ none → fz H1 b = none → Hc b = none ∧ z.heap.get? b = zg.heap.get? b) ∧
    ∀ a' C' z', Inv (reb (gX X N qual scope f cd sc (fz H1) ag go) (xeG (gX X N qual scope f cd sc (fz H1) ag go) E0) a') C' σg (kg sc.heap.objs.size (fz H1) Hg) z' →
      Woken1 (model X.prog X.w) X.A.in1 (Aft (gX X N qual scope f cd sc (fz H1) ag go) (xeG (gX X N qual scope f cd sc (fz H1) ag go) E0) ⟨fz H1, Yp, Fin, excG (gX X N qual scope f cd sc (fz H1) ag go) E0⟩ X.A.in1 n a' C' ys) gs z'
end
section
variable {X : Cx} {N : List Str} {qual : Str} {scope : Scope} {f : Addr} {cd : Value} {sc : Shared} {ag : Addr} {go : Obj} {H1 Hc : Hp} {Yp : List V → V → Hp → Prop} {Fin : List V → Prop} {g : Nat} {pins : List (Addr × Obj)} {σ σ1 : L2.St} {z : Shared} {ys : List V} {k : Nat}
/-- what is known of the generator's own object, of the state at its making -/
structure GAt (X : Cx) (pins : List (Addr × Obj)) (σ1 : L2.St) (H1 : Hp) (sc : Shared) (ag : Addr) (go : Obj) (g : Nat) (scope : Scope) : Prop where
  inv : Inv X pins σ1 H1 sc
  lt : sc.heap.objs.size < ag
  ncell : ∀ v, go.data ≠ .cell v
  noc : ∀ n, cellsFrom n scope.names [] = []
  gen : ∀ h : Heap, h.get? ag = some go → h.IsGen ag g
theorem wake {E : Value → Shared → Prop} (hc : X.calm = true) (hr : Room k X.A) (G : GAt X pins σ1 H1 sc ag go g scope) (I : Inv X pins σ Hc z) (gr : Grow H1 Hc) (S : Slp X N qual scope f cd sc ag go H1 Yp Fin g ys Hc z) :
    wpAny (model X.prog X.w) X.A (pyNext (.ref ag)) (fun r z2 => match r with
      | none => Fin ys ∧ Inv X pins σ Hc z2
      | some v => ∃ x H2, RelV x v ∧ Yp ys x H2 ∧ Inv X pins σ (mrg Hc H2) z2 ∧ Slp X N qual scope f cd sc ag go H1 Yp Fin g (ys ++ [x]) (mrg Hc H2) z2) E z := by
  obtain ⟨gs, a, C, σg, Hg, zg, n, hn, hgs, hgo, nag, nlg, klg, J, sG, pv, go1⟩ := S
  have B := bel_of G.inv
  have hF1 : ∀ b : Addr, sc.heap.objs.size ≤ b → H1 b = none := fun b hb => G.inv.hok.fresh hb
  have szz : sc.heap.objs.size ≤ z.heap.objs.size := Nat.le_of_lt (Nat.lt_trans G.lt (Heap.lt_size hgo))
  have bare' : AllBare (z.setGen g .running).gens := allBare_setGen I.bare rfl
  have I' : Inv X pins σ Hc (z.setGen g .running) := ⟨I.ok, I.os, bare', I.base, I.loc, I.cell, I.free, I.freeC, I.pin, I.hok, I.len⟩
  have okF : HOk X.prog X.w (fz H1) z.heap := fz_down G.inv.hok I.hok gr.same
  have nfa : fz H1 ag = none := gr.same.free nag
  have kag : kg sc.heap.objs.size (fz H1) Hg ag = none := by
    have q := J.pin (ag, go) (List.mem_append_left _ (List.mem_singleton.mpr rfl))
    exact kg_none sG q.2.1
  have hpv : ∀ b : Addr, kg sc.heap.objs.size (fz H1) Hg b ≠ none → fz H1 b = none → sc.heap.objs.size < b ∧ Hc b = none := fun b h1 h2 => by
    obtain ⟨o, e⟩ := Option.ne_none_iff_exists'.mp h1
    exact ⟨(kg_own e h2).1, (pv b h1 h2).1⟩
  have J' := rebase (z' := z.setGen g .running) (n0 := sc.heap.objs.size) (C' := restAll z.heap (kg sc.heap.objs.size (fz H1) Hg) (sc.heap.objs.size :: frs X.stack)) J sG (G.noc _) rfl (Nat.le_refl _) G.inv.env0.bsz B.fr
    (fun o e => by rw [← e]; exact klg) I.bk I.stack bare' (kg_down okF J.hok fun b h1 h2 => (pv b h1 h2).2) (fun p hp => by
      rcases List.mem_append.mp hp with y | y
      · rw [List.mem_singleton.mp y]
        exact ⟨hgo, kag, Nat.ne_of_gt G.lt, fun y => Nat.lt_irrefl _ (Nat.lt_trans G.lt (B.fr _ y)), G.ncell⟩
      · obtain ⟨e, n, nm, d⟩ := of_rest y
        exact ⟨e, n, fun y => nm (y ▸ List.mem_cons_self ..), fun y => nm (List.mem_cons_of_mem _ y), d⟩)
  refine next1 (I.ok.hd hc) I.nolimit (by have := hr.dp; omega) (G.gen _ hgo) hgs (go1 _ _ _ J') (fun e z2 q => aft_quiet q) (fun v gd l kk c q fs z2 hz hgz => ?_) (fun fl z2 hz => ?_) fun e z2 hz => ?_
  · obtain ⟨m, rfl⟩ : ∃ m, n = m + 1 := by
      cases n with
      | zero => exact absurd hz id
      | succ m => exact ⟨m, rfl⟩
    obtain ⟨hq, x, σ2, H2, rv, hy, J2, s2, cont⟩ := hz
    have Ib : Inv X pins σ (mrg Hc H2) z2 := behind B I' gr hF1 nlg nag G.lt J2 szz s2 hpv (.inr rfl)
    have bare2 : AllBare (z2.setGen g (End.susp v gd l kk c q fs).genState).gens := allBare_setGen J2.bare (by simpa [GenState.bare, End.genState, End.quiet] using hq)
    have nm : ∀ b, Hc b = none → H2 b = none → mrg Hc H2 b = none := fun b h1 h2 => by
      cases q : mrg Hc H2 b with
      | none => rfl
      | some u =>
        obtain ⟨xs, _, e⟩ := mrg_new q h1
        rw [h2] at e
        cases e
    have pag := J2.pin (ag, go) (List.mem_append_left _ (List.mem_singleton.mpr rfl))
    refine ⟨x, H2, rv, hy, ⟨Ib.ok, Ib.os, bare2, Ib.base, Ib.loc, Ib.cell, Ib.free, Ib.freeC, Ib.pin, Ib.hok, Ib.len⟩, _, _, _, σ2, H2, z2, m, ?_, setGen_at hgz, pag.1, nm _ nag pag.2.1, nm _ nlg J2.free, rfl, J2, s2, fun b h1 h2 => ⟨?_, rfl⟩, fun a' C' z' J3 => ?_⟩
    · rw [List.length_append, List.length_singleton]
      omega
    · obtain ⟨o, e⟩ := Option.ne_none_iff_exists'.mp h1
      obtain ⟨hlt, e2, ksn⟩ := kg_own e h2
      have hc0 : Hc b = none := by
        by_cases hk : kg sc.heap.objs.size (fz H1) Hg b = none
        · cases qc : Hc b with
          | none => rfl
          | some u =>
            obtain ⟨ob, eo⟩ := obj_at I.hok qc
            have nc := (young_noncell I.hok gr hF1 (Nat.le_of_lt hlt) qc eo).2
            have := (J2.pin (b, ob) (List.mem_append_right _ (mem_rest eo hk (fun y => (List.mem_cons.mp y).elim (Nat.ne_of_gt hlt) fun y => Nat.lt_irrefl _ (Nat.lt_trans hlt (B.fr _ y))) nc))).2.1
            have this : H2 b = none := this
            rw [this] at e2
            cases e2
        · exact (hpv b hk h2).2
      cases q : mrg Hc H2 b with
      | none => rfl
      | some u =>
        obtain ⟨xs, _, e3⟩ := mrg_new q hc0
        rw [e2] at e3
        rcases ksn with ⟨_, rfl⟩ | ⟨_, rfl⟩ | ⟨_, _, rfl⟩ <;> cases e3
    · exact cont a' C' z' J3
  · have hz := aft_of hz
    obtain ⟨hf, fin, σ2, H2, J2, s2⟩ := hz
    have Ib : Inv X pins σ Hc z2 := behind B I' gr hF1 nlg nag G.lt J2 szz s2 hpv (.inl rfl)
    refine ⟨hf, fun h' kp => ⟨fin, ?_⟩⟩
    have bare2 : AllBare (z2.setGen g .finished).gens := allBare_setGen J2.bare rfl
    have Ic : Inv X pins σ Hc (z2.setGen g .finished) := ⟨Ib.ok, Ib.os, bare2, Ib.base, Ib.loc, Ib.cell, Ib.free, Ib.freeC, Ib.pin, Ib.hok, Ib.len⟩
    exact Ic.kept (t' := (z2.setGen g .finished).toks) kp
  · have hz := aft_of hz
    exact (e0_no hz.1).elim
end
/-! ### a call that makes a generator -/
abbrev TG1 := L2.St → Hp → (Hp → (List V → V → Hp → Prop) → (List V → Prop) → Prop) → Prop
theorem fz_none {H : Hp} {b : Addr} (e : H b = none) : fz H b = none := by
  unfold fz
  rw [e]
theorem env0_fz {P : Program} {w : World} {K : PySem.W.Frag} {mg : Str → Option Value} {base : Heap} {A : Around} {outer : List Env} {s : Shared} {H : Hp} (e : Env0 P w K mg base A outer s H) : Env0 P w K mg base A outer s (fz H) :=
  ⟨e.frames, e.mod, fun b o q => ⟨(e.bs b o q).1, fz_none (e.bs b o q).2⟩, e.bsz, e.funs, fun b hb => fz_none (e.frf b hb), fz_down e.hok e.hok (fz_same H), e.bare⟩
structure PGen1 (X : Cx) (k : Nat) (e : Expr) (tg : TG1) : Prop where
  run : ∀ (pins : List (Addr × Obj)) (s : Shared) (σ : L2.St) (H : Hp) cont, Inv X pins σ H s → tg σ H cont → wpAny (model X.prog X.w) X.A (eval e X.env)
    (fun u s' => ∃ H1 sc Yp Fin, Inv X pins σ H1 sc ∧ GMade1 X.prog X.w X.K X.mg X.base k X.stack (fz H1) Yp Fin E0 sc u s' ∧ cont H1 Yp Fin) X.xe s
section
variable {X : Cx} {k : Nat} {f C : Addr} {fd : FuncData} {ps : List Str} {sp : SP1} {dvs : List V} {ds : List Value} {x m : Str} {p pos pos' apos : Pos} {o : Expr} {ta : TE}
theorem run_gfn1 {pins : List (Addr × Obj)} {σ : L2.St} {H : Hp} {s : Shared} {us : List Value} {vs : List V} {cont : Hp → (List V → V → Hp → Prop) → (List V → Prop) → Prop} {Yp : List V → V → Hp → Prop} {Fin : List V → Prop} {E1 : Value → Shared → Prop} (F : GFn1 X.prog X.w X.K X.mg X.base k f fd ps sp) (hr : Room k X.A) (hb : Binds X.K fd ps ds) (hd : Vals dvs ds)
    (I : Inv X pins σ H s) (r : Vals vs us) (h : sp (vs ++ dvs) (fz H) Yp Fin E0) (c : cont H Yp Fin) :
    wpAny (model X.prog X.w) X.A (call (.ref f) us) (fun u s' => ∃ H1 sc Yp Fin, Inv X pins σ H1 sc ∧ GMade1 X.prog X.w X.K X.mg X.base k X.stack (fz H1) Yp Fin E0 sc u s' ∧ cont H1 Yp Fin) E1 s := by
  have r2 := r.append hd
  have hl : (us ++ ds).length = ps.length := r2.length.symm.trans (F.len _ _ _ _ _ h)
  refine wpAny_call (codeAny_mono (F.run X.A X.stack s (fz H) ⟨us, []⟩ (us ++ ds) (vs ++ dvs) Yp Fin E0 hr (env0_fz I.env0) (hb s us I.kIn hl) r2 h) fun q s' hq => ?_)
  cases q with
  | error e => exact hq.elim
  | ok fl =>
    cases fl with
    | ret u => exact ⟨H, s, Yp, Fin, I, hq, c⟩
    | next => exact hq.elim
    | brk => exact hq.elim
    | cont => exact hq.elim
def tMeth1 (C : Addr) (m : Str) (sp : SP1) (dvs : List V) (ta : TE) (t : TA) : TG1 := fun σ H cont => ta σ H fun x H1 => ∃ a dx fs, x = .ref a ∧ H1 a = some (.ins C dx fs) ∧ fs.lookup m = none ∧
  t σ H1 fun vs H2 => ∃ Yp Fin, sp (x :: (vs ++ dvs)) (fz H2) Yp Fin E0 ∧ cont H2 Yp Fin
/-- o.m(e, ..) of a generator method -/
theorem pgen1_meth {pl : Sem Bool} {e : Expr} {es : List Expr} {t : TA} (he : PE X o ta) (c : Cls X.K C) (hm : Meth X.K C m f) (F : GFn1 X.prog X.w X.K X.mg X.base k f fd ps sp) (hr : Room k X.A) (hb : Binds X.K fd ps ds) (hd : Vals dvs ds) (ha : PA X (e :: es) t)
    (hs : starEach (e :: es) X.env = (false, eval e X.env) :: starEach es X.env := by rfl) (hp : (backTo pos' (starEach es X.env)).any (·.1) = false := by rfl)
    (ht : eval (.Call (.Attribute o m apos) (e :: es) [] pos') X.env = (do
      let ov ← eval o X.env
      standAt apos.atName
      let (f, first) ← holding [ov] (getMethod ov m pl)
      callWith pos' f first (backTo pos' (starEach (e :: es) X.env)) (backToKw pos' (keywordEach [] X.env))) := by rfl) :
    PGen1 X k (.Call (.Attribute o m apos) (e :: es) [] pos') (tMeth1 C m sp dvs ta t) := by
  refine ⟨fun pins s σ H cont I q0 => PySem.W.methodCall_KW (pl := pl) (thn (he.run pins s σ H _ I q0) fun u s1 ⟨x, H1, I1, rx, a, dx, fs, ex, ea, l, q⟩ => ?_) ht⟩
  subst ex
  obtain rfl : u = Value.ref a := rx
  refine getmeth_ok I1 ea c hm l (PySem.W.callWith_K (first := [.ref a]) (h₀ := X.base) I.ok.mod.kin hm.kp (thn (ha.run pos' pins s1 σ H1 _ I1 q) fun us s2 ⟨vs, H2, I2, r, Yp, fin, q2, q3⟩ => ⟨I2.kIn, ?_⟩) hs hp)
  exact run_gfn1 (us := .ref a :: us) (vs := .ref a :: vs) F hr hb hd I2 (.cons rfl r) q2 q3
end
/-! ### for -/
theorem owned_gen {M : Model} {A : Around} {E : Value → Shared → Prop} {s : Shared} {ag : Addr} {g : Nat} {tgt : Expr} {v : Value} {Q : Unit → Shared → Prop} (hg : s.heap.IsGen ag g) (h : Q () s) : wpAny M A (letOwnedTupleGo tgt (.ref ag) v) Q E s := by
  obtain ⟨o, nm, qn, ho, hc, hd, _⟩ := hg
  unfold letOwnedTupleGo
  cases tgt <;> first
    | exact wpAny_pure h
    | (cases v <;> first
        | exact wpAny_pure h
        | (refine wpAny_bind (wpAny_load ho ?_)
           rw [hc, hd]
           exact wpAny_pure h))
def tForG (tg : TG1) (g : TG) (tb : TS) : TS := fun D σ H => tg σ H fun H1 Yp Fin => ∃ W : List V → L2.St → Hp → Prop, W [] σ H1 ∧ ∀ ys σ' H', W ys σ' H' → Grow H1 H' ∧ (Fin ys → D.nx σ' H') ∧
  ∀ x H2, Yp ys x H2 → g x σ' (mrg H' H2) fun σ3 H3 => tb { D with nx := W (ys ++ [x]), ct := W (ys ++ [x]), bk := D.nx } σ3 H3
theorem ps_forG {X : Cx} {k : Nat} {tgt iter : Expr} {body : List Stmt} {tg : TG1} {g : TG} {tb : TS} {pos : Pos} (hp : PassesOwn (model X.prog X.w) X.A X.env X.xe) (hc : X.calm = true) (hr : Room (k + 1) X.A) (hi : PGen1 X k iter tg) (hg : KG X tgt g) (hb : KSs X body tb)
    (hs : ∀ x, foldedSetIterable iter X.env x = pure x := by intro _; rfl) : PS X (.For tgt iter body [] pos) (tForG tg g tb) := by
  refine ⟨fun pins s σ H D I h => wpAny_For (thn (hi.run pins s σ H _ I h) fun u s1 h1 => ?_) hs⟩
  obtain ⟨H1, sc, Yp, Fn, I1, made, W, w0, turn⟩ := h1
  obtain ⟨ag, gn, c, N, qual, scope, f, cd, go, σ0, rfl, hlt, hls, hgen, hgs, hos, hbare, hlim, kp, hgo, hnc, hnoc, run⟩ := made
  have I2 : Inv X pins σ H1 s1 := I1.call' (ch := []) hos (Un.kept kp) (I1.hok.kept kp) hbare fun b z => nomatch z
  obtain ⟨J0, go0⟩ := run X.A.in1 hr.in1 I1.env0.in1.frames
  have G : GAt X pins σ H1 sc ag go gn scope := ⟨I1, hlt, hnc, hnoc, fun h e => by
    obtain ⟨o, nm, qn, e1, r⟩ := hgen
    rw [hgo] at e1
    cases e1
    exact ⟨go, nm, qn, e, r⟩⟩
  have S0 : Slp X N qual scope f cd sc ag go H1 Yp Fn gn [] H1 s1 := by
    refine ⟨.fresh c, _, _, σ0, fz H1, s1, sizeLine, Nat.add_zero _, hgs, hgo, I1.hok.fresh (Nat.le_of_lt hlt), I1.hok.fresh (Nat.le_refl _), rfl, J0, fun _ _ e => e, fun b h1 h2 => ?_, fun a' C' z' J => ?_⟩
    · rw [kg_self] at h1
      exact absurd h2 h1
    · rw [kg_self] at J
      exact go0 a' C' z' J
  refine wpAny_pyIter_gen hgen (codeAny_forLoop_any (fun n s' => ∃ ys σ' H', n + ys.length = sizeLine ∧ W ys σ' H' ∧ Inv X pins σ' H' s' ∧ Slp X N qual scope f cd sc ag go H1 Yp Fn gn ys H' s') ?_ sizeLine ⟨[], σ, H1, Nat.add_zero _, w0, I2, S0⟩)
  rintro n s3 ⟨ys, σ3, H3, hn, w3, I3, S3⟩
  obtain ⟨gr, fin, step⟩ := turn ys σ3 H3 w3
  refine wpAny_mono (wake (E := fun _ _ => False) hc hr G I3 gr S3) (fun r s4 q4 => ?_) fun _ _ q => q.elim
  cases r with
  | none => exact wpAny_execs_nil ⟨σ3, H3, q4.2, fin q4.1⟩
  | some v =>
    obtain ⟨x, H2, rv, hy, I4, S4⟩ := q4
    have S4' := S4
    obtain ⟨gs, a, C, σg, Hg, zg, m, hm, e1, e2, e3, e4, e5, J, sG, pv, cont⟩ := S4'
    rw [List.length_append, List.length_singleton] at hm
    refine owned_gen (G.gen _ e2) ?_
    have I4' : Inv X (pins ++ restAll s4.heap (mrg H3 H2) (X.env.locals :: X.fs)) σ3 (mrg H3 H2) s4 := I4.pins_of fun p hp => by
      rcases List.mem_append.mp hp with y | y
      · exact I4.pin p (List.mem_append_right _ y)
      · obtain ⟨h1, h2, h3, h4⟩ := of_rest y
        exact ⟨h1, h2, fun q => h3 (q ▸ List.mem_cons_self ..), fun q => h3 (List.mem_cons_of_mem _ q), h4⟩
    refine wpAny_passesOwn hp (thn (hg.go _ s4 σ3 _ x v _ I4' rv (step x H2 hy)) fun _ s5 ⟨⟨σ5, H5, I5, q5⟩, g5⟩ => ?_)
    refine wpAny_passesOwn hp (thn (hb.go _ s5 σ5 H5 _ I5 q5) fun fl s6 ⟨q6, g6⟩ => ?_)
    have back : ∀ {σ6 : L2.St} {H6 : Hp}, Inv X (pins ++ restAll s4.heap (mrg H3 H2) (X.env.locals :: X.fs)) σ6 H6 s6 → Inv X pins σ6 H6 s6 := fun I6 => I6.pins_of fun p hp => I6.pin p (List.mem_append_right _ (List.mem_append_left _ hp))
    have again : ∀ {σ6 : L2.St} {H6 : Hp}, Inv X (pins ++ restAll s4.heap (mrg H3 H2) (X.env.locals :: X.fs)) σ6 H6 s6 → W (ys ++ [x]) σ6 H6 → ∃ m, m < n ∧ ∃ ys σ' H', m + ys.length = sizeLine ∧ W ys σ' H' ∧ Inv X pins σ' H' s6 ∧ Slp X N qual scope f cd sc ag go H1 Yp Fn gn ys H' s6 := fun {σ6 H6} I6 w6 => by
      have B := bel_of I1
      have kept : ∀ (b : Addr) (o : Obj), s4.heap.get? b = some o → mrg H3 H2 b = none → sc.heap.objs.size ≤ b → (∀ v, o.data ≠ .cell v) → s6.heap.get? b = some o ∧ H6 b = none := fun b o e n hb d => by
        have q := I6.pin (b, o) (List.mem_append_right _ (List.mem_append_right _ (mem_rest e n (fun y => (List.mem_cons.mp y).elim (fun y => absurd (y ▸ B.loc : b < _) (Nat.not_lt.mpr hb)) fun y => by
          obtain ⟨_, o', e', _⟩ := I1.ok.funs.mem y
          exact absurd (Nat.lt_of_lt_of_le (Heap.lt_size e') (Nat.le_trans I1.sz hb)) (Nat.lt_irrefl _)) d)))
        exact ⟨q.1, q.2.1⟩
      have kl : s6.heap.get? sc.heap.objs.size = s4.heap.get? sc.heap.objs.size ∧ H6 sc.heap.objs.size = none := by
        obtain ⟨_, ⟨oL, es, ep, hoL, hd, _⟩, _⟩ := J.loc
        have hoL : zg.heap.get? sc.heap.objs.size = some oL := hoL
        have q := kept _ oL (e5.trans hoL) e4 (Nat.le_refl _) fun v y => by
          rw [hd] at y
          cases y
        exact ⟨q.1.trans (e5.trans hoL).symm, q.2⟩
      have ka := kept ag go e2 e3 (Nat.le_of_lt hlt) hnc
      refine ⟨n - 1, by omega, ys ++ [x], σ6, H6, by rw [List.length_append, List.length_singleton]; omega, w6, back I6, gs, a, C, σg, Hg, zg, m, by rw [List.length_append, List.length_singleton]; omega, ?_, ka.1, ka.2, kl.2, kl.1.trans e5, J, sG, fun b h1 h2 => ?_, cont⟩
      · rw [g6, g5]
        exact e1
      · obtain ⟨p1, p2⟩ := pv b h1 h2
        obtain ⟨o, e⟩ := Option.ne_none_iff_exists'.mp h1
        obtain ⟨hb, e6, ks⟩ := kg_own e h2
        have so : solid o = true := by
          rcases ks with ⟨_, rfl⟩ | ⟨_, rfl⟩ | ⟨_, _, rfl⟩ <;> rfl
        obtain ⟨ob, eo, d⟩ := solid_obj so (J.hok b o e6)
        have q := kept b ob (p2.trans eo) p1 (Nat.le_of_lt hb) d
        exact ⟨q.2, q.1.trans eo.symm⟩
    cases fl with
    | next => obtain ⟨σ6, H6, I6, w6⟩ := q6; exact again I6 w6
    | cont => obtain ⟨σ6, H6, I6, w6⟩ := q6; exact again I6 w6
    | brk => obtain ⟨σ6, H6, I6, w6⟩ := q6; exact ⟨σ6, H6, back I6, w6⟩
    | ret v => obtain ⟨x6, σ6, H6, I6, r6, w6⟩ := q6; exact ⟨x6, σ6, H6, back I6, r6, w6⟩
end EBG

/-! Rules that keep the table of generators: attributes, properties, a for over a tuple. -/
namespace EBG
open PySem PySem.Spec PyProof.Rows L2 GenW EB
section
variable {X : Cx} {e : Expr} {te : TE} {pos : Pos} {f : Str}
theorem k_fld (he : KE X e te) (hb : attributeBase e f X.env (eval e X.env) = eval e X.env := by rfl) : KE X (.Attribute e f pos) (tFld X.K te f) := ⟨fun pins s σ H Q I q => by
  refine attr_of hb (thn (he.go pins s σ H _ I q) fun u s1 ⟨⟨x, H1, I1, rx, a, C, dx, fs, v, ex, ea, c, n, l, q1⟩, g1⟩ => ?_)
  subst ex
  cases (show u = Value.ref a from rx)
  obtain ⟨mA, O, r, _, _, _⟩ := ins_get I1.hok ea
  obtain ⟨w, hw, rw'⟩ := RelO.some_of (v := v) (o := mA f) (l ▸ r f)
  exact get_map I1.kIn O (c.get f) c.hd n hw (handed_of rw') ⟨⟨v, H1, I1.tok _, rw', q1⟩, g1⟩⟩
theorem ks_ret (he : KE X e te) : KS X (.Return (some e) pos) (tRet te) := ⟨fun pins s σ H D I q => wpAny_Return_some (thn (he.go pins s σ H _ I q) fun v s1 ⟨⟨x, H1, I1, r1, q1⟩, g1⟩ => ⟨⟨x, σ, H1, I1, r1, q1⟩, g1⟩)⟩
end
/-! ### a def that keeps it -/
structure FnKp (P : Program) (w : World) (K : PySem.W.Frag) (mg : Str → Option Value) (base : Heap) (k : Nat) (f : Addr) (fd : FuncData) (ps : List Str) (sp : Sp) : Prop where
  len : ∀ vs H Q E, sp vs H Q E → vs.length = ps.length
  run : ∀ (A : Around) (outer : List Env) (s : Shared) (H : Hp) (args : Args) (us : List Value) (vs : List V) (Q : VK), Room k A → Env0 P w K mg base A outer s H → BindsTo s fd args (ps.zip us) → Vals vs us → sp vs H Q E0 →
    codeAny (model P w) A (.call (.ref f) args) (fun r s' => match r with | .ok (.ret u) => CE outer P w H s Q u s' ∧ GK s s' | _ => False) s
theorem fnk_of {P : Program} {w : World} {K : PySem.W.Frag} {mg : Str → Option Value} {base : Heap} {k : Nat} {f : Addr} {name qual : Str} {params : Arguments} {body : List Stmt} {scope : Scope} {dV kV doc pm cdv ct oc : Value} {an od : Option Addr} {osl : Array (Option Value)} {N ps : List Str} {sp : Sp}
    (lk : K.lookup f = some ⟨oc, od, .func (PySem.W.fnOf name qual params body scope dV kV doc pm an cdv ct), osl⟩) (hcd : PySem.W.codeIn K cdv qual = true) (S : FnScope N ps scope) (len : ∀ vs H Q E, sp vs H Q E → vs.length = ps.length)
    (hbody : ∀ (A : Around) (outer : List Env) (s : Shared) (H : Hp) (vs : List V) (Q : VK), Room k (A.deeper (envOfC qual scope s.heap.objs.size f cdv)) → sp vs H Q E0 →
      ∃ t, KSs (cxOf CX0 P w K mg base N qual scope f cdv A outer s H E0) body t ∧ t { nx := fun _ H' => Q .non H', rt := Q } (start N vs) H) :
    FnKp P w K mg base (k + 1) f (PySem.W.fnOf name qual params body scope dV kV doc pm an cdv ct) ps sp := by
  refine ⟨len, fun A outer s H args us vs Q hr e0 hb r hsp => ?_⟩
  have inS : ∀ b o, base.get? b = some o → s.heap.get? b = some o := fun b o e => (e0.bs b o e).1
  have KX : K.In s.heap := e0.mod.kin.keeps inS
  have lim : s.heap.NoLimit := e0.mod.nolimit.keeps inS
  have kinds : ∀ y ∈ ps.zip us, scope.names.lookup y.1 = some .local ∨ (scope.names.lookup y.1 = some .cell ∧ ((cellsFrom (s.heap.objs.size + 1) scope.names []).lookup y.1).isSome = true) := fun ⟨x, v⟩ hy => by
    rcases S.par x (List.of_mem_zip hy).1 with q | q
    · exact .inl q
    · exact .inr ⟨q, PySem.W.cellsFrom_some _ _ _ (.inl q)⟩
  refine codeAny_call_function (hr.depth) (KX _ _ lk) rfl (S.co) (S.gen) rfl (PySem.W.codeRec_of KX hcd) (hb _ _ _ _ (wpAny_newFunctionEnv_cells S.kind kinds fun env he s1 x => ?_))
  subst he
  obtain ⟨t, ht, hq⟩ := hbody A outer s H vs Q (hr.deeper _) hsp
  have g1 : s1.gens = s.gens := by
    obtain ⟨h1, tk, e1, _⟩ := x.done
    rw [e1]
  have I : Inv (cxOf CX0 P w K mg base N qual scope f cdv A outer s H E0) [] (start N vs) H s1 := inv_start S hr.hd e0 (len _ _ _ _ hsp) r x
  refine ⟨lim.keeps x.toInCall.keep, codeAny_func (wpAny_mono (ht.go [] s1 (start N vs) H _ I hq) (fun fl s' hs => ?_) fun e s' hs => hs)⟩
  obtain ⟨hs, g2⟩ := hs
  have fin : ∀ {σ' : L2.St} {H' : Hp} {v : V} {u : Value}, Inv (cxOf CX0 P w K mg base N qual scope f cdv A outer s H E0) [] σ' H' s' → RelV v u → Q v H' → CE outer P w H s Q u s' ∧ GK s s' :=
    fun {σ' H' v u} J rv q => ⟨⟨v, H', J.os, J.bare, J.base, J.hok, rv, q⟩, g2.trans g1⟩
  cases fl with
  | ret u => obtain ⟨v, σ', H', J, rv, q⟩ := hs; exact fin J rv q
  | next => obtain ⟨σ', H', J, q⟩ := hs; exact fin (v := V.non) (u := Value.none) J rfl q
  | brk => obtain ⟨_, _, _, q⟩ := hs; exact q.elim
  | cont => obtain ⟨_, _, _, q⟩ := hs; exact q.elim
section
variable {X : Cx} {k : Nat} {C p g : Addr} {f : Str} {fd : FuncData} {ps : List Str} {sp : Sp} {dvs : List V} {ds : List Value} {e : Expr} {pos : Pos} {ta : TE}
/-- e.f, a property -/
theorem k_prop (he : KE X e ta) (c : Cls X.K C) (hp : PropOf X.K C f p g) (F : FnKp X.prog X.w X.K X.mg X.base k g fd ps sp) (hr : Room (k + 1) X.A) (hb : Binds X.K fd ps ds) (hd : Vals dvs ds)
    (hab : attributeBase e f X.env (eval e X.env) = eval e X.env := by rfl) : KE X (.Attribute e f pos) (tProp C sp dvs E0 ta) := ⟨fun pins s0 σ H0 Q I0 q0 => by
  refine attr_of hab (thn (he.go pins s0 σ H0 _ I0 q0) fun u s ⟨⟨x, H, I, rx, a, dx, fs, ex, ea, h⟩, g0⟩ => ?_)
  subst ex
  cases (show u = Value.ref a from rx)
  obtain ⟨mA, O, _, _, _, _⟩ := ins_get I.hok ea
  obtain ⟨od, J, _⟩ := O.look
  obtain ⟨rest, hrec⟩ := hp.rec_
  have I1 := I.tok (s.toks + 1)
  have hl : ([Value.ref a] ++ ds).length = ps.length := by
    rw [← F.len _ _ _ _ h, List.length_append, ← hd.length]
    simp [Nat.add_comm]
  have hc : (PySem.W.clsIn X.K C).isSome = true := by
    obtain ⟨cd, hc, _⟩ := PySem.W.any_some c.hd
    rw [hc]
    rfl
  refine PySem.W.get_bind I.kIn J (PySem.W.plainGet_of (c.get f)).1 (PySem.W.findObj_data hc hp.at_ hp.get hp.tak) (PySem.W.plainGet_of (c.get f)).2 (wpAny_call (PySem.W.prop_get (s := { s with toks := s.toks + 1 }) I.kIn hrec
    (codeAny_mono (F.run X.A.in1 X.stack { s with toks := s.toks + 1 } H ⟨[.ref a], []⟩ (.ref a :: ds) (.ref a :: dvs) Q hr.in1 I1.env0.in1 (hb _ [.ref a] I1.kIn hl) (.cons rfl hd) h) fun r s' hq => ?_)))
  cases r with
  | error er => exact hq.elim
  | ok fl =>
    cases fl with
    | ret u =>
      obtain ⟨v, H', I3, rv, q3⟩ := I1.after hq.1
      show wpAny _ _ (handedOut u) _ _ _
      rw [PySem.W.handedOut_of (handed_of rv)]
      exact wpAny_pure ⟨⟨v, H', I3, rv, q3⟩, hq.2.trans g0⟩
    | next => exact hq.elim
    | brk => exact hq.elim
    | cont => exact hq.elim⟩
end
/-- for over a tuple -/
theorem ks_forT {X : Cx} {iter tg : Expr} {body : List Stmt} {tl : TE} {g : TG} {tb : TS} {pos : Pos} (hp : PassesOwn (model X.prog X.w) X.A X.env X.xe) (hc : X.calm = true) (hi : KE X iter tl) (hg : KG X tg g) (hb : KSs X body tb)
    (hs : ∀ x, foldedSetIterable iter X.env x = pure x := by intro _; rfl) : KS X (.For tg iter body [] pos) (tFor (iTup X.K tl) g tb) := ⟨fun pins s σ H D I h => by
  refine wpAny_For (thn (hi.go pins s σ H _ I h) fun v s1 ⟨⟨x, H1, I1, r1, a, e, ⟨xs, hq⟩, W, ⟨m0, w0⟩, turn⟩, g1⟩ => ?_) hs
  subst e
  cases (show v = Value.ref a from r1)
  obtain ⟨its, rv, p, hz⟩ := I1.tuple hq
  refine wpAny_pyIter_tuple (show s1.heap.IsTuple a its.toArray from p) ?_
  have T := turn_tuple (P := X.prog) (w := X.w) (K := X.K) (tg := tg) a s1.heap.objs.size
  have fp0 : FpOk X pins H1 s1.heap.objs.size := I1.fpOk (Nat.le_refl _) (I1.hok.fresh (Nat.le_refl _))
  refine codeAny_forLoop_any (fun n s' => ∃ i σ' H', Inv X pins σ' H' s' ∧ s'.heap.IsTupleIter s1.heap.objs.size a i ∧ H' s1.heap.objs.size = none ∧ W i n σ' H' ∧ GK s s') ?_ m0
    ⟨0, σ, H1, I1.kept (t' := s1.toks) fun b o e => Heap.get?_push_of_some _ e, ⟨_, Heap.get?_push_size _ rfl, rfl, rfl⟩, fp0.1, w0, g1⟩
  rintro n s3 ⟨i, σ3, H3, I3, st3, fr3, w3, g3⟩
  have f3 : FpOk X pins H3 s1.heap.objs.size := ⟨fr3, fp0.2⟩
  obtain ⟨f0, f1, f2, f3', f4, f5⟩ := id f3
  rcases turn i n σ3 H3 w3 with ⟨⟨ys, hy, hlen⟩, qn⟩ | ⟨⟨ys, x, hy, hx⟩, N, hN, step⟩
  · obtain ⟨it2, rv2, p2, _⟩ := I3.tuple hy
    have hl := rv2.length
    refine wpAny_pyNext_tuple_end (I3.ok.hd hc) st3 (show s3.heap.IsTuple a it2.toArray from p2) (by simp; omega) fun h' eb => wpAny_execs_nil ⟨⟨σ3, H3, I3.turned (t' := s3.toks) (fun b o hb e => eb b o hb e) f0 f1 f3' f4 f5, qn⟩, g3⟩
  · obtain ⟨it2, rv2, p2, _⟩ := I3.tuple hy
    obtain ⟨u, hu, ru⟩ := rv2.get hx
    refine wpAny_pyNext_tuple_item st3 (show s3.heap.IsTuple a it2.toArray from p2) (x := u) (by simpa using hu) fun h' st' sb => ?_
    have I4 : Inv X pins σ3 H3 { s3 with heap := h' } := I3.turned (t' := s3.toks) (fun b o hb e => (sb.2 b hb).trans e) f0 f1 f3' f4 f5
    obtain ⟨o, eo, co, dd⟩ := id st'
    refine go_of (s := { s3 with heap := h' }) eo co dd (by decide) ?_
    have I5 := I4.pinned (fp := [s1.heap.objs.size]) (fun b hb => by
      rw [List.mem_singleton.mp hb]
      exact f3) fun b hb => by
      rw [List.mem_singleton.mp hb]
      exact ⟨o, eo, fun v z => by rw [dd] at z; cases z⟩
    refine wpAny_passesOwn hp (thn (hg.go _ _ σ3 H3 x u _ I5 ru (step x H3 ⟨rfl, fun ys' hy' => by rw [I3.tuple_inj hy' hy]; exact hx⟩)) fun _ s6 ⟨⟨σ6, H6, I6, q6⟩, g6⟩ => ?_)
    refine wpAny_passesOwn hp (thn (hb.go _ s6 σ6 H6 _ I6 q6) fun fl s7 ⟨q7, g7⟩ => ?_)
    have gg : GK s s7 := g7.trans (g6.trans g3)
    have again : ∀ {σ7 : L2.St} {H7 : Hp}, Inv X (pins ++ pinsAt [s1.heap.objs.size] h') σ7 H7 s7 → N σ7 H7 → ∃ m, m < n ∧ ∃ i σ' H', Inv X pins σ' H' s7 ∧ s7.heap.IsTupleIter s1.heap.objs.size a i ∧ H' s1.heap.objs.size = none ∧ W i m σ' H' ∧ GK s s7 := fun {σ7 H7} I7 n7 => by
      obtain ⟨m', hm, w7⟩ := hN σ7 H7 n7
      obtain ⟨k1, k2, _⟩ := I7.pin (s1.heap.objs.size, o) (List.mem_append_right _ (List.mem_append_right _ (mem_pinsAt (List.mem_singleton.mpr rfl) eo)))
      exact ⟨m', hm, i + 1, σ7, H7, I7.unpinned, ⟨o, k1, co, dd⟩, k2, w7, gg⟩
    cases fl with
    | next => obtain ⟨σ7, H7, I7, n7⟩ := q7; exact again I7 n7
    | cont => obtain ⟨σ7, H7, I7, n7⟩ := q7; exact again I7 n7
    | brk => obtain ⟨σ7, H7, I7, n7⟩ := q7; exact ⟨⟨σ7, H7, I7.unpinned, n7⟩, gg⟩
    | ret v => obtain ⟨x7, σ7, H7, I7, r7, n7⟩ := q7; exact ⟨⟨x7, σ7, H7, I7.unpinned, r7, n7⟩, gg⟩⟩
end EBG

/-! name = {..: .. for .. in ..} on one line, the name a local. -/
namespace EB
open PySem PySem.Spec PyProof.Rows L2
section
variable {X : Cx}
theorem ps_setDc {i : Nat} {y : Str} {py : Pos} {kx vx tg iter : Expr} {ifs : List Expr} {scope : Scope} {own : List (Str × Nat)} {pos spos : Pos} {wi : TI} {g : TG} {tt : TT} {tk tv : TE} (calm : X.calm = true) (nd : X.N.Nodup) (hy : X.N[i]? = some y) (hyl : X.env.scope.names.lookup y = some .local)
    (sw : swapsWith (.DictComp kx vx [⟨tg, iter, ifs, 0⟩] scope pos) (some (.Name y py)) spos.line X.env = pure true) (hi : PI X tg iter wi) (blk : BlkOk X.N X.env.scope scope own)
    (pg : ∀ (s : Shared) (H : Hp) (C : Addr) (cl : List (Str × Addr)) (fp : List Addr), PG (X.blk s H scope (compEnvC scope cl C X.env) fp) tg g)
    (pt : ∀ (s : Shared) (H : Hp) (C : Addr) (cl : List (Str × Addr)) (fp : List Addr), PTs (X.blk s H scope (compEnvC scope cl C X.env) fp) ifs tt)
    (pk : ∀ (s : Shared) (H : Hp) (C : Addr) (cl : List (Str × Addr)) (fp : List Addr), PE (X.blk s H scope (compEnvC scope cl C X.env) fp) kx tk)
    (pv : ∀ (s : Shared) (H : Hp) (C : Addr) (cl : List (Str × Addr)) (fp : List Addr), PE (X.blk s H scope (compEnvC scope cl C X.env) fp) vx tv) (hs : ∀ x, foldedSetIterable iter X.env x = pure x := by intro _; rfl) :
    PS X (.Assign [.Name y py] (.DictComp kx vx [⟨tg, iter, ifs, 0⟩] scope pos) spos) (tAsg (tDc wi g tt tk tv (own.map (·.2))) (gName i)) := ⟨fun pins s σ H D I h => by
  rw [exec_Assign_Name_used _ _ _ _ sw]
  refine wpAny_bind (wpAny_standAt (wpAny_bind ?_))
  show wpAny _ X.A (do let _ ← comprehension (.DictComp kx vx [⟨tg, iter, ifs, 0⟩] scope pos) scope X.env (firstIterPos [⟨tg, iter, ifs, 0⟩] pos) newDict false (eval iter X.env) (some (assign (.Name y py) X.env))) _ _ s
  have h : tDc wi g tt tk tv (own.map (·.2)) σ H (fun x H1 => gName i x σ H1 D.nx) := h
  have core := dc_core (use := some (assign (.Name y py) X.env)) (Qf := fun _ s' => SP X pins D .next s') (pos := pos) (pos' := firstIterPos [⟨tg, iter, ifs, 0⟩] pos) calm nd I hi blk pg pt pk pv hs h fun L C s' m H' I' q hn ⟨f0, f1, f2, f3, f4, f5⟩ => by
    show wpAny _ _ (assign (.Name y py) X.env (.ref L)) _ _ _
    refine wpAny_assign_Name (store_ok2 (v := V.ref L) I' nd hy (.inl hyl) rfl (fun s2 I2 ⟨a, sb, ha⟩ => ⟨m, hn.sameBut sb ?_, fun h3 sb3 => ⟨_, H', I2.turned (t' := s2.toks) (fun b o hb e => (sb3.2 b hb).trans e) f0 f1 f3 f4 f5, q⟩⟩) (.inr hyl))
    rcases ha with z | z
    · exact fun e => f1 (e.trans z)
    · exact fun e => (f4 y a z) e.symm
  exact wpAny_bind (thn core fun _ s' hq => wpAny_pure (wpAny_pure hq))⟩
theorem sw_trueD {kx vx : Expr} {gs : List Comprehension} {scope : Scope} {pos py : Pos} {y : Str} {l : Nat} {env : Env} (hk : env.scope.kind = .function) (hy : env.scope.names.lookup y = some .local) (hl : (py.line == pos.line) = true)
    (ha : (scope.names.any fun (n, k) => n == y && (k == .local || k == .cell)) = false) : swapsWith (.DictComp kx vx gs scope pos) (some (.Name y py)) l env = pure true := by
  have k1 : env.kindOf y = some .local := hy
  have k2 : env.blockKind = .function := by
    unfold Env.blockKind
    rw [hk]
    rfl
  unfold swapsWith
  simp only [k2, k1, ha, Expr.pos, hl]
  rfl
end
end EB

/-! A for over an own generator that raises before its first item. -/
namespace EBG
open PySem PySem.Spec PyProof.Rows L2 GenW EB
/-- what the generator knew, what its consumer has besides -/
def mg2 (H1 H' : Hp) : Hp := fun b => match H' b with
  | some o => some o
  | none => match fz H1 b with
    | some _ => none
    | none => H1 b
theorem mg2_same (H1 H' : Hp) : Same H' (mg2 H1 H') := fun b o e => by
  unfold mg2
  rw [e]
theorem mg2_own {H1 H' : Hp} {b : Addr} (n : H' b = none) (f : fz H1 b = none) : mg2 H1 H' b = H1 b := by
  unfold mg2
  rw [n, f]
theorem mg2_none {H1 H' : Hp} {b : Addr} (n : H' b = none) (n1 : H1 b = none) : mg2 H1 H' b = none := by
  rw [mg2_own n (fz_none n1), n1]
/-- of the exception: its class, its dict; all that the generator knew is as it was -/
def EG (Pc : Value → Option Addr → Prop) (H1 : Hp) : XK := fun cls d H' => Pc cls d ∧ Same (fz H1) H'
theorem cx_fz {P : Program} {w : World} {outer : List Env} {H1 : Hp} {sc z : Shared} {E : XK} {Pc : Value → Option Addr → Prop} {e : Value} (ok : HOk P w H1 sc.heap) (fr : ∀ b ∈ frs outer, H1 b = none) (up : ∀ H', Same H1 H' → ∀ cls d, Pc cls d → E cls d H') (c : CX P w outer (fz H1) sc (EG Pc H1) e z) : CX P w outer H1 sc E e z := by
  obtain ⟨a, B, H', cls, d, rfl, fl, hok, ub, na, os, ag, hE⟩ := c
  have nF : ∀ b ob, H1 b = some ob → fz H1 b = none → H' b = none ∧ ∀ o, sc.heap.get? b = some o → B.get? b = some o := fun b ob e n => by
    obtain ⟨o, eo⟩ := obj_at ok e
    exact ⟨ub.free b o eo n, fun o' e' => ub.keep b o' e' n fun hb => by rw [fr b hb] at e; cases e⟩
  have tp : ∀ b xs, H1 b = some (.tup xs) → mg2 H1 H' b = some (.tup xs) := fun b xs e => mg2_same _ _ _ _ (ub.tups b xs (fz_to e rfl))
  refine ⟨a, B, mg2 H1 H', cls, d, rfl, fl, fun b ob e => ?_, ⟨fun b o e n hb => ub.keep b o e (fz_none n) hb, ub.slot, fun b o e n => mg2_none (ub.free b o e (fz_none n)) n, ub.there, tp, fun b o u e => ?_, fun b ps e => ?_⟩, ?_, os, ag, up _ (fun b ob e => ?_) _ _ hE.1⟩
  · cases q : H' b with
    | some o' =>
      have e' := mg2_same H1 H' b o' q
      rw [e] at e'
      cases e'
      exact (hok b ob q).stay (fun _ _ _ y => y) (fun c y => mg2_same _ _ _ _ y) fun c xs y => mg2_same _ _ _ _ y
    | none =>
      cases qf : fz H1 b with
      | some o' =>
        unfold mg2 at e
        rw [q, qf] at e
        cases e
      | none =>
        rw [mg2_own q qf] at e
        exact stayI (noIns_of (fz_not e qf)) (ok b ob e) (nF b ob e qf).2 tp
  · cases qf : fz H1 b with
    | some o' =>
      have e' := (fz_of qf).1
      rw [e] at e'
      cases e'
      exact mg2_same _ _ _ _ (ub.frzs b o u qf)
    | none => exact (mg2_own (nF b _ e qf).1 qf).trans e
  · have qf : fz H1 b = none := by
      unfold fz
      rw [e]
      rfl
    exact ⟨#[], by rw [Array.append_empty]; exact (mg2_own (nF b _ e qf).1 qf).trans e⟩
  · refine mg2_none na ?_
    cases q : H1 a with
    | none => rfl
    | some ob =>
      obtain ⟨o, eo⟩ := obj_at ok q
      obtain ⟨o', e'⟩ := ub.there a o eo fun hb => by rw [fr a hb] at q; cases q
      rw [fl.2.1] at e'
      cases e'
  · cases qf : fz H1 b with
    | some o' =>
      have e' := (fz_of qf).1
      rw [e] at e'
      cases e'
      exact mg2_same _ _ _ _ (hE.2 b ob qf)
    | none => exact (mg2_own (nF b _ e qf).1 qf).trans e
/-- a generator that hands out nothing and has no end but an exception -/
structure PGenX (X : Cx) (k : Nat) (e : Expr) (tg : L2.St → Hp → (Hp → Prop) → Prop) (Pc : Value → Option Addr → Prop) : Prop where
  run : ∀ (pins : List (Addr × Obj)) (s : Shared) (σ : L2.St) (H : Hp) (cont : Hp → Prop), Inv X pins σ H s → tg σ H cont → wpAny (model X.prog X.w) X.A (eval e X.env)
    (fun u s' => ∃ H1 sc, Inv X pins σ H1 sc ∧ GMade1 X.prog X.w X.K X.mg X.base k X.stack (fz H1) (fun _ _ _ => False) (fun _ => False) (EG Pc H1) sc u s' ∧ cont H1) X.xe s
section
variable {X : Cx} {k : Nat} {f C : Addr} {fd : FuncData} {ps : List Str} {sp : SP1} {dvs : List V} {ds : List Value} {x m : Str} {p pos pos' apos : Pos} {o : Expr} {ta : TE} {Pc : Value → Option Addr → Prop}
theorem run_gfnX {pins : List (Addr × Obj)} {σ : L2.St} {H : Hp} {s : Shared} {us : List Value} {vs : List V} {E1 : Value → Shared → Prop} (F : GFn1 X.prog X.w X.K X.mg X.base k f fd ps sp) (hr : Room k X.A) (hb : Binds X.K fd ps ds) (hd : Vals dvs ds)
    (I : Inv X pins σ H s) (r : Vals vs us) {cont : Hp → Prop} (h : sp (vs ++ dvs) (fz H) (fun _ _ _ => False) (fun _ => False) (EG Pc H)) (ct : cont H) :
    wpAny (model X.prog X.w) X.A (call (.ref f) us) (fun u s' => ∃ H1 sc, Inv X pins σ H1 sc ∧ GMade1 X.prog X.w X.K X.mg X.base k X.stack (fz H1) (fun _ _ _ => False) (fun _ => False) (EG Pc H1) sc u s' ∧ cont H1) E1 s := by
  have r2 := r.append hd
  have hl : (us ++ ds).length = ps.length := r2.length.symm.trans (F.len _ _ _ _ _ h)
  refine wpAny_call (codeAny_mono (F.run X.A X.stack s (fz H) ⟨us, []⟩ (us ++ ds) (vs ++ dvs) _ _ (EG Pc H) hr (env0_fz I.env0) (hb s us I.kIn hl) r2 h) fun q s' hq => ?_)
  cases q with
  | error e => exact hq.elim
  | ok fl =>
    cases fl with
    | ret u => exact ⟨H, s, I, hq, ct⟩
    | next => exact hq.elim
    | brk => exact hq.elim
    | cont => exact hq.elim
def tMethX1 (C : Addr) (m : Str) (sp : SP1) (dvs : List V) (Pc : Value → Option Addr → Prop) (ta : TE) (t : TA) : L2.St → Hp → (Hp → Prop) → Prop := fun σ H cont => ta σ H fun x H1 => ∃ a dx fs, x = .ref a ∧ H1 a = some (.ins C dx fs) ∧ fs.lookup m = none ∧
  t σ H1 fun vs H2 => sp (x :: (vs ++ dvs)) (fz H2) (fun _ _ _ => False) (fun _ => False) (EG Pc H2) ∧ cont H2
theorem pgenX_meth {pl : Sem Bool} {e : Expr} {es : List Expr} {t : TA} (he : PE X o ta) (c : Cls X.K C) (hm : Meth X.K C m f) (F : GFn1 X.prog X.w X.K X.mg X.base k f fd ps sp) (hr : Room k X.A) (hb : Binds X.K fd ps ds) (hd : Vals dvs ds) (ha : PA X (e :: es) t)
    (hs : starEach (e :: es) X.env = (false, eval e X.env) :: starEach es X.env := by rfl) (hp : (backTo pos' (starEach es X.env)).any (·.1) = false := by rfl)
    (ht : eval (.Call (.Attribute o m apos) (e :: es) [] pos') X.env = (do
      let ov ← eval o X.env
      standAt apos.atName
      let (f, first) ← holding [ov] (getMethod ov m pl)
      callWith pos' f first (backTo pos' (starEach (e :: es) X.env)) (backToKw pos' (keywordEach [] X.env))) := by rfl) :
    PGenX X k (.Call (.Attribute o m apos) (e :: es) [] pos') (tMethX1 C m sp dvs Pc ta t) Pc := by
  refine ⟨fun pins s σ H cont I q0 => PySem.W.methodCall_KW (pl := pl) (thn (he.run pins s σ H _ I q0) fun u s1 ⟨x, H1, I1, rx, a, dx, fs, ex, ea, l, q⟩ => ?_) ht⟩
  subst ex
  obtain rfl : u = Value.ref a := rx
  refine getmeth_ok I1 ea c hm l (PySem.W.callWith_K (first := [.ref a]) (h₀ := X.base) I.ok.mod.kin hm.kp (thn (ha.run pos' pins s1 σ H1 _ I1 q) fun us s2 ⟨vs, H2, I2, r, q2, q3⟩ => ⟨I2.kIn, ?_⟩) hs hp)
  exact run_gfnX (us := .ref a :: us) (vs := .ref a :: vs) F hr hb hd I2 (.cons rfl r) q2 q3
end
def tForX1 (tg : L2.St → Hp → (Hp → Prop) → Prop) (Pc : Value → Option Addr → Prop) (E : XK) : TS := fun _ σ H => tg σ H fun H1 => ∀ H', Same H1 H' → ∀ cls d, Pc cls d → E cls d H'
theorem aft_yp {X0 : Cx} {xe : XeF} {T : Told} {A : Around} {n : Nat} {a : Bs} {C : List (Addr × Obj)} {ys : List V} {v : Value} {g : Bool} {l : List Value} {k : Resume → Sem PySem.Fin} {c : Code} {q : Pos} {fs : List Frame} {z : Shared} (h : Aft X0 xe T A n a C ys (.susp v g l k c q fs) z) : ∃ x H, T.Yp ys x H := by
  cases n with
  | zero => exact h.elim
  | succ n =>
    obtain ⟨_, x, _, H, _, y, _⟩ := h
    exact ⟨x, H, y⟩
theorem ps_forGX {X : Cx} {k : Nat} {tgt iter : Expr} {body : List Stmt} {tg : L2.St → Hp → (Hp → Prop) → Prop} {E : XK} {Pc : Value → Option Addr → Prop} {pos : Pos} (hp : PassesOwn (model X.prog X.w) X.A X.env X.xe) (hc : X.calm = true) (hr : Room (k + 1) X.A) (hx : Passes (CX X.prog X.w) X E) (hns : ∀ cls d, Pc cls d → PySem.W.subIn X.K cls (.type "StopIteration") = some false)
    (hi : PGenX X k iter tg Pc) (hs : ∀ x, foldedSetIterable iter X.env x = pure x := by intro _; rfl) : PS X (.For tgt iter body [] pos) (tForX1 tg Pc E) := by
  refine ⟨fun pins s σ H D I h => wpAny_For (thn (hi.run pins s σ H _ I h) fun u s1 h1 => ?_) hs⟩
  obtain ⟨H1, sc, I1, made, up⟩ := h1
  obtain ⟨ag, gn, c, N, qual, scope, f, cd, go, σ0, rfl, hlt, hls, hgen, hgs, hos, hbare, hlim, kp, hgo, hnc, hnoc, run⟩ := made
  obtain ⟨J0, go0⟩ := run X.A.in1 hr.in1 I1.env0.in1.frames
  have bare' : AllBare (s1.setGen gn .running).gens := allBare_setGen hbare rfl
  have J1 := go0 _ [] (s1.setGen gn .running) ⟨J0.ok, J0.os, bare', J0.base, J0.loc, J0.cell, J0.free, J0.freeC, J0.pin, J0.hok, J0.len⟩
  refine wpAny_pyIter_gen hgen (codeAny_forLoop_any (fun _ s' => s' = s1) ?_ 0 rfl)
  rintro n s3 rfl
  refine wpAny_passesOwn hp (wpAny_mono (Q := fun _ _ => False) (next1 (gs := .fresh c) (I1.ok.hd hc) hlim (by have := hr.dp; omega) hgen hgs J1 (fun e z2 q => aft_quiet q) (fun v gd l kk c q fs z2 hz _ => ?_) (fun fl z2 hz => ?_) fun e z2 hz => ?_) (fun _ _ q => q.elim) fun _ _ q => q)
  · obtain ⟨_, _, y⟩ := aft_yp hz
    exact y.elim
  · exact ((aft_of hz).2.1 : False).elim
  · obtain ⟨cx, pn⟩ := aft_of hz
    have kin : X.K.In z2.heap := by
      obtain ⟨a, B, H', cls, d, _, fl, _, ub, _⟩ := id cx
      refine I1.ok.mod.kin.keeps fun b o eb => fl.1 b o (ub.keep b o (I1.bs b o eb).1 (fz_none (I1.bs b o eb).2) fun hm => ?_)
      obtain ⟨nb, _⟩ := I1.stack.mem hm
      rw [eb] at nb
      cases nb
    refine ⟨?_, notStop_of (fun cls d _ h => hns cls d h.1) kin cx, hx pins σ H1 sc e _ I1 ?_⟩
    · obtain ⟨o, nm, qn, e1, r⟩ := hgen
      rw [hgo] at e1
      cases e1
      exact ⟨go, nm, qn, pn (ag, go) (List.mem_singleton.mpr rfl), r⟩
    · obtain ⟨a, B, H', cls, d, w1, w2, w3, w4, w5, w6, w7, w8⟩ := cx_fz I1.hok I1.stkFree up cx
      exact ⟨a, B, H', cls, d, w1, w2, w3, w4, w5, w6, allBare_setGen w7 rfl, w8⟩
end EBG

/-! t[::-1] of a tuple -/
namespace EBR
open PySem PySem.Spec PyProof.Rows L2
section
variable {prog : Program} {w : World} {A : Around} {E : Value → Shared → Prop} {s : Shared}
theorem applied_rev {sl : Addr} {vl vu vs : Value} {n : Nat} {Q : Int × Int × Nat → Shared → Prop} (hs : s.heap.IsSliceOf sl vl vu vs) (pl : IsPart vl none) (pu : IsPart vu none) (ps : IsPart vs (some (-1)))
    (h : Q ((n : Int) - 1, -1, n) s) : wpAny (model prog w) A (Builtin.Slice.sliceApplied (.ref sl) (pure (n : Int))) Q E s := by
  obtain ⟨os, hos, hcs, hds⟩ := id hs
  unfold Builtin.Slice.sliceApplied Builtin.Slice.sliceFields
  refine wpAny_bind (wpAny_bind (wpAny_field hos hds (x := vl) rfl (wpAny_bind (wpAny_field hos hds (x := vu) rfl (wpAny_bind (wpAny_field hos hds (x := vs) rfl (wpAny_pure ?_)))))))
  refine wpAny_bind (HT.slicePart_ ps ?_)
  show wpAny _ _ (if ((-1 : Int) == 0) = true then _ else _) _ _ s
  rw [if_neg (by decide)]
  refine wpAny_bind (HT.slicePart_ pl (wpAny_bind (HT.slicePart_ pu (wpAny_bind (wpAny_pure ?_)))))
  show wpAny _ _ (match Builtin.Slice.sliceAdjust none none (-1) (n : Int) with | (lo, hi) => pure (lo, (-1 : Int), Builtin.Slice.slicePlaces lo hi (-1))) _ _ s
  have ea : Builtin.Slice.sliceAdjust none none (-1) (n : Int) = ((n : Int) - 1, -1) := rfl
  have ep : Builtin.Slice.slicePlaces ((n : Int) - 1) (-1) (-1) = n := by
    unfold Builtin.Slice.slicePlaces
    rw [if_neg (by decide), Int.neg_neg, Int.ediv_one]
    split <;> omega
  rw [ea]
  show wpAny _ _ (pure ((n : Int) - 1, (-1 : Int), Builtin.Slice.slicePlaces ((n : Int) - 1) (-1) (-1))) _ _ s
  rw [ep]
  exact wpAny_pure h
theorem pick_rev (xs : Array Value) : ((List.range xs.size).filterMap fun (m : Nat) => xs[((xs.size : Int) - 1 + (m : Int) * -1).toNat]?).toArray = xs.toList.reverse.toArray := by
  have h1 := PySem.W.krv_all xs
  have h2 := PySem.W.krv_range xs.size
  have cong : ∀ (l : List Nat), (∀ m ∈ l, m < xs.size) → (l.filterMap fun (m : Nat) => xs[((xs.size : Int) - 1 + (m : Int) * -1).toNat]?) = l.filterMap ((xs[·]?) ∘ fun k => xs.size - 1 - k) := by
    intro l
    induction l with
    | nil => intro _; rfl
    | cons m l ih =>
      intro hl
      have hm := hl m (List.mem_cons_self ..)
      have e0 : ((xs.size : Int) - 1 + (m : Int) * -1).toNat = xs.size - 1 - m := by omega
      rw [List.filterMap_cons, List.filterMap_cons, ih fun k hk => hl k (List.mem_cons_of_mem _ hk)]
      rw [e0]
      rfl
  have e : ((List.range xs.size).filterMap fun (m : Nat) => xs[((xs.size : Int) - 1 + (m : Int) * -1).toNat]?) = ((List.range xs.size).map fun k => xs.size - 1 - k).filterMap (xs[·]?) := by
    rw [List.filterMap_map]
    exact cong _ fun m hm => List.mem_range.mp hm
  rw [e, h2, List.filterMap_reverse, h1]
theorem getItem_rev {t sl : Addr} {items : Array Value} {vl vu vs : Value} {Q : Value → Shared → Prop} (ht : IsTup s.heap t items) (hs : s.heap.IsSliceOf sl vl vu vs) (pl : IsPart vl none) (pu : IsPart vu none) (ps : IsPart vs (some (-1)))
    (h : Q (.ref s.heap.objs.size) { s with heap := s.heap.push { cls := .type "tuple", data := .seq items.toList.reverse.toArray } }) (hsz : items.size ≤ sizeLine) : wpAny (model prog w) A (getItem (.ref t) (.ref sl)) Q E s := by
  have hok : sizeOk (.seq items.toList.reverse.toArray) := by
    show items.toList.reverse.toArray.size ≤ sizeLine
    rw [List.size_toArray, List.length_reverse, Array.length_toList]
    exact hsz
  obtain ⟨os, hos, hcs, hds⟩ := id hs
  have hTs : s.TypeIs (.ref sl) "slice" := ⟨os, hos, hcs⟩
  unfold getItem
  try with_reducible refine wpAny_holding ?_
  first | refine wpAny_bind (wpAny_pure ?_) | skip
  refine wpAny_bind (wpAny_sequenceKey ht.typeIs (by decide) ?_)
  refine wpAny_bind (wpAny_callSpecial?_slot (name := Str.ofString "__getitem__") ht.typeIs PyProof.Rows.slot_tuple_getitem
    (wpAny_call_entry PyProof.Rows.slot_tuple_getitem ht.typeIs entry_tuple_getitem ?_ (args_tuple_getitem _ _)))
  show wpAny _ _ (Builtin.Tuple.tupleItemsOf (.ref t) >>= _) _ _ s
  refine wpAny_bind (tupleItemsOf_ ht ?_)
  refine wpAny_bind (wpAny_typeOf hTs ?_)
  rw [if_pos (by decide)]
  refine wpAny_bind (applied_rev hs pl pu ps ?_)
  have hno : ¬ ((((items.size : Int) - 1) == 0 && (-1 : Int) == 1 && items.size == items.size) = true) := by
    intro q
    rw [Bool.and_eq_true, Bool.and_eq_true] at q
    exact absurd q.1.2 (by decide)
  show wpAny _ _ (if (((items.size : Int) - 1) == 0 && (-1 : Int) == 1 && items.size == items.size) = true then _ else _) _ _ s
  rw [if_neg hno, pick_rev]
  first
    | exact wpAny_bind (m := Builtin.Tuple.tupleExact _) (wpAny_newObj_type (wpAny_pure ⟨_, rfl, wpAny_pure h⟩) hok)
    | exact wpAny_bind (m := Builtin.Tuple.tupleExact _) (wpAny_newObj_type (wpAny_bind (wpAny_pure (wpAny_pure ⟨_, rfl, wpAny_pure h⟩))) hok)
    | exact wpAny_bind (wpAny_bind (m := Builtin.Tuple.tupleExact _) (wpAny_newObj_type (wpAny_pure (wpAny_pure ⟨_, rfl, wpAny_pure h⟩)) hok))
    | exact wpAny_bind (wpAny_bind (m := Builtin.Tuple.tupleExact _) (wpAny_newObj_type (wpAny_pure ⟨_, rfl, wpAny_pure h⟩) hok))
end
end EBR
namespace EB
open PySem PySem.Spec PyProof.Rows L2
def tRevT (K : PySem.W.Frag) (te : TE) : TE := fun σ H Q => te σ H fun x H1 => ∃ a xs, x = .ref a ∧ SqT K H1 a xs ∧ ∀ p, H1 p = none → Q (.ref p) (upd H1 p (.tup xs.reverse))
theorem pe_revT {X : Cx} {e : Expr} {te : TE} {k : Nat} {p1 p2 p3 pos : Pos} (he : PE X e te) : PE X (.Subscript e (.Slice none none (some (.UnaryOp .USub (.Constant (.int 1) k p1) p2)) p3) pos) (tRevT X.K te) := by
  refine ⟨fun pins s σ H Q I h => ?_⟩
  refine Subscript_ (thn (he.run pins s σ H _ I h) fun v s1 ⟨x, H1, I1, r1, q1⟩ => ?_)
  obtain ⟨a, xs, ex, hx, q⟩ := q1
  subst ex
  cases r1
  have hst : PO X (some (.UnaryOp .USub (.Constant (.int 1) k p1) p2)) (tPart (tUn (rU fun i => .int (-i)) (tC (.int 1)))) := po_some (pe_un un_neg pe_int)
  refine wpAny_Slice (thn (po_none.run pins s1 σ H1 (fun o H2 => o = none ∧ H2 = H1) I1 ⟨rfl, rfl⟩) fun vl s2 ⟨l, H2, I2, pl, el, e2⟩ => ?_)
  subst el e2
  refine thn (po_none.run pins s2 σ H2 (fun o H3 => o = none ∧ H3 = H2) I2 ⟨rfl, rfl⟩) fun vu s3 ⟨u, H3, I3, pu, eu, e3⟩ => ?_
  subst eu e3
  refine thn (hst.run pins s3 σ H3 (fun o H4 => o = some (-1) ∧ H4 = H3) I3 ⟨1, rfl, -1, rfl, rfl, rfl⟩) fun vs s4 ⟨o, H4, I4, ps, eo, e4⟩ => ?_
  subst eo e4
  have I5 : Inv X pins σ H4 { s4 with heap := s4.heap.push { cls := .type "slice", data := .fields #[vl, vu, vs] } } := I4.kept (t' := s4.toks) fun b ob q => Heap.get?_push_of_some _ q
  obtain ⟨its, r, ht, hz⟩ := I5.tuple hx
  have hlen := r.length
  show wpAny (model X.prog X.w) X.A (subscriptTail e (.Slice none none (some (.UnaryOp .USub (.Constant (.int 1) k p1) p2)) p3) (.ref a) (.ref s4.heap.objs.size)) (EP X pins σ Q) X.xe { s4 with heap := s4.heap.push { cls := .type "slice", data := .fields #[vl, vu, vs] } }
  refine tail_any (ops := [.ref a, .ref s4.heap.objs.size]) ht.typeIs (PyProof.Rows.slot_tuple_getitem.lookup) ?_ (by with_unfolding_all rfl)
  refine EBR.getItem_rev ht (Heap.IsSliceOf.new _ vl vu vs) pl pu ps ?_ (by rw [List.size_toArray]; omega)
  refine ⟨.ref _, _, I5.laid (t' := s4.toks) (o := .tup xs.reverse) (fun b ob q => Heap.get?_push_of_some _ q) (Nat.le_refl _) ?_, rfl, q _ (I5.hok.fresh (Nat.le_refl _))⟩
  exact ⟨by rw [List.length_reverse]; exact hz, _, r.reverse, IsTup.new _ _⟩
end EB

/-! A list comprehension whose element may lean on the def's own state where the comprehension began. -/
namespace EB
open PySem PySem.Spec PyProof.Rows L2
section
variable {X : Cx} {elt tg iter : Expr} {scope : Scope} {own : List (Str × Nat)} {pos : Pos} {g : TG} {te : TE}
/-- what a turn of tLc (no test) asks -/
abbrev TurnL (own : List (Str × Nat)) (J : It) (g : TG) (te : TE) (σw : L2.St) (D : Addr) (Fin : Hp → Prop) (W : Nat → Nat → Hp → Prop) : Prop := ∀ i m G, W i m G → (J.stop i G ∧ Fin G) ∨ (J.go i G ∧ ∃ Nx : Hp → Prop, (∀ G', Nx G' → ∃ m', m' < m ∧ W (i + 1) m' G') ∧
  ∀ x G', J.yld i G x G' → g x σw G' fun σ2 G2 => wipe σ2 (own.map (·.2)) = σw ∧ te σ2 G2 fun y G4 => ∃ acc, G4 D = some (.lst acc) ∧ acc.length < sizeLine ∧ Nx (upd G4 D (.lst (acc ++ [y]))))
theorem lcS_loop {pins : List (Addr × Obj)} {σ : L2.St} {G : Hp} {sa sb : Shared} {ce : Env} {it D : Addr} {fp : List Addr} {tn : Nat → Heap → Prop} {J : It} {Fin : Hp → Prop} {W : Nat → Nat → Hp → Prop} {m0 : Nat} {R : Value → Shared → Prop}
    (calm : X.calm = true) (IA : Inv X pins σ G sa) (eC : ce.locals = sa.heap.objs.size) (IB : Inv (X.blk sa G scope ce fp) [] (wipe σ (own.map (·.2))) G sb) (T : Turn X.prog X.w X.K tg J fp it tn) (fpok : ∀ b ∈ fp, FpOk X pins G b) (first : tn 0 sb.heap)
    (w0 : W 0 m0 G) (turn : TurnL own J g te (wipe σ (own.map (·.2))) D Fin W) (pg : PG (X.blk sa G scope ce fp) tg g) (pe : PE (X.blk sa G scope ce fp) elt te)
    (out : ∀ s' m G', Inv X pins σ G' s' → Fin G' → s'.heap.Ns sa.heap.objs.size m → FpOk X pins G' sa.heap.objs.size → compPost (model X.prog X.w) X.A X.xe none R (.ref D) sa.heap.objs.size (.ok .next) s') :
    codeAny (model X.prog X.w) X.A (.compLoop (.ListComp elt [⟨tg, iter, [], 0⟩] scope pos) 0 (.ref it) (.ref D) ce) (compPost (model X.prog X.w) X.A X.xe none R (.ref D) sa.heap.objs.size) sb := by
  have still : ∀ {τ : L2.St} {G' : Hp} {s' : Shared}, Inv (X.blk sa G scope ce fp) [] τ G' s' → (∀ b ∈ fp, G' b = none) → ∀ b ∈ fp, FpOk (X.blk sa G scope ce fp) [] G' b := fun {τ G' s'} J' free b hb =>
    ⟨free b hb, (J'.ok.exf b hb).1, J'.ok.exfs b hb, .inl hb, fun x c e => (J'.ok.exf b hb).2 x c e, fun p z => by cases z⟩
  refine compLoop_any (fun left s' => ∃ i G', W i left G' ∧ tn i s'.heap ∧ (∀ b ∈ fp, G' b = none) ∧ Inv (X.blk sa G scope ce fp) [] (wipe σ (own.map (·.2))) G' s') (fun left st hI => ?_) m0 ⟨0, G, w0, first, fun b hb => (fpok b hb).1, IB⟩
  obtain ⟨i, GI, wI, tI, freeI, II⟩ := hI
  rcases turn i left GI wI with ⟨halt, fin⟩ | ⟨more, Nx, back, item⟩
  · refine thnF (T.done (X.blk sa G scope ce fp) rfl rfl rfl calm i [] st _ GI (fun _ _ => False) II (still II freeI) tI halt) fun r s6 ⟨er, I6⟩ => ?_
    subst er
    have up : Inv X pins σ GI s6 := IA.call' (ch := fp) I6.os I6.base I6.hok I6.bare fun b hb => let z := (fpok b hb).2; ⟨z.2.2.1, z.1, z.2.2.2.1, z.2.2.2.2⟩
    have noC : GI sa.heap.objs.size = none := by
      rw [← eC]
      exact I6.free
    obtain ⟨m, ns, _⟩ := I6.loc
    refine out s6 m GI up fin ?_ (IA.fpOk (Nat.le_refl _) noC)
    rw [← eC]
    exact ns
  · refine thnF (T.item (X.blk sa G scope ce fp) rfl rfl rfl calm i [] st _ GI (fun _ _ => False) II (still II freeI) tI more) fun r s6 ⟨u, er, h6⟩ => ?_
    subst er
    refine thnF h6 fun _ s7 ⟨x, G7, I7, rx, yx, t7, free7⟩ => ?_
    refine thnF (pg.run _ s7 _ G7 x u _ (I7.pinned (still I7 free7) (T.obj _ _ t7)) rx (item x G7 yx)) fun _ s8 ⟨τ, G8, I8, same, q8⟩ => ?_
    refine wpAny_tests_nil ?_
    simp only [if_true]
    refine thnF (pe.run _ s8 τ G8 _ I8 q8) fun z s9 ⟨y, G9, I9, ry, acc, atD, small, next⟩ => ?_
    refine app_ok (X := X.blk sa G scope ce fp) I9 atD small ry fun s10 I10 => ?_
    obtain ⟨left', lt, w'⟩ := back _ next
    have held : ∀ b ∈ fp, ∀ o, s7.heap.get? b = some o → s10.heap.get? b = some o ∧ (upd G9 D (.lst (acc ++ [y]))) b = none := fun b hb o e =>
      let z := I10.pin (b, o) (List.mem_append_right _ (List.mem_append_right _ (mem_pinsAt hb e)))
      ⟨z.1, z.2.1⟩
    refine ⟨left', lt, i + 1, _, w', T.keep _ _ _ t7 fun b hb o e => (held b hb o e).1, fun b hb => ?_, (I10.unpinned (pins := [])).weak (by rw [← same, wipe_length]) fun j v e => ?_⟩
    · obtain ⟨o, e, _⟩ := T.obj _ _ t7 b hb
      exact (held b hb o e).2
    · rw [← same] at e
      exact (wipe_some e).1
/-- the rule: te may depend on the def's slots, and be shown from its state where the block starts -/
theorem pe_lcS {wi : TI} {ts : L2.St → TE} (hc : X.calm = true) (hN : X.N.Nodup) (hi : PI X tg iter wi) (ok : BlkOk X.N X.env.scope scope own)
    (hg : ∀ (s : Shared) (H : Hp) (C : Addr) (cl : List (Str × Addr)) (fp : List Addr), PG (X.blk s H scope (compEnvC scope cl C X.env) fp) tg g)
    (he : ∀ (pins : List (Addr × Obj)) (σ : L2.St) (s : Shared) (H : Hp) (C : Addr) (cl : List (Str × Addr)) (fp : List Addr), Inv X pins σ H s → (∀ b ∈ fp, FpOk X pins H b) → PE (X.blk s H scope (compEnvC scope cl C X.env) fp) elt (ts σ))
    (hs : ∀ x, foldedSetIterable iter X.env x = pure x := by intro _; rfl) :
    PE X (.ListComp elt [⟨tg, iter, [], 0⟩] scope pos) (fun σ H Q => tLc wi g tYes (ts σ) (own.map (·.2)) σ H Q) := by
  refine ⟨fun pins s σ H Q I h => ?_⟩
  have clo : ∀ y ∈ scope.names, y.2 = .free → ∃ c, X.env.cells.lookup y.1 = some c := fun y hy e => I.ok.has _ ((ok.free y hy e).elim .inl .inr)
  rw [eval_ListComp]
  refine wpAny_comprehension_free (use := none) rfl hs (closure_ok clo) ok.kind (fun y hy e => by rw [ok.uniq y hy, e]) (thn (hi.run pins s σ H _ I h) fun v s1 hv => thn hv fun v2 s2 got => ?_)
  obtain ⟨it, fp, tn, J, G, rfl, IG, T, first, fpok, rest⟩ := got
  refine wpAny_newObj_type (newEnv_comp ?_) (by show 0 ≤ sizeLine; decide)
  obtain ⟨D, eD⟩ : ∃ D : Addr, s2.heap.objs.size = D := ⟨_, rfl⟩
  have GD : G D = none := IG.hok.fresh (Nat.le_of_eq eD)
  obtain ⟨W, ⟨m0, w0⟩, turn⟩ := rest D GD
  obtain ⟨sa, ea⟩ : ∃ sa : Shared, ({ s2 with heap := s2.heap.push { cls := .type "list", data := .seq ([] : List Value).toArray } } : Shared) = sa := ⟨_, rfl⟩
  have ha : sa.heap = s2.heap.push { cls := .type "list", data := .seq ([] : List Value).toArray } := by rw [← ea]
  have IA : Inv X pins σ (upd G D (.lst [])) sa := by
    rw [← ea]
    refine IG.laid (t' := s2.toks) (fun b o e => Heap.get?_push_of_some _ e) (Nat.le_of_eq eD) ⟨Nat.zero_le _, [], 0, .nil, ?_⟩
    rw [← eD]
    exact Heap.get?_push_size _ rfl
  have old : ∀ b ∈ fp, b < s2.heap.objs.size := fun b hb => by
    obtain ⟨o, e, _⟩ := T.obj _ _ first b hb
    exact Heap.lt_size e
  have fpA : ∀ b ∈ fp, FpOk X pins (upd G D (.lst [])) b := fun b hb => by
    refine ⟨?_, (fpok b hb).2⟩
    rw [upd_ne (fun z => Nat.lt_irrefl _ (by have := old b hb; rw [z, ← eD] at this; exact this))]
    exact (fpok b hb).1
  have fpB : ∀ b ∈ fp, FpOk X pins (upd G D (.lst [])) b ∧ b < sa.heap.objs.size := fun b hb => ⟨fpA b hb, by rw [ha, Heap.size_push]; exact Nat.lt_succ_of_lt (old b hb)⟩
  have IB := block_start IA ok hN fpB
  rw [eD, ea]
  have tA : tn 0 sa.heap := T.keep _ _ _ first fun b _ o e => by rw [ha]; exact Heap.get?_push_of_some _ e
  have tB : tn 0 (pushCells (sa.heap.push { cls := .type "dict", data := .dict #[] }) scope.names) := T.keep _ _ _ tA fun b _ o e => pushCells_keeps _ _ _ _ (Heap.get?_push_of_some _ e)
  have pg := hg sa (upd G D (.lst [])) sa.heap.objs.size (cellsFrom (sa.heap.objs.size + 1) scope.names (cloFrom X.env.cells scope.names [])) fp
  have pe := he pins σ sa (upd G D (.lst [])) sa.heap.objs.size (cellsFrom (sa.heap.objs.size + 1) scope.names (cloFrom X.env.cells scope.names [])) fp IA fpA
  refine codeAny_compStart_list (lcS_loop (sa := sa) (m0 := m0) (W := W) (Fin := fun G' => Q (.ref D) G') hc IA rfl IB T fpA tB w0 turn pg pe fun s' m G' I' q ns f => ?_) (T.self X.A 0 _ _ _ tB (lcS_loop (sa := sa) (m0 := m0) (W := W) (Fin := fun G' => Q (.ref D) G') hc IA rfl IB T fpA tB w0 turn pg pe fun s' m G' I' q ns f => ?_))
  · exact ⟨m, ns, fun h'' sb => ⟨.ref D, G', I'.turned (t' := s'.toks) (fun b o hb e => (sb.2 b hb).trans e) f.1 f.2.1 f.2.2.2.1 f.2.2.2.2.1 f.2.2.2.2.2, rfl, q⟩⟩
  · exact ⟨m, ns, fun h'' sb => ⟨.ref D, G', I'.turned (t' := s'.toks) (fun b o hb e => (sb.2 b hb).trans e) f.1 f.2.1 f.2.2.2.1 f.2.2.2.2.1 f.2.2.2.2.2, rfl, q⟩⟩
end
end EB

/-! Lambdas that are kept (in a list, say) and called later: each is tracked by its function object. -/
namespace EB
open PySem PySem.Spec PyProof.Rows L2
/-- a lambda's function, its defaults dV -/
abbrev fnL (name qual : Str) (params : Arguments) (body : Expr) (scope : Scope) (cl : List (Str × Addr)) (pm cdv ct dV : Value) : FuncData := { PySem.W.kla_fn name qual params body scope cl pm cdv ct with defaults := dV }
abbrev objL (qual : Str) (params : Arguments) (body : Expr) (scope : Scope) (cl : List (Str × Addr)) (pm : Value) (c : Value) (ct dV : Value) : Obj := { cls := .type "function", data := .func (fnL "<lambda>" qual params body scope cl pm c ct dV) }
section
variable {M : Model} {A : Around} {E : Value → Shared → Prop} {s : Shared} {qual : Str} {params : Arguments} {body : Expr} {scope : Scope} {env : Env} {c P : Addr} {ps : Array Value} {pos : Pos} {line : Nat} {mg : Str → Option Value} {cl : List (Str × Addr)} {dV : Value} {Q : Value → Shared → Prop}
theorem tailL_new (ec : closureFor scope env = pure cl) (eG : env.globals = mainGlobals) (ns : s.heap.Ns mainGlobals mg) (ek : env.code = .ref c) (cd : PySem.W.CodeHd s.heap c P) (tab : s.heap.get? P = some (PySem.W.tabObj ps)) (tr : TriplesOk ps.toList) (miss : codeAmong pos ps.toList = none)
    (nP : mainGlobals ≠ P) (bi : s.heap.BuiltinsAt mg P)
    (fin : ∀ c1 ct h1 k1, Heap.ExtBut P s.heap h1 → s.heap.objs.size ≤ c1 → c1 < h1.objs.size → h1.CodeRec (.ref c1) qual → h1.get? P = some (PySem.W.tabObj (ps ++ #[rawInt pos.line, rawInt pos.col, .ref c1])) →
      Q (.ref h1.objs.size) { s with heap := h1.push (objL qual params body scope cl ((mg "__name__").getD .none) (.ref c1) ct dV), toks := k1 }) :
    wpAny M A (makeTail "<lambda>" qual params (.expr body) scope env dV .none none pos line) Q E s := by
  obtain ⟨bm, ob, n1, n2, _, n3, n4, n5, n6, n7⟩ := bi
  unfold makeTail
  rw [ec, eG]
  refine wpAny_bind (wpAny_pure ?_)
  cases cl with
  | nil =>
    simp only [List.isEmpty_nil, if_true]
    refine wpAny_bind (wpAny_pure (wpAny_bind (wpAny_functionCodeX ek (cd.code tab tr) (cd.tab tab) miss fun c1 h1 k1 x1 g1 l1 _ r1 t1 _ => ?_)))
    have ns1 := ns.extBut x1 nP
    exact wpAny_bind (wpAny_builtinsFor ns1 n1 n2 (x1 _ _ n3 n4) n5 n6 n7 (wpAny_bind (wpAny_nsGet ns1 (wpAny_bind (wpAny_pure (wpAny_newObj_type (fin c1 .none h1 k1 x1 g1 l1 r1 t1.2) (by size_fits)))))))
  | cons y ys =>
    simp only [List.isEmpty_cons, Bool.false_eq_true, if_false]
    refine wpAny_bind (wpAny_newTextTuple (wpAny_bind (wpAny_functionCodeX ek ((cd.keeps fun b o e => Heap.get?_push_of_some _ e).code (Heap.get?_push_of_some _ tab) tr) ((cd.keeps fun b o e => Heap.get?_push_of_some _ e).tab (Heap.get?_push_of_some _ tab)) miss fun c1 h1 k1 x1 g1 l1 _ r1 t1 _ => ?_)))
    have ns1 := (ns.push _).extBut x1 nP
    have x2 : Heap.ExtBut P s.heap h1 := fun b o ne e => x1 b o ne (Heap.get?_push_of_some _ e)
    have g2 : s.heap.objs.size ≤ c1 := by
      rw [Heap.size_push] at g1
      exact Nat.le_of_succ_le g1
    exact wpAny_bind (wpAny_builtinsFor ns1 n1 n2 (x2 _ _ n3 n4) n5 n6 n7 (wpAny_bind (wpAny_nsGet ns1 (wpAny_bind (wpAny_pure (wpAny_newObj_type (fin c1 _ h1 k1 x2 g2 l1 r1 t1.2) (by size_fits)))))))
theorem tailL_hit {cv : Value} (ec : closureFor scope env = pure cl) (eG : env.globals = mainGlobals) (ns : s.heap.Ns mainGlobals mg) (ek : env.code = .ref c) (cd : PySem.W.CodeHd s.heap c P) (tab : s.heap.get? P = some (PySem.W.tabObj ps)) (tr : TriplesOk ps.toList) (hit : codeAmong pos ps.toList = some cv)
    (bi : s.heap.BuiltinsAt mg P)
    (fin : ∀ (ct : Value) (h1 : Heap) (k1 : Tok), (∀ b o, s.heap.get? b = some o → h1.get? b = some o) → s.heap.objs.size ≤ h1.objs.size →
      Q (.ref h1.objs.size) { s with heap := h1.push (objL qual params body scope cl ((mg "__name__").getD .none) cv ct dV), toks := k1 }) :
    wpAny M A (makeTail "<lambda>" qual params (.expr body) scope env dV .none none pos line) Q E s := by
  obtain ⟨bm, ob, n1, n2, _, n3, n4, n5, n6, n7⟩ := bi
  unfold makeTail
  rw [ec, eG]
  refine wpAny_bind (wpAny_pure ?_)
  cases cl with
  | nil =>
    simp only [List.isEmpty_nil, if_true]
    exact wpAny_bind (wpAny_pure (wpAny_bind (wpAny_functionCode_hit ek (cd.code tab tr) hit (wpAny_bind (wpAny_builtinsFor ns n1 n2 n4 n5 n6 n7 (wpAny_bind (wpAny_nsGet ns (wpAny_bind (wpAny_pure (wpAny_newObj_type (fin .none s.heap s.toks (fun _ _ e => e) (Nat.le_refl _)) (by size_fits)))))))))))
  | cons y ys =>
    simp only [List.isEmpty_cons, Bool.false_eq_true, if_false]
    have more : ∀ o : Obj, s.heap.objs.size ≤ (s.heap.push o).objs.size := fun o => by
      rw [Heap.size_push]
      exact Nat.le_succ _
    exact wpAny_bind (wpAny_newTextTuple (wpAny_bind (wpAny_functionCode_hit ek ((cd.keeps fun b o e => Heap.get?_push_of_some _ e).code (Heap.get?_push_of_some _ tab) tr) hit (wpAny_bind (wpAny_builtinsFor (ns.push _) n1 n2 (Heap.get?_push_of_some _ n4) n5 n6 n7 (wpAny_bind (wpAny_nsGet (ns.push _) (wpAny_bind (wpAny_pure (wpAny_newObj_type (fin _ _ s.toks (fun b o e => Heap.get?_push_of_some _ e) (more _)) (by size_fits)))))))))))
end
/-- the object at f, as it is made -/
def FunO (o : Obj) (f : Addr) : HO := .ext fun h => h.get? f = some o
/-- the tuple of the defaults -/
def DfOk (H : Hp) (dV : Value) (df : List (Str × Int)) : Prop := (df = [] ∧ dV = .none) ∨ ∃ (t : Addr) (a : Str) (n : Int), df = [(a, n)] ∧ dV = .ref t ∧ H t = some (.tup [.int n])
/-- the lambda of params, body, scope stands at f, made by the def of the context X -/
def LamAt (X : Cx) (H : Hp) (f : Addr) (params : Arguments) (body : Expr) (scope : Scope) (df : List (Str × Int)) : Prop := ∃ (c : Addr) (pm ct dV : Value), H f = some (FunO (objL (X.env.qual ++ "<lambda>") params body scope (cloFrom X.env.cells scope.names []) pm (.ref c) ct dV) f) ∧
  H c = some (LamX.CodeO c (X.env.qual ++ "<lambda>")) ∧ DfOk H dV df
theorem updN {H : Hp} {a b : Addr} {o : HO} (h : upd H a o b = none) : H b = none := by
  by_cases z : b = a
  · rw [z, upd_same] at h
    cases h
  · rw [upd_ne z] at h
    exact h
theorem funO_ne {o : Obj} {f : Addr} (ps : Array Value) : FunO o f ≠ .tbl ps := fun z => by
  unfold FunO at z
  cases z
theorem DfOk.ext {H H' : Hp} {dV : Value} {df : List (Str × Int)} (d : DfOk H dV df) (e : LamX.ExtN H H') : DfOk H' dV df := by
  rcases d with d | ⟨t, a, n, d1, d2, d3⟩
  · exact .inl d
  · exact .inr ⟨t, a, n, d1, d2, e _ _ d3 fun ps z => by cases z⟩
theorem LamAt.ext {X : Cx} {H H' : Hp} {f : Addr} {params : Arguments} {body : Expr} {scope : Scope} {df : List (Str × Int)} (l : LamAt X H f params body scope df) (e : LamX.ExtN H H') : LamAt X H' f params body scope df := by
  obtain ⟨c, pm, ct, dV, l1, l2, l3⟩ := l
  exact ⟨c, pm, ct, dV, e _ _ l1 funO_ne, e _ _ l2 LamX.codeO_ne, l3.ext e⟩
/-- how the defaults are written -/
def DfEv (X : Cx) (params : Arguments) (df : List (Str × Int)) : Prop := (df = [] ∧ defaultsOf params X.env = ([], [])) ∨ ∃ (a : Str) (n : Int) (e : Expr), df = [(a, n)] ∧ defaultsOf params X.env = ([eval e X.env], []) ∧ PE X.nox e (tC (.int n))
section
variable {X : Cx} {pins : List (Addr × Obj)} {σ : L2.St} {H : Hp} {s : Shared}
theorem lam_tail {T : List (Addr × Str)} {c P : Addr} {params : Arguments} {body : Expr} {scope : Scope} {pos : Pos} {dV : Value} {df : List (Str × Int)} {E : Value → Shared → Prop} {Q : Value → Shared → Prop} (I : Inv X pins σ H s) (TB : LamX.TabB X.base X.mg c P) (ek : X.env.code = .ref c)
    (hm : (P, X.env.qual ++ "<lambda>") ∈ T) (hu : ∀ p ∈ T, p.1 = P → p.2 = X.env.qual ++ "<lambda>") (hT : LamX.Tabs T H) (free : ∀ y ∈ scope.names, y.2 = .free → ∃ c, X.env.cells.lookup y.1 = some c) (hd : DfOk H dV df)
    (k : ∀ (f : Addr) (H1 : Hp) (s' : Shared), Inv X pins σ H1 s' → LamX.ExtN H H1 → LamX.Tabs T H1 → LamAt X H1 f params body scope df → H f = none → Q (.ref f) s') :
    wpAny (model X.prog X.w) X.A (makeTail "<lambda>" (X.env.qual ++ "<lambda>") params (.expr body) scope X.env dV .none none pos pos.line) Q E s := by
  obtain ⟨ps, atP, tr, known⟩ := hT _ hm
  have bi : s.heap.BuiltinsAt X.mg P := TB.bm.keeps I.bk
  have tab : s.heap.get? P = some (PySem.W.tabObj ps) := I.hok P _ atP
  cases hc : codeAmong pos ps.toList with
  | some cv =>
    obtain ⟨c1, rfl, atC⟩ := known pos cv hc
    refine tailL_hit (mg := X.mg) (closure_ok free) I.ok.glob (I.mod.glob.keeps I.bk) ek (TB.code.keeps I.bk) tab tr hc bi fun ct h1 k1 old big => ?_
    have nF : H h1.objs.size = none := I.hok.fresh big
    have J := (I.kept (h' := h1) (t' := k1) old).laid (a := h1.objs.size) (o := FunO _ h1.objs.size) (t' := k1) (fun b u e => Heap.get?_push_of_some (objL (X.env.qual ++ "<lambda>") params body scope (cloFrom X.env.cells scope.names []) ((X.mg "__name__").getD .none) (.ref c1) ct dV) e) (Nat.le_refl _)
      ⟨Heap.get?_push_size _ rfl, ⟨_, Heap.get?_push_size _ rfl⟩, fun g1 g2 e st => st _ e⟩
    have ex : LamX.ExtN H (upd H h1.objs.size (FunO (objL (X.env.qual ++ "<lambda>") params body scope (cloFrom X.env.cells scope.names []) ((X.mg "__name__").getD .none) (.ref c1) ct dV) h1.objs.size)) := LamX.ExtN.of (same_new nF)
    exact k _ _ _ J ex (hT.ext (same_new nF)) ⟨c1, _, ct, dV, upd_same, ex _ _ atC LamX.codeO_ne, hd.ext ex⟩ nF
  | none =>
    refine tailL_new (mg := X.mg) (closure_ok free) I.ok.glob (I.mod.glob.keeps I.bk) ek (TB.code.keeps I.bk) tab tr hc TB.gP bi fun c1 ct h1 k1 x1 big lt rec_ tab1 => ?_
    obtain ⟨c2, oc, vs, t, e2, at1, dt, nm⟩ := rec_
    cases e2
    have sz : s.heap.objs.size ≤ h1.objs.size := Nat.le_trans big (Nat.le_of_lt lt)
    have nC : H c1 = none := I.hok.fresh big
    have J1 := LamX.inv_table (t' := k1) (more := #[rawInt pos.line, rawInt pos.col, .ref c1]) (h' := h1) I atP (fun b o ne e => x1 b o ne e) tab1 big ⟨oc, vs, t, at1, dt, nm⟩
    have J := J1.laid (a := h1.objs.size) (o := FunO _ h1.objs.size) (t' := k1) (fun b u e => Heap.get?_push_of_some (objL (X.env.qual ++ "<lambda>") params body scope (cloFrom X.env.cells scope.names []) ((X.mg "__name__").getD .none) (.ref c1) ct dV) e) (Nat.le_refl _)
      ⟨Heap.get?_push_size _ rfl, ⟨_, Heap.get?_push_size _ rfl⟩, fun g1 g2 e st => st _ e⟩
    have nF : H h1.objs.size = none := I.hok.fresh sz
    have nF2 : upd (upd H P (.tbl (ps ++ #[rawInt pos.line, rawInt pos.col, .ref c1]))) c1 (LamX.CodeO c1 (X.env.qual ++ "<lambda>")) h1.objs.size = none := by
      rw [upd_ne (Nat.ne_of_gt lt), upd_ne (ne_of_none atP nF).symm]
      exact nF
    have ex : LamX.ExtN H (upd (upd (upd H P (.tbl (ps ++ #[rawInt pos.line, rawInt pos.col, .ref c1]))) c1 (LamX.CodeO c1 (X.env.qual ++ "<lambda>"))) h1.objs.size (FunO (objL (X.env.qual ++ "<lambda>") params body scope (cloFrom X.env.cells scope.names []) ((X.mg "__name__").getD .none) (.ref c1) ct dV) h1.objs.size)) := fun b o e ne => by
      rw [upd_ne (ne_of_none e nF), upd_ne (ne_of_none e nC), upd_ne fun z => ne ps (by rw [z, atP] at e; exact (Option.some.inj e).symm)]
      exact e
    have e1 : (ps ++ #[rawInt pos.line, rawInt pos.col, .ref c1]).toList = ps.toList ++ [rawInt pos.line, rawInt pos.col, .ref c1] := by simp
    have newC : upd (upd (upd H P (.tbl (ps ++ #[rawInt pos.line, rawInt pos.col, .ref c1]))) c1 (LamX.CodeO c1 (X.env.qual ++ "<lambda>"))) h1.objs.size (FunO (objL (X.env.qual ++ "<lambda>") params body scope (cloFrom X.env.cells scope.names []) ((X.mg "__name__").getD .none) (.ref c1) ct dV) h1.objs.size) c1 = some (LamX.CodeO c1 (X.env.qual ++ "<lambda>")) := by
      rw [upd_ne (Nat.ne_of_lt lt)]
      exact upd_same
    refine k _ _ _ J ex (fun p hp => ?_) ⟨c1, _, ct, dV, upd_same, newC, hd.ext ex⟩ nF
    by_cases hb : p.1 = P
    · rw [hu p hp hb, hb]
      refine ⟨_, (by rw [upd_ne (ne_of_none atP nF), upd_ne (ne_of_none atP nC)]; exact upd_same), (by rw [e1]; exact PySem.TriplesOk_snoc _ _ _ _ tr), fun p2 cv among => ?_⟩
      rw [e1] at among
      rcases LamX.among_app _ tr among with z | z
      · obtain ⟨c0, z1, z2⟩ := known p2 cv z
        exact ⟨c0, z1, ex _ _ z2 LamX.codeO_ne⟩
      · exact ⟨c1, z, newC⟩
    · obtain ⟨qs, z1, z2, z3⟩ := hT p hp
      refine ⟨qs, (by rw [upd_ne (ne_of_none z1 nF), upd_ne (ne_of_none z1 nC), upd_ne hb]; exact z1), z2, fun p2 cv among => ?_⟩
      obtain ⟨c0, y1, y2⟩ := z3 p2 cv among
      exact ⟨c0, y1, ex _ _ y2 LamX.codeO_ne⟩
/-- the lambda is made, its default (an int, if there is one) first -/
theorem lam_makeT {T : List (Addr × Str)} {c P : Addr} {params : Arguments} {body : Expr} {scope : Scope} {pos : Pos} {df : List (Str × Int)} {E : Value → Shared → Prop} {Q : Value → Shared → Prop} (I : Inv X pins σ H s) (TB : LamX.TabB X.base X.mg c P) (ek : X.env.code = .ref c)
    (hm : (P, X.env.qual ++ "<lambda>") ∈ T) (hu : ∀ p ∈ T, p.1 = P → p.2 = X.env.qual ++ "<lambda>") (hT : LamX.Tabs T H) (free : ∀ y ∈ scope.names, y.2 = .free → ∃ c, X.env.cells.lookup y.1 = some c) (hd : DfEv X params df)
    (k : ∀ (f : Addr) (H1 : Hp) (s' : Shared), Inv X pins σ H1 s' → LamX.ExtN H H1 → LamX.Tabs T H1 → LamAt X H1 f params body scope df → H f = none → Q (.ref f) s') :
    wpAny (model X.prog X.w) X.A (eval (.Lambda params body scope pos) X.env) Q E s := by
  rcases hd with ⟨rfl, e⟩ | ⟨a, n, ex, rfl, e, pe⟩
  · rw [arm_eval_Lambda, e]
    refine wpAny_bind (m := evalAll []) (wpAny_pure (wpAny_bind (wpAny_holding (wpAny_pure ?_))))
    rw [makeFunction_eq]
    simp only [List.zip_nil_right, List.filterMap_nil, List.isEmpty_nil, if_true, pure_bind]
    exact lam_tail I TB ek hm hu hT free (.inl ⟨rfl, rfl⟩) k
  · rw [arm_eval_Lambda, e]
    refine wpAny_bind (m := evalAll [eval ex X.env]) (wpAny_bind (m := eval ex X.env) (thnF (pe.run pins s σ H (fun v H1 => v = .int n ∧ H1 = H) (I.wish _) ⟨rfl, rfl⟩) fun u s1 ⟨v, H1, I1, rv, ev, eH⟩ => ?_))
    subst ev eH
    have I1 := I1.unwish
    refine wpAny_bind (wpAny_holding (wpAny_pure (wpAny_pure (wpAny_bind (wpAny_holding (wpAny_pure ?_))))))
    rw [makeFunction_eq]
    simp only [List.zip_nil_right, List.filterMap_nil, List.isEmpty_nil, List.isEmpty_cons, Bool.false_eq_true, if_false, if_true, pure_bind]
    refine wpAny_bind (wpAny_newTextTuple ?_)
    have nT : H1 s1.heap.objs.size = none := I1.hok.fresh (Nat.le_refl _)
    have I2 : Inv X pins σ (upd H1 s1.heap.objs.size (.tup [.int n])) { s1 with heap := s1.heap.push { cls := .type "tuple", data := .seq [u].toArray } } := I1.laid (t' := s1.toks) (fun b o e => Heap.get?_push_of_some _ e) (Nat.le_refl _) ⟨by show 1 ≤ sizeLine; decide, [u], .cons rv .nil, IsTup.new s1.heap _⟩
    exact lam_tail I2 TB ek hm hu (hT.ext (same_new nT)) free (.inr ⟨_, a, n, rfl, rfl, upd_same⟩) fun f H2 s2 J ex t l nf => k f H2 s2 J (LamX.ExtN.trans (LamX.ExtN.of (same_new nT)) ex) t l (updN nf)
end
/-! ### what stands at f is called -/
/-- captured names and globals; a name of its own is none of the def's -/
structure LamO (N : List Str) (sc scope : Scope) : Prop where
  kind : scope.kind = .function
  co : scope.isCoroutine = false
  gen : scope.isGenerator = false
  own : ∀ y ∈ scope.names, y.2 ≠ .cell ∧ (y.2 = .local → y.1 ∉ N)
  free : ∀ y ∈ scope.names, y.2 = .free → sc.names.lookup y.1 = some .cell ∨ sc.names.lookup y.1 = some .free
def lamOB (N : List Str) (sc scope : Scope) : Bool :=
  decide (scope.kind = .function) && (!scope.isCoroutine && (!scope.isGenerator && scope.names.all fun y => !decide (y.2 = .cell) && ((!decide (y.2 = .local) || !decide (y.1 ∈ N)) && (!decide (y.2 = .free) || (decide (sc.names.lookup y.1 = some .cell) || decide (sc.names.lookup y.1 = some .free))))))
theorem lamO_by {N : List Str} {sc scope : Scope} (h : lamOB N sc scope = true) : LamO N sc scope := by
  obtain ⟨h1, h⟩ := Bool.and_eq_true_iff.mp h
  obtain ⟨h2, h⟩ := Bool.and_eq_true_iff.mp h
  obtain ⟨h3, h4⟩ := Bool.and_eq_true_iff.mp h
  have each : ∀ y ∈ scope.names, y.2 ≠ .cell ∧ (y.2 = .local → y.1 ∉ N) ∧ (y.2 = .free → sc.names.lookup y.1 = some .cell ∨ sc.names.lookup y.1 = some .free) := fun y hy => by
    have z := List.all_eq_true.mp h4 y hy
    simp only [Bool.and_eq_true, Bool.or_eq_true, Bool.not_eq_true', decide_eq_true_eq, decide_eq_false_iff_not] at z
    exact ⟨z.1, fun e => z.2.1.resolve_left fun k => k e, fun e => z.2.2.resolve_left fun k => k e⟩
  exact ⟨of_decide_eq_true h1, by simpa using h2, by simpa using h3, fun y hy => ⟨(each y hy).1, (each y hy).2.1⟩, fun y hy => (each y hy).2.2⟩
section
variable {X : Cx} {pins : List (Addr × Obj)} {σ : L2.St} {H HZ : Hp} {s s1 : Shared}
theorem lam_start3 {A : Around} {outer : List Env} {E : XK} {scope : Scope} {f c1 : Addr} {h1 : Heap} {tk : Nat} {m : Str → Option Value} (I : Inv X pins σ H s) (L : LamO X.N X.env.scope scope) (e0 : Env0 X.prog X.w X.K X.mg X.base A outer s1 HZ) (hd : A.handled = none)
    (un : Un (frs X.stack) [] H HZ s.heap s1.heap) (ns : h1.Ns s1.heap.objs.size m) (old : ∀ b o, s1.heap.get? b = some o → h1.get? b = some o) :
    Inv (LamX.lamCx X A outer s1 HZ E scope f c1) [] σ HZ { s1 with heap := h1, toks := tk } := by
  have has : ∀ y ∈ scope.names, y.2 = .free → ∃ c, X.env.cells.lookup y.1 = some c := fun y hy e => I.ok.has _ (L.free y hy e)
  have back : ∀ {y : Str} {c : Addr}, (cloFrom X.env.cells scope.names []).lookup y = some c → X.env.cells.lookup y = some c := fun {y c} e => by
    rcases cloFrom_mem (PySem.mem_of_lookup e) with z | ⟨z1, z2⟩
    · cases z
    · obtain ⟨c2, ec⟩ := has _ z1 rfl
      have ec : X.env.cells.lookup y = some c2 := ec
      rw [ec] at z2
      rw [ec, z2] <;> rfl
  have there : ∀ {y : Str}, scope.names.lookup y = some .free → ∃ c, (cloFrom X.env.cells scope.names []).lookup y = some c := fun {y} e => mem_lookup (cloFrom_has (cells := X.env.cells) (acc := []) (PySem.mem_of_lookup e))
  have cellK : ∀ {c : Addr} {v : Option Value}, H c = none → s.heap.IsCell c v → h1.IsCell c v := fun {c v} n z => by
    obtain ⟨o, z1, z2⟩ := z
    obtain ⟨sl, z3⟩ := un.any z1 n List.not_mem_nil
    exact ⟨_, old _ _ z3, z2⟩
  have noex : ∀ b : Addr, b ∉ (LamX.lamCx X A outer s1 HZ E scope f c1).ex := fun b z => absurd (show b ∈ ([] : List Addr) from z) List.not_mem_nil
  have nocell : ∀ {y : Str}, scope.names.lookup y ≠ some .cell := fun {y} z => (L.own _ (PySem.mem_of_lookup z)).1 rfl
  have okL : (LamX.lamCx X A outer s1 HZ E scope f c1).Ok := ⟨e0.mod, L.kind, rfl, rfl, Nat.le_refl _, fun y z c a b => I.ok.inj y z c (back a) (back b), fun y hy => hy.elim (fun z => absurd z nocell) there, fun y c z _ => (nomatch (show false = true from z)), fun _ => hd, Around.frames_deeper e0.frames,
    .inr ⟨rfl, rfl⟩, fun b z => absurd z (noex b), e0.bs, e0.bsz, fun b _ _ => noex b, fun b z => absurd z (noex b), e0.funs, e0.frf⟩
  refine ⟨okL, rfl, e0.bare, Un.kept old, ⟨m, ns, fun i y v a1 a2 a3 => ?_⟩, fun y c e => ?_, e0.hok.fresh (Nat.le_refl _), fun y c e => ?_, fun p hp => (by cases hp), e0.hok.kept old, I.len⟩
  · have a3 : Vis scope y := a3
    have isF : scope.names.lookup y = some .free := by
      rcases a3 with z | z | z
      · exact absurd (List.mem_of_getElem? a1) ((L.own _ (PySem.mem_of_lookup z)).2 rfl)
      · exact absurd z nocell
      · exact z
    have up := L.free _ (PySem.mem_of_lookup isF) rfl
    obtain ⟨m2, _, look⟩ := I.loc
    obtain ⟨u, ru, q⟩ := look i y v a1 a2 (.inr up)
    obtain ⟨c2, e2⟩ := there isF
    refine ⟨u, ru, .inr ⟨.inr isF, c2, e2, ?_⟩⟩
    have e3 := back e2
    rcases q with ⟨z, _⟩ | ⟨_, c3, z1, z2⟩
    · have z : X.env.scope.names.lookup y = some .local := z
      rcases up with k | k
      · rw [show X.env.scope.names.lookup y = _ from k] at z
        cases z
      · rw [show X.env.scope.names.lookup y = _ from k] at z
        cases z
    · rw [e3] at z1
      cases z1
      exact cellK (I.freeC y _ e3) z2
  · obtain ⟨v, z⟩ := I.cell y c (back e)
    exact ⟨v, cellK (I.freeC y c (back e)) z⟩
  · obtain ⟨v, o, z, _⟩ := I.cell y c (back e)
    exact un.free c o z (I.freeC y c (back e)) List.not_mem_nil
/-- how such a lambda is bound when it is called without arguments -/
def BindL (params : Arguments) (body : Expr) (scope : Scope) (df : List (Str × Int)) : Prop :=
  (df = [] ∧ ∀ (q : Str) (cl : List (Str × Addr)) (pm cv ct : Value), bindArgs (fnL "<lambda>" q params body scope cl pm cv ct .none) ⟨[], []⟩ = pure []) ∨
  ∃ (a : Str) (n : Int), df = [(a, n)] ∧ scope.names.lookup a = some .local ∧ ∀ (q : Str) (cl : List (Str × Addr)) (pm cv ct : Value) (t : Addr) (u : Value), ∃ k : Option (Array Value) → Sem (List (Str × Value)),
    bindArgs (fnL "<lambda>" q params body scope cl pm cv ct (.ref t)) ⟨[], []⟩ = (seqItems? (.ref t) >>= k) ∧ k (some #[u]) = pure [(a, u)]
/-- x(), x the parameter that got the lambda -/
theorem pe_actT {CXg : CXT} {Eg : XK} {Ng : List Str} {qg : Str} {sg : Scope} {g f : Addr} {cdg : Value} {params : Arguments} {body : Expr} {scope : Scope} {df : List (Str × Int)} {k i : Nat} {a : Str} {pn : List (Addr × Obj)} {xe : Value → Shared → Prop} {W : WX} {E : XK} {tb : TE} {p1 p2 : Pos}
    (I : Inv X pins σ H s) (L : LamO X.N X.env.scope scope) (B : BindL params body scope df)
    (tk : Takes ((cxOf CXg X.prog X.w X.K X.mg X.base Ng qg sg g cdg X.A X.stack s H Eg).tr pn xe) W) (hW : ∀ cls d σ' H', E cls d H' → W cls d σ' H') (hr : Room (k + 1) (X.A.deeper (envOfC qg sg s.heap.objs.size g cdg)))
    (hbody : ∀ (A : Around) (outer : List Env) (s : Shared) (H : Hp) (c1 : Addr), Room k (A.deeper (LamX.lamEnv X scope s.heap.objs.size f c1)) → PE (LamX.lamCx X A outer s H E scope f c1) body tb)
    (hN : Ng[i]? = some a) (hv : Vis sg a) (hd : (a == ("__debug__" : Str)) = false := by decide) (hcd : (a == ("__classdict__" : Str)) = false := by decide) :
    PE ((cxOf CXg X.prog X.w X.K X.mg X.base Ng qg sg g cdg X.A X.stack s H Eg).tr pn xe) (.Call (.Name a p1) [] [] p2)
      (fun σZ HZ Q => σZ[i]? = some (some (.ref f)) ∧ LamAt X HZ f params body scope df ∧ tb σ HZ Q) := by
  refine ⟨fun pinsZ sZ σZ HZ Q IZ h => ?_⟩
  obtain ⟨here, at_, ht⟩ := h
  refine wpAny_Call_Name_kw (thn ((pe_var (pos := p1) (i := i) hN hv hd hcd).run pinsZ sZ σZ HZ (fun v H1 => v = .ref f ∧ H1 = HZ) IZ ⟨.ref f, here, rfl, rfl⟩) fun u s1 ⟨v, H1, I1, rv, ev, eH⟩ => ?_)
  subst ev eH
  obtain rfl : u = Value.ref f := rv
  obtain ⟨c1, pm, ct, dV, a1, a2, a3⟩ := at_
  have atF : s1.heap.get? f = some (objL (X.env.qual ++ "<lambda>") params body scope (cloFrom X.env.cells scope.names []) pm (.ref c1) ct dV) := (I1.hok f _ a1).1
  obtain ⟨⟨oc, vs, t, z1, z2, z3⟩, _, _⟩ := I1.hok c1 _ a2
  refine PySem.W.callWith_F0 ⟨_, _, _, _, atF⟩ ?_
  have start : ∀ (binds : List (Str × Value)), (∀ y ∈ binds, scope.names.lookup y.1 = some .local) → wpAny (model X.prog X.w) (X.A.deeper (envOfC qg sg s.heap.objs.size g cdg)).in1 (newFunctionEnv scope mainGlobals (cloFrom X.env.cells scope.names []) binds ((X.env.qual ++ "<lambda>") ++ ".<locals>.") (some f) (.ref c1) none builtinsNs)
      (fun env s2 => s2.heap.NoLimit ∧ codeAny (model X.prog X.w) (X.A.deeper (envOfC qg sg s.heap.objs.size g cdg)) (.expr body env) (CR (L2.CX X.prog X.w) (envOfC qg sg s.heap.objs.size g cdg :: X.stack) X.prog X.w H1 s1 Q E) s2)
      (fun e s' => CR (L2.CX X.prog X.w) (envOfC qg sg s.heap.objs.size g cdg :: X.stack) X.prog X.w H1 s1 Q E (.error e) s') s1 := fun binds hb => by
    refine wpAny_newFunctionEnv (fun y hy => (L.own y hy).1) hb (fun h1 ns same => ⟨I1.nolimit.fresh _ same, ?_⟩) L.kind
    have old : ∀ b o, s1.heap.get? b = some o → h1.get? b = some o := fun b o e => same.extBut b o (Nat.ne_of_lt (Heap.lt_size e)) (Heap.get?_push_of_some _ e)
    have J : Inv (LamX.lamCx X (X.A.deeper (envOfC qg sg s.heap.objs.size g cdg)) (envOfC qg sg s.heap.objs.size g cdg :: X.stack) s1 H1 E scope f c1) [] σ H1 { s1 with heap := h1, toks := s1.toks + binds.length } := lam_start3 I L I1.env0 hr.hd I1.base ns old
    show codeAny _ _ (.expr body (LamX.lamEnv X scope s1.heap.objs.size f c1)) _ _
    exact PySem.W.kla_codeExpr (wpAny_mono ((hbody _ _ s1 H1 c1 (hr.deeper _)).run [] _ _ H1 Q J ht) (fun w s' ⟨w2, H2, J2, r2, q2⟩ => ⟨w2, H2, J2.os, J2.bare, J2.base, J2.hok, r2, q2⟩) fun e s' q => q)
  have run : codeAny (model X.prog X.w) (X.A.deeper (envOfC qg sg s.heap.objs.size g cdg)) (.call (.ref f) ⟨[], []⟩) (CR (L2.CX X.prog X.w) (envOfC qg sg s.heap.objs.size g cdg :: X.stack) X.prog X.w H1 s1 Q E) s1 := by
    refine PySem.W.kla_callFunE hr.depth atF rfl L.co L.gen rfl ⟨c1, oc, vs, t, rfl, z1, z2, z3⟩ ?_
    rcases B with ⟨rfl, bind⟩ | ⟨b, n, rfl, loc, bind⟩
    · rcases a3 with ⟨_, rfl⟩ | ⟨_, _, _, z, _⟩
      · rw [bind]
        exact wpAny_pure (start [] fun y hy => absurd hy List.not_mem_nil)
      · cases z
    · rcases a3 with ⟨z, _⟩ | ⟨td, b2, n2, z, rfl, tup⟩
      · cases z
      · cases z
        obtain ⟨_, its, rel, isT⟩ := I1.hok td _ tup
        obtain ⟨u, rfl⟩ : ∃ u, its = [u] := by
          cases rel with
          | cons _ r =>
            cases r
            exact ⟨_, rfl⟩
        obtain ⟨kk, e1, e2⟩ := bind (X.env.qual ++ "<lambda>") (cloFrom X.env.cells scope.names []) pm (.ref c1) ct td u
        rw [e1]
        obtain ⟨ot, o1, _, n3, o3⟩ := isT
        refine wpAny_bind (wpAny_seqItems o1 o3 ?_)
        rw [e2]
        exact wpAny_pure (start [(b, u)] fun y hy => by rw [List.mem_singleton.mp hy]; exact loc)
  refine wpAny_call (codeAny_mono run fun r s' q => ?_)
  cases r with
  | error e => exact passes_call tk hW pinsZ σZ H1 s1 e s' I1 q
  | ok fl =>
    cases fl with
    | ret u => exact I1.after q
    | next => exact False.elim q
    | brk => exact False.elim q
    | cont => exact False.elim q
end
end EB

/-! Kept lambdas as values, and a def that calls the one it gets. -/
namespace EB
open PySem PySem.Spec PyProof.Rows L2
/-- the lambda at f, made by the def of X: its body reads as t -/
def Lam (X : Cx) (k : Nat) (H : Hp) (f : Addr) (t : XK → TE) : Prop := ∃ (params : Arguments) (body : Expr) (scope : Scope) (df : List (Str × Int)), LamAt X H f params body scope df ∧ LamO X.N X.env.scope scope ∧ BindL params body scope df ∧
  ∀ (A : Around) (outer : List Env) (s : Shared) (G : Hp) (E : XK) (c : Addr), Room k (A.deeper (LamX.lamEnv X scope s.heap.objs.size f c)) → PE (LamX.lamCx X A outer s G E scope f c) body (t E)
theorem Lam.ext {X : Cx} {k : Nat} {H H' : Hp} {f : Addr} {t : XK → TE} (l : Lam X k H f t) (e : LamX.ExtN H H') : Lam X k H' f t := by
  obtain ⟨a, b, c, d, l1, l2⟩ := l
  exact ⟨a, b, c, d, l1.ext e, l2⟩
theorem Lam.mono {X : Cx} {k : Nat} {H H' : Hp} {f : Addr} {t : XK → TE} (l : Lam X k H f t) (s : Same H H') : Lam X k H' f t := l.ext (LamX.ExtN.of s)
/-- the reading of a lambda as a value -/
def tLamV (X : Cx) (k : Nat) (T : List (Addr × Str)) (t : XK → TE) : TE := fun _ H Q => LamX.Tabs T H ∧ ∀ H1 f, LamX.ExtN H H1 → LamX.Tabs T H1 → Lam X k H1 f t → H f = none → Q (.ref f) H1
theorem pe_lamV {X : Cx} {k : Nat} {T : List (Addr × Str)} {c P : Addr} {params : Arguments} {body : Expr} {scope : Scope} {pos : Pos} {t : XK → TE} (df : List (Str × Int)) (TB : LamX.TabB X.base X.mg c P) (ek : X.env.code = .ref c)
    (hm : (P, X.env.qual ++ "<lambda>") ∈ T) (hu : ∀ p ∈ T, p.1 = P → p.2 = X.env.qual ++ "<lambda>") (L : LamO X.N X.env.scope scope) (D : DfEv X params df) (B : BindL params body scope df)
    (run : ∀ (f : Addr) (A : Around) (outer : List Env) (s : Shared) (G : Hp) (E : XK) (c : Addr), Room k (A.deeper (LamX.lamEnv X scope s.heap.objs.size f c)) → PE (LamX.lamCx X A outer s G E scope f c) body (t E)) :
    PE X (.Lambda params body scope pos) (tLamV X k T t) :=
  ⟨fun pins s σ H Q I h => lam_makeT I TB ek hm hu h.1 (fun y hy e => I.ok.has _ (L.free y hy e)) D fun f H1 s' J ex tb at_ nf => ⟨.ref f, H1, J, rfl, h.2 H1 f ex tb ⟨_, _, _, df, at_, L, B, run f⟩ nf⟩⟩
/-- what is asked of x(e), e a kept lambda of the def whose slots are σ -/
def tKept (X : Cx) (k : Nat) (TT : (XK → Hp → VK → Prop) → Hp → VK → Prop) (σ : L2.St) (te : TE) : TE := fun σ1 H Q => tCons te tNil σ1 H fun vs H1 => ∃ f t, vs = [.ref f] ∧ Lam X k H1 f t ∧ TT (fun E H' Q' => H' = H1 ∧ t E σ H' Q') H1 Q
section
variable {X Y : Cx} {TT : (XK → Hp → VK → Prop) → Hp → VK → Prop} {x a : Str} {g : Addr} {k : Nat} {pg : Arguments} {bg : List Stmt} {sg : Scope} {dV kV doc pm cdv ct oc : Value} {an od : Option Addr} {osl : Array (Option Value)} {Ng : List Str} {te : TE} {e : Expr} {p pos : Pos} {σ : L2.St}
/-- x(e) where the def's own state is at hand: in the def itself, or in a block of it -/
theorem pe_kept (back : ∀ (pins : List (Addr × Obj)) (σ1 : L2.St) (H : Hp) (s : Shared), Inv Y pins σ1 H s → ∃ pins0, Inv X pins0 σ H s) (eP : Y.prog = X.prog) (eW : Y.w = X.w) (eK : Y.K = X.K) (eM : Y.mg = X.mg) (eB : Y.base = X.base) (eA : Y.A = X.A) (eS : Y.stack = X.stack)
    (hg : Gl Y x) (hm : X.mg x = some (.ref g)) (hk : PySem.W.keepIn X.K (.ref g) = true)
    (lk : X.K.lookup g = some ⟨oc, od, .func (PySem.W.fnOf x x pg bg sg dV kV doc pm an cdv ct), osl⟩) (hcg : PySem.W.codeIn X.K cdv x = true) (hb : L2.Binds X.K (PySem.W.fnOf x x pg bg sg dV kV doc pm an cdv ct) [a] []) (Sg : FnScope Ng [a] sg) (hNg : Ng[0]? = some a) (hva : Vis sg a)
    (hG : LamX.GivesTo X Ng x sg g cdv bg a (X.env.qual ++ "<lambda>") TT) (hr : Room (k + 2) X.A) (he : PE Y e te)
    (hdb : (x == ("__debug__" : Str)) = false := by decide) (hd : (a == ("__debug__" : Str)) = false := by decide) (hcd : (a == ("__classdict__" : Str)) = false := by decide)
    (hse : starEach [e] Y.env = [(false, eval e Y.env)] := by rfl) : PE Y (.Call (.Name x p) [e] [] pos) (tKept X k TT σ te) := by
  refine ⟨fun pins s σ1 H Q I h => ?_⟩
  refine wpAny_Call_Name_kw (ld_glob I hg (eM ▸ hm) ?_ hdb)
  refine PySem.W.callWith_K (h₀ := Y.base) I.ok.mod.kin (eK ▸ hk) (thn ((pa_cons he pa_nil hse).run pos pins s σ1 H _ I h) fun us s1 ⟨vs, H1, I1, rv, q⟩ => ⟨I1.kIn, wpAny_call ?_⟩) hse (by rfl)
  obtain ⟨f, t, ev, ⟨params, body, scope, df, at_, L, B, run⟩, q⟩ := q
  obtain ⟨pins0, J⟩ := back _ _ _ _ I1
  subst ev
  obtain ⟨c1, pm1, ct1, dV1, a1, a2, a3⟩ := id at_
  obtain ⟨u, hu⟩ : ∃ u, us = [u] := by
    cases rv with
    | cons _ r =>
      cases r
      exact ⟨_, rfl⟩
  subst hu
  have room : Room (k + 2) Y.A := eA ▸ hr
  have rc : codeAny (model X.prog X.w) X.A (.call (.ref g) ⟨[u], []⟩) (CR CX0 X.stack X.prog X.w H1 s1 Q E0) s1 := by
    refine LamX.run_ofS (N := Ng) (ps := [a]) (us := [u]) (vs := [.ref f]) lk hcg Sg hr J.env0 (hb s1 [u] J.kIn rfl) rv rfl fun hr' => ?_
    obtain ⟨ts, h1, h2⟩ := hG f c1 s1 H1 Q (fun E H' Q' => H' = H1 ∧ t E σ H' Q') (fun W pn xe E p1 p2 tk hW => by
      have z := pe_actT (CXg := CX0) (Eg := E0) (qg := x) (cdg := cdv) (g := g) (tb := t E) (p1 := p1) (p2 := p2) (E := E) (i := 0) J L B tk hW hr' (fun A outer s G c => run A outer s G E c) hNg hva hd hcd
      exact ⟨fun pins2 s2 σ2 H2 Q2 I2 h2 => z.run pins2 s2 σ2 H2 Q2 I2 ⟨h2.1, by rw [h2.2.2.1]; exact at_, h2.2.2.2⟩⟩) a2 q
    exact ⟨ts, h1.nox, h2⟩
  rw [eP, eW, eA]
  refine codeAny_mono rc fun r s2 q2 => ?_
  cases r with
  | error e => exact (show False from q2).elim
  | ok fl =>
    cases fl with
    | ret u =>
      refine I1.after ?_
      rw [eP, eW, eS]
      exact q2
    | next => exact False.elim q2
    | brk => exact False.elim q2
    | cont => exact False.elim q2
end
end EB

/-! list(zip(a, b)) of two lists -/
namespace EBZ
open PySem PySem.Spec PyProof.Rows L2
abbrev IsZipO (h : Heap) (z TI TO a : Addr) (f : Bool) : Prop :=
  h.get? z = some { cls := .type "zip", dict := none, data := .fields #[rawInt a, .bool f, .bool false, .ref TI, .ref TO], slots := #[] }
section
variable {prog : Program} {w : World} {A : Around} {E : Value → Shared → Prop} {s : Shared}
theorem free_false {z TI TO a : Addr} {f : Bool} (hz : IsZipO s.heap z TI TO a f) (G : Bool → Shared → Prop) (hm : ∀ h₁ : Heap, IsZipO h₁ z TI TO a true → Heap.SameBut z s.heap h₁ → G false { s with heap := h₁ }) :
      wpAny (model prog w) A (if (Value.bool f != Value.bool true) = true then do
        setField (Value.ref z) 1 (Value.bool true)
        pure false
      else pure false) G E s := by
    cases f with
    | false =>
      rw [if_pos (show (Value.bool false != Value.bool true) = true from rfl)]
      refine wpAny_bind (wpAny_setField_rec hz (by simp) fun h₁ hz₁ hs₁ => wpAny_pure (hm h₁ hz₁ hs₁))
    | true =>
      rw [if_neg (show ¬ ((Value.bool true != Value.bool true) = true) from Bool.false_ne_true)]
      exact wpAny_pure (hm s.heap hz (Heap.SameBut.refl _ _))
theorem zipO_next_item {z TI TO i1 i2 l1 l2 a : Addr} {f : Bool} {oa : Obj} {k1 k2 : Nat} {xs ys : Array Value} {x y : Value} {Q : Value → Shared → Prop} (D : ZipApart z TI TO i1 i2 l1 l2)
    (hz : IsZipO s.heap z TI TO a f) (ha : s.heap.get? a = some oa) (hTI : IsPair s.heap TI (.ref i1) (.ref i2))
    (h1 : s.heap.IsListIter i1 l1 k1) (h2 : s.heap.IsListIter i2 l2 k2) (hl1 : s.heap.IsList l1 xs) (hl2 : s.heap.IsList l2 ys) (hx : xs[k1]? = some x) (hy : ys[k2]? = some y)
    (hQ : ∀ h', IsZipO h' z TI TO a true → h'.IsListIter i1 l1 (k1 + 1) → h'.IsListIter i2 l2 (k2 + 1) → IsPair h' s.heap.objs.size x y → h'.objs.size = s.heap.objs.size + 1 →
      (∀ c o, c ≠ z → c ≠ i1 → c ≠ i2 → s.heap.get? c = some o → h'.get? c = some o) → Q (.ref s.heap.objs.size) { s with heap := h' }) :
    wpAny (model prog w) A (Builtin.«zip.__next__» ⟨[.ref z], []⟩) (fun fin s' => ∃ v, fin = .done (.ret v) ∧ Q v s') E s := by
  show wpAny _ _ (field (.ref z) 2 >>= _) _ _ _
  refine wpAny_bind (wpAny_field hz rfl (x := .bool false) rfl ?_)
  show wpAny _ _ (field (.ref z) 3 >>= _) _ _ _
  refine wpAny_bind (wpAny_field hz rfl (x := .ref TI) rfl ?_)
  refine wpAny_bind (wpAny_seqItems hTI rfl ?_)
  show wpAny _ _ (Builtin.SmallTypes.ownedTupleIsFree (.ref z) >>= _) _ _ _
  refine wpAny_bind ?_
  unfold Builtin.SmallTypes.ownedTupleIsFree
  refine wpAny_bind (wpAny_field hz rfl (x := rawInt a) rfl ?_)
  show wpAny _ _ (loadIfAlive ((a : Int).toNat) >>= _) _ _ _
  rw [Int.toNat_natCast]
  refine wpAny_bind (PySem.W.kdx_alive ha ?_)
  simp only [Option.isNone_some, Bool.false_eq_true, if_false]
  refine wpAny_bind (wpAny_field hz rfl (x := .bool f) rfl ?_)
  refine free_false hz _ fun h₁ hz₁ hs₁ => ?_
  simp only [Bool.false_eq_true, if_false]
  rw [← Array.forIn_toList]
  simp only [List.forIn_cons, List.forIn_nil]
  refine wpAny_bind (wpAny_bind (wpAny_bind (wpAny_holding ?_)))
  show wpAny _ _ (Builtin.SmallTypes.nextOf (.ref i1) >>= _) _ _ _
  refine wpAny_bind (wpAny_nextOf_list_item (h1.extBut hs₁.extBut D.i1z) (hl1.extBut hs₁.extBut D.l1z) hx fun h₂ h1₂ hs₂ => wpAny_pure ?_)
  refine wpAny_pure ?_
  refine wpAny_bind (wpAny_bind (wpAny_holding ?_))
  show wpAny _ _ (Builtin.SmallTypes.nextOf (.ref i2) >>= _) _ _ _
  refine wpAny_bind (wpAny_nextOf_list_item ((h2.extBut hs₁.extBut D.i2z).extBut hs₂.extBut D.i12.symm)
    ((hl2.extBut hs₁.extBut D.l2z).extBut hs₂.extBut D.l2i1) hy fun h₄ h2₄ hs₄ => wpAny_pure ?_)
  refine wpAny_pure (wpAny_pure ?_)
  dsimp only at hs₁ hs₂ hs₄ ⊢
  refine wpAny_bind (wpAny_newTuple (hsz := show 2 ≤ sizeLine by decide) ?_)
  have hsz : h₄.objs.size = s.heap.objs.size := by rw [hs₄.1, hs₂.1, hs₁.1]
  have hk : ∀ c o, c ≠ z → c ≠ i1 → c ≠ i2 → s.heap.get? c = some o → h₄.get? c = some o := fun c o c1 c3 c4 e => hs₄.extBut _ _ c4 (hs₂.extBut _ _ c3 (hs₁.extBut _ _ c1 e))
  have hz₄ : IsZipO h₄ z TI TO a true := hs₄.extBut _ _ D.i2z.symm (hs₂.extBut _ _ D.i1z.symm hz₁)
  have h1₄ := h1₂.extBut hs₄.extBut D.i12
  refine wpAny_pure ⟨_, rfl, ?_⟩
  rw [hsz]
  refine hQ _ (Heap.get?_push_of_some _ hz₄) (h1₄.at fun o e => Heap.get?_push_of_some _ e) (h2₄.at fun o e => Heap.get?_push_of_some _ e) ?_ ?_ fun c o c1 c2 c3 e => Heap.get?_push_of_some _ (hk c o c1 c2 c3 e)
  · have e : IsPair (h₄.push { cls := .type "tuple", data := .seq #[x, y] }) h₄.objs.size x y := Heap.get?_push_size _ rfl
    rw [hsz] at e
    exact e
  · rw [Heap.size_push, hsz]
theorem zipO_next_end {z TI TO i1 i2 l1 l2 a : Addr} {f : Bool} {oa : Obj} {k1 : Nat} {xs : Array Value} {Q : PySem.Fin → Shared → Prop} (hh : A.handled = none) (D : ZipApart z TI TO i1 i2 l1 l2)
    (hz : IsZipO s.heap z TI TO a f) (ha : s.heap.get? a = some oa) (hTI : IsPair s.heap TI (.ref i1) (.ref i2))
    (h1 : s.heap.IsListIter i1 l1 k1) (hl1 : s.heap.IsList l1 xs) (hx : xs[k1]? = none)
    (hE : ∀ h' e, (∀ c o, c ≠ z → c ≠ i1 → s.heap.get? c = some o → h'.get? c = some o) → (∃ o, h'.get? e = some o ∧ o.cls = .type "StopIteration") → E (.ref e) { s with heap := h' }) :
    wpAny (model prog w) A (Builtin.«zip.__next__» ⟨[.ref z], []⟩) Q E s := by
  show wpAny _ _ (field (.ref z) 2 >>= _) _ _ _
  refine wpAny_bind (wpAny_field hz rfl (x := .bool false) rfl ?_)
  show wpAny _ _ (field (.ref z) 3 >>= _) _ _ _
  refine wpAny_bind (wpAny_field hz rfl (x := .ref TI) rfl ?_)
  refine wpAny_bind (wpAny_seqItems hTI rfl ?_)
  show wpAny _ _ (Builtin.SmallTypes.ownedTupleIsFree (.ref z) >>= _) _ _ _
  refine wpAny_bind ?_
  unfold Builtin.SmallTypes.ownedTupleIsFree
  refine wpAny_bind (wpAny_field hz rfl (x := rawInt a) rfl ?_)
  show wpAny _ _ (loadIfAlive ((a : Int).toNat) >>= _) _ _ _
  rw [Int.toNat_natCast]
  refine wpAny_bind (PySem.W.kdx_alive ha ?_)
  simp only [Option.isNone_some, Bool.false_eq_true, if_false]
  refine wpAny_bind (wpAny_field hz rfl (x := .bool f) rfl ?_)
  refine free_false hz _ fun h₁ hz₁ hs₁ => ?_
  simp only [Bool.false_eq_true, if_false]
  rw [← Array.forIn_toList]
  simp only [List.forIn_cons, List.forIn_nil]
  refine wpAny_bind (wpAny_bind (wpAny_bind (wpAny_holding ?_)))
  show wpAny _ _ (Builtin.SmallTypes.nextOf (.ref i1) >>= _) _ _ _
  refine wpAny_bind (wpAny_nextOf_list_end hh (h1.extBut hs₁.extBut D.i1z) (hl1.extBut hs₁.extBut D.l1z) hx fun h₂ e hs₂ he => ?_)
  exact hE h₂ e (fun c o c1 c3 x => hs₂ _ _ c3 (hs₁.extBut _ _ c1 x)) he
/-- the zip between two turns of the list that takes its pairs -/
structure ZSt (h : Heap) (z TI TO i1 i2 l1 l2 S : Addr) (i : Nat) : Prop where
  ti : IsPair h TI (.ref i1) (.ref i2)
  a1 : h.IsListIter i1 l1 i
  a2 : h.IsListIter i2 l2 i
  st : (IsZip h z TI TO .none ∧ ∃ x y, IsPair h TO x y) ∨ ∃ a f oa, IsZipO h z TI TO a f ∧ h.get? a = some oa ∧ a ≠ z ∧ a ≠ i1 ∧ a ≠ i2 ∧ a ≠ S
theorem z_item {z TI TO i1 i2 l1 l2 S : Addr} {i : Nat} {xs ys : Array Value} {x y : Value} {Q : Option Value → Shared → Prop} (D : ZipApart z TI TO i1 i2 l1 l2)
    (st : ZSt s.heap z TI TO i1 i2 l1 l2 S i) (hS : S < s.heap.objs.size) (hl1 : s.heap.IsList l1 xs) (hl2 : s.heap.IsList l2 ys) (hx : xs[i]? = some x) (hy : ys[i]? = some y)
    (hQ : ∀ h', ZSt h' z TI TO i1 i2 l1 l2 S (i + 1) → IsPair h' s.heap.objs.size x y → h'.objs.size = s.heap.objs.size + 1 →
      (∀ c o, c ≠ z → c ≠ TO → c ≠ i1 → c ≠ i2 → s.heap.get? c = some o → h'.get? c = some o) → Q (some (.ref s.heap.objs.size)) { s with heap := h' }) :
    wpAny (model prog w) A (pyNext (.ref z)) Q E s := by
  obtain ⟨ti, a1, a2, ⟨hz, x0, y0, hTO⟩ | ⟨a, f, oa, hz, ha, b1, b2, b3, b4⟩⟩ := st
  · refine wpAny_pyNext_zip_item D hz ti hTO a1 a2 hl1 hl2 hx hy fun h' c1 c2 c3 c4 c5 c6 c7 => hQ h' ⟨c7 _ _ D.TIz D.TITO D.TIi1 D.TIi2 ti, c3, c4, .inr ⟨_, false, _, c1, c5, Nat.ne_of_gt (Heap.lt_size hz), ?_, ?_, Nat.ne_of_gt hS⟩⟩ c5 c6 c7
    · obtain ⟨_, e, _⟩ := a1
      exact Nat.ne_of_gt (Heap.lt_size e)
    · obtain ⟨_, e, _⟩ := a2
      exact Nat.ne_of_gt (Heap.lt_size e)
  · have hT : s.TypeIs (.ref z) "zip" := ⟨_, hz, rfl⟩
    unfold pyNext
    refine wpAny_bind (wpAny_attempt (wpAny_callSpecial?_slot (name := Str.ofString "__next__") hT F.slot_zip_next (wpAny_call_entry F.slot_zip_next hT F.entry_zip_next
      (zipO_next_item D hz ha ti a1 a2 hl1 hl2 hx hy fun h' c1 c3 c4 c5 c6 c7 => wpAny_pure ?_) (F.args_zip_next_1 _))))
    exact hQ h' ⟨c7 _ _ D.TIz D.TIi1 D.TIi2 ti, c3, c4, .inr ⟨a, true, _, c1, c7 _ _ b1 b2 b3 ha, b1, b2, b3, b4⟩⟩ c5 c6 fun c o d1 _ d3 d4 e => c7 c o d1 d3 d4 e
theorem z_done {z TI TO i1 i2 l1 l2 S : Addr} {i : Nat} {xs ys : Array Value} {Q : Option Value → Shared → Prop} (hh : A.handled = none) (D : ZipApart z TI TO i1 i2 l1 l2)
    (st : ZSt s.heap z TI TO i1 i2 l1 l2 S i) (hl1 : s.heap.IsList l1 xs) (hl2 : s.heap.IsList l2 ys) (hx : xs[i]? = none)
    (hQ : ∀ h', (∀ c o, c ≠ z → c ≠ TO → c ≠ i1 → c ≠ i2 → s.heap.get? c = some o → h'.get? c = some o) → Q none { s with heap := h' }) :
    wpAny (model prog w) A (pyNext (.ref z)) Q E s := by
  obtain ⟨ti, a1, a2, ⟨hz, x0, y0, hTO⟩ | ⟨a, f, oa, hz, ha, b1, b2, b3, b4⟩⟩ := st
  · exact wpAny_pyNext_zip_end hh D hz ti hTO a1 a2 hl1 hl2 (.inl hx) hQ
  · have hT : s.TypeIs (.ref z) "zip" := ⟨_, hz, rfl⟩
    unfold pyNext
    refine wpAny_bind (wpAny_attempt (wpAny_callSpecial?_slot (name := Str.ofString "__next__") hT F.slot_zip_next (wpAny_call_entry F.slot_zip_next hT F.entry_zip_next
      (zipO_next_end hh D hz ha ti a1 hl1 hx fun h' e hk he => ?_) (F.args_zip_next_1 _))))
    obtain ⟨o, ho, hc⟩ := he
    refine wpAny_bind (wpAny_isInstance (T := "StopIteration") (b := true) ⟨o, ho, hc⟩ isSubtype_stop ?_)
    exact wpAny_pure (hQ _ fun c o d1 _ d3 _ e => hk c o d1 d3 e)
/-- the pairs that were taken, in their order -/
structure ZG (xs ys : Array Value) (lo : Addr) (h : Heap) (as : List Addr) : Prop where
  rise : as.Pairwise (· < ·)
  above : ∀ a ∈ as, lo < a
  prs : ∀ (j : Nat) (a : Addr), as[j]? = some a → ∃ u v, xs[j]? = some u ∧ ys[j]? = some v ∧ IsPair h a u v
theorem ZG.there {xs ys : Array Value} {lo : Addr} {h : Heap} {as : List Addr} (g : ZG xs ys lo h as) {a : Addr} (ha : a ∈ as) : a < h.objs.size := by
  obtain ⟨j, hj⟩ := List.mem_iff_getElem?.mp ha
  obtain ⟨_, _, _, _, e⟩ := g.prs j a hj
  exact Heap.lt_size e
end
theorem zip_no_len : typeLookup (.type "zip") "__len__" = pure none := by rw [typeLookup_type, builtinLookup_eq_fast]; kernel_rfl
theorem zip_no_hint : typeLookup (.type "zip") "__length_hint__" = pure none := by rw [typeLookup_type, builtinLookup_eq_fast]; kernel_rfl
section
variable {prog : Program} {w : World} {A : Around} {s : Shared} {R : Result → Shared → Prop} {xs ys : Array Value}
theorem z_loop {z TI TO i1 i2 l1 l2 S : Addr} (hh : A.handled = none) (D : ZipApart z TI TO i1 i2 l1 l2) (hn : xs.size ≤ sizeLine) (hxy : xs.size = ys.size) (res : Value) {h₁ : Heap}
    (nS : S ≠ z ∧ S ≠ TI ∧ S ≠ TO ∧ S ≠ i1 ∧ S ≠ i2 ∧ S ≠ l1 ∧ S ≠ l2) (lo : z < S ∧ TO < S ∧ i1 < S ∧ i2 < S)
    (hR : ∀ h' tk acc c as, (∀ b o, b ≠ S → b ≠ z → b ≠ TO → b ≠ i1 → b ≠ i2 → h₁.get? b = some o → h'.get? b = some o) → h'.get? S = some { cls := .type "list", dict := none, data := .seq acc c, slots := #[] } → as.length = xs.size → ZG xs ys S h' as →
      acc.toList = as.map Value.ref → R (.ok (.ret res)) { s with heap := h', toks := tk }) :
    ∀ (k i : Nat) (h : Heap) (tk c : Nat) (acc : Array Value) (as : List Addr), xs.size - i = k → i ≤ xs.size → ZSt h z TI TO i1 i2 l1 l2 S i → h.IsList l1 xs → h.IsList l2 ys →
      (∀ b o, b ≠ S → b ≠ z → b ≠ TO → b ≠ i1 → b ≠ i2 → h₁.get? b = some o → h.get? b = some o) →
      h.get? S = some { cls := .type "list", dict := none, data := .seq acc c, slots := #[] } → acc.toList = as.map Value.ref → as.length = i → ZG xs ys S h as →
      codeAny (model prog w) A (.builtin "list.extend.loop" ⟨[.ref S, .ref z, res], []⟩) R { s with heap := h, toks := tk } := by
  obtain ⟨n1, n2, n3, n4, n5, n6, n7⟩ := nS
  obtain ⟨g1, g2, g3, g4⟩ := lo
  intro k
  induction k with
  | zero =>
    intro i h tk c acc as hk hi st hl1 hl2 hkeep hS hacc hal hG
    refine codeAny_builtin PySem.F.entry_extend_loop ?_
    rw [Around.under_plainId PySem.F.plain_extend_loop _]
    show wpAny _ A.in1 (pyNext (.ref z) >>= _) _ _ _
    refine wpAny_bind (z_done (s := { s with heap := h, toks := tk }) (A := A.in1) hh D st hl1 hl2 (by rw [Array.getElem?_eq_none]; omega) fun h' he => ?_)
    refine wpAny_pure (hR h' tk acc c as (fun b o e0 e1 e2 e3 e4 e => he b o e1 e2 e3 e4 (hkeep b o e0 e1 e2 e3 e4 e)) (he S _ n1 n3 n4 n5 hS) (by omega) ⟨hG.rise, hG.above, fun j a hj => ?_⟩ hacc)
    obtain ⟨u, v, e1, e2, e3⟩ := hG.prs j a hj
    have hb := hG.above a (List.mem_of_getElem? hj)
    exact ⟨u, v, e1, e2, he a _ (Nat.ne_of_gt (Nat.lt_trans g1 hb)) (Nat.ne_of_gt (Nat.lt_trans g2 hb)) (Nat.ne_of_gt (Nat.lt_trans g3 hb)) (Nat.ne_of_gt (Nat.lt_trans g4 hb)) e3⟩
  | succ k ih =>
    intro i h tk c acc as hk hi st hl1 hl2 hkeep hS hacc hal hG
    have hlt : i < xs.size := by omega
    have hsz : acc.size = i := by rw [← Array.length_toList, hacc, List.length_map, hal]
    have hSl : S < h.objs.size := Heap.lt_size hS
    refine codeAny_builtin PySem.F.entry_extend_loop ?_
    rw [Around.under_plainId PySem.F.plain_extend_loop _]
    show wpAny _ A.in1 (pyNext (.ref z) >>= _) _ _ _
    refine wpAny_bind (z_item (s := { s with heap := h, toks := tk }) (S := S) D st hSl hl1 hl2 (Array.getElem?_eq_getElem hlt) (Array.getElem?_eq_getElem (by omega)) fun h' st' ht hz hkp => ?_)
    dsimp only at ht hz hkp ⊢
    have hS' := hkp S _ n1 n3 n4 n5 hS
    have up : ∀ b o, b ≠ S → h'.get? b = some o → (h'.update S (Obj.mapSeq (·.push (Value.ref h.objs.size)))).get? b = some o := fun b o hb e => (Heap.get?_update_other _ _ (Ne.symm hb)).trans e
    show wpAny _ A.in1 (updateSeq S (·.push (Value.ref h.objs.size)) >>= _) _ _ _
    refine wpAny_bind ?_
    refine wpAny_updateSeq hS' rfl (wpAny_pure ⟨plainId_quiet PySem.F.plain_extend_loop _, ih (i + 1) _ tk _ (acc.push (Value.ref h.objs.size)) (as ++ [h.objs.size]) (by omega) hlt ?_ (hl1.at fun o e => up l1 o n6.symm (hkp l1 o D.l1z D.l1TO D.l1i1 D.l1i2 e)) (hl2.at fun o e => up l2 o n7.symm (hkp l2 o D.l2z D.l2TO D.l2i1 D.l2i2 e))
      (fun b o e0 e1 e2 e3 e4 e => up b o e0 (hkp b o e1 e2 e3 e4 (hkeep b o e0 e1 e2 e3 e4 e))) (Heap.get?_update_self _ hS' rfl) (by rw [Array.toList_push, hacc, List.map_append]; rfl) (by rw [List.length_append, hal]; rfl) ⟨?_, ?_, ?_⟩⟩) (by rw [hsz]; omega) (by show (acc.push (Value.ref h.objs.size)).size ≤ sizeLine + 1; rw [Array.size_push, hsz]; omega)
    · obtain ⟨ti, b1, b2, ⟨hz, x0, y0, hTO⟩ | ⟨a, f, oa, hz, ha, b5, b6, b7, b8⟩⟩ := st'
      · exact ⟨up _ _ n2.symm ti, b1.at fun o e => up _ o n4.symm e, b2.at fun o e => up _ o n5.symm e, .inl ⟨up _ _ n1.symm hz, x0, y0, up _ _ n3.symm hTO⟩⟩
      · exact ⟨up _ _ n2.symm ti, b1.at fun o e => up _ o n4.symm e, b2.at fun o e => up _ o n5.symm e, .inr ⟨a, f, oa, up _ _ n1.symm hz, up _ _ b8 ha, b5, b6, b7, b8⟩⟩
    · refine List.pairwise_append.mpr ⟨hG.rise, List.pairwise_singleton _ _, fun a ha b hb => ?_⟩
      rw [List.mem_singleton.mp hb]
      exact hG.there ha
    · intro a ha
      rcases List.mem_append.mp ha with ha | ha
      · exact hG.above a ha
      · rw [List.mem_singleton.mp ha]; exact hSl
    · intro j b hj
      rcases Nat.lt_trichotomy j as.length with q | q | q
      · rw [List.getElem?_append_left q] at hj
        obtain ⟨u, v, e1, e2, e3⟩ := hG.prs j b hj
        have hb := hG.above b (List.mem_of_getElem? hj)
        exact ⟨u, v, e1, e2, up b _ (Nat.ne_of_gt hb) (hkp b _ (Nat.ne_of_gt (Nat.lt_trans g1 hb)) (Nat.ne_of_gt (Nat.lt_trans g2 hb)) (Nat.ne_of_gt (Nat.lt_trans g3 hb)) (Nat.ne_of_gt (Nat.lt_trans g4 hb)) e3)⟩
      · subst q
        have hb : h.objs.size = b := by simpa using hj
        subst hb
        exact ⟨_, _, by rw [hal]; exact Array.getElem?_eq_getElem hlt, by rw [hal]; exact Array.getElem?_eq_getElem (by omega), up _ _ (Nat.ne_of_gt hSl) ht⟩
      · have hnone : (as ++ [h.objs.size])[j]? = none := List.getElem?_eq_none (by rw [List.length_append, List.length_singleton]; omega)
        rw [hnone] at hj; cases hj
end
section
variable {prog : Program} {w : World} {A : Around} {E : Value → Shared → Prop} {s : Shared} {xs ys : Array Value}
/-- list(z) of a zip that has not begun -/
theorem z_call {z TI TO i1 i2 l1 l2 : Addr} {Q : Value → Shared → Prop} (hh : A.handled = none) (D : ZipApart z TI TO i1 i2 l1 l2) (hn : xs.size ≤ sizeLine) (hxy : xs.size = ys.size)
    (hz : IsZip s.heap z TI TO .none) (hTI : IsPair s.heap TI (.ref i1) (.ref i2)) (hTO : ∃ x y, IsPair s.heap TO x y) (h1 : s.heap.IsListIter i1 l1 0) (h2 : s.heap.IsListIter i2 l2 0) (hl1 : s.heap.IsList l1 xs) (hl2 : s.heap.IsList l2 ys)
    (hQ : ∀ h' tk acc c as, (∀ b o, b ≠ z → b ≠ TO → b ≠ i1 → b ≠ i2 → s.heap.get? b = some o → h'.get? b = some o) → h'.get? s.heap.objs.size = some { cls := .type "list", dict := none, data := .seq acc c, slots := #[] } → as.length = xs.size → ZG xs ys s.heap.objs.size h' as →
      acc.toList = as.map Value.ref → Q (.ref s.heap.objs.size) { s with heap := h', toks := tk }) :
    wpAny (model prog w) A (call (.type "list") [.ref z]) Q E s := by
  obtain ⟨x0, y0, hTO⟩ := hTO
  have lz : z < s.heap.objs.size := Heap.lt_size hz
  have lTI : TI < s.heap.objs.size := Heap.lt_size hTI
  have lTO : TO < s.heap.objs.size := Heap.lt_size hTO
  have li1 : i1 < s.heap.objs.size := by
    obtain ⟨_, e, _⟩ := h1
    exact Heap.lt_size e
  have li2 : i2 < s.heap.objs.size := by
    obtain ⟨_, e, _⟩ := h2
    exact Heap.lt_size e
  have ll1 : l1 < s.heap.objs.size := by
    obtain ⟨_, e, _⟩ := hl1
    exact Heap.lt_size e
  have ll2 : l2 < s.heap.objs.size := by
    obtain ⟨_, e, _⟩ := hl2
    exact Heap.lt_size e
  refine callType_codes (Q₁ := fun obj s₁ => obj = .ref s.heap.objs.size ∧ s₁ = { s with heap := s.heap.push { cls := .type "list", data := .seq #[] } }) PySem.F.called_list (PySem.F.typeCall_list_1 _) PySem.F.entry_list_init
    (code_list_new _ ⟨rfl, rfl⟩) fun obj s₁ h₁ => ?_
  obtain ⟨rfl, rfl⟩ := h₁
  have hS : (s.heap.push { cls := .type "list", data := .seq #[] }).get? s.heap.objs.size = some { cls := .type "list", data := .seq #[] } := Heap.get?_push_size _ rfl
  refine ⟨⟨_, hS, rfl⟩, PySem.F.args_list_init_2 _ _, ?_⟩
  show wpAny _ A.in1.in1 (do let old ← Builtin.List.listItems (.ref s.heap.objs.size); Builtin.List.listUpdate (.ref s.heap.objs.size) (fun _ => #[]); letGo old.toList.reverse; Builtin.List.listExtendWith (.ref s.heap.objs.size) (.ref z) .none) _ _ _
  refine wpAny_bind ?_
  unfold Builtin.List.listItems
  refine wpAny_bind (wpAny_seqItems hS rfl (wpAny_pure ?_))
  show wpAny _ A.in1.in1 (updateSeq s.heap.objs.size (fun _ => #[]) >>= fun _ => letGo (#[] : Array Value).toList.reverse >>= fun _ => Builtin.List.listExtendWith (.ref s.heap.objs.size) (.ref z) .none) _ _ _
  refine wpAny_bind (wpAny_updateSeq hS rfl ?_)
  have hS2 := Heap.get?_update_self (Obj.mapSeq (fun _ => (#[] : Array Value))) hS rfl
  refine wpAny_bind (wpAny_letGo ?_)
  unfold Builtin.List.listExtendWith
  have up : ∀ (h : Heap) (f : Obj → Obj), (∀ b o, s.heap.get? b = some o → h.get? b = some o) → ∀ b o, s.heap.get? b = some o → (h.update s.heap.objs.size f).get? b = some o := fun h f q b o e =>
    (Heap.get?_update_other _ _ (Ne.symm (Nat.ne_of_lt (Heap.lt_size e)))).trans (q b o e)
  have k1 : ∀ b o, s.heap.get? b = some o → (s.heap.push { cls := .type "list", data := .seq #[] }).get? b = some o := fun b o e => Heap.get?_push_of_some _ e
  have k2 := up _ (Obj.mapSeq (fun _ => (#[] : Array Value))) k1
  have zty : ∀ {h : Heap}, (∀ b o, s.heap.get? b = some o → h.get? b = some o) → Shared.TypeIs { s with heap := h } (.ref z) "zip" := fun {h} q => ⟨_, q _ _ hz, rfl⟩
  refine wpAny_bind (wpAny_typeOf (zty k2) ?_)
  have q1 : Builtin.List.listSameRef (.ref s.heap.objs.size) (.ref z) = false := by simp [Builtin.List.listSameRef, Nat.ne_of_gt lz]
  have q2 : (Value.type "zip" == Value.type "list") = false := by decide
  have q3 : (Value.type "zip" == Value.type "tuple") = false := by decide
  simp only [q1, q2, q3, Bool.or_false, Bool.false_eq_true, if_false]
  refine wpAny_bind (wpAny_pyIter_zip (s := { s with heap := _ }) (k2 _ _ hz) ?_)
  refine wpAny_bind (wpAny_holding ?_)
  unfold Builtin.List.listLengthHint
  refine wpAny_bind (wpAny_specialOf (zty k2) zip_no_len ?_)
  show wpAny _ A.in1.in1 (specialOf (Value.ref z) (Str.ofString "__length_hint__") >>= _) _ _ _
  refine wpAny_bind (wpAny_specialOf (zty k2) zip_no_hint ?_)
  refine wpAny_pure ?_
  refine wpAny_ite_split (fun _ => ?_) (fun q => absurd (Bool.true_or _) q)
  refine wpAny_bind (wpAny_rule ?_)
  refine wpAny_bind ?_
  show wpAny _ A.in1.in1 (updateSeq s.heap.objs.size (·.push .none) >>= fun _ => updateSeq s.heap.objs.size (·.pop)) _ _ _
  refine wpAny_bind (wpAny_updateSeq hS2 rfl ?_)
  have hS3 := Heap.get?_update_self (Obj.mapSeq (·.push Value.none)) hS2 rfl
  refine wpAny_updateSeq (hz := by seq_fits) hS3 rfl ?_
  have hS4 := Heap.get?_update_self (Obj.mapSeq (·.pop)) hS3 rfl
  have k4 := up _ (Obj.mapSeq (·.pop)) (up _ (Obj.mapSeq (·.push Value.none)) k2)
  refine wpAny_pure ⟨plainId_quiet F.plain_extend_loop _, ?_⟩
  refine z_loop (s := s) (A := A.in1) (xs := xs) (ys := ys) (h₁ := s.heap) hh D hn hxy .none ⟨Nat.ne_of_gt lz, Nat.ne_of_gt lTI, Nat.ne_of_gt lTO, Nat.ne_of_gt li1, Nat.ne_of_gt li2, Nat.ne_of_gt ll1, Nat.ne_of_gt ll2⟩ ⟨lz, lTO, li1, li2⟩
    (fun h' tk acc c as f1 f2 f3 f4 f5 => ⟨rfl, hQ h' tk acc c as (fun b o e1 e2 e3 e4 e => f1 b o (Nat.ne_of_lt (Heap.lt_size e)) e1 e2 e3 e4 e) f2 f3 f4 f5⟩)
    xs.size 0 _ s.toks _ #[] [] (Nat.sub_zero _) (Nat.zero_le _) ⟨k4 _ _ hTI, h1.at fun o e => k4 _ o e, h2.at fun o e => k4 _ o e, .inl ⟨k4 _ _ hz, x0, y0, k4 _ _ hTO⟩⟩ (hl1.at fun o e => k4 _ o e) (hl2.at fun o e => k4 _ o e) (fun b o _ _ _ _ _ e => k4 b o e) hS4 rfl rfl
    ⟨List.Pairwise.nil, fun a ha => (nomatch ha), fun j a hj => (nomatch hj)⟩
end
/-! ### in the tracked heap -/
def putP : Hp → List Addr → List (V × V) → Hp
  | H, a :: as, p :: ps => putP (upd H a (.tup [p.1, p.2])) as ps
  | H, _, _ => H
theorem putP_off {b : Addr} : ∀ (as : List Addr) (ps : List (V × V)) (H : Hp), b ∉ as → putP H as ps b = H b
  | [], _, _, _ => rfl
  | _ :: _, [], _, _ => rfl
  | a :: as, p :: ps, H, h => by
    have h1 := putP_off as ps (upd H a (.tup [p.1, p.2])) fun z => h (List.mem_cons_of_mem _ z)
    have h2 : b ≠ a := fun z => h (by rw [z]; exact List.mem_cons_self)
    rw [upd_ne h2] at h1
    exact h1
theorem putP_at : ∀ (as : List Addr) (ps : List (V × V)) (H : Hp), as.length = ps.length → as.Nodup → ∀ (j : Nat) (a : Addr), as[j]? = some a → ∃ p, ps[j]? = some p ∧ putP H as ps a = some (.tup [p.1, p.2])
  | [], _, _, _, _, j, a, e => by simp at e
  | _ :: _, [], _, h, _, _, _, _ => by cases h
  | b :: as, p :: ps, H, h, nd, 0, a, e => by
    cases e
    have nd2 := List.nodup_cons.mp nd
    refine ⟨p, rfl, ?_⟩
    have h1 := putP_off as ps (upd H b (.tup [p.1, p.2])) nd2.1
    rw [upd_same] at h1
    exact h1
  | b :: as, p :: ps, H, h, nd, j + 1, a, e => putP_at as ps (upd H b (.tup [p.1, p.2])) (Nat.succ.inj h) (List.nodup_cons.mp nd).2 j a e
/-- the list of pairs of what stands in two lists -/
def rZip2 (K : PySem.W.Frag) : List V → Hp → VK → Prop := fun vs H Q => ∃ (a b : Addr) (xs ys : List V), vs = [.ref a, .ref b] ∧ SqL K H a xs ∧ SqL K H b ys ∧ xs.length = ys.length ∧
  ∀ (H' : Hp) (p : Addr) (ts : List Addr), Same H H' → H p = none → (∀ t ∈ ts, H t = none) → p ∉ ts → ts.length = xs.length → H' p = some (.lst (ts.map V.ref)) →
    (∀ (j : Nat) (t : Addr), ts[j]? = some t → ∃ x y, xs[j]? = some x ∧ ys[j]? = some y ∧ H' t = some (.tup [x, y])) → Q (.ref p) H'
def tListZip (K : PySem.W.Frag) (ta : TA) : TE := fun σ H Q => ta σ H fun vs H1 => rZip2 K vs H1 Q
section
variable {X : Cx} {e e2 : Expr} {ta : TA} {p p2 pos pos2 : Pos}
theorem pe_listZip (hc : X.calm = true) (ha : PA X [e, e2] ta) (hg : Gl X "list") (hm : X.mg "list" = none) (hv : bootBuiltins "list" = some (.type "list")) (hg2 : Gl X "zip") (hm2 : X.mg "zip" = none)
    (hs : starEach [.Call (.Name "zip" p2) [e, e2] [] pos2] X.env = (false, eval (.Call (.Name "zip" p2) [e, e2] [] pos2) X.env) :: starEach [] X.env := by rfl)
    (hs2 : starEach [e, e2] X.env = (false, eval e X.env) :: starEach [e2] X.env := by rfl) (hpl : (backTo pos2 (starEach [e2] X.env)).any (·.1) = false := by rfl) :
    PE X (.Call (.Name "list" p) [.Call (.Name "zip" p2) [e, e2] [] pos2] [] pos) (tListZip X.K ta) := by
  refine ⟨fun pins s σ H Q I hq => ?_⟩
  refine wpAny_Call_Name_kw (ld_blt I hg hm hv ?_)
  refine PyProof.Rows.callWith_type1 ?_ hs rfl
  rw [hs]
  show wpAny _ _ (spliced ((false, eval (.Call (.Name "zip" p2) [e, e2] [] pos2) X.env) :: backTo pos (starEach [] X.env))) _ _ s
  refine Calls.spliced_cons ?_
  refine Call_ (ld_blt I hg2 hm2 PyProof.Rows.boot_zip (PyProof.Rows.callWith_type1 (thn (ha.run pos2 pins s σ H _ I hq) fun us s1 ⟨vs, H1, I1, r1, q1⟩ => ?_) hs2 hpl))
  obtain ⟨a, b, xs, ys, ex, hqx, hqy, hxy, q⟩ := q1
  subst ex
  cases r1 with
  | cons r rr =>
    cases rr with
    | cons r' rr =>
      cases rr
      cases r
      cases r'
      obtain ⟨its, rv, p1, _⟩ := I1.list hqx
      obtain ⟨its2, rv2, p2, _⟩ := I1.list hqy
      have la : a < s1.heap.objs.size := p1.lt
      have lb : b < s1.heap.objs.size := p2.lt
      have l1 := rv.length
      have l2 := rv2.length
      refine call_zip_2 p1.isList p2.isList fun h' hz hTI hTO h1 h2 hsz hk => ?_
      refine Calls.spliced_nil ?_
      have low : ∀ b' o, s1.heap.get? b' = some o → b' < s1.heap.objs.size := fun b' o e => Heap.lt_size e
      have far : ∀ (b' : Addr) (n : Nat), b' < s1.heap.objs.size → b' ≠ s1.heap.objs.size + n := fun b' n z => Nat.ne_of_lt (Nat.lt_of_lt_of_le z (Nat.le_add_right _ _))
      refine z_call (s := { s1 with heap := h' }) (xs := its.toArray) (ys := its2.toArray) (I1.ok.hd hc) (PySem.W.ktu_apart s1.heap.objs.size a b la lb) (by rw [List.size_toArray]; omega) (by rw [List.size_toArray, List.size_toArray]; omega) hz hTI ⟨_, _, hTO⟩ h1 h2
        (p1.isList.at fun o e => hk _ o e) (p2.isList.at fun o e => hk _ o e) fun h'' tk acc c as hk2 hS hl hG hacc => ?_
      dsimp only at hk2 hS hG ⊢
      rw [hsz] at hS hG ⊢
      have kp : ∀ b' o, s1.heap.get? b' = some o → h''.get? b' = some o := fun b' o e => by
        have := low b' o e
        exact hk2 b' o (far _ _ this) (far _ _ this) (Nat.ne_of_lt this) (far _ _ this) (hk b' o e)
      have hl2 : as.length = xs.length := by
        rw [hl, List.size_toArray]
        omega
      have hSn : s1.heap.objs.size + 5 ∉ as := fun z => Nat.lt_irrefl _ (hG.above _ z)
      have nd : as.Nodup := List.Pairwise.imp (fun {a b} (h : a < b) => Nat.ne_of_lt h) hG.rise
      have new : ∀ t ∈ as, H1 t = none := fun t ht => I1.hok.fresh (Nat.le_trans (Nat.le_add_right _ _) (Nat.le_of_lt (hG.above t ht)))
      have newS : H1 (s1.heap.objs.size + 5) = none := I1.hok.fresh (by omega)
      have lz : as.length = (xs.zip ys).length := by
        rw [List.length_zip]
        omega
      have off : ∀ b', b' ∉ as → b' ≠ s1.heap.objs.size + 5 → putP (upd H1 (s1.heap.objs.size + 5) (.lst (as.map V.ref))) as (xs.zip ys) b' = H1 b' := fun b' e1 e2 => by rw [putP_off as _ _ e1, upd_ne e2]
      have eS : putP (upd H1 (s1.heap.objs.size + 5) (.lst (as.map V.ref))) as (xs.zip ys) (s1.heap.objs.size + 5) = some (.lst (as.map V.ref)) := by rw [putP_off as _ _ hSn, upd_same]
      have atP := putP_at as (xs.zip ys) (upd H1 (s1.heap.objs.size + 5) (.lst (as.map V.ref))) lz nd
      generalize putP (upd H1 (s1.heap.objs.size + 5) (.lst (as.map V.ref))) as (xs.zip ys) = H' at off eS atP
      have kpH : ∀ b' u, H1 b' = some u → H' b' = some u := fun b' u e => by
        rw [off b' (fun z => by rw [new b' z] at e; cases e) (fun z => by rw [z, newS] at e; cases e)]
        exact e
      have at2 : ∀ (j : Nat) (t : Addr), as[j]? = some t → ∃ x y, xs[j]? = some x ∧ ys[j]? = some y ∧ H' t = some (.tup [x, y]) := fun j t e => by
        obtain ⟨pr, e1, e2⟩ := atP j t e
        obtain ⟨x, y⟩ := pr
        rw [List.getElem?_zip_eq_some] at e1
        exact ⟨x, y, e1.1, e1.2, e2⟩
      refine ⟨.ref (s1.heap.objs.size + 5), H', ?_, rfl, q H' _ as kpH newS new hSn hl2 eS at2⟩
      refine I1.call' (ch := []) rfl ⟨fun b' o e _ _ _ => kp b' o e, fun b' o e _ _ _ => ⟨o.slots, kp b' o e⟩, fun b' o e n _ => ?_, fun b' o e _ => ⟨o, kp b' o e⟩, fun b' xs' e => kpH b' _ e, fun b' o u e => kpH b' _ e, fun b' ps e => ⟨#[], by rw [kpH b' _ e]; simp⟩⟩ (fun b' u e => ?_) I1.bare fun b' z => by simp at z
      · have lb' := low b' o e
        rw [off b' (fun z => Nat.lt_asymm (Nat.lt_of_le_of_lt (Nat.le_add_right _ 5) (hG.above b' z)) lb') (far _ _ lb')]
        exact n
      · by_cases hb : b' ∈ as
        · obtain ⟨j, hj⟩ := List.mem_iff_getElem?.mp hb
          obtain ⟨x, y, f1, f2, f3⟩ := at2 j b' hj
          obtain ⟨u1, u2, g1, g2, g3⟩ := hG.prs j b' hj
          rw [f3] at e
          cases e
          obtain ⟨v1, w1, r1⟩ := rv.get f1
          obtain ⟨v2, w2, r2⟩ := rv2.get f2
          rw [List.getElem?_toArray, w1] at g1
          rw [List.getElem?_toArray, w2] at g2
          cases g1
          cases g2
          exact ⟨by show 2 ≤ sizeLine; decide, [u1, u2], .cons r1 (.cons r2 .nil), ⟨_, g3, rfl, _, rfl⟩⟩
        · by_cases hb2 : b' = s1.heap.objs.size + 5
          · rw [hb2] at e ⊢
            rw [eS] at e
            cases e
            refine ⟨by rw [List.length_map]; omega, acc.toList, c, by rw [hacc]; exact LiI.vals_refs as, ?_⟩
            rw [Array.toArray_toList]
            exact hS
          · rw [off b' hb hb2] at e
            exact (I1.hok b' u e).stay (fun d v _ z => kp d v z) (fun d z => kpH d _ z) fun d xs z => kpH d _ z
theorem pe_listZipK {K : PySem.W.Frag} (h : X.K = K) (hc : X.calm = true) (ha : PA X [e, e2] ta) (hg : Gl X "list") (hm : X.mg "list" = none) (hv : bootBuiltins "list" = some (.type "list")) (hg2 : Gl X "zip") (hm2 : X.mg "zip" = none)
    (hs : starEach [.Call (.Name "zip" p2) [e, e2] [] pos2] X.env = (false, eval (.Call (.Name "zip" p2) [e, e2] [] pos2) X.env) :: starEach [] X.env := by rfl)
    (hs2 : starEach [e, e2] X.env = (false, eval e X.env) :: starEach [e2] X.env := by rfl) (hpl : (backTo pos2 (starEach [e2] X.env)).any (·.1) = false := by rfl) :
    PE X (.Call (.Name "list" p) [.Call (.Name "zip" p2) [e, e2] [] pos2] [] pos) (tListZip K ta) := h ▸ pe_listZip hc ha hg hm hv hg2 hm2 hs hs2 hpl
end
end EBZ

/-! `!=` of two tuples that hold the same: numbers, texts, dicts of such. -/
namespace EBT
open PySem PySem.Spec PyProof.Rows L2
open PySem.SeqAt MeetsSeq MeetsSeq2 MeetsSeq3
open AutoSeq1 (wpAny_loadPart')
section
variable {prog : Program} {w : World}
theorem ne_same (p q : Addr) (us vs : Array Value) (m m' : Nat) (o o' : Option Addr) (t t' : Array (Option Value)) (e : us.size = vs.size) :
    MeetsIn prog w (Builtin.«tuple.__ne__» ⟨[.ref p, .ref q], []⟩) fun A R s =>
      s.heap.get? p = some { cls := .type "tuple", dict := o, data := .seq us m, slots := t } ∧ s.heap.get? q = some { cls := .type "tuple", dict := o', data := .seq vs m', slots := t' } ∧
        (∀ j (u1 : j < us.size) (u2 : j < vs.size), EqIn prog w A.in1 s us[j] vs[j] true) ∧ R (.ok (.ret (.bool false))) s :=
  .of_wp fun A R s h => by
    obtain ⟨hp, gl, ds, tk, os⟩ := s
    obtain ⟨gp, gq, each, h⟩ := h
    have subTT := AutoSeq1.sub_tuple_tuple
    have zl : (us.toList.zip vs.toList).length = us.size := by simp [e]
    wp_walk using wpAny_loadPart' gp, wpAny_loadPart' gq, wpAny_forIn_list _ (fun rest b s' => b.1 = none ∧ s' = ⟨hp, gl, ds, tk, os⟩ ∧ ∃ j, rest = (us.toList.zip vs.toList).drop j) _
    case turn =>
      rintro ⟨y, x⟩ rest b s' ⟨b0, rfl, j, ez⟩
      have jl : j < (us.toList.zip vs.toList).length := by
        rcases Nat.lt_or_ge j (us.toList.zip vs.toList).length with z | z
        · exact z
        · rw [List.drop_of_length_le z] at ez
          cases ez
      have ju : j < us.size := zl ▸ jl
      have jv : j < vs.size := e ▸ ju
      rw [List.drop_eq_getElem_cons jl] at ez
      injection ez with e1 e2
      have ey : y = us[j] := by
        have := congrArg Prod.fst e1
        simpa using this
      have ex : x = vs[j] := by
        have := congrArg Prod.snd e1
        simpa using this
      subst ey ex
      refine wpAny_bind (each j ju jv _ _ ?_)
      wp_walk
      exact ⟨rfl, rfl, j + 1, e2⟩
    case fin =>
      rintro ⟨b1, b2⟩ s' ⟨b0, rfl, j, ez⟩
      simp only at b0
      subst b0
      wp_walk
      exact ⟨_, rfl, by simpa [Builtin.Tuple.tupleCompareSizes, e] using h⟩
    case h => exact ⟨rfl, rfl, 0, rfl⟩
end
section
variable {prog : Program} {w : World} {A : Around} {s : Shared}
theorem rc_ne {E Q : Value → Shared → Prop} {p q : Addr} {us vs : Array Value} (gp : s.heap.IsTuple p us) (gq : s.heap.IsTuple q vs) (e : us.size = vs.size) (hu : A.units < cLine)
    (each : ∀ j (u1 : j < us.size) (u2 : j < vs.size), EqIn prog w A.in1 s us[j] vs[j] true) (h : Q (.bool false) s) : wpAny (model prog w) A (richCompare .NotEq (.ref p) (.ref q)) Q E s := by
  obtain ⟨⟨c1, o1, d1, t1⟩, h1, k1, m1, z1⟩ := id gp
  obtain ⟨⟨c2, o2, d2, t2⟩, h2, k2, m2, z2⟩ := id gq
  simp only at k1 z1 k2 z2
  subst k1 z1 k2 z2
  exact wpAny_richCompare_same_room (T := "tuple") (op := .NotEq) ⟨_, h1, rfl⟩ ⟨_, h2, rfl⟩ F.slot_tuple_ne (call_meetsIn F.slot_tuple_ne ⟨_, h1, rfl⟩ F.entry_tuple_ne (F.args_tuple_ne_2 _ _) (ne_same p q us vs m1 m2 o1 o2 t1 t2 e)
    ⟨h1, h2, each, show Value.bool false ≠ Value.notImplemented ∧ Q (.bool false) s from ⟨(fun x => nomatch x), h⟩⟩) hu
end
/-- the same number, text, None; or two dicts that hold the same -/
def SameV (H : Hp) (x y : V) : Prop := (flatV x = true ∧ flatV y = true ∧ eqV x y = true) ∨
  ∃ a b ks ls, x = .ref a ∧ y = .ref b ∧ H a = some (.dK ks) ∧ H b = some (.dK ls) ∧ ks.length = ls.length ∧ ∀ p ∈ ks, valV ls p.1 = some p.2 ∧ flatB p.2 = true
section
variable {X : Cx} {pins : List (Addr × Obj)} {s : Shared} {σ : L2.St} {H : Hp}
theorem same_eqIn {x y : V} {u v : Value} {A : Around} (I : Inv X pins σ H s) (rx : RelV x u) (ry : RelV y v) (hu : A.units < cLine) (h : SameV H x y) : EqIn X.prog X.w A s u v true := by
  rcases h with ⟨f1, f2, e⟩ | ⟨a, b, ks, ls, rfl, rfl, ea, eb, hl, hp⟩
  · have q := eqAt_V (A := A) (s := s) rx ry f1 f2
    rw [e] at q
    exact q.inModel _ _
  · obtain rfl : u = Value.ref a := rx
    obtain rfl : v = Value.ref b := ry
    by_cases hab : a = b
    · subst hab
      exact (EqAt.same (A := A) (s := s) (.ref a)).inModel _ _
    · refine EqIn.of_refs hab fun E Q hq => ?_
      obtain ⟨_, ya, va, ra, da⟩ := (show ObjOk X.prog X.w H s.heap a (.dK ks) from I.hok a _ ea)
      obtain ⟨_, yb, vb, rb, db⟩ := (show ObjOk X.prog X.w H s.heap b (.dK ls) from I.hok b _ eb)
      have hl2 : va.length = vb.length := by rw [← ra.length, ← rb.length]; exact hl
      exact PySem.W.keq_eq (knd := mixKind X.prog X.w) (r := true) ya yb da db hu (fun _ => hits_all rb ra hp) (by simpa [hl2] using hq)
def rNeTS (K : PySem.W.Frag) : R2 := fun x y H Q => ∃ (a b : Addr) (xs ys : List V), x = .ref a ∧ y = .ref b ∧ SqT K H a xs ∧ SqT K H b ys ∧ xs.length = ys.length ∧ (∀ (i : Nat) (u v : V), (xs[i]? : Option V) = some u → (ys[i]? : Option V) = some v → SameV H u v) ∧ Q (.bl false) H
theorem op_neTS {K : PySem.W.Frag} (hK : X.K = K) (hu : X.A.units + 64 < cLine) : OpR X (compareOp .NotEq) (rNeTS K) := by
  subst hK
  intro pins s σ H x y v u Q I rx ry h
  obtain ⟨a, b, xs, ys, rfl, rfl, h1, h2, hl, hs, q⟩ := h
  obtain rfl : v = Value.ref a := rx
  obtain rfl : u = Value.ref b := ry
  obtain ⟨its, r1, t1, _⟩ := I.tuple h1
  obtain ⟨jts, r2, t2, _⟩ := I.tuple h2
  have l1 := r1.length
  have l2 := r2.length
  refine rc_ne t1 t2 (by simpa using (by omega : its.length = jts.length)) (by omega) (fun j u1 u2 => ?_) ⟨.bl false, H, I, rfl, q⟩
  have k1 : j < xs.length := by rw [l1]; simpa using u1
  have k2 : j < ys.length := by rw [l2]; simpa using u2
  obtain ⟨c, ec, rc⟩ := r1.get (List.getElem?_eq_getElem k1)
  obtain ⟨d, ed, rd⟩ := r2.get (List.getElem?_eq_getElem k2)
  have g1 : its.toArray[j] = c := by
    rw [List.getElem?_eq_getElem (by simpa using u1)] at ec
    simpa using Option.some.inj ec
  have g2 : jts.toArray[j] = d := by
    rw [List.getElem?_eq_getElem (by simpa using u2)] at ed
    simpa using Option.some.inj ed
  rw [g1, g2]
  exact same_eqIn I rc rd (by show X.A.units + 1 < cLine; omega) (hs j _ _ (List.getElem?_eq_getElem k1) (List.getElem?_eq_getElem k2))
end
end EBT


namespace EB
open PySem PySem.Spec PyProof.Rows L2
def top (i : Nat) : Stmt := PySem.Challenge.pw_emptiesback_k11_whole_steps.main.body.getD i (.Pass ⟨0, 0, 0, 0⟩)
abbrev PX : Program := PySem.Challenge.pw_emptiesback_k11_whole_steps
abbrev s_InvalidStep_init : Stmt := inClass (top 8) 0
theorem sc_InvalidStep_init : SupS "index" (defScope s_InvalidStep_init) := ⟨rfl, rfl, rfl, rfl, rfl, rfl, rfl, by decide +kernel, by decide⟩
abbrev a_InvalidStep_init (K : PySem.W.Frag) : Addr := He.ma K (He.ga K "InvalidStep") "__init__"
def d_InvalidStep_init : DD := ⟨a_InvalidStep_init, "__init__", "InvalidStep.__init__", s_InvalidStep_init, [], true⟩
abbrev s_is_integer : Stmt := top 14
abbrev N_is_integer : List Str := ["value"]
theorem sc_is_integer : FnScope N_is_integer ["value"] (defScope s_is_integer) := ⟨rfl, rfl, rfl, by decide +kernel, rfl, by decide +kernel, by decide +kernel⟩
abbrev a_is_integer (K : PySem.W.Frag) : Addr := He.ga K "is_integer"
def d_is_integer : DD := ⟨a_is_integer, "is_integer", "is_integer", s_is_integer, [], false⟩
abbrev s_is_number : Stmt := top 15
abbrev N_is_number : List Str := ["value", "least", "most"]
theorem sc_is_number : FnScope N_is_number ["value", "least", "most"] (defScope s_is_number) := ⟨rfl, rfl, rfl, by decide +kernel, rfl, by decide +kernel, by decide +kernel⟩
abbrev a_is_number (K : PySem.W.Frag) : Addr := He.ga K "is_number"
def d_is_number : DD := ⟨a_is_number, "is_number", "is_number", s_is_number, [], false⟩
abbrev s_check_number : Stmt := top 16
abbrev N_check_number : List Str := ["value", "least", "most"]
theorem sc_check_number : FnScope N_check_number ["value", "least", "most"] (defScope s_check_number) := ⟨rfl, rfl, rfl, by decide +kernel, rfl, by decide +kernel, by decide +kernel⟩
abbrev a_check_number (K : PySem.W.Frag) : Addr := He.ga K "check_number"
def d_check_number : DD := ⟨a_check_number, "check_number", "check_number", s_check_number, [.int 0, .int 1000000000000000000], false⟩
abbrev s_is_label : Stmt := top 17
abbrev N_is_label : List Str := ["value", "letter"]
theorem sc_is_label : FnScope N_is_label ["value"] (defScope s_is_label) := ⟨rfl, rfl, rfl, by decide +kernel, rfl, by decide +kernel, by decide +kernel⟩
abbrev a_is_label (K : PySem.W.Frag) : Addr := He.ga K "is_label"
def d_is_label : DD := ⟨a_is_label, "is_label", "is_label", s_is_label, [], false⟩
abbrev s_is_kind : Stmt := top 18
abbrev N_is_kind : List Str := ["value"]
theorem sc_is_kind : FnScope N_is_kind ["value"] (defScope s_is_kind) := ⟨rfl, rfl, rfl, by decide +kernel, rfl, by decide +kernel, by decide +kernel⟩
abbrev a_is_kind (K : PySem.W.Frag) : Addr := He.ga K "is_kind"
def d_is_kind : DD := ⟨a_is_kind, "is_kind", "is_kind", s_is_kind, [], false⟩
abbrev s_is_possible : Stmt := top 20
abbrev N_is_possible : List Str := ["offer", "bottles", "pieces", "step", "word", "count"]
theorem sc_is_possible : FnScope N_is_possible ["offer", "bottles", "pieces", "step"] (defScope s_is_possible) := ⟨rfl, rfl, rfl, by decide +kernel, rfl, by decide +kernel, by decide +kernel⟩
abbrev a_is_possible (K : PySem.W.Frag) : Addr := He.ga K "_is_possible"
def d_is_possible : DD := ⟨a_is_possible, "_is_possible", "_is_possible", s_is_possible, [], false⟩
abbrev s_play : Stmt := top 21
abbrev N_play : List Str := ["offer", "bottles", "steps", "drinks", "kind", "pieces", "index", "word", "count", "left", "_"]
theorem sc_play : FnScope N_play ["offer", "bottles", "steps"] (defScope s_play) := ⟨rfl, rfl, rfl, by decide +kernel, rfl, by decide +kernel, by decide +kernel⟩
abbrev a_play (K : PySem.W.Frag) : Addr := He.ga K "play"
def d_play : DD := ⟨a_play, "play", "play", s_play, [], false⟩
abbrev s_greedy_steps : Stmt := top 22
abbrev N_greedy_steps : List Str := ["offer", "bottles", "steps", "kind", "pieces", "drunk", "left", "needed", "count"]
theorem sc_greedy_steps : FnScope N_greedy_steps ["offer", "bottles"] (defScope s_greedy_steps) := ⟨rfl, rfl, rfl, by decide +kernel, rfl, by decide +kernel, by decide +kernel⟩
abbrev a_greedy_steps (K : PySem.W.Frag) : Addr := He.ga K "greedy_steps"
def d_greedy_steps : DD := ⟨a_greedy_steps, "greedy_steps", "greedy_steps", s_greedy_steps, [], false⟩
abbrev s_cost_of : Stmt := top 24
abbrev N_cost_of : List Str := ["trades", "drinks", "_", "left", "needed"]
theorem sc_cost_of : FnScope N_cost_of ["trades", "drinks"] (defScope s_cost_of) := ⟨rfl, rfl, rfl, by decide +kernel, rfl, by decide +kernel, by decide +kernel⟩
abbrev a_cost_of (K : PySem.W.Frag) : Addr := He.ga K "cost_of"
def d_cost_of : DD := ⟨a_cost_of, "cost_of", "cost_of", s_cost_of, [], false⟩
abbrev s_drinks_of_period : Stmt := top 25
abbrev N_drinks_of_period : List Str := ["trades", "drinks", "_", "left", "needed"]
theorem sc_drinks_of_period : FnScope N_drinks_of_period ["trades"] (defScope s_drinks_of_period) := ⟨rfl, rfl, rfl, by decide +kernel, rfl, by decide +kernel, by decide +kernel⟩
abbrev a_drinks_of_period (K : PySem.W.Frag) : Addr := He.ga K "drinks_of_period"
def d_drinks_of_period : DD := ⟨a_drinks_of_period, "drinks_of_period", "drinks_of_period", s_drinks_of_period, [], false⟩
abbrev s_tops_of : Stmt := top 26
abbrev N_tops_of : List Str := ["costs", "tops", "top", "cost"]
theorem sc_tops_of : FnScope N_tops_of ["costs"] (defScope s_tops_of) := ⟨rfl, rfl, rfl, by decide +kernel, rfl, by decide +kernel, by decide +kernel⟩
abbrev a_tops_of (K : PySem.W.Frag) : Addr := He.ga K "tops_of"
def d_tops_of : DD := ⟨a_tops_of, "tops_of", "tops_of", s_tops_of, [], false⟩
abbrev s_firsts_of : Stmt := top 27
abbrev N_firsts_of : List Str := ["tops", "firsts", "drinks", "top"]
theorem sc_firsts_of : FnScope N_firsts_of ["tops"] (defScope s_firsts_of) := ⟨rfl, rfl, rfl, by decide +kernel, rfl, by decide +kernel, by decide +kernel⟩
abbrev a_firsts_of (K : PySem.W.Frag) : Addr := He.ga K "firsts_of"
def d_firsts_of : DD := ⟨a_firsts_of, "firsts_of", "firsts_of", s_firsts_of, [], false⟩
abbrev s_gaps_of : Stmt := top 28
abbrev N_gaps_of : List Str := ["tops", "firsts", "drinks", "top"]
theorem sc_gaps_of : FnScope N_gaps_of ["tops", "firsts"] (defScope s_gaps_of) := ⟨rfl, rfl, rfl, by decide +kernel, rfl, by decide +kernel, by decide +kernel⟩
abbrev a_gaps_of (K : PySem.W.Frag) : Addr := He.ga K "gaps_of"
def d_gaps_of : DD := ⟨a_gaps_of, "gaps_of", "gaps_of", s_gaps_of, [], false⟩
abbrev s_value_at : Stmt := top 29
abbrev N_value_at : List Str := ["table", "at", "span", "rise", "turns"]
theorem sc_value_at : FnScope N_value_at ["table", "at", "span", "rise"] (defScope s_value_at) := ⟨rfl, rfl, rfl, by decide +kernel, rfl, by decide +kernel, by decide +kernel⟩
abbrev a_value_at (K : PySem.W.Frag) : Addr := He.ga K "value_at"
def d_value_at : DD := ⟨a_value_at, "value_at", "value_at", s_value_at, [], false⟩
abbrev s_is_trade : Stmt := top 32
abbrev N_is_trade : List Str := ["kind", "left", "needed"]
theorem sc_is_trade : FnScope N_is_trade ["kind", "left", "needed"] (defScope s_is_trade) := ⟨rfl, rfl, rfl, by decide +kernel, rfl, by decide +kernel, by decide +kernel⟩
abbrev a_is_trade (K : PySem.W.Frag) : Addr := He.ga K "_is_trade"
def d_is_trade : DD := ⟨a_is_trade, "_is_trade", "_is_trade", s_is_trade, [], false⟩
abbrev s_check_trades : Stmt := top 33
abbrev N_check_trades : List Str := ["trades", "kinds", "index", "kind", "left", "needed"]
theorem sc_check_trades : FnScope N_check_trades ["trades"] (defScope s_check_trades) := ⟨rfl, rfl, rfl, by decide +kernel, rfl, by decide +kernel, by decide +kernel⟩
abbrev a_check_trades (K : PySem.W.Frag) : Addr := He.ga K "_check_trades"
def d_check_trades : DD := ⟨a_check_trades, "_check_trades", "_check_trades", s_check_trades, [], false⟩
abbrev s_check_generosity : Stmt := top 34
abbrev N_check_generosity : List Str := ["trades", "whole", "_", "needed", "parts", "left"]
theorem sc_check_generosity : FnScope N_check_generosity ["trades"] (defScope s_check_generosity) := ⟨rfl, rfl, rfl, by decide +kernel, rfl, by decide +kernel, by decide +kernel⟩
abbrev a_check_generosity (K : PySem.W.Frag) : Addr := He.ga K "_check_generosity"
def d_check_generosity : DD := ⟨a_check_generosity, "_check_generosity", "_check_generosity", s_check_generosity, [], false⟩
abbrev s_Offer_init : Stmt := inClass (top 35) 2
abbrev N_Offer_init : List Str := ["self", "trades", "drinks", "kind", "left", "needed", "count"]
theorem sc_Offer_init : FnScope N_Offer_init ["self", "trades"] (defScope s_Offer_init) := ⟨rfl, rfl, rfl, by decide +kernel, rfl, by decide +kernel, by decide +kernel⟩
abbrev a_Offer_init (K : PySem.W.Frag) : Addr := He.ma K (He.ga K "Offer") "__init__"
def d_Offer_init : DD := ⟨a_Offer_init, "__init__", "Offer.__init__", s_Offer_init, [], false⟩
abbrev s_Offer_trades : Stmt := inClass (top 35) 4
abbrev N_Offer_trades : List Str := ["self"]
theorem sc_Offer_trades : FnScope N_Offer_trades ["self"] (defScope s_Offer_trades) := ⟨rfl, rfl, rfl, by decide +kernel, rfl, by decide +kernel, by decide +kernel⟩
abbrev a_Offer_trades (K : PySem.W.Frag) : Addr := propG K (He.ga K "Offer") (He.ma K (He.ga K "Offer") "trades")
def d_Offer_trades : DD := ⟨a_Offer_trades, "trades", "Offer.trades", s_Offer_trades, [], false⟩
abbrev s_Offer_kinds : Stmt := inClass (top 35) 5
abbrev N_Offer_kinds : List Str := ["self", "kind", "_"]
theorem sc_Offer_kinds : FnScope N_Offer_kinds ["self"] (defScope s_Offer_kinds) := ⟨rfl, rfl, rfl, by decide +kernel, rfl, by decide +kernel, by decide +kernel⟩
abbrev a_Offer_kinds (K : PySem.W.Frag) : Addr := propG K (He.ga K "Offer") (He.ma K (He.ga K "Offer") "kinds")
def d_Offer_kinds : DD := ⟨a_Offer_kinds, "kinds", "Offer.kinds", s_Offer_kinds, [], false⟩
abbrev s_Offer_period : Stmt := inClass (top 35) 6
abbrev N_Offer_period : List Str := ["self"]
theorem sc_Offer_period : FnScope N_Offer_period ["self"] (defScope s_Offer_period) := ⟨rfl, rfl, rfl, by decide +kernel, rfl, by decide +kernel, by decide +kernel⟩
abbrev a_Offer_period (K : PySem.W.Frag) : Addr := propG K (He.ga K "Offer") (He.ma K (He.ga K "Offer") "period")
def d_Offer_period : DD := ⟨a_Offer_period, "period", "Offer.period", s_Offer_period, [], false⟩
abbrev s_Offer_drinks_for : Stmt := inClass (top 35) 8
abbrev N_Offer_drinks_for : List Str := ["self", "bottles", "span", "rise"]
theorem sc_Offer_drinks_for : FnScope N_Offer_drinks_for ["self", "bottles"] (defScope s_Offer_drinks_for) := ⟨rfl, rfl, rfl, by decide +kernel, rfl, by decide +kernel, by decide +kernel⟩
abbrev a_Offer_drinks_for (K : PySem.W.Frag) : Addr := He.ma K (He.ga K "Offer") "_drinks_for"
def d_Offer_drinks_for : DD := ⟨a_Offer_drinks_for, "_drinks_for", "Offer._drinks_for", s_Offer_drinks_for, [], false⟩
abbrev s_Offer_most_within : Stmt := inClass (top 35) 9
abbrev N_Offer_most_within : List Str := ["self", "drinks", "rise", "span"]
theorem sc_Offer_most_within : FnScope N_Offer_most_within ["self", "drinks"] (defScope s_Offer_most_within) := ⟨rfl, rfl, rfl, by decide +kernel, rfl, by decide +kernel, by decide +kernel⟩
abbrev a_Offer_most_within (K : PySem.W.Frag) : Addr := He.ma K (He.ga K "Offer") "_most_within"
def d_Offer_most_within : DD := ⟨a_Offer_most_within, "_most_within", "Offer._most_within", s_Offer_most_within, [], false⟩
abbrev s_Offer_call : Stmt := inClass (top 35) 10
abbrev N_Offer_call : List Str := ["self", "bottles"]
theorem sc_Offer_call : FnScope N_Offer_call ["self", "bottles"] (defScope s_Offer_call) := ⟨rfl, rfl, rfl, by decide +kernel, rfl, by decide +kernel, by decide +kernel⟩
abbrev a_Offer_call (K : PySem.W.Frag) : Addr := He.ma K (He.ga K "Offer") "__call__"
def d_Offer_call : DD := ⟨a_Offer_call, "__call__", "Offer.__call__", s_Offer_call, [], false⟩
abbrev s_Offer_left_over : Stmt := inClass (top 35) 12
abbrev N_Offer_left_over : List Str := ["self", "bottles", "drinks", "kind", "left", "needed"]
theorem sc_Offer_left_over : FnScope N_Offer_left_over ["self", "bottles"] (defScope s_Offer_left_over) := ⟨rfl, rfl, rfl, by decide +kernel, rfl, by decide +kernel, by decide +kernel⟩
abbrev a_Offer_left_over (K : PySem.W.Frag) : Addr := He.ma K (He.ga K "Offer") "left_over"
def d_Offer_left_over : DD := ⟨a_Offer_left_over, "left_over", "Offer.left_over", s_Offer_left_over, [], false⟩
abbrev s_Offer_rounds : Stmt := inClass (top 35) 13
abbrev N_Offer_rounds : List Str := ["self", "bottles", "drunk", "full"]
theorem sc_Offer_rounds : GScope N_Offer_rounds ["self", "bottles"] (defScope s_Offer_rounds) := ⟨rfl, rfl, rfl, by decide +kernel, rfl, by decide +kernel, by decide +kernel⟩
abbrev a_Offer_rounds (K : PySem.W.Frag) : Addr := He.ma K (He.ga K "Offer") "rounds"
def d_Offer_rounds : DD := ⟨a_Offer_rounds, "rounds", "Offer.rounds", s_Offer_rounds, [], false⟩
abbrev s_Offer_add : Stmt := inClass (top 35) 20
abbrev N_Offer_add : List Str := ["self", "other", "trades"]
theorem sc_Offer_add : FnScope N_Offer_add ["self", "other"] (defScope s_Offer_add) := ⟨rfl, rfl, rfl, by decide +kernel, rfl, by decide +kernel, by decide +kernel⟩
abbrev a_Offer_add (K : PySem.W.Frag) : Addr := He.ma K (He.ga K "Offer") "__add__"
def d_Offer_add : DD := ⟨a_Offer_add, "__add__", "Offer.__add__", s_Offer_add, [], false⟩
abbrev s_Offer_sub : Stmt := inClass (top 35) 21
abbrev N_Offer_sub : List Str := ["self", "other", "trades", "trade"]
theorem sc_Offer_sub : FnScope N_Offer_sub ["self", "other"] (defScope s_Offer_sub) := ⟨rfl, rfl, rfl, by decide +kernel, rfl, by decide +kernel, by decide +kernel⟩
abbrev a_Offer_sub (K : PySem.W.Frag) : Addr := He.ma K (He.ga K "Offer") "__sub__"
def d_Offer_sub : DD := ⟨a_Offer_sub, "__sub__", "Offer.__sub__", s_Offer_sub, [], false⟩
abbrev s_Offer_getitem : Stmt := inClass (top 35) 22
abbrev N_Offer_getitem : List Str := ["self", "at", "kind", "left", "needed"]
theorem sc_Offer_getitem : FnScope N_Offer_getitem ["self", "at"] (defScope s_Offer_getitem) := ⟨rfl, rfl, rfl, by decide +kernel, rfl, by decide +kernel, by decide +kernel⟩
abbrev a_Offer_getitem (K : PySem.W.Frag) : Addr := He.ma K (He.ga K "Offer") "__getitem__"
def d_Offer_getitem : DD := ⟨a_Offer_getitem, "__getitem__", "Offer.__getitem__", s_Offer_getitem, [], false⟩
abbrev s_Offer_iter : Stmt := inClass (top 35) 23
abbrev N_Offer_iter : List Str := ["self"]
theorem sc_Offer_iter : FnScope N_Offer_iter ["self"] (defScope s_Offer_iter) := ⟨rfl, rfl, rfl, by decide +kernel, rfl, by decide +kernel, by decide +kernel⟩
abbrev a_Offer_iter (K : PySem.W.Frag) : Addr := He.ma K (He.ga K "Offer") "__iter__"
def d_Offer_iter : DD := ⟨a_Offer_iter, "__iter__", "Offer.__iter__", s_Offer_iter, [], false⟩
abbrev s_Offer_bool : Stmt := inClass (top 35) 24
abbrev N_Offer_bool : List Str := ["self", "_", "left"]
theorem sc_Offer_bool : FnScope N_Offer_bool ["self"] (defScope s_Offer_bool) := ⟨rfl, rfl, rfl, by decide +kernel, rfl, by decide +kernel, by decide +kernel⟩
abbrev a_Offer_bool (K : PySem.W.Frag) : Addr := He.ma K (He.ga K "Offer") "__bool__"
def d_Offer_bool : DD := ⟨a_Offer_bool, "__bool__", "Offer.__bool__", s_Offer_bool, [], false⟩
abbrev s_Offer_contains : Stmt := inClass (top 35) 25
abbrev N_Offer_contains : List Str := ["self", "x"]
theorem sc_Offer_contains : FnScope N_Offer_contains ["self", "x"] (defScope s_Offer_contains) := ⟨rfl, rfl, rfl, by decide +kernel, rfl, by decide +kernel, by decide +kernel⟩
abbrev a_Offer_contains (K : PySem.W.Frag) : Addr := He.ma K (He.ga K "Offer") "__contains__"
def d_Offer_contains : DD := ⟨a_Offer_contains, "__contains__", "Offer.__contains__", s_Offer_contains, [], false⟩
abbrev s_Offer_le : Stmt := inClass (top 35) 26
abbrev N_Offer_le : List Str := ["self", "other"]
theorem sc_Offer_le : FnScope N_Offer_le ["self", "other"] (defScope s_Offer_le) := ⟨rfl, rfl, rfl, by decide +kernel, rfl, by decide +kernel, by decide +kernel⟩
abbrev a_Offer_le (K : PySem.W.Frag) : Addr := He.ma K (He.ga K "Offer") "__le__"
def d_Offer_le : DD := ⟨a_Offer_le, "__le__", "Offer.__le__", s_Offer_le, [], false⟩
abbrev s_Offer_lt : Stmt := inClass (top 35) 27
abbrev N_Offer_lt : List Str := ["self", "other"]
theorem sc_Offer_lt : FnScope N_Offer_lt ["self", "other"] (defScope s_Offer_lt) := ⟨rfl, rfl, rfl, by decide +kernel, rfl, by decide +kernel, by decide +kernel⟩
abbrev a_Offer_lt (K : PySem.W.Frag) : Addr := He.ma K (He.ga K "Offer") "__lt__"
def d_Offer_lt : DD := ⟨a_Offer_lt, "__lt__", "Offer.__lt__", s_Offer_lt, [], false⟩
abbrev s_Offer_ge : Stmt := inClass (top 35) 28
abbrev N_Offer_ge : List Str := ["self", "other"]
theorem sc_Offer_ge : FnScope N_Offer_ge ["self", "other"] (defScope s_Offer_ge) := ⟨rfl, rfl, rfl, by decide +kernel, rfl, by decide +kernel, by decide +kernel⟩
abbrev a_Offer_ge (K : PySem.W.Frag) : Addr := He.ma K (He.ga K "Offer") "__ge__"
def d_Offer_ge : DD := ⟨a_Offer_ge, "__ge__", "Offer.__ge__", s_Offer_ge, [], false⟩
abbrev s_Offer_gt : Stmt := inClass (top 35) 29
abbrev N_Offer_gt : List Str := ["self", "other"]
theorem sc_Offer_gt : FnScope N_Offer_gt ["self", "other"] (defScope s_Offer_gt) := ⟨rfl, rfl, rfl, by decide +kernel, rfl, by decide +kernel, by decide +kernel⟩
abbrev a_Offer_gt (K : PySem.W.Frag) : Addr := He.ma K (He.ga K "Offer") "__gt__"
def d_Offer_gt : DD := ⟨a_Offer_gt, "__gt__", "Offer.__gt__", s_Offer_gt, [], false⟩
abbrev s_slack : Stmt := top 36
abbrev N_slack : List Str := ["one", "other", "bottles"]
theorem sc_slack : FnScope N_slack ["one", "other", "bottles"] (defScope s_slack) := ⟨rfl, rfl, rfl, by decide +kernel, rfl, by decide +kernel, by decide +kernel⟩
abbrev a_slack (K : PySem.W.Frag) : Addr := He.ga K "_slack"
def d_slack : DD := ⟨a_slack, "_slack", "_slack", s_slack, [], false⟩
abbrev s_repetition : Stmt := top 37
abbrev N_repetition : List Str := ["one", "other", "one_bottles", "one_drinks", "other_bottles", "other_drinks", "drinks", "span", "fall"]
theorem sc_repetition : FnScope N_repetition ["one", "other"] (defScope s_repetition) := ⟨rfl, rfl, rfl, by decide +kernel, rfl, by decide +kernel, by decide +kernel⟩
abbrev a_repetition (K : PySem.W.Frag) : Addr := He.ga K "_repetition"
def d_repetition : DD := ⟨a_repetition, "_repetition", "_repetition", s_repetition, [], false⟩
abbrev s_never_more : Stmt := top 38
abbrev N_never_more : List Str := ["one", "other", "start", "span", "fall", "bottles"]
theorem sc_never_more : FnScope N_never_more ["one", "other"] (defScope s_never_more) := ⟨rfl, rfl, rfl, by decide +kernel, rfl, by decide +kernel, by decide +kernel⟩
abbrev a_never_more (K : PySem.W.Frag) : Addr := He.ga K "_never_more"
def d_never_more : DD := ⟨a_never_more, "_never_more", "_never_more", s_never_more, [], false⟩
abbrev s_first_difference : Stmt := top 39
abbrev N_first_difference : List Str := ["one", "other", "start", "span", "fall", "bottles"]
theorem sc_first_difference : FnScope N_first_difference ["one", "other"] (defScope s_first_difference) := ⟨rfl, rfl, rfl, by decide +kernel, rfl, by decide +kernel, by decide +kernel⟩
abbrev a_first_difference (K : PySem.W.Frag) : Addr := He.ga K "first_difference"
def d_first_difference : DD := ⟨a_first_difference, "first_difference", "first_difference", s_first_difference, [], false⟩
abbrev s_law_mix : Stmt := top 41
abbrev N_law_mix : List Str := ["_law_script", "_law_seed", "_law_mixed", "_law_cell"]
theorem sc_law_mix : FnScope N_law_mix ["_law_script", "_law_seed"] (defScope s_law_mix) := ⟨rfl, rfl, rfl, by decide +kernel, rfl, by decide +kernel, by decide +kernel⟩
abbrev a_law_mix (K : PySem.W.Frag) : Addr := He.ga K "_law_mix"
def d_law_mix : DD := ⟨a_law_mix, "_law_mix", "_law_mix", s_law_mix, [], false⟩
abbrev s_law_next : Stmt := top 42
abbrev N_law_next : List Str := ["_law_h", "_law_limit", "_law_cell"]
theorem sc_law_next : FnScope N_law_next ["_law_h", "_law_limit"] (defScope s_law_next) := ⟨rfl, rfl, rfl, by decide +kernel, rfl, by decide +kernel, by decide +kernel⟩
abbrev a_law_next (K : PySem.W.Frag) : Addr := He.ga K "_law_next"
def d_law_next : DD := ⟨a_law_next, "_law_next", "_law_next", s_law_next, [], false⟩
abbrev s_law_alike : Stmt := top 43
abbrev N_law_alike : List Str := ["_law_found", "_law_due", "_law_k"]
theorem sc_law_alike : FnScope N_law_alike ["_law_found", "_law_due"] (defScope s_law_alike) := ⟨rfl, rfl, rfl, by decide +kernel, rfl, by decide +kernel, by decide +kernel⟩
abbrev a_law_alike (K : PySem.W.Frag) : Addr := He.ga K "_law_alike"
def d_law_alike : DD := ⟨a_law_alike, "_law_alike", "_law_alike", s_law_alike, [], false⟩
abbrev s_law_error : Stmt := top 44
abbrev N_law_error : List Str := ["_law_call", "e", "_law_kinds", "_law_name"]
theorem sc_law_error : FnScope N_law_error ["_law_call"] (defScope s_law_error) := ⟨rfl, rfl, rfl, by decide +kernel, rfl, by decide +kernel, by decide +kernel⟩
abbrev a_law_error (K : PySem.W.Frag) : Addr := He.ga K "_law_error"
def d_law_error : DD := ⟨a_law_error, "_law_error", "_law_error", s_law_error, [], false⟩
abbrev s_law_trades : Stmt := top 45
abbrev N_law_trades : List Str := ["_law_h", "_law_most", "_law_largest", "_law_found", "_law_worth", "_law_kind", "_law_needed", "_law_left"]
theorem sc_law_trades : FnScope N_law_trades ["_law_h", "_law_most", "_law_largest"] (defScope s_law_trades) := ⟨rfl, rfl, rfl, by decide +kernel, rfl, by decide +kernel, by decide +kernel⟩
abbrev a_law_trades (K : PySem.W.Frag) : Addr := He.ga K "_law_trades"
def d_law_trades : DD := ⟨a_law_trades, "_law_trades", "_law_trades", s_law_trades, [], false⟩
abbrev s_law_offer : Stmt := top 46
abbrev N_law_offer : List Str := ["_law_trades_here"]
theorem sc_law_offer : FnScope N_law_offer ["_law_trades_here"] (defScope s_law_offer) := ⟨rfl, rfl, rfl, by decide +kernel, rfl, by decide +kernel, by decide +kernel⟩
abbrev a_law_offer (K : PySem.W.Frag) : Addr := He.ga K "_law_offer"
def d_law_offer : DD := ⟨a_law_offer, "_law_offer", "_law_offer", s_law_offer, [], false⟩
abbrev s_law_buys : Stmt := top 47
abbrev N_law_buys : List Str := ["_law_trades_here", "_law_drinks", "_law_kind", "_law_left", "_law_needed"]
theorem sc_law_buys : FnScope N_law_buys ["_law_trades_here", "_law_drinks"] (defScope s_law_buys) := ⟨rfl, rfl, rfl, by decide +kernel, rfl, by decide +kernel, by decide +kernel⟩
abbrev a_law_buys (K : PySem.W.Frag) : Addr := He.ga K "_law_buys"
def d_law_buys : DD := ⟨a_law_buys, "_law_buys", "_law_buys", s_law_buys, [], false⟩
abbrev s_law_steps : Stmt := top 48
abbrev N_law_steps : List Str := ["_law_h", "_law_trades_here", "_law_bottles", "_law_full", "_law_drunk", "_law_pieces", "_law_steps_here", "_law_time", "_law_k", "_law_able", "_law_count", "_law_j"]
theorem sc_law_steps : FnScope N_law_steps ["_law_h", "_law_trades_here", "_law_bottles"] (defScope s_law_steps) := ⟨rfl, rfl, rfl, by decide +kernel, rfl, by decide +kernel, by decide +kernel⟩
abbrev a_law_steps (K : PySem.W.Frag) : Addr := He.ga K "_law_steps"
def d_law_steps : DD := ⟨a_law_steps, "_law_steps", "_law_steps", s_law_steps, [], false⟩
abbrev s_law : Stmt := top 49
abbrev N_law : List Str := ["_law_script", "_law_h", "_law_turn", "_law_trades_here", "_law_steps_here", "_law_drunk", "_law_full", "_law_pieces", "_law_found", "_law_due", "_law_odd", "_law_error_here", "_law_greedy", "_law_end", "_law_works", "_law_bad", "_law_bottles", "_law_far", "_law_offer_here", "_law_word", "_law_count", "_law_call", "_law_one"]
theorem sc_law : FnScope N_law ["_law_script"] (defScope s_law) := ⟨rfl, rfl, rfl, by decide +kernel, rfl, by decide +kernel, by decide +kernel⟩
abbrev a_law (K : PySem.W.Frag) : Addr := He.ga K "law"
def d_law : DD := ⟨a_law, "law", "law", s_law, [], false⟩
/-- what the top has left -/
structure Tx (K : PySem.W.Frag) (mg : Str → Option Value) where
  S_InvalidStep_init : ∃ fd, SupF PX K mg "InvalidStep.__init__" (defArgs s_InvalidStep_init) (defBody s_InvalidStep_init) (defScope s_InvalidStep_init) (a_InvalidStep_init K) fd (He.ga K "InvalidStep") (codeA K (a_InvalidStep_init K)) (cellA K (a_InvalidStep_init K))
  fd_is_integer : FuncData
  F_is_integer : FnP K d_is_integer fd_is_integer
  g_is_integer : mg "is_integer" = some (.ref (a_is_integer K))
  fd_is_number : FuncData
  F_is_number : FnP K d_is_number fd_is_number
  g_is_number : mg "is_number" = some (.ref (a_is_number K))
  fd_check_number : FuncData
  F_check_number : FnP K d_check_number fd_check_number
  g_check_number : mg "check_number" = some (.ref (a_check_number K))
  fd_is_label : FuncData
  F_is_label : FnP K d_is_label fd_is_label
  g_is_label : mg "is_label" = some (.ref (a_is_label K))
  fd_is_kind : FuncData
  F_is_kind : FnP K d_is_kind fd_is_kind
  g_is_kind : mg "is_kind" = some (.ref (a_is_kind K))
  fd_is_possible : FuncData
  F_is_possible : FnP K d_is_possible fd_is_possible
  g_is_possible : mg "_is_possible" = some (.ref (a_is_possible K))
  fd_play : FuncData
  F_play : FnP K d_play fd_play
  g_play : mg "play" = some (.ref (a_play K))
  fd_greedy_steps : FuncData
  F_greedy_steps : FnP K d_greedy_steps fd_greedy_steps
  g_greedy_steps : mg "greedy_steps" = some (.ref (a_greedy_steps K))
  fd_cost_of : FuncData
  F_cost_of : FnP K d_cost_of fd_cost_of
  g_cost_of : mg "cost_of" = some (.ref (a_cost_of K))
  fd_drinks_of_period : FuncData
  F_drinks_of_period : FnP K d_drinks_of_period fd_drinks_of_period
  g_drinks_of_period : mg "drinks_of_period" = some (.ref (a_drinks_of_period K))
  fd_tops_of : FuncData
  F_tops_of : FnP K d_tops_of fd_tops_of
  g_tops_of : mg "tops_of" = some (.ref (a_tops_of K))
  fd_firsts_of : FuncData
  F_firsts_of : FnP K d_firsts_of fd_firsts_of
  g_firsts_of : mg "firsts_of" = some (.ref (a_firsts_of K))
  fd_gaps_of : FuncData
  F_gaps_of : FnP K d_gaps_of fd_gaps_of
  g_gaps_of : mg "gaps_of" = some (.ref (a_gaps_of K))
  fd_value_at : FuncData
  F_value_at : FnP K d_value_at fd_value_at
  g_value_at : mg "value_at" = some (.ref (a_value_at K))
  fd_is_trade : FuncData
  F_is_trade : FnP K d_is_trade fd_is_trade
  g_is_trade : mg "_is_trade" = some (.ref (a_is_trade K))
  fd_check_trades : FuncData
  F_check_trades : FnP K d_check_trades fd_check_trades
  g_check_trades : mg "_check_trades" = some (.ref (a_check_trades K))
  fd_check_generosity : FuncData
  F_check_generosity : FnP K d_check_generosity fd_check_generosity
  g_check_generosity : mg "_check_generosity" = some (.ref (a_check_generosity K))
  fd_Offer_init : FuncData
  F_Offer_init : FnP K d_Offer_init fd_Offer_init
  mk_Offer : Mk K (He.ga K "Offer") (a_Offer_init K)
  fd_Offer_trades : FuncData
  F_Offer_trades : FnP K d_Offer_trades fd_Offer_trades
  p_Offer_trades : PropOf K (He.ga K "Offer") "trades" (He.ma K (He.ga K "Offer") "trades") (a_Offer_trades K)
  fd_Offer_kinds : FuncData
  F_Offer_kinds : FnP K d_Offer_kinds fd_Offer_kinds
  p_Offer_kinds : PropOf K (He.ga K "Offer") "kinds" (He.ma K (He.ga K "Offer") "kinds") (a_Offer_kinds K)
  fd_Offer_period : FuncData
  F_Offer_period : FnP K d_Offer_period fd_Offer_period
  p_Offer_period : PropOf K (He.ga K "Offer") "period" (He.ma K (He.ga K "Offer") "period") (a_Offer_period K)
  fd_Offer_drinks_for : FuncData
  F_Offer_drinks_for : FnP K d_Offer_drinks_for fd_Offer_drinks_for
  m_Offer_drinks_for : Meth K (He.ga K "Offer") "_drinks_for" (a_Offer_drinks_for K)
  fd_Offer_most_within : FuncData
  F_Offer_most_within : FnP K d_Offer_most_within fd_Offer_most_within
  m_Offer_most_within : Meth K (He.ga K "Offer") "_most_within" (a_Offer_most_within K)
  fd_Offer_call : FuncData
  F_Offer_call : FnP K d_Offer_call fd_Offer_call
  co_Offer : StX.CallO K (He.ga K "Offer") (a_Offer_call K)
  fd_Offer_left_over : FuncData
  F_Offer_left_over : FnP K d_Offer_left_over fd_Offer_left_over
  m_Offer_left_over : Meth K (He.ga K "Offer") "left_over" (a_Offer_left_over K)
  fd_Offer_rounds : FuncData
  F_Offer_rounds : FnP K d_Offer_rounds fd_Offer_rounds
  m_Offer_rounds : Meth K (He.ga K "Offer") "rounds" (a_Offer_rounds K)
  fd_Offer_add : FuncData
  F_Offer_add : FnP K d_Offer_add fd_Offer_add
  m_Offer_add : Meth K (He.ga K "Offer") "__add__" (a_Offer_add K)
  fd_Offer_sub : FuncData
  F_Offer_sub : FnP K d_Offer_sub fd_Offer_sub
  m_Offer_sub : Meth K (He.ga K "Offer") "__sub__" (a_Offer_sub K)
  fd_Offer_getitem : FuncData
  F_Offer_getitem : FnP K d_Offer_getitem fd_Offer_getitem
  m_Offer_getitem : Meth K (He.ga K "Offer") "__getitem__" (a_Offer_getitem K)
  fd_Offer_iter : FuncData
  F_Offer_iter : FnP K d_Offer_iter fd_Offer_iter
  m_Offer_iter : Meth K (He.ga K "Offer") "__iter__" (a_Offer_iter K)
  fd_Offer_bool : FuncData
  F_Offer_bool : FnP K d_Offer_bool fd_Offer_bool
  m_Offer_bool : Meth K (He.ga K "Offer") "__bool__" (a_Offer_bool K)
  fd_Offer_contains : FuncData
  F_Offer_contains : FnP K d_Offer_contains fd_Offer_contains
  m_Offer_contains : Meth K (He.ga K "Offer") "__contains__" (a_Offer_contains K)
  fd_Offer_le : FuncData
  F_Offer_le : FnP K d_Offer_le fd_Offer_le
  m_Offer_le : Meth K (He.ga K "Offer") "__le__" (a_Offer_le K)
  fd_Offer_lt : FuncData
  F_Offer_lt : FnP K d_Offer_lt fd_Offer_lt
  m_Offer_lt : Meth K (He.ga K "Offer") "__lt__" (a_Offer_lt K)
  fd_Offer_ge : FuncData
  F_Offer_ge : FnP K d_Offer_ge fd_Offer_ge
  m_Offer_ge : Meth K (He.ga K "Offer") "__ge__" (a_Offer_ge K)
  fd_Offer_gt : FuncData
  F_Offer_gt : FnP K d_Offer_gt fd_Offer_gt
  m_Offer_gt : Meth K (He.ga K "Offer") "__gt__" (a_Offer_gt K)
  fd_slack : FuncData
  F_slack : FnP K d_slack fd_slack
  g_slack : mg "_slack" = some (.ref (a_slack K))
  fd_repetition : FuncData
  F_repetition : FnP K d_repetition fd_repetition
  g_repetition : mg "_repetition" = some (.ref (a_repetition K))
  fd_never_more : FuncData
  F_never_more : FnP K d_never_more fd_never_more
  g_never_more : mg "_never_more" = some (.ref (a_never_more K))
  fd_first_difference : FuncData
  F_first_difference : FnP K d_first_difference fd_first_difference
  g_first_difference : mg "first_difference" = some (.ref (a_first_difference K))
  fd_law_mix : FuncData
  F_law_mix : FnP K d_law_mix fd_law_mix
  g_law_mix : mg "_law_mix" = some (.ref (a_law_mix K))
  fd_law_next : FuncData
  F_law_next : FnP K d_law_next fd_law_next
  g_law_next : mg "_law_next" = some (.ref (a_law_next K))
  fd_law_alike : FuncData
  F_law_alike : FnP K d_law_alike fd_law_alike
  g_law_alike : mg "_law_alike" = some (.ref (a_law_alike K))
  fd_law_error : FuncData
  F_law_error : FnP K d_law_error fd_law_error
  g_law_error : mg "_law_error" = some (.ref (a_law_error K))
  fd_law_trades : FuncData
  F_law_trades : FnP K d_law_trades fd_law_trades
  g_law_trades : mg "_law_trades" = some (.ref (a_law_trades K))
  fd_law_offer : FuncData
  F_law_offer : FnP K d_law_offer fd_law_offer
  g_law_offer : mg "_law_offer" = some (.ref (a_law_offer K))
  fd_law_buys : FuncData
  F_law_buys : FnP K d_law_buys fd_law_buys
  g_law_buys : mg "_law_buys" = some (.ref (a_law_buys K))
  fd_law_steps : FuncData
  F_law_steps : FnP K d_law_steps fd_law_steps
  g_law_steps : mg "_law_steps" = some (.ref (a_law_steps K))
  fd_law : FuncData
  F_law : FnP K d_law fd_law
  g_law : mg "law" = some (.ref (a_law K))
  g_Offer : mg "Offer" = some (.ref (He.ga K "Offer"))
  k_Offer : Cls K (He.ga K "Offer")
  r_Offer : ClX.CRead K (He.ga K "Offer") (.type "type")
  na_trades : NoAttr K (He.ga K "Offer") "_trades"
  na_period : NoAttr K (He.ga K "Offer") "_period"
  na_tops : NoAttr K (He.ga K "Offer") "_tops"
  na_firsts : NoAttr K (He.ga K "Offer") "_firsts"
  na_gaps : NoAttr K (He.ga K "Offer") "_gaps"
  v_Offer_MAX_TRADES : ∃ u, ClX.CVal K (He.ga K "Offer") (.type "type") "MAX_TRADES" (.int 3) u
  v_Offer_MAX_NEEDED : ∃ u, ClX.CVal K (He.ga K "Offer") (.type "type") "MAX_NEEDED" (.int 12) u
  c_MAX_NUMBER : ∃ t, mg "MAX_NUMBER" = some (.int (1000000000000000000) t)
  c_MAX_LABEL_LENGTH : ∃ t, mg "MAX_LABEL_LENGTH" = some (.int (8) t)
  c_DRINK : ∃ t, mg "DRINK" = some (.str "drink" t)
  c_MAX_LEFT : ∃ t, mg "MAX_LEFT" = some (.int (12) t)
  n_len : mg "len" = none
  n_sum : mg "sum" = none
  n_max : mg "max" = none
  n_min : mg "min" = none
  n_all : mg "all" = none
  n_any : mg "any" = none
  n_isinstance : mg "isinstance" = none
  n_range : mg "range" = none
  n_enumerate : mg "enumerate" = none
  n_zip : mg "zip" = none
  n_list : mg "list" = none
  n_tuple : mg "tuple" = none
  n_int : mg "int" = none
  n_bool : mg "bool" = none
  n_str : mg "str" = none
  n_dict : mg "dict" = none
  n_divmod : mg "divmod" = none
  g_TradeError : mg "TradeError" = some (.ref (He.ga K "TradeError"))
  x_TradeError : ExcN K "TradeError" (He.ga K "TradeError")
  g_InvalidOffer : mg "InvalidOffer" = some (.ref (He.ga K "InvalidOffer"))
  x_InvalidOffer : ExcI K "InvalidOffer" (He.ga K "InvalidOffer")
  g_TooGenerous : mg "TooGenerous" = some (.ref (He.ga K "TooGenerous"))
  x_TooGenerous : ExcN K "TooGenerous" (He.ga K "TooGenerous")
  g_InvalidNumber : mg "InvalidNumber" = some (.ref (He.ga K "InvalidNumber"))
  x_InvalidNumber : ExcN K "InvalidNumber" (He.ga K "InvalidNumber")
  g_UnknownKind : mg "UnknownKind" = some (.ref (He.ga K "UnknownKind"))
  x_UnknownKind : ExcN K "UnknownKind" (He.ga K "UnknownKind")
  g_InvalidStep : mg "InvalidStep" = some (.ref (He.ga K "InvalidStep"))
  x_InvalidStep : ExcI K "InvalidStep" (He.ga K "InvalidStep")
  g_Contradiction : mg "Contradiction" = some (.ref (He.ga K "Contradiction"))
  x_Contradiction : ExcN K "Contradiction" (He.ga K "Contradiction")
  l_TradeError : ExcC K (He.ga K "TradeError") ∧ XfC K (He.ga K "TradeError")
  l_InvalidNumber : ExcC K (He.ga K "InvalidNumber") ∧ XfC K (He.ga K "InvalidNumber")
  ns_InvalidNumber : PySem.W.subIn K (.ref (He.ga K "InvalidNumber")) (.type "StopIteration") = some false
  q_InvalidNumber : KitX6 K "InvalidNumber"
  l_InvalidStep : ExcC K (He.ga K "InvalidStep") ∧ XfC K (He.ga K "InvalidStep")
  q_InvalidStep : KitX6 K "InvalidStep"
  sf_Offer : PySem.W.selfFirst K (He.ga K "Offer") = true
  fi_Offer_getitem : PySem.W.fnIn K (a_Offer_getitem K) = true
  n_super : mg "super" = none
  n_ValueError : mg "ValueError" = none
  b_gcd : mg "gcd" = some (.builtin "math.gcd")
  b_lcm : mg "lcm" = some (.builtin "math.lcm")
def fas : List He.Fa := [.glo "is_integer",
  .glo "is_number",
  .glo "check_number",
  .glo "is_label",
  .glo "is_kind",
  .glo "_is_possible",
  .glo "play",
  .glo "greedy_steps",
  .glo "cost_of",
  .glo "drinks_of_period",
  .glo "tops_of",
  .glo "firsts_of",
  .glo "gaps_of",
  .glo "value_at",
  .glo "_is_trade",
  .glo "_check_trades",
  .glo "_check_generosity",
  .mkr "Offer",
  .meth "Offer" "_drinks_for",
  .meth "Offer" "_most_within",
  .meth "Offer" "left_over",
  .meth "Offer" "rounds",
  .meth "Offer" "__add__",
  .meth "Offer" "__sub__",
  .meth "Offer" "__getitem__",
  .meth "Offer" "__iter__",
  .meth "Offer" "__bool__",
  .meth "Offer" "__contains__",
  .meth "Offer" "__le__",
  .meth "Offer" "__lt__",
  .meth "Offer" "__ge__",
  .meth "Offer" "__gt__",
  .glo "_slack",
  .glo "_repetition",
  .glo "_never_more",
  .glo "first_difference",
  .glo "_law_mix",
  .glo "_law_next",
  .glo "_law_alike",
  .glo "_law_error",
  .glo "_law_trades",
  .glo "_law_offer",
  .glo "_law_buys",
  .glo "_law_steps",
  .glo "law",
  .glo "Offer",
  .cls "Offer",
  .noat "Offer" "_trades",
  .noat "Offer" "_period",
  .noat "Offer" "_tops",
  .noat "Offer" "_firsts",
  .noat "Offer" "_gaps",
  .int "MAX_NUMBER" (1000000000000000000),
  .int "MAX_LABEL_LENGTH" (8),
  .str "DRINK" "drink",
  .int "MAX_LEFT" (12),
  .free "len",
  .free "sum",
  .free "max",
  .free "min",
  .free "all",
  .free "any",
  .free "isinstance",
  .free "range",
  .free "enumerate",
  .free "zip",
  .free "list",
  .free "tuple",
  .free "int",
  .free "bool",
  .free "str",
  .free "dict",
  .free "divmod",
  .glo "TradeError",
  .glo "InvalidOffer",
  .glo "TooGenerous",
  .glo "InvalidNumber",
  .glo "UnknownKind",
  .glo "InvalidStep",
  .glo "Contradiction",
  .free "super",
  .free "ValueError"]
def mores : List (PySem.W.Frag → Bool) := [fun K => okSup K "InvalidStep" "/claim/cut.py" (a_InvalidStep_init K),
  fun K => okProp K "Offer" "trades",
  fun K => okProp K "Offer" "kinds",
  fun K => okProp K "Offer" "period",
  fun K => okCallO K "Offer",
  fun K => okRead K "Offer",
  fun K => okCVal K "Offer" "MAX_TRADES" (.int 3),
  fun K => okCVal K "Offer" "MAX_NEEDED" (.int 12),
  fun K => okExc K "TradeError",
  fun K => okExcI K "InvalidOffer",
  fun K => okExc K "TooGenerous",
  fun K => okExc K "InvalidNumber",
  fun K => okExc K "UnknownKind",
  fun K => okExcI K "InvalidStep",
  fun K => okExc K "Contradiction",
  fun K => okExcC K (He.ga K "TradeError"),
  fun K => okExcC K (He.ga K "InvalidNumber"),
  fun K => decide (PySem.W.subIn K (.ref (He.ga K "InvalidNumber")) (.type "StopIteration") = some false),
  fun K => okKit K "InvalidNumber",
  fun K => okExcC K (He.ga K "InvalidStep"),
  fun K => okKit K "InvalidStep",
  fun K => PySem.W.selfFirst K (He.ga K "Offer"),
  fun K => PySem.W.fnIn K (a_Offer_getitem K),
  fun K => okBlt K "gcd" "math.gcd",
  fun K => okBlt K "lcm" "math.lcm"]
def moreB (K : PySem.W.Frag) : Bool := mores.all fun f => f K
def dds : List DD := [d_InvalidStep_init, d_is_integer, d_is_number, d_check_number, d_is_label, d_is_kind, d_is_possible, d_play, d_greedy_steps, d_cost_of, d_drinks_of_period, d_tops_of, d_firsts_of, d_gaps_of, d_value_at, d_is_trade, d_check_trades, d_check_generosity, d_Offer_init, d_Offer_trades, d_Offer_kinds, d_Offer_period, d_Offer_drinks_for, d_Offer_most_within, d_Offer_call, d_Offer_left_over, d_Offer_rounds, d_Offer_add, d_Offer_sub, d_Offer_getitem, d_Offer_iter, d_Offer_bool, d_Offer_contains, d_Offer_le, d_Offer_lt, d_Offer_ge, d_Offer_gt, d_slack, d_repetition, d_never_more, d_first_difference, d_law_mix, d_law_next, d_law_alike, d_law_error, d_law_trades, d_law_offer, d_law_buys, d_law_steps, d_law]
theorem more_at {K : PySem.W.Frag} (h : moreB K = true) (i : Nat) {f : PySem.W.Frag → Bool} (e : mores[i]? = some f := by rfl) : f K = true := List.all_eq_true.mp h f (List.mem_of_getElem? e)
theorem tx_of {K : PySem.W.Frag} {h : Heap} {mg : Str → Option Value} (X : K.In h) (G : h.Ns mainGlobals mg) (c : Says fas moreB dds K) : Nonempty (Tx K mg) := by
  obtain ⟨fd_is_integer, F_is_integer⟩ := c.fn 1 (d := d_is_integer) rfl
  obtain ⟨fd_is_number, F_is_number⟩ := c.fn 2 (d := d_is_number) rfl
  obtain ⟨fd_check_number, F_check_number⟩ := c.fn 3 (d := d_check_number) rfl
  obtain ⟨fd_is_label, F_is_label⟩ := c.fn 4 (d := d_is_label) rfl
  obtain ⟨fd_is_kind, F_is_kind⟩ := c.fn 5 (d := d_is_kind) rfl
  obtain ⟨fd_is_possible, F_is_possible⟩ := c.fn 6 (d := d_is_possible) rfl
  obtain ⟨fd_play, F_play⟩ := c.fn 7 (d := d_play) rfl
  obtain ⟨fd_greedy_steps, F_greedy_steps⟩ := c.fn 8 (d := d_greedy_steps) rfl
  obtain ⟨fd_cost_of, F_cost_of⟩ := c.fn 9 (d := d_cost_of) rfl
  obtain ⟨fd_drinks_of_period, F_drinks_of_period⟩ := c.fn 10 (d := d_drinks_of_period) rfl
  obtain ⟨fd_tops_of, F_tops_of⟩ := c.fn 11 (d := d_tops_of) rfl
  obtain ⟨fd_firsts_of, F_firsts_of⟩ := c.fn 12 (d := d_firsts_of) rfl
  obtain ⟨fd_gaps_of, F_gaps_of⟩ := c.fn 13 (d := d_gaps_of) rfl
  obtain ⟨fd_value_at, F_value_at⟩ := c.fn 14 (d := d_value_at) rfl
  obtain ⟨fd_is_trade, F_is_trade⟩ := c.fn 15 (d := d_is_trade) rfl
  obtain ⟨fd_check_trades, F_check_trades⟩ := c.fn 16 (d := d_check_trades) rfl
  obtain ⟨fd_check_generosity, F_check_generosity⟩ := c.fn 17 (d := d_check_generosity) rfl
  obtain ⟨fd_Offer_init, F_Offer_init⟩ := c.fn 18 (d := d_Offer_init) rfl
  obtain ⟨fd_Offer_trades, F_Offer_trades⟩ := c.fn 19 (d := d_Offer_trades) rfl
  obtain ⟨fd_Offer_kinds, F_Offer_kinds⟩ := c.fn 20 (d := d_Offer_kinds) rfl
  obtain ⟨fd_Offer_period, F_Offer_period⟩ := c.fn 21 (d := d_Offer_period) rfl
  obtain ⟨fd_Offer_drinks_for, F_Offer_drinks_for⟩ := c.fn 22 (d := d_Offer_drinks_for) rfl
  obtain ⟨fd_Offer_most_within, F_Offer_most_within⟩ := c.fn 23 (d := d_Offer_most_within) rfl
  obtain ⟨fd_Offer_call, F_Offer_call⟩ := c.fn 24 (d := d_Offer_call) rfl
  obtain ⟨fd_Offer_left_over, F_Offer_left_over⟩ := c.fn 25 (d := d_Offer_left_over) rfl
  obtain ⟨fd_Offer_rounds, F_Offer_rounds⟩ := c.fn 26 (d := d_Offer_rounds) rfl
  obtain ⟨fd_Offer_add, F_Offer_add⟩ := c.fn 27 (d := d_Offer_add) rfl
  obtain ⟨fd_Offer_sub, F_Offer_sub⟩ := c.fn 28 (d := d_Offer_sub) rfl
  obtain ⟨fd_Offer_getitem, F_Offer_getitem⟩ := c.fn 29 (d := d_Offer_getitem) rfl
  obtain ⟨fd_Offer_iter, F_Offer_iter⟩ := c.fn 30 (d := d_Offer_iter) rfl
  obtain ⟨fd_Offer_bool, F_Offer_bool⟩ := c.fn 31 (d := d_Offer_bool) rfl
  obtain ⟨fd_Offer_contains, F_Offer_contains⟩ := c.fn 32 (d := d_Offer_contains) rfl
  obtain ⟨fd_Offer_le, F_Offer_le⟩ := c.fn 33 (d := d_Offer_le) rfl
  obtain ⟨fd_Offer_lt, F_Offer_lt⟩ := c.fn 34 (d := d_Offer_lt) rfl
  obtain ⟨fd_Offer_ge, F_Offer_ge⟩ := c.fn 35 (d := d_Offer_ge) rfl
  obtain ⟨fd_Offer_gt, F_Offer_gt⟩ := c.fn 36 (d := d_Offer_gt) rfl
  obtain ⟨fd_slack, F_slack⟩ := c.fn 37 (d := d_slack) rfl
  obtain ⟨fd_repetition, F_repetition⟩ := c.fn 38 (d := d_repetition) rfl
  obtain ⟨fd_never_more, F_never_more⟩ := c.fn 39 (d := d_never_more) rfl
  obtain ⟨fd_first_difference, F_first_difference⟩ := c.fn 40 (d := d_first_difference) rfl
  obtain ⟨fd_law_mix, F_law_mix⟩ := c.fn 41 (d := d_law_mix) rfl
  obtain ⟨fd_law_next, F_law_next⟩ := c.fn 42 (d := d_law_next) rfl
  obtain ⟨fd_law_alike, F_law_alike⟩ := c.fn 43 (d := d_law_alike) rfl
  obtain ⟨fd_law_error, F_law_error⟩ := c.fn 44 (d := d_law_error) rfl
  obtain ⟨fd_law_trades, F_law_trades⟩ := c.fn 45 (d := d_law_trades) rfl
  obtain ⟨fd_law_offer, F_law_offer⟩ := c.fn 46 (d := d_law_offer) rfl
  obtain ⟨fd_law_buys, F_law_buys⟩ := c.fn 47 (d := d_law_buys) rfl
  obtain ⟨fd_law_steps, F_law_steps⟩ := c.fn 48 (d := d_law_steps) rfl
  obtain ⟨fd_law, F_law⟩ := c.fn 49 (d := d_law) rfl
  have cm := c.bools.2.1
  exact ⟨⟨DD.funS (d := d_InvalidStep_init) rfl rfl rfl (c.fn0 0 (d := d_InvalidStep_init) rfl).1 (c.fn0 0 (d := d_InvalidStep_init) rfl).2 (okSup_of (more_at cm 0 (f := fun K => okSup K "InvalidStep" "/claim/cut.py" (a_InvalidStep_init K)) rfl)) (by decide +kernel) (by decide +kernel) (He.free_ok X G (c.fact 80 (f := .free "super") rfl)) rfl rfl,
    fd_is_integer,
    F_is_integer,
    He.glo_ok X G (c.fact 0 (f := .glo "is_integer") rfl),
    fd_is_number,
    F_is_number,
    He.glo_ok X G (c.fact 1 (f := .glo "is_number") rfl),
    fd_check_number,
    F_check_number,
    He.glo_ok X G (c.fact 2 (f := .glo "check_number") rfl),
    fd_is_label,
    F_is_label,
    He.glo_ok X G (c.fact 3 (f := .glo "is_label") rfl),
    fd_is_kind,
    F_is_kind,
    He.glo_ok X G (c.fact 4 (f := .glo "is_kind") rfl),
    fd_is_possible,
    F_is_possible,
    He.glo_ok X G (c.fact 5 (f := .glo "_is_possible") rfl),
    fd_play,
    F_play,
    He.glo_ok X G (c.fact 6 (f := .glo "play") rfl),
    fd_greedy_steps,
    F_greedy_steps,
    He.glo_ok X G (c.fact 7 (f := .glo "greedy_steps") rfl),
    fd_cost_of,
    F_cost_of,
    He.glo_ok X G (c.fact 8 (f := .glo "cost_of") rfl),
    fd_drinks_of_period,
    F_drinks_of_period,
    He.glo_ok X G (c.fact 9 (f := .glo "drinks_of_period") rfl),
    fd_tops_of,
    F_tops_of,
    He.glo_ok X G (c.fact 10 (f := .glo "tops_of") rfl),
    fd_firsts_of,
    F_firsts_of,
    He.glo_ok X G (c.fact 11 (f := .glo "firsts_of") rfl),
    fd_gaps_of,
    F_gaps_of,
    He.glo_ok X G (c.fact 12 (f := .glo "gaps_of") rfl),
    fd_value_at,
    F_value_at,
    He.glo_ok X G (c.fact 13 (f := .glo "value_at") rfl),
    fd_is_trade,
    F_is_trade,
    He.glo_ok X G (c.fact 14 (f := .glo "_is_trade") rfl),
    fd_check_trades,
    F_check_trades,
    He.glo_ok X G (c.fact 15 (f := .glo "_check_trades") rfl),
    fd_check_generosity,
    F_check_generosity,
    He.glo_ok X G (c.fact 16 (f := .glo "_check_generosity") rfl),
    fd_Offer_init,
    F_Offer_init,
    He.mkr_ok (c.fact 17 (f := .mkr "Offer") rfl),
    fd_Offer_trades,
    F_Offer_trades,
    okProp_of (more_at cm 1 (f := fun K => okProp K "Offer" "trades") rfl),
    fd_Offer_kinds,
    F_Offer_kinds,
    okProp_of (more_at cm 2 (f := fun K => okProp K "Offer" "kinds") rfl),
    fd_Offer_period,
    F_Offer_period,
    okProp_of (more_at cm 3 (f := fun K => okProp K "Offer" "period") rfl),
    fd_Offer_drinks_for,
    F_Offer_drinks_for,
    He.meth_ok (c.fact 18 (f := .meth "Offer" "_drinks_for") rfl),
    fd_Offer_most_within,
    F_Offer_most_within,
    He.meth_ok (c.fact 19 (f := .meth "Offer" "_most_within") rfl),
    fd_Offer_call,
    F_Offer_call,
    okCallO_of (more_at cm 4 (f := fun K => okCallO K "Offer") rfl),
    fd_Offer_left_over,
    F_Offer_left_over,
    He.meth_ok (c.fact 20 (f := .meth "Offer" "left_over") rfl),
    fd_Offer_rounds,
    F_Offer_rounds,
    He.meth_ok (c.fact 21 (f := .meth "Offer" "rounds") rfl),
    fd_Offer_add,
    F_Offer_add,
    He.meth_ok (c.fact 22 (f := .meth "Offer" "__add__") rfl),
    fd_Offer_sub,
    F_Offer_sub,
    He.meth_ok (c.fact 23 (f := .meth "Offer" "__sub__") rfl),
    fd_Offer_getitem,
    F_Offer_getitem,
    He.meth_ok (c.fact 24 (f := .meth "Offer" "__getitem__") rfl),
    fd_Offer_iter,
    F_Offer_iter,
    He.meth_ok (c.fact 25 (f := .meth "Offer" "__iter__") rfl),
    fd_Offer_bool,
    F_Offer_bool,
    He.meth_ok (c.fact 26 (f := .meth "Offer" "__bool__") rfl),
    fd_Offer_contains,
    F_Offer_contains,
    He.meth_ok (c.fact 27 (f := .meth "Offer" "__contains__") rfl),
    fd_Offer_le,
    F_Offer_le,
    He.meth_ok (c.fact 28 (f := .meth "Offer" "__le__") rfl),
    fd_Offer_lt,
    F_Offer_lt,
    He.meth_ok (c.fact 29 (f := .meth "Offer" "__lt__") rfl),
    fd_Offer_ge,
    F_Offer_ge,
    He.meth_ok (c.fact 30 (f := .meth "Offer" "__ge__") rfl),
    fd_Offer_gt,
    F_Offer_gt,
    He.meth_ok (c.fact 31 (f := .meth "Offer" "__gt__") rfl),
    fd_slack,
    F_slack,
    He.glo_ok X G (c.fact 32 (f := .glo "_slack") rfl),
    fd_repetition,
    F_repetition,
    He.glo_ok X G (c.fact 33 (f := .glo "_repetition") rfl),
    fd_never_more,
    F_never_more,
    He.glo_ok X G (c.fact 34 (f := .glo "_never_more") rfl),
    fd_first_difference,
    F_first_difference,
    He.glo_ok X G (c.fact 35 (f := .glo "first_difference") rfl),
    fd_law_mix,
    F_law_mix,
    He.glo_ok X G (c.fact 36 (f := .glo "_law_mix") rfl),
    fd_law_next,
    F_law_next,
    He.glo_ok X G (c.fact 37 (f := .glo "_law_next") rfl),
    fd_law_alike,
    F_law_alike,
    He.glo_ok X G (c.fact 38 (f := .glo "_law_alike") rfl),
    fd_law_error,
    F_law_error,
    He.glo_ok X G (c.fact 39 (f := .glo "_law_error") rfl),
    fd_law_trades,
    F_law_trades,
    He.glo_ok X G (c.fact 40 (f := .glo "_law_trades") rfl),
    fd_law_offer,
    F_law_offer,
    He.glo_ok X G (c.fact 41 (f := .glo "_law_offer") rfl),
    fd_law_buys,
    F_law_buys,
    He.glo_ok X G (c.fact 42 (f := .glo "_law_buys") rfl),
    fd_law_steps,
    F_law_steps,
    He.glo_ok X G (c.fact 43 (f := .glo "_law_steps") rfl),
    fd_law,
    F_law,
    He.glo_ok X G (c.fact 44 (f := .glo "law") rfl),
    He.glo_ok X G (c.fact 45 (f := .glo "Offer") rfl),
    He.cls_ok (c.fact 46 (f := .cls "Offer") rfl),
    okRead_of (more_at cm 5 (f := fun K => okRead K "Offer") rfl),
    He.noat_ok (c.fact 47 (f := .noat "Offer" "_trades") rfl),
    He.noat_ok (c.fact 48 (f := .noat "Offer" "_period") rfl),
    He.noat_ok (c.fact 49 (f := .noat "Offer" "_tops") rfl),
    He.noat_ok (c.fact 50 (f := .noat "Offer" "_firsts") rfl),
    He.noat_ok (c.fact 51 (f := .noat "Offer" "_gaps") rfl),
    okCVal_of (more_at cm 6 (f := fun K => okCVal K "Offer" "MAX_TRADES" (.int 3)) rfl),
    okCVal_of (more_at cm 7 (f := fun K => okCVal K "Offer" "MAX_NEEDED" (.int 12)) rfl),
    He.int_ok X G (c.fact 52 (f := .int "MAX_NUMBER" (1000000000000000000)) rfl),
    He.int_ok X G (c.fact 53 (f := .int "MAX_LABEL_LENGTH" (8)) rfl),
    He.str_ok X G (c.fact 54 (f := .str "DRINK" "drink") rfl),
    He.int_ok X G (c.fact 55 (f := .int "MAX_LEFT" (12)) rfl),
    He.free_ok X G (c.fact 56 (f := .free "len") rfl),
    He.free_ok X G (c.fact 57 (f := .free "sum") rfl),
    He.free_ok X G (c.fact 58 (f := .free "max") rfl),
    He.free_ok X G (c.fact 59 (f := .free "min") rfl),
    He.free_ok X G (c.fact 60 (f := .free "all") rfl),
    He.free_ok X G (c.fact 61 (f := .free "any") rfl),
    He.free_ok X G (c.fact 62 (f := .free "isinstance") rfl),
    He.free_ok X G (c.fact 63 (f := .free "range") rfl),
    He.free_ok X G (c.fact 64 (f := .free "enumerate") rfl),
    He.free_ok X G (c.fact 65 (f := .free "zip") rfl),
    He.free_ok X G (c.fact 66 (f := .free "list") rfl),
    He.free_ok X G (c.fact 67 (f := .free "tuple") rfl),
    He.free_ok X G (c.fact 68 (f := .free "int") rfl),
    He.free_ok X G (c.fact 69 (f := .free "bool") rfl),
    He.free_ok X G (c.fact 70 (f := .free "str") rfl),
    He.free_ok X G (c.fact 71 (f := .free "dict") rfl),
    He.free_ok X G (c.fact 72 (f := .free "divmod") rfl),
    He.glo_ok X G (c.fact 73 (f := .glo "TradeError") rfl),
    okExc_of (more_at cm 8 (f := fun K => okExc K "TradeError") rfl),
    He.glo_ok X G (c.fact 74 (f := .glo "InvalidOffer") rfl),
    okExcI_of (more_at cm 9 (f := fun K => okExcI K "InvalidOffer") rfl),
    He.glo_ok X G (c.fact 75 (f := .glo "TooGenerous") rfl),
    okExc_of (more_at cm 10 (f := fun K => okExc K "TooGenerous") rfl),
    He.glo_ok X G (c.fact 76 (f := .glo "InvalidNumber") rfl),
    okExc_of (more_at cm 11 (f := fun K => okExc K "InvalidNumber") rfl),
    He.glo_ok X G (c.fact 77 (f := .glo "UnknownKind") rfl),
    okExc_of (more_at cm 12 (f := fun K => okExc K "UnknownKind") rfl),
    He.glo_ok X G (c.fact 78 (f := .glo "InvalidStep") rfl),
    okExcI_of (more_at cm 13 (f := fun K => okExcI K "InvalidStep") rfl),
    He.glo_ok X G (c.fact 79 (f := .glo "Contradiction") rfl),
    okExc_of (more_at cm 14 (f := fun K => okExc K "Contradiction") rfl),
    okExcC_of (more_at cm 15 (f := fun K => okExcC K (He.ga K "TradeError")) rfl),
    okExcC_of (more_at cm 16 (f := fun K => okExcC K (He.ga K "InvalidNumber")) rfl),
    of_decide_eq_true (more_at cm 17 (f := fun K => decide (PySem.W.subIn K (.ref (He.ga K "InvalidNumber")) (.type "StopIteration") = some false)) rfl),
    okKit_of (more_at cm 18 (f := fun K => okKit K "InvalidNumber") rfl),
    okExcC_of (more_at cm 19 (f := fun K => okExcC K (He.ga K "InvalidStep")) rfl),
    okKit_of (more_at cm 20 (f := fun K => okKit K "InvalidStep") rfl),
    id (more_at cm 21 (f := fun K => PySem.W.selfFirst K (He.ga K "Offer")) rfl),
    id (more_at cm 22 (f := fun K => PySem.W.fnIn K (a_Offer_getitem K)) rfl),
    He.free_ok X G (c.fact 80 (f := .free "super") rfl),
    He.free_ok X G (c.fact 81 (f := .free "ValueError") rfl),
    okBlt_of X G (more_at cm 23 (f := fun K => okBlt K "gcd" "math.gcd") rfl),
    okBlt_of X G (more_at cm 24 (f := fun K => okBlt K "lcm" "math.lcm") rfl)⟩⟩
end EB

namespace EB
open PySem PySem.Spec PyProof.Rows L2
abbrev R : PySem.W.OpenRow := PySem.W.OpenLaw.row PySem.Challenge.rw_emptiesback_k11_whole_steps
def tfs : List He.Defn := [("law", none)]
abbrev hk : PySem.W.Hook := hookL 5 fas moreB dds tfs
def ob (s : PySem.W.SharedT) : SeenL := obsL fas moreB dds tfs (HandSHeadRun.getT s) (cStatics :: He.asD (HandSHeadRun.getT s) 5)
theorem ob_eq (s : PySem.W.SharedT) : ob s = hk.obs s.abs := by
  have e : HandSHeadRun.getT s = s.abs.heap.get? := funext (HandSHeadRun.getT_eq s)
  unfold ob
  rw [e] <;> rfl
def loose0 : List Str := ["_wall", "__name__", "TradeError", "InvalidOffer", "TooGenerous", "UnknownKind", "InvalidNumber", "InvalidStep", "Contradiction", "MAX_NUMBER", "MAX_LABEL_LENGTH", "DRINK", "is_integer", "is_number", "check_number", "is_label", "is_kind", "_is_possible", "play", "greedy_steps"]
def loose1 : List Str := ["cost_of", "drinks_of_period", "tops_of", "firsts_of", "gaps_of", "value_at", "MAX_LEFT", "_is_trade", "_check_trades", "_check_generosity", "Offer", "_slack", "_repetition", "_never_more", "first_difference", "_law_mix", "_law_next", "_law_alike", "_law_error", "_law_trades"]
def loose2 : List Str := ["_law_offer", "_law_buys", "_law_steps"]
def loose : List Str := loose0 ++ loose1 ++ loose2
theorem run (w : World) : HandSHeadRun.RunEqI R (PySem.W.view R.prog [0, 49]) hk ob 12000 loose w := by
  unfold HandSHeadRun.RunEqI
  kernel_rfl
end EB

namespace EB
open PySem PySem.Spec PyProof.Rows L2
/-! ### data -/
/-- one trade -/
structure Tr where
  k : Str
  l : Int
  n : Int
def Tr.vs (t : Tr) : List V := [.str t.k, .int t.l, .int t.n]
def Tr.ok (t : Tr) : Prop := 0 ≤ t.l ∧ t.l ≤ 12 ∧ 1 ≤ t.n ∧ t.n ≤ 12
structure TrAt (K : PySem.W.Frag) (H : Hp) (a : Addr) (ts : List Tr) : Prop where
  ex : ∃ ps : List Addr, SqT K H a (ps.map V.ref) ∧ ps.length = ts.length ∧ ∀ (i : Nat) (p : Addr) (t : Tr), ps[i]? = some p → ts[i]? = some t → SqT K H p t.vs
theorem TrAt.mono {K : PySem.W.Frag} {H H' : Hp} {a : Addr} {ts : List Tr} (s : Same H H') (h : TrAt K H a ts) : TrAt K H' a ts := by
  obtain ⟨ps, h1, h2, h3⟩ := h.ex
  exact ⟨ps, Same.tup s h1, h2, fun i p t a b => Same.tup s (h3 i p t a b)⟩
theorem TrAt.at_ {K : PySem.W.Frag} {H : Hp} {ts : List Tr} {ps : List Addr} {i : Nat} {x : V} (h2 : ps.length = ts.length) (h3 : ∀ (i : Nat) (p : Addr) (t : Tr), ps[i]? = some p → ts[i]? = some t → SqT K H p t.vs)
    (hx : (ps.map V.ref)[i]? = some x) : ∃ (p : Addr) (t : Tr), x = .ref p ∧ ps[i]? = some p ∧ ts[i]? = some t ∧ t ∈ ts ∧ i < ts.length ∧ SqT K H p t.vs := by
  rw [List.getElem?_map] at hx
  cases ep : ps[i]? with
  | none =>
    rw [ep] at hx
    cases hx
  | some p =>
    rw [ep] at hx
    cases hx
    have li : i < ts.length := by
      rw [← h2]
      exact (List.getElem?_eq_some_iff.mp ep).1
    have et : ts[i]? = some ts[i] := List.getElem?_eq_getElem li
    exact ⟨p, ts[i], rfl, rfl, et, List.getElem_mem li, li, h3 i p _ ep et⟩
def buys (ts : List Tr) (d : Int) : Int := (ts.map fun t => t.l * d / t.n).sum
def cost (ts : List Tr) (d : Int) : Int := d - buys ts d
def gds (ts : List Tr) : Prop := ts.length ≤ 3 ∧ ∀ t ∈ ts, t.ok
theorem small3 {n : Nat} (h : n ≤ 100000) : n < sizeLine := Nat.lt_of_le_of_lt h (by decide)
theorem int_at {ns : List Int} {i : Nat} {x : V} (h : (ns.map V.int)[i]? = some x) : ∃ c, ns[i]? = some c ∧ x = .int c := by
  rw [List.getElem?_map] at h
  cases e : ns[i]? with
  | none =>
    rw [e] at h
    cases h
  | some c =>
    rw [e] at h
    exact ⟨c, rfl, (Option.some.inj h).symm⟩
theorem lt_of_at {α : Type} {l : List α} {i : Nat} {x : α} (h : l[i]? = some x) : i < l.length := (List.getElem?_eq_some_iff.mp h).1
theorem take_at {α : Type} {l : List α} {i : Nat} {x : α} (h : l[i]? = some x) : l.take (i + 1) = l.take i ++ [x] := by
  rw [List.take_add_one, h]
  rfl
section
variable {P : Program} {w : World} {K : PySem.W.Frag} {mg : Str → Option Value} {base : Heap}
/-- a def that lets nothing out -/
theorem fnK0 {d : DD} {fd : FuncData} {N ps : List Str} {k : Nat} {sp : Sp} (F : FnP K d fd) (S : FnScope N ps (defScope d.st)) (len : ∀ vs H Q E, sp vs H Q E → vs.length = ps.length)
    (hbody : ∀ (cdv : Value) (A : Around) (outer : List Env) (s : Shared) (H : Hp) (vs : List V) (Q : VK) (E : XK), Room k (A.deeper (envOfC d.ql (defScope d.st) s.heap.objs.size (d.adr K) cdv)) → sp vs H Q E →
      ∃ t, PSs (cxOf CX0 P w K mg base N d.ql (defScope d.st) (d.adr K) cdv A outer s H E).nox (defBody d.st) t ∧ t { nx := fun _ H' => Q .non H', rt := Q } (start N vs) H) :
    FnOk P w K mg base CX0 (k + 1) (d.adr K) fd ps sp := FunD.ok F S len fun cdv A outer s H vs Q E hr h => by
  obtain ⟨t, h1, h2⟩ := hbody cdv A outer s H vs Q E hr h
  exact ⟨t, h1.nox, h2⟩
/-- .. without defaults -/
theorem fnR0 {d : DD} {fd : FuncData} {N ps : List Str} {k : Nat} {sp : Sp} (F : FnP K d fd) (S : FnScope N ps (defScope d.st)) (e : d.df = [])
    (b : ∀ (kV doc pm : Value) (an : Option Addr) (cdv ct : Value) (us : List Value), us.length = ps.length → bindArgs (PySem.W.fnOf d.nm d.ql (defArgs d.st) (defBody d.st) (defScope d.st) .none kV doc pm an cdv ct) ⟨us, []⟩ = pure (ps.zip us))
    (len : ∀ vs H Q E, sp vs H Q E → vs.length = ps.length)
    (hbody : ∀ (cdv : Value) (A : Around) (outer : List Env) (s : Shared) (H : Hp) (vs : List V) (Q : VK) (E : XK), Room k (A.deeper (envOfC d.ql (defScope d.st) s.heap.objs.size (d.adr K) cdv)) → sp vs H Q E →
      ∃ t, PSs (cxOf CX0 P w K mg base N d.ql (defScope d.st) (d.adr K) cdv A outer s H E).nox (defBody d.st) t ∧ t { nx := fun _ H' => Q .non H', rt := Q } (start N vs) H) :
    FnR P w K mg base CX0 (k + 1) (d.adr K) sp := by
  have F1 : FnOk P w K mg base CX0 (k + 1) (d.adr K) fd ps sp := FunD.ok F S len fun cdv A outer s H vs Q E hr h => by
    obtain ⟨t, h1, h2⟩ := hbody cdv A outer s H vs Q E hr h
    exact ⟨t, h1.nox, h2⟩
  have F2 : FunD K d.nm d.ql (defArgs d.st) (defBody d.st) (defScope d.st) [] [] (d.adr K) fd := by
    have z : FnP K d fd := F
    unfold FnP at z
    rw [e] at z
    exact z
  refine (F1.raw (F2.bindsN b) .nil).imp fun vs H Q E h => ?_
  rw [List.append_nil]
  exact h
end
def perS (d : Nat) (t : Tr) : Nat := d.lcm (t.n / ((t.l.natAbs.gcd t.n.natAbs : Nat) : Int)).natAbs
def per (ts : List Tr) : Nat := ts.foldl perS 1
theorem gcd_pos' {t : Tr} (ht : t.ok) : 0 < ((t.l.natAbs.gcd t.n.natAbs : Nat) : Int) ∧ ((t.l.natAbs.gcd t.n.natAbs : Nat) : Int) ≤ 12 := by
  obtain ⟨_, _, h3, h4⟩ := ht
  have h5 : 0 < t.n.natAbs := by omega
  have h6 : 0 < t.l.natAbs.gcd t.n.natAbs := Nat.gcd_pos_of_pos_right _ h5
  have h7 : t.l.natAbs.gcd t.n.natAbs ≤ t.n.natAbs := Nat.gcd_le_right _ h5
  omega
theorem quo_le {t : Tr} (ht : t.ok) : (t.n / ((t.l.natAbs.gcd t.n.natAbs : Nat) : Int)).natAbs ≤ 12 := by
  have h1 := gcd_pos' ht
  have h2 := ht.2.2.1
  have h3 := ht.2.2.2
  have h4 : 0 ≤ t.n / ((t.l.natAbs.gcd t.n.natAbs : Nat) : Int) := Int.ediv_nonneg (by omega) (by omega)
  have h5 : t.n / ((t.l.natAbs.gcd t.n.natAbs : Nat) : Int) ≤ t.n := Int.ediv_le_self _ (by omega)
  omega
theorem per_le : ∀ (ts : List Tr) (d : Nat), (∀ t ∈ ts, t.ok) → ts.foldl perS d ≤ d * 12 ^ ts.length
  | [], d, _ => by simp
  | t :: ts, d, h => by
    have h1 := per_le ts (perS d t) fun u hu => h u (List.mem_cons_of_mem _ hu)
    have h2 : perS d t ≤ d * 12 := Nat.le_trans (PySem.W.mc_lcm_le _ _) (Nat.mul_le_mul_left _ (quo_le (h t (List.mem_cons_self ..))))
    have h3 : perS d t * 12 ^ ts.length ≤ d * 12 * 12 ^ ts.length := Nat.mul_le_mul_right _ h2
    rw [List.foldl_cons, List.length_cons, Nat.pow_succ]
    rw [Nat.mul_assoc, Nat.mul_comm 12] at h3
    omega
theorem per_most {ts : List Tr} (h : gds ts) (i : Nat) : (ts.take i).foldl perS 1 ≤ 1728 := by
  have h1 := per_le (ts.take i) 1 fun t ht => h.2 t (List.mem_of_mem_take ht)
  have h2 : (ts.take i).length ≤ 3 := by
    rw [List.length_take]
    have := h.1
    omega
  have h3 : 12 ^ (ts.take i).length ≤ 12 ^ 3 := Nat.pow_le_pow_right (by omega) h2
  omega
section
variable {P : Program} {w : World} {K : PySem.W.Frag} {mg : Str → Option Value} {base : Heap} (T : Tx K mg)
include T
/-! ### patterns -/
def spCost (K : PySem.W.Frag) : Sp := fun vs H Q _ => ∃ (a : Addr) (ts : List Tr) (d : Int), vs = [.ref a, .int d] ∧ TrAt K H a ts ∧ gds ts ∧ ∀ H', Same H H' → Q (.int (cost ts d)) H'
theorem ok_cost_of : FnR P w K mg base CX0 1 (a_cost_of K) (spCost K) := by
  refine fnR0 (d := d_cost_of) T.F_cost_of sc_cost_of rfl (fun _ _ _ _ _ _ us hl => match us, hl with | [_, _], _ => rfl) (fun vs H Q E h => ?_) (fun cdv A outer s H vs Q E hr h => ?_)
  · obtain ⟨a, ts, d, rfl, _⟩ := h
    rfl
  obtain ⟨a, ts, d, rfl, hT, ⟨hlen, hok⟩, k⟩ := h
  obtain ⟨ps, h1, h2, h3⟩ := hT.ex
  refine ⟨_, (pss_one (ps_ret (pe_op op_sub (pv 1) (pe_callB (cr_sum rfl) (by rfl) T.n_sum (by decide +kernel) (pa_cons (pe_lc (own := [("_", 2), ("left", 3), ("needed", 4)]) rfl sc_cost_of.nd (pi_tup (pv 0)) (blkOk_by (own := [("_", 2), ("left", 3), ("needed", 4)]) (N := N_cost_of) (sc := defScope s_cost_of) (by decide +kernel)) (fun _ _ _ _ _ => (pg_tupB (n := 3) (pgs_cons (pg_name (i := 2) sc_cost_of.nd rfl (Or.inl rfl) (.inr rfl)) (pgs_cons (pg_name (i := 3) sc_cost_of.nd rfl (Or.inl rfl) (.inr rfl)) (pgs_cons (pg_name (i := 4) sc_cost_of.nd rfl (Or.inl rfl) (.inr rfl)) pgs_nil))))) (fun _ _ _ _ _ => pts_nil) (fun _ _ _ _ _ => (pe_op op_fdiv (pe_op op_mul (pv 3) (pv 1)) (pv 4)))) pa_nil))))), ?_⟩
  refine ⟨_, rfl, _, rfl, a, rfl, ⟨_, h1⟩, fun D hD => ?_⟩
  refine lc_tup (xs := ps.map V.ref) (fun i H1 => Same H H1 ∧ H D = none ∧ H1 D = some (.lst ((ts.take i).map fun t => V.int (t.l * d / t.n)))) ⟨same_new hD, hD, upd_same⟩ (fun i H1 _ q => Same.tup q.1 h1) ?_ ?_
  · rintro i x H1 hx ⟨s1, n1, e1⟩
    obtain ⟨p, t, rfl, ep, et, hm, li, hp⟩ := TrAt.at_ h2 h3 hx
    have ht := hok _ hm
    refine ⟨p, _, rfl, Same.tup s1 hp, rfl, _, _, rfl, _, _, rfl, _, _, rfl, rfl, rfl, ?_⟩
    refine ⟨_, rfl, _, rfl, _, _, rfl, rfl, .inl ⟨by have := ht.1; omega, by have := ht.2.1; omega⟩, _, rfl, _, _, rfl, rfl, ⟨by have := ht.2.2.1; omega, by have := ht.2.2.2; omega⟩, ?_⟩
    refine ⟨_, e1, small3 ?_, same_mut s1 n1, n1, ?_⟩
    · rw [List.length_map, List.length_take]
      omega
    · rw [upd_same, take_at et, List.map_append]
      rfl
  · rintro H1 ⟨s1, n1, e1⟩
    refine ⟨D, ts.map fun t => t.l * d / t.n, rfl, SqL.of ?_, ?_⟩
    · rw [e1, List.length_map, h2, List.take_length, List.map_map]
      rfl
    · exact ⟨_, _, rfl, rfl, k _ s1⟩
def spPer (K : PySem.W.Frag) : Sp := fun vs H Q _ => ∃ (a : Addr) (ts : List Tr), vs = [.ref a] ∧ TrAt K H a ts ∧ gds ts ∧ ∀ H', Same H H' → Q (.int (per ts : Nat)) H'
theorem ok_drinks_of_period : FnR P w K mg base CX0 1 (a_drinks_of_period K) (spPer K) := by
  refine fnR0 (d := d_drinks_of_period) T.F_drinks_of_period sc_drinks_of_period rfl (fun _ _ _ _ _ _ us hl => match us, hl with | [_], _ => rfl) (fun vs H Q E h => ?_) (fun cdv A outer s H vs Q E hr h => ?_)
  · obtain ⟨a, ts, rfl, _⟩ := h
    rfl
  obtain ⟨a, ts, rfl, hT, hg, k⟩ := h
  obtain ⟨ps, h1, h2, h3⟩ := hT.ex
  refine ⟨_, (pss_cons (ps_set (i := 1) sc_drinks_of_period.nd rfl (Or.inl rfl) pe_int) (pss_cons (ps_for PassesOwn.never rfl (pi_tup (pv 0)) (pg_tup rfl (pgs_cons (pg_name (i := 2) sc_drinks_of_period.nd rfl (Or.inl rfl)) (pgs_cons (pg_name (i := 3) sc_drinks_of_period.nd rfl (Or.inl rfl)) (pgs_cons (pg_name (i := 4) sc_drinks_of_period.nd rfl (Or.inl rfl)) pgs_nil)))) (pss_one (ps_set (i := 1) sc_drinks_of_period.nd rfl (Or.inl rfl) (pe_callBfun cr_lcm (by rfl) T.b_lcm (pa_cons (pv 1) (pa_cons (pe_op op_fdiv (pv 4) (pe_callBfun cr_gcd (by rfl) T.b_gcd (pa_cons (pv 3) (pa_cons (pv 4) pa_nil)))) pa_nil)))))) (pss_one (ps_ret (pv 1))))), ?_⟩
  refine ⟨_, rfl, a, rfl, ⟨_, h1⟩, for_tup (xs := ps.map V.ref) (fun i σ H1 => H1 = H ∧ ∃ x2 x3 x4, σ = [some (.ref a), some (.int (((ts.take i).foldl perS 1 : Nat) : Int)), x2, x3, x4]) ⟨rfl, _, _, _, rfl⟩ (fun i σ H1 _ q => by rw [q.1]; exact h1) ?_ ?_⟩
  · rintro i x σ H1 hx ⟨rfl, x2, x3, x4, rfl⟩
    obtain ⟨p, t, rfl, ep, et, hm, li, hp⟩ := TrAt.at_ h2 h3 hx
    have ht := hg.2 _ hm
    have hq := gcd_pos' ht
    refine ⟨p, _, rfl, hp, rfl, _, _, rfl, _, _, rfl, _, _, rfl, rfl, ?_⟩
    refine ⟨_, rfl, _, rfl, _, rfl, _, rfl, _, _, rfl, _, _, rfl, rfl, ⟨hq.1, by omega⟩, _, _, rfl, ?_, ?_, rfl, some (.str t.k), some (.int t.l), some (.int t.n), ?_⟩
    · have := per_most hg i
      exact Nat.lt_of_le_of_lt (by omega : _ ≤ 1728) (by decide)
    · exact Nat.lt_of_le_of_lt (quo_le ht) (by decide)
    · rw [take_at et, List.foldl_append]
      rfl
  · rintro σ H1 ⟨rfl, x2, x3, x4, rfl⟩
    refine ⟨_, rfl, ?_⟩
    have e : (ts.take (ps.map V.ref).length).foldl perS 1 = per ts := by
      rw [List.length_map, h2, List.take_length]
      rfl
    rw [e]
    exact k _ (Same.refl _)
end
end EB

namespace EB
open PySem PySem.Spec PyProof.Rows L2
/-! ### tables -/
def topsF : Int → List Int → List Int
  | _, [] => []
  | m, c :: cs => (if m < c then c else m) :: topsF (if m < c then c else m) cs
def topsM (m : Int) (cs : List Int) : Int := cs.foldl (fun m c => if m < c then c else m) m
theorem topsF_length : ∀ (m : Int) (cs : List Int), (topsF m cs).length = cs.length
  | _, [] => rfl
  | m, c :: cs => by
    show (topsF _ cs).length + 1 = _
    rw [topsF_length]
    rfl
theorem topsF_snoc : ∀ (m : Int) (cs : List Int) (c : Int), topsF m (cs ++ [c]) = topsF m cs ++ [topsM m (cs ++ [c])]
  | m, [], c => rfl
  | m, x :: cs, c => by
    show _ :: topsF _ (cs ++ [c]) = _ :: (topsF _ cs ++ _)
    rw [topsF_snoc]
    rfl
theorem topsM_snoc (m : Int) (cs : List Int) (c : Int) : topsM m (cs ++ [c]) = if topsM m cs < c then c else topsM m cs := by
  unfold topsM
  rw [List.foldl_append]
  rfl
/-- the first place of each value that a table reaches: what is there, what is still to be gone through from place i on -/
def firstsF : Nat → List Int → List Int → List Int
  | _, acc, [] => acc
  | i, acc, t :: ts => firstsF (i + 1) (if t = (acc.length : Int) then acc ++ [(i : Int)] else acc) ts
theorem firstsF_snoc : ∀ (i : Nat) (acc ts : List Int) (t : Int), firstsF i acc (ts ++ [t]) = if t = ((firstsF i acc ts).length : Int) then firstsF i acc ts ++ [((i + ts.length : Nat) : Int)] else firstsF i acc ts
  | i, acc, [], t => rfl
  | i, acc, x :: ts, t => by
    show firstsF (i + 1) _ (ts ++ [t]) = _
    rw [firstsF_snoc]
    have e : i + 1 + ts.length = i + (x :: ts).length := by
      rw [List.length_cons]
      omega
    rw [e]
    rfl
theorem firstsF_length : ∀ (i : Nat) (acc ts : List Int), (firstsF i acc ts).length ≤ acc.length + ts.length
  | _, acc, [] => Nat.le_refl _
  | i, acc, t :: ts => by
    have h := firstsF_length (i + 1) (if t = (acc.length : Int) then acc ++ [(i : Int)] else acc) ts
    have h2 : (if t = (acc.length : Int) then acc ++ [(i : Int)] else acc).length ≤ acc.length + 1 := by
      split
      · rw [List.length_append, List.length_singleton]
        exact Nat.le_refl _
      · exact Nat.le_succ _
    rw [List.length_cons]
    show (firstsF (i + 1) (if t = (acc.length : Int) then acc ++ [(i : Int)] else acc) ts).length ≤ _
    omega
def valueAt (xs : List Int) (at_ span rise : Int) : Int :=
  if at_ < xs.length then xs.getD at_.toNat 0 else xs.getD (at_ - ((at_ - xs.length) / span + 1) * span).toNat 0 + ((at_ - xs.length) / span + 1) * rise
theorem getD_at {xs : List Int} {i : Int} (h0 : 0 ≤ i) (h1 : i < xs.length) : atI (xs.map V.int) i = some (.int (xs.getD i.toNat 0)) := by
  have hi : i.toNat < xs.length := by omega
  refine at_of (j := i.toNat) (by omega) ?_
  rw [List.getElem?_map, List.getElem?_eq_getElem hi, List.getD_eq_getElem?_getD, List.getElem?_eq_getElem hi]
  rfl
/-- the places at which a table of first places does not lead back -/
def gapsF (fs : List Int) : Nat → List Int → List Int
  | _, [] => []
  | i, t :: ts => (if fs.getD t.toNat 0 = (i : Int) then [] else [(i : Int)]) ++ gapsF fs (i + 1) ts
theorem gapsF_snoc (fs : List Int) : ∀ (i : Nat) (ts : List Int) (t : Int), gapsF fs i (ts ++ [t]) = gapsF fs i ts ++ (if fs.getD t.toNat 0 = ((i + ts.length : Nat) : Int) then [] else [((i + ts.length : Nat) : Int)])
  | i, [], t => by
    show (if _ then _ else _) ++ [] = [] ++ _
    rw [List.append_nil, List.nil_append]
    rfl
  | i, x :: ts, t => by
    show _ ++ gapsF fs (i + 1) (ts ++ [t]) = _ ++ gapsF fs (i + 1) ts ++ _
    rw [gapsF_snoc, List.append_assoc]
    have e : i + 1 + ts.length = i + (x :: ts).length := by
      rw [List.length_cons]
      omega
    rw [e]
theorem gapsF_length (fs : List Int) : ∀ (i : Nat) (ts : List Int), (gapsF fs i ts).length ≤ ts.length
  | _, [] => Nat.le_refl _
  | i, t :: ts => by
    show ((if _ then _ else _) ++ gapsF fs (i + 1) ts).length ≤ ts.length + 1
    have := gapsF_length fs (i + 1) ts
    rw [List.length_append]
    split
    · simp only [List.length_nil]
      omega
    · simp only [List.length_singleton]
      omega
section
variable {P : Program} {w : World} {K : PySem.W.Frag} {mg : Str → Option Value} {base : Heap} (T : Tx K mg)
include T
def spTops (K : PySem.W.Frag) : Sp := fun vs H Q _ => ∃ (a : Addr) (cs : List Int), vs = [.ref a] ∧ SqL K H a (cs.map V.int) ∧ cs.length ≤ 10000 ∧ ∀ H' p, Same H H' → H p = none → H' p = some (.lst ((topsF 0 cs).map V.int)) → Q (.ref p) H'
theorem ok_tops_of : FnR P w K mg base CX0 1 (a_tops_of K) (spTops K) := by
  refine fnR0 (d := d_tops_of) T.F_tops_of sc_tops_of rfl (fun _ _ _ _ _ _ us hl => match us, hl with | [_], _ => rfl) (fun vs H Q E h => ?_) (fun cdv A outer s H vs Q E hr h => ?_)
  · obtain ⟨a, cs, rfl, _⟩ := h
    rfl
  obtain ⟨a, cs, rfl, hS, hl, k⟩ := h
  refine ⟨_, (pss_cons (ps_set (i := 1) sc_tops_of.nd rfl (Or.inl rfl) (pe_lst pa_nil)) (pss_cons (ps_set (i := 2) sc_tops_of.nd rfl (Or.inl rfl) pe_int) (pss_cons (ps_for PassesOwn.never rfl (pi_list (pv 0)) (pg_name (i := 3) sc_tops_of.nd rfl (Or.inl rfl)) (pss_cons (ps_if (pt_cmpR op_gt (pv 3) (pv 2) (nomark _)) (pss_one (ps_set (i := 2) sc_tops_of.nd rfl (Or.inl rfl) (pv 3))) pss_nil) (pss_one (ps_expr (pe_bm PySem.F.plainAttrs_list PySem.F.slot_list_append PySem.F.type_list_append mt_append (pv 1) (pa_cons (pv 2) pa_nil)))))) (pss_one (ps_ret (pv 1)))))), ?_⟩
  refine ⟨Nat.zero_le _, fun p hp => ?_⟩
  refine ⟨_, rfl, a, rfl, ⟨_, (same_new hp).seq hS⟩, for_list (K := K) (a := a) (xs := cs.map V.int) (fun i σ H1 => Same H H1 ∧ H1 p = some (.lst ((topsF 0 (cs.take i)).map V.int)) ∧ ∃ x, σ = [some (.ref a), some (.ref p), some (.int (topsM 0 (cs.take i))), x])
    ⟨same_new hp, upd_same, _, rfl⟩ (fun i σ H1 _ q => q.1.seq hS) ?_ ?_⟩
  · rintro i x σ H1 hx ⟨s1, e1, x3, rfl⟩
    obtain ⟨c, ec, rfl⟩ := int_at hx
    have hi := lt_of_at ec
    have e2 : topsM 0 (cs.take (i + 1)) = if topsM 0 (cs.take i) < c then c else topsM 0 (cs.take i) := by rw [take_at ec, topsM_snoc]
    have e3 : topsF 0 (cs.take (i + 1)) = topsF 0 (cs.take i) ++ [topsM 0 (cs.take (i + 1))] := by rw [take_at ec, topsF_snoc]
    have hz : ((topsF 0 (cs.take i)).map V.int).length < sizeLine := small3 (by rw [List.length_map, topsF_length, List.length_take]; omega)
    refine ⟨_, rfl, _, rfl, _, _, rfl, rfl, _, rfl, ite2 (fun hd => ?_) (fun hd => ?_)⟩
    · have hd : topsM 0 (cs.take i) < c := of_decide_eq_true hd
      rw [if_pos hd] at e2
      refine ⟨_, rfl, ?_⟩
      refine ⟨_, rfl, .inl ⟨rfl, _, SqL.of e1⟩, _, rfl, p, _, _, rfl, rfl, e1, hz, same_mut s1 hp, ?_, some (.int c), ?_⟩
      · rw [upd_same, e3, e2, List.map_append]
        rfl
      · rw [e2]
        rfl
    · have hd : ¬ topsM 0 (cs.take i) < c := fun z => hd (decide_eq_true z)
      rw [if_neg hd] at e2
      refine ⟨_, rfl, .inl ⟨rfl, _, SqL.of e1⟩, _, rfl, p, _, _, rfl, rfl, e1, hz, same_mut s1 hp, ?_, some (.int c), ?_⟩
      · rw [upd_same, e3, e2, List.map_append]
        rfl
      · rw [e2]
        rfl
  · rintro σ H1 ⟨s1, e1, x, rfl⟩
    refine ⟨_, rfl, k _ _ s1 hp ?_⟩
    rw [e1, List.length_map, List.take_length]
def spFirsts (K : PySem.W.Frag) : Sp := fun vs H Q _ => ∃ (a : Addr) (ts : List Int), vs = [.ref a] ∧ SqL K H a (ts.map V.int) ∧ ts.length ≤ 10000 ∧ ∀ H' p, Same H H' → H p = none → H' p = some (.lst ((firstsF 0 [] ts).map V.int)) → Q (.ref p) H'
theorem ok_firsts_of : FnR P w K mg base CX0 1 (a_firsts_of K) (spFirsts K) := by
  refine fnR0 (d := d_firsts_of) T.F_firsts_of sc_firsts_of rfl (fun _ _ _ _ _ _ us hl => match us, hl with | [_], _ => rfl) (fun vs H Q E h => ?_) (fun cdv A outer s H vs Q E hr h => ?_)
  · obtain ⟨a, cs, rfl, _⟩ := h
    rfl
  obtain ⟨a, ts, rfl, hS, hl, k⟩ := h
  refine ⟨_, (pss_cons (ps_set (i := 1) sc_firsts_of.nd rfl (Or.inl rfl) (pe_lst pa_nil)) (pss_cons (ps_for PassesOwn.never rfl (pi_enum (by rfl) T.n_enumerate (pa_cons (pv 0) pa_nil)) (pg_tup rfl (pgs_cons (pg_name (i := 2) sc_firsts_of.nd rfl (Or.inl rfl)) (pgs_cons (pg_name (i := 3) sc_firsts_of.nd rfl (Or.inl rfl)) pgs_nil))) (pss_one (ps_if (pt_cmpR op_eq (pv 3) (pe_callB call_len_seq (by rfl) T.n_len PySem.boot_len (pa_cons (pv 1) pa_nil)) (nomark _)) (pss_one (ps_expr (pe_bm PySem.F.plainAttrs_list PySem.F.slot_list_append PySem.F.type_list_append mt_append (pv 1) (pa_cons (pv 2) pa_nil)))) pss_nil))) (pss_one (ps_ret (pv 1))))), ?_⟩
  refine ⟨Nat.zero_le _, fun p hp => ?_⟩
  refine ⟨_, rfl, a, _, rfl, (same_new hp).seq hS, for_it (walk_enum (K := K) (a := a) (xs := ts.map V.int)) (fun i σ H1 => Same H H1 ∧ H1 p = some (.lst ((firstsF 0 [] (ts.take i)).map V.int)) ∧ ∃ x y, σ = [some (.ref a), some (.ref p), x, y])
    ⟨same_new hp, upd_same, _, _, rfl⟩ (fun i σ H1 _ q => q.1.seq hS) ?_ ?_⟩
  · rintro i x σ H1 H2 hi ⟨s1, e1, x2, x3, rfl⟩ ⟨q, u, v, rfl, nq, rfl, eu, ev⟩
    cases eu
    obtain ⟨c, ec, rfl⟩ := int_at ev
    have li := lt_of_at ec
    have hz : (firstsF 0 [] (ts.take i)).length ≤ 10000 := by
      have := firstsF_length 0 [] (ts.take i)
      rw [List.length_take] at this
      simp only [List.length_nil] at this
      omega
    have e3 := firstsF_snoc 0 [] (ts.take i) c
    rw [← take_at ec, List.length_take, Nat.min_eq_left (Nat.le_of_lt li), Nat.zero_add] at e3
    have e1' := upd_old (u := .tup [.int (i : Nat), .int c]) e1 nq
    refine ⟨q, _, rfl, SqT.of upd_same, rfl, _, _, rfl, _, _, rfl, rfl, ?_⟩
    refine ⟨_, rfl, _, rfl, p, _, rfl, .inl (SqL.of e1'), rfl, _, rfl, ?_⟩
    refine ite2 (fun hd => ?_) (fun hd => ?_)
    · have hd2 : c = ((firstsF 0 [] (ts.take i)).length : Int) := by
        have z := of_decide_eq_true hd
        rw [List.length_map] at z
        exact V.int.inj z
      rw [if_pos hd2] at e3
      refine ⟨_, rfl, .inl ⟨rfl, _, SqL.of e1'⟩, _, rfl, p, _, _, rfl, rfl, e1', small3 (by rw [List.length_map]; omega), same_mut (s1.trans (same_new nq)) hp, ?_, _, _, rfl⟩
      rw [upd_same, e3, List.map_append]
      rfl
    · have hd2 : ¬ c = ((firstsF 0 [] (ts.take i)).length : Int) := fun z => hd (decide_eq_true (by rw [List.length_map, z]))
      rw [if_neg hd2] at e3
      exact ⟨s1.trans (same_new nq), by rw [e1', e3], _, _, rfl⟩
  · rintro σ H1 ⟨s1, e1, x, y, rfl⟩
    refine ⟨_, rfl, k _ _ s1 hp ?_⟩
    rw [e1, List.length_map, List.take_length]
def spValue (K : PySem.W.Frag) : Sp := fun vs H Q _ => ∃ (a : Addr) (xs : List Int) (i span rise : Int), vs = [.ref a, .int i, .int span, .int rise] ∧ SqL K H a (xs.map V.int) ∧ 0 ≤ i ∧ 0 < span ∧ span < 10000 ∧ -(10000) < rise ∧ rise < 10000 ∧ span ≤ xs.length ∧
  Q (.int (valueAt xs i span rise)) H
theorem ok_value_at : FnR P w K mg base CX0 1 (a_value_at K) (spValue K) := by
  refine fnR0 (d := d_value_at) T.F_value_at sc_value_at rfl (fun _ _ _ _ _ _ us hl => match us, hl with | [_, _, _, _], _ => rfl) (fun vs H Q E h => ?_) (fun cdv A outer s H vs Q E hr h => ?_)
  · obtain ⟨a, xs, i, span, rise, rfl, _⟩ := h
    rfl
  obtain ⟨a, xs, i, span, rise, rfl, hS, h0, h1, h2, h3, h4, h5, k⟩ := h
  refine ⟨_, (pss_cons (ps_if (pt_cmpR op_lt (pv 1) (pe_callB call_len_seq (by rfl) T.n_len PySem.boot_len (pa_cons (pv 0) pa_nil)) (nomark _)) (pss_one (ps_ret (pe_ix ix_list (pv 0) (pv 1) (fun _ _ => rfl)))) pss_nil) (pss_cons (ps_set (i := 4) sc_value_at.nd rfl (Or.inl rfl) (pe_op op_add (pe_op op_fdiv (pe_op op_sub (pv 1) (pe_callB call_len_seq (by rfl) T.n_len PySem.boot_len (pa_cons (pv 0) pa_nil))) (pv 2)) pe_int)) (pss_one (ps_ret (pe_op op_add (pe_ix ix_list (pv 0) (pe_op op_sub (pv 1) (pe_op op_mul (pv 4) (pv 2))) (fun _ _ => rfl)) (pe_op op_mul (pv 4) (pv 3))))))), ?_⟩
  refine ⟨_, rfl, _, rfl, a, _, rfl, .inl hS, _, _, rfl, rfl, _, rfl, ite2 (fun hd => ?_) (fun hd => ?_)⟩
  · have hd : i < (xs.length : Int) := by
      have z := of_decide_eq_true hd
      rw [List.length_map] at z
      exact z
    refine ⟨_, rfl, _, rfl, a, _, _, _, rfl, rfl, hS, getD_at h0 hd, ?_⟩
    unfold valueAt at k
    rw [if_pos hd] at k
    exact k
  · have hd : ¬ i < (xs.length : Int) := fun z => hd (decide_eq_true (by rw [List.length_map]; exact z))
    unfold valueAt at k
    rw [if_neg hd] at k
    refine ⟨_, rfl, _, rfl, a, _, rfl, .inl hS, _, _, rfl, rfl, _, rfl, _, _, rfl, rfl, ⟨h1, by omega⟩, _, _, rfl, rfl, ?_⟩
    have em : i % span = i - i / span * span := by
      have := Int.emod_add_mul_ediv i span
      rw [Int.mul_comm] at this
      omega
    have f1 : (i - xs.length) / span * span ≤ i - xs.length := by
      have := Int.emod_add_mul_ediv (i - xs.length) span
      have := Int.emod_nonneg (i - xs.length) (show span ≠ 0 by omega)
      rw [Int.mul_comm]
      omega
    have f2 : i - xs.length < (i - xs.length) / span * span + span := by
      have := Int.emod_add_mul_ediv (i - xs.length) span
      have := Int.emod_lt_of_pos (i - xs.length) h1
      rw [Int.mul_comm]
      omega
    have f3 : ((i - xs.length) / span + 1) * span = (i - xs.length) / span * span + span := by rw [Int.add_mul, Int.one_mul]
    refine ⟨_, rfl, _, rfl, _, rfl, _, rfl, _, _, rfl, rfl, .inr ⟨by omega, by omega⟩, _, _, rfl, rfl, a, _, _, .int (xs.getD (i - ((i - (xs.length : Int)) / span + 1) * span).toNat 0), rfl, rfl, hS, ?_, ?_⟩
    · show atI (xs.map V.int) (i - ((i - ((xs.map V.int).length : Int)) / span + 1) * span) = _
      rw [List.length_map]
      refine getD_at ?_ ?_
      · omega
      · omega
    · refine ⟨_, rfl, _, rfl, _, _, rfl, rfl, .inr ⟨by omega, by omega⟩, _, _, rfl, rfl, ?_⟩
      rw [List.length_map]
      exact k
def spGaps (K : PySem.W.Frag) : Sp := fun vs H Q _ => ∃ (a b : Addr) (ts fs : List Int), vs = [.ref a, .ref b] ∧ SqL K H a (ts.map V.int) ∧ SqL K H b (fs.map V.int) ∧ ts.length ≤ 10000 ∧ (∀ t ∈ ts, 0 ≤ t ∧ t < fs.length) ∧
  ∀ H' p, Same H H' → H p = none → H' p = some (.lst ((gapsF fs 0 ts).map V.int)) → Q (.ref p) H'
theorem ok_gaps_of : FnR P w K mg base CX0 1 (a_gaps_of K) (spGaps K) := by
  refine fnR0 (d := d_gaps_of) T.F_gaps_of sc_gaps_of rfl (fun _ _ _ _ _ _ us hl => match us, hl with | [_, _], _ => rfl) (fun vs H Q E h => ?_) (fun cdv A outer s H vs Q E hr h => ?_)
  · obtain ⟨a, b, ts, fs, rfl, _⟩ := h
    rfl
  obtain ⟨a, b, ts, fs, rfl, hS, hF, hl, hb, k⟩ := h
  refine ⟨_, (pss_one (ps_ret (pe_lc (own := [("drinks", 2), ("top", 3)]) rfl sc_gaps_of.nd (pi_enum (by rfl) T.n_enumerate (pa_cons (pv 0) pa_nil)) (blkOk_by (own := [("drinks", 2), ("top", 3)]) (N := N_gaps_of) (sc := defScope s_gaps_of) (by decide +kernel)) (fun _ _ _ _ _ => (pg_tupB (n := 2) (pgs_cons (pg_name (i := 2) sc_gaps_of.nd rfl (Or.inl rfl) (.inr rfl)) (pgs_cons (pg_name (i := 3) sc_gaps_of.nd rfl (Or.inl rfl) (.inr rfl)) pgs_nil)))) (fun _ _ _ _ _ => (pts_one (pt_cmpR op_ne (pe_ix (ix_listK (K := K) rfl) (pv 1) (pv 3) (fun _ _ => rfl)) (pv 2) (nomark _)))) (fun _ _ _ _ _ => (pv 2))))), ?_⟩
  refine ⟨_, rfl, a, _, rfl, hS, fun D hD => ?_⟩
  refine lc_it (walk_enum (K := K) (a := a) (xs := ts.map V.int)) (fun i H1 => Same H H1 ∧ H1 D = some (.lst ((gapsF fs 0 (ts.take i)).map V.int))) ⟨same_new hD, upd_same⟩ (fun i H1 _ q => q.1.seq hS) ?_ ?_
  · rintro i x H1 H2 hi ⟨s1, e1⟩ ⟨q, u, v, rfl, nq, rfl, eu, ev⟩
    cases eu
    obtain ⟨c, ec, rfl⟩ := int_at ev
    have li := lt_of_at ec
    have hc := hb c (List.mem_of_getElem? ec)
    have e1' := upd_old (u := .tup [.int (i : Nat), .int c]) e1 nq
    have e3 := gapsF_snoc fs 0 (ts.take i) c
    rw [← take_at ec, List.length_take, Nat.min_eq_left (Nat.le_of_lt li), Nat.zero_add] at e3
    have hz : (gapsF fs 0 (ts.take i)).length ≤ 10000 := by
      have := gapsF_length fs 0 (ts.take i)
      rw [List.length_take] at this
      omega
    refine ⟨q, _, rfl, SqT.of upd_same, rfl, _, _, rfl, _, _, rfl, rfl, rfl, ?_⟩
    refine ⟨_, rfl, _, rfl, b, _, _, _, rfl, rfl, (s1.trans (same_new nq)).seq hF, getD_at hc.1 hc.2, _, rfl, rfl, _, rfl, ?_⟩
    refine ite2 (fun hd => ?_) (fun hd => ?_)
    · have hd2 : ¬ fs.getD c.toNat 0 = (i : Int) := fun z => by
        rw [z, decide_eq_true rfl] at hd
        cases hd
      rw [if_neg hd2] at e3
      refine ⟨_, rfl, _, e1', small3 (by rw [List.length_map]; omega), same_mut (s1.trans (same_new nq)) hD, ?_⟩
      rw [upd_same, e3, List.map_append]
      rfl
    · have hd2 : fs.getD c.toNat 0 = (i : Int) := by
        apply Classical.byContradiction
        intro z
        apply hd
        rw [decide_eq_false (fun y => z (V.int.inj y))]
        rfl
      rw [if_pos hd2, List.append_nil] at e3
      exact ⟨s1.trans (same_new nq), by rw [e1', e3]⟩
  · rintro H1 ⟨s1, e1⟩
    refine k _ _ s1 hD ?_
    rw [e1, List.length_map, List.take_length]
end
end EB

namespace EB
open PySem PySem.Spec PyProof.Rows L2
/-! ### checks -/
def signOk (c : Nat) : Bool := if (!decide ((⟨#[c]⟩ : Str).cps.toList < ("a" : Str).cps.toList)) = true then (!decide (("z" : Str).cps.toList < (⟨#[c]⟩ : Str).cps.toList)) else false
def labelOk (z : Str) : Bool := if (!(if decide ((1 : Int) ≤ z.length) = true then decide ((z.length : Int) ≤ 8) else false)) = true then false else (z.cps.toList.map signOk).all id
def kindOk (z : Str) : Bool := if labelOk z = true then !decide (z = "drink") else false
def numOk (i lo hi : Int) : Bool := if decide (lo ≤ i) = true then decide (i ≤ hi) else false
def trOk (t : Tr) : Bool := if kindOk t.k = true then (if numOk t.l 0 12 = true then numOk t.n 1 12 else false) else false
theorem numOk_iff {i lo hi : Int} : numOk i lo hi = true ↔ lo ≤ i ∧ i ≤ hi := by
  unfold numOk
  by_cases h : lo ≤ i
  · rw [decide_eq_true h, if_pos rfl]
    exact ⟨fun z => ⟨h, of_decide_eq_true z⟩, fun z => decide_eq_true z.2⟩
  · rw [decide_eq_false h, if_neg Bool.false_ne_true]
    exact ⟨fun z => absurd z Bool.false_ne_true, fun z => absurd z.1 h⟩
theorem trOk_of {t : Tr} (h : t.ok) (k : kindOk t.k = true) : trOk t = true := by
  unfold trOk
  rw [if_pos k, if_pos (numOk_iff.mpr ⟨h.1, h.2.1⟩)]
  exact numOk_iff.mpr ⟨h.2.2.1, h.2.2.2⟩
section
variable {P : Program} {w : World} {K : PySem.W.Frag} {mg : Str → Option Value} {base : Heap} (T : Tx K mg)
include T
def spIsInt : Sp := fun vs H Q _ => ∃ i : Int, vs = [.int i] ∧ Q (.bl true) H
theorem ok_is_integer : FnR P w K mg base CX0 1 (a_is_integer K) spIsInt := by
  refine fnR0 (d := d_is_integer) T.F_is_integer sc_is_integer rfl (fun _ _ _ _ _ _ us hl => match us, hl with | [_], _ => rfl) (fun vs H Q E h => ?_) (fun cdv A outer s H vs Q E hr h => ?_)
  · obtain ⟨i, rfl, _⟩ := h
    rfl
  obtain ⟨i, rfl, k⟩ := h
  refine ⟨_, (pss_one (ps_ret (pe_and (pe_callB call_isi (by rfl) T.n_isinstance (by decide +kernel) (pa_cons (pv 0) (pa_cons (pe_bltn (v := .ty "int") (u := .type "int") rfl T.n_int (by decide +kernel) rfl) pa_nil))) (pe_one (pe_not (pe_callB call_isi (by rfl) T.n_isinstance (by decide +kernel) (pa_cons (pv 0) (pa_cons (pe_bltn (v := .ty "bool") (u := .type "bool") rfl T.n_bool (by decide +kernel) rfl) pa_nil)))))))), ?_⟩
  refine ⟨_, rfl, .int i, .ty "int", _, _, true, rfl, ClsV.ty "int", .base (.int i), kit_ty (by decide +kernel), true, rfl, iteT ?_⟩
  exact ⟨_, rfl, .int i, .ty "bool", _, _, false, rfl, ClsV.ty "bool", .base (.int i), kit_ty (by decide +kernel), false, rfl, k⟩
def spIsNum : Sp := fun vs H Q _ => ∃ i lo hi : Int, vs = [.int i, .int lo, .int hi] ∧ Q (.bl (numOk i lo hi)) H
theorem ok_is_number : FnR P w K mg base CX0 2 (a_is_number K) spIsNum := by
  refine fnR0 (d := d_is_number) T.F_is_number sc_is_number rfl (fun _ _ _ _ _ _ us hl => match us, hl with | [_, _, _], _ => rfl) (fun vs H Q E h => ?_) (fun cdv A outer s H vs Q E hr h => ?_)
  · obtain ⟨i, lo, hi, rfl, _⟩ := h
    rfl
  obtain ⟨i, lo, hi, rfl, k⟩ := h
  refine ⟨_, (pss_one (ps_ret (pe_and (pe_cR (ok_is_integer T) (hr.mono (by decide)) T.F_is_integer.kp T.g_is_integer pass0 (pa_cons (pv 0) pa_nil)) (pe_one (pe_chain op_le op_le (pv 1) (pv 0) (pv 2)))))), ?_⟩
  refine ⟨_, rfl, i, rfl, true, rfl, iteT ?_⟩
  refine ⟨_, rfl, _, rfl, _, _, rfl, rfl, _, rfl, ?_⟩
  unfold numOk at k
  refine ite2 (fun hd => ?_) (fun hd => ?_)
  · rw [if_pos hd] at k
    exact ⟨_, rfl, _, _, rfl, rfl, k⟩
  · rw [if_neg hd] at k
    exact k
def spIsLabel : Sp := fun vs H Q _ => ∃ z : Str, vs = [.str z] ∧ z.length ≤ 1000 ∧ ∀ H', Same H H' → Q (.bl (labelOk z)) H'
theorem ok_is_label : FnR P w K mg base CX0 1 (a_is_label K) spIsLabel := by
  refine fnR0 (d := d_is_label) T.F_is_label sc_is_label rfl (fun _ _ _ _ _ _ us hl => match us, hl with | [_], _ => rfl) (fun vs H Q E h => ?_) (fun cdv A outer s H vs Q E hr h => ?_)
  · obtain ⟨z, rfl, _⟩ := h
    rfl
  obtain ⟨z, rfl, hz, k⟩ := h
  have hz2 : z.length ≤ sizeLine := Nat.le_trans hz (by decide)
  refine ⟨_, (pss_cons (ps_if (PW.pt (pw_or (pt_not (pt_val (pe_callB call_isi (by rfl) T.n_isinstance (by decide +kernel) (pa_cons (pv 0) (pa_cons (pe_bltn (v := .ty "str") (u := .type "str") rfl T.n_str (by decide +kernel) rfl) pa_nil))))) (pw_or1 (pt_not (pt_chain op_le op_le pe_int (pe_callB call_len_str (by rfl) T.n_len PySem.boot_len (pa_cons (pv 0) pa_nil)) (pe_cI T.c_MAX_LABEL_LENGTH)))))) (pss_one (ps_ret pe_bl)) pss_nil) (pss_one (ps_ret (pe_callB (cr_all rfl) (by rfl) T.n_all (by decide +kernel) (pa_cons (pe_lc (own := [("letter", 1)]) rfl sc_is_label.nd (pi_str (pv 0)) (blkOk_by (own := [("letter", 1)]) (N := N_is_label) (sc := defScope s_is_label) (by decide +kernel)) (fun _ _ _ _ _ => (pg_name (i := 1) sc_is_label.nd rfl (Or.inl rfl) (.inr rfl))) (fun _ _ _ _ _ => pts_nil) (fun _ _ _ _ _ => (pe_chain op_le_str op_le_str pe_str (pv 1) pe_str))) pa_nil))))), ?_⟩
  refine ⟨_, rfl, .str z, .ty "str", _, _, true, rfl, ClsV.ty "str", .base (.str z), kit_ty (by decide +kernel), true, rfl, ?_⟩
  show (if false = true then _ else _)
  refine iteF ?_
  have hlast : ∀ (c : Bool), (if decide ((1 : Int) ≤ z.length) = true then decide ((z.length : Int) ≤ 8) else false) = c → labelOk z = if (!c) = true then false else (z.cps.toList.map signOk).all id := by
    rintro c rfl
    rfl
  refine ⟨_, rfl, z, rfl, hz2, _, _, rfl, rfl, _, rfl, ?_⟩
  refine ite2 (fun h1 => ?_) (fun h1 => ?_)
  · rw [if_pos h1] at hlast
    refine ⟨_, _, rfl, rfl, _, rfl, ?_⟩
    by_cases h2 : (z.length : Int) ≤ 8
    · rw [decide_eq_true h2]
      rw [hlast true (decide_eq_true h2)] at k
      refine iteF ?_
      refine ⟨_, rfl, z, rfl, fun D hD => ?_⟩
      refine lc_it (walk_str (z := z)) (fun i H1 => Same H H1 ∧ H1 D = some (.lst ((z.cps.toList.take i).map fun c => V.bl (signOk c)))) ⟨same_new hD, upd_same⟩ (fun _ _ _ _ => True.intro) ?_ ?_
      · rintro i x H1 H2 hi ⟨s1, e1⟩ ⟨rfl, c, ec, rfl⟩
        have ec2 : z.cps.toList[i]? = some c := by
          rw [Array.getElem?_toList]
          exact ec
        have hz3 : ((z.cps.toList.take i).map fun c => V.bl (signOk c)).length < sizeLine := by
          rw [List.length_map, List.length_take]
          refine small3 ?_
          have h3 : i < z.cps.size := hi
          have h4 : z.cps.size = z.length := rfl
          omega
        refine ⟨rfl, _, rfl, _, _, rfl, rfl, _, rfl, ?_⟩
        have hs : signOk c = if (!decide ((⟨#[c]⟩ : Str).cps.toList < ("a" : Str).cps.toList)) = true then (!decide (("z" : Str).cps.toList < (⟨#[c]⟩ : Str).cps.toList)) else false := rfl
        refine ite2 (fun h5 => ?_) (fun h5 => ?_)
        · rw [if_pos h5] at hs
          refine ⟨_, _, rfl, rfl, _, e1, hz3, same_mut s1 hD, ?_⟩
          rw [upd_same, take_at ec2, List.map_append, ← hs]
          rfl
        · rw [if_neg h5] at hs
          refine ⟨_, e1, hz3, same_mut s1 hD, ?_⟩
          rw [upd_same, take_at ec2, List.map_append, ← hs]
          rfl
      · rintro H1 ⟨s1, e1⟩
        refine ⟨D, z.cps.toList.map signOk, rfl, SqL.of ?_, k _ s1⟩
        rw [e1, ← Array.length_toList, List.take_length, List.map_map]
        rfl
    · rw [decide_eq_false h2]
      rw [hlast false (decide_eq_false h2)] at k
      exact iteT (k _ (Same.refl _))
  · rw [if_neg h1] at hlast
    rw [hlast false rfl] at k
    exact ⟨false, rfl, iteT (k _ (Same.refl _))⟩
def spIsKind : Sp := fun vs H Q _ => ∃ z : Str, vs = [.str z] ∧ z.length ≤ 1000 ∧ ∀ H', Same H H' → Q (.bl (kindOk z)) H'
theorem ok_is_kind : FnR P w K mg base CX0 2 (a_is_kind K) spIsKind := by
  refine fnR0 (d := d_is_kind) T.F_is_kind sc_is_kind rfl (fun _ _ _ _ _ _ us hl => match us, hl with | [_], _ => rfl) (fun vs H Q E h => ?_) (fun cdv A outer s H vs Q E hr h => ?_)
  · obtain ⟨z, rfl, _⟩ := h
    rfl
  obtain ⟨z, rfl, hz, k⟩ := h
  refine ⟨_, (pss_one (ps_ret (pe_and (pe_cR (ok_is_label T) (hr.mono (by decide)) T.F_is_label.kp T.g_is_label pass0 (pa_cons (pv 0) pa_nil)) (pe_one (pe_cmpR op_ne (pv 0) (pe_cS T.c_DRINK) (nomark _)))))), ?_⟩
  refine ⟨_, rfl, z, rfl, hz, fun H1 s1 => ⟨_, rfl, ?_⟩⟩
  unfold kindOk at k
  refine ite2 (fun h1 => ?_) (fun h1 => ?_)
  · rw [if_pos h1] at k
    refine ⟨_, rfl, rfl, ?_⟩
    have e : decide (V.str z = V.str "drink") = decide (z = "drink") := decide_eq_decide.mpr ⟨V.str.inj, fun y => by rw [y]⟩
    show Q (V.bl !decide (V.str z = V.str "drink")) H1
    rw [e]
    exact k _ s1
  · rw [if_neg h1] at k
    exact k _ s1
def spIsTrade : Sp := fun vs H Q _ => ∃ t : Tr, vs = t.vs ∧ t.k.length ≤ 1000 ∧ ∀ H', Same H H' → Q (.bl (trOk t)) H'
theorem ok_is_trade : FnR P w K mg base CX0 3 (a_is_trade K) spIsTrade := by
  refine fnR0 (d := d_is_trade) T.F_is_trade sc_is_trade rfl (fun _ _ _ _ _ _ us hl => match us, hl with | [_, _, _], _ => rfl) (fun vs H Q E h => ?_) (fun cdv A outer s H vs Q E hr h => ?_)
  · obtain ⟨t, rfl, _⟩ := h
    rfl
  obtain ⟨t, rfl, hz, k⟩ := h
  obtain ⟨uE, hE⟩ := T.v_Offer_MAX_NEEDED
  refine ⟨_, (pss_one (ps_ret (pe_and (pe_cR (ok_is_kind T) (hr.mono (by decide)) T.F_is_kind.kp T.g_is_kind pass0 (pa_cons (pv 0) pa_nil)) (pe_and (pe_cR (ok_is_number T) (hr.mono (by decide)) T.F_is_number.kp T.g_is_number pass0 (pa_cons (pv 1) (pa_cons pe_int (pa_cons (pe_cI T.c_MAX_LEFT) pa_nil)))) (pe_one (pe_cR (ok_is_number T) (hr.mono (by decide)) T.F_is_number.kp T.g_is_number pass0 (pa_cons (pv 2) (pa_cons pe_int (pa_cons (ClX.pe_cval (pe_cC T.g_Offer)) pa_nil))))))))), ?_⟩
  refine ⟨_, rfl, t.k, rfl, hz, fun H1 s1 => ⟨_, rfl, ?_⟩⟩
  unfold trOk at k
  refine ite2 (fun h1 => ?_) (fun h1 => ?_)
  · rw [if_pos h1] at k
    refine ⟨_, rfl, t.l, 0, 12, rfl, _, rfl, ite2 (fun h2 => ?_) (fun h2 => ?_)⟩
    · rw [if_pos h2] at k
      exact ⟨_, rfl, He.ga K "Offer", _, _, _, rfl, T.r_Offer, hE, t.n, 1, 12, rfl, k _ s1⟩
    · rw [if_neg h2] at k
      exact k _ s1
  · rw [if_neg h1] at k
    exact k _ s1
end
end EB

namespace EB
open PySem PySem.Spec PyProof.Rows L2
/-! ### the mathematics of offers -/
abbrev cN (ts : List Tr) : Nat → Int := fun d => cost ts (d : Int)
def worth (ts : List Tr) : Int := (ts.map fun t => 27720 / t.n * t.l).sum
/-- a good offer: at most three trades in range, together not too generous -/
structure Fair (ts : List Tr) : Prop where
  g : gds ts
  w : 10 * worth ts ≤ 9 * 27720
theorem dvd_big {n : Int} (h1 : 1 ≤ n) (h2 : n ≤ 12) : n ∣ 27720 := by
  have h : n = 1 ∨ n = 2 ∨ n = 3 ∨ n = 4 ∨ n = 5 ∨ n = 6 ∨ n = 7 ∨ n = 8 ∨ n = 9 ∨ n = 10 ∨ n = 11 ∨ n = 12 := by omega
  rcases h with rfl | rfl | rfl | rfl | rfl | rfl | rfl | rfl | rfl | rfl | rfl | rfl <;> decide
theorem sum_map_le {α : Type} {f g : α → Int} : ∀ {l : List α}, (∀ x ∈ l, f x ≤ g x) → (l.map f).sum ≤ (l.map g).sum
  | [], _ => Int.le_refl _
  | a :: l, h => by
    have h1 := h a (List.mem_cons_self ..)
    have h2 := sum_map_le (l := l) fun x hx => h x (List.mem_cons_of_mem _ hx)
    rw [List.map_cons, List.map_cons, List.sum_cons, List.sum_cons]
    omega
theorem sum_map_eq {α : Type} {f g : α → Int} : ∀ {l : List α}, (∀ x ∈ l, f x = g x) → (l.map f).sum = (l.map g).sum
  | [], _ => rfl
  | a :: l, h => by
    rw [List.map_cons, List.map_cons, List.sum_cons, List.sum_cons, h a (List.mem_cons_self ..), sum_map_eq (l := l) fun x hx => h x (List.mem_cons_of_mem _ hx)]
theorem sum_map_add {α : Type} {f g : α → Int} : ∀ {l : List α}, (l.map fun x => f x + g x).sum = (l.map f).sum + (l.map g).sum
  | [] => rfl
  | a :: l => by
    rw [List.map_cons, List.map_cons, List.map_cons, List.sum_cons, List.sum_cons, List.sum_cons, sum_map_add (l := l)]
    omega
theorem sum_map_mul {α : Type} {f : α → Int} {k : Int} : ∀ {l : List α}, (l.map fun x => f x * k).sum = (l.map f).sum * k
  | [] => by simp
  | a :: l => by
    rw [List.map_cons, List.map_cons, List.sum_cons, List.sum_cons, sum_map_mul (l := l), Int.add_mul]
theorem fl_mono {l n x y : Int} (hl : 0 ≤ l) (hn : 0 < n) (h : x ≤ y) : l * x / n ≤ l * y / n := Int.ediv_le_ediv hn (Int.mul_le_mul_of_nonneg_left h hl)
theorem fl_super {l n x y : Int} (hn : 0 < n) : l * x / n + l * y / n ≤ l * (x + y) / n := by
  rw [Int.mul_add]
  have h1 := Int.ediv_mul_le (l * x) (Int.ne_of_gt hn)
  have h2 := Int.ediv_mul_le (l * y) (Int.ne_of_gt hn)
  refine Int.le_ediv_of_mul_le hn ?_
  rw [Int.add_mul]
  omega
theorem tr_pos {t : Tr} (h : t.ok) : 0 < t.n := by
  have := h.2.2.1
  omega
/-! periods -/
theorem quo_dvd {t : Tr} (h : t.ok) {d : Nat} : (t.n / ((t.l.natAbs.gcd t.n.natAbs : Nat) : Int)).natAbs ∣ d ↔ t.n ∣ t.l * (d : Int) := by
  obtain ⟨l, hl⟩ := Int.eq_ofNat_of_zero_le h.1
  obtain ⟨n, hn⟩ := Int.eq_ofNat_of_zero_le (Int.le_of_lt (tr_pos h))
  have hp := tr_pos h
  rw [hl, hn]
  rw [hn] at hp
  have hp2 : 0 < n := by omega
  simp only [Int.natAbs_natCast]
  have hg : 0 < l.gcd n := Nat.gcd_pos_of_pos_right _ hp2
  rw [← Int.natCast_ediv, Int.natAbs_natCast]
  have e1 : ((n : Int) ∣ (l : Int) * (d : Int)) ↔ n ∣ l * d := by
    rw [← Int.natCast_mul]
    exact Int.natCast_dvd_natCast
  rw [e1]
  have hn2 : n = n / l.gcd n * l.gcd n := (Nat.div_mul_cancel (Nat.gcd_dvd_right l n)).symm
  have hl2 : l = l / l.gcd n * l.gcd n := (Nat.div_mul_cancel (Nat.gcd_dvd_left l n)).symm
  have co : Nat.Coprime (n / l.gcd n) (l / l.gcd n) := (Nat.coprime_div_gcd_div_gcd hg).symm
  constructor
  · rintro ⟨k, rfl⟩
    refine ⟨l / l.gcd n * k, ?_⟩
    have : l * (n / l.gcd n * k) = (l / l.gcd n * l.gcd n) * (n / l.gcd n * k) := by rw [← hl2]
    rw [this]
    have : n * (l / l.gcd n * k) = (n / l.gcd n * l.gcd n) * (l / l.gcd n * k) := by rw [← hn2]
    rw [this]
    simp only [Nat.mul_comm, Nat.mul_left_comm, Nat.mul_assoc]
  · rintro ⟨k, hk⟩
    refine co.dvd_of_dvd_mul_left (⟨k, ?_⟩ : n / l.gcd n ∣ l / l.gcd n * d)
    refine Nat.eq_of_mul_eq_mul_right hg ?_
    have e2 : l / l.gcd n * d * l.gcd n = l / l.gcd n * l.gcd n * d := by simp only [Nat.mul_comm, Nat.mul_left_comm]
    have e3 : n / l.gcd n * k * l.gcd n = n / l.gcd n * l.gcd n * k := by simp only [Nat.mul_comm, Nat.mul_left_comm]
    rw [e2, e3, ← hl2, ← hn2]
    exact hk
theorem perF_dvd : ∀ (ts : List Tr) (p d : Nat), (∀ t ∈ ts, t.ok) → (ts.foldl perS p ∣ d ↔ p ∣ d ∧ ∀ t ∈ ts, t.n ∣ t.l * (d : Int))
  | [], p, d, _ => by simp
  | t :: ts, p, d, h => by
    rw [List.foldl_cons, perF_dvd ts (perS p t) d fun u hu => h u (List.mem_cons_of_mem _ hu)]
    have e : perS p t ∣ d ↔ p ∣ d ∧ t.n ∣ t.l * (d : Int) := by
      unfold perS
      rw [Nat.lcm_dvd_iff, quo_dvd (h t (List.mem_cons_self ..))]
    rw [e]
    constructor
    · rintro ⟨⟨a, b⟩, c⟩
      refine ⟨a, fun u hu => ?_⟩
      rcases List.mem_cons.mp hu with rfl | hu
      · exact b
      · exact c u hu
    · rintro ⟨a, b⟩
      exact ⟨⟨a, b t (List.mem_cons_self ..)⟩, fun u hu => b u (List.mem_cons_of_mem _ hu)⟩
/-- the period divides just the numbers of drinks that leave whole trades -/
theorem per_dvd {ts : List Tr} (h : gds ts) {d : Nat} : per ts ∣ d ↔ ∀ t ∈ ts, t.n ∣ t.l * (d : Int) := by
  unfold per
  rw [perF_dvd ts 1 d h.2]
  exact ⟨fun z => z.2, fun z => ⟨Nat.one_dvd d, z⟩⟩
theorem perF_pos : ∀ (ts : List Tr) (p : Nat), 0 < p → (∀ t ∈ ts, t.ok) → 0 < ts.foldl perS p
  | [], p, hp, _ => hp
  | t :: ts, p, hp, h => by
    rw [List.foldl_cons]
    refine perF_pos ts _ ?_ fun u hu => h u (List.mem_cons_of_mem _ hu)
    have ht := h t (List.mem_cons_self ..)
    refine Nat.lcm_pos hp ?_
    have h1 := gcd_pos' ht
    have hn := tr_pos ht
    have h3 : ((t.l.natAbs.gcd t.n.natAbs : Nat) : Int) ≤ t.n := by
      have := Nat.gcd_le_right t.l.natAbs (show 0 < t.n.natAbs by omega)
      omega
    have h4 : 0 < t.n / ((t.l.natAbs.gcd t.n.natAbs : Nat) : Int) := Int.ediv_pos_of_pos_of_dvd hn (by omega) (by
      have : t.l.natAbs.gcd t.n.natAbs ∣ t.n.natAbs := Nat.gcd_dvd_right _ _
      exact Int.dvd_natAbs.mp (Int.natCast_dvd_natCast.mpr this))
    omega
theorem per_pos {ts : List Tr} (h : gds ts) : 0 < per ts := perF_pos ts 1 (by omega) h.2
/-! costs -/
theorem ten_buys {ts : List Tr} (f : Fair ts) (d : Nat) : 10 * buys ts d ≤ 9 * (d : Int) := by
  have h1 : buys ts d * 27720 ≤ worth ts * d := by
    unfold buys worth
    rw [← sum_map_mul, ← sum_map_mul]
    refine sum_map_le fun t ht => ?_
    have hn := tr_pos (f.g.2 t ht)
    obtain ⟨q, hq⟩ := dvd_big (f.g.2 t ht).2.2.1 (f.g.2 t ht).2.2.2
    have e1 : 27720 / t.n = q := by
      rw [hq]
      exact Int.mul_ediv_cancel_left _ (Int.ne_of_gt hn)
    have hq0 : 0 ≤ q := by
      rw [← e1]
      exact Int.ediv_nonneg (by omega) (by omega)
    rw [e1, hq]
    have h2 := Int.ediv_mul_le (t.l * (d : Int)) (Int.ne_of_gt hn)
    have h3 := Int.mul_le_mul_of_nonneg_right h2 hq0
    have e2 : t.l * (d : Int) / t.n * (t.n * q) = t.l * (d : Int) / t.n * t.n * q := by rw [Int.mul_assoc]
    have e3 : q * t.l * (d : Int) = t.l * (d : Int) * q := by rw [Int.mul_assoc, Int.mul_comm]
    rw [e2, e3]
    exact h3
  have h2 : worth ts * d ≤ 24948 * (d : Int) := Int.mul_le_mul_of_nonneg_right (by have := f.w; omega) (by omega)
  omega
theorem buys_nonneg {ts : List Tr} (f : gds ts) (d : Nat) : 0 ≤ buys ts d := by
  have h : ((ts.map fun _ => (0 : Int))).sum ≤ buys ts d := sum_map_le fun t ht => Int.ediv_nonneg (Int.mul_nonneg (f.2 t ht).1 (by omega)) (Int.le_of_lt (tr_pos (f.2 t ht)))
  have e : ((ts.map fun _ => (0 : Int))).sum = 0 := by
    have : ∀ l : List Tr, ((l.map fun _ => (0 : Int))).sum = 0 := by
      intro l
      induction l with
      | nil => rfl
      | cons a l ih => rw [List.map_cons, List.sum_cons, ih]; rfl
    exact this ts
  omega
/-- the bottles of a period -/
def perB (ts : List Tr) : Nat := (cN ts (per ts)).toNat
theorem cf {ts : List Tr} (f : Fair ts) : CF (cN ts) (per ts) (perB ts) where
  zero := by
    show (0 : Int) - buys ts 0 = 0
    have : buys ts 0 = 0 := by
      unfold buys
      have e : (ts.map fun t => t.l * 0 / t.n).sum = ((ts.map fun _ => (0 : Int) * 0)).sum := sum_map_eq fun t _ => by rw [Int.mul_zero, Int.zero_ediv]; rfl
      rw [e, sum_map_mul, Int.mul_zero]
    omega
  step := fun d => by
    show ((d + 1 : Nat) : Int) - buys ts ((d + 1 : Nat) : Int) ≤ (d : Int) - buys ts d + 1
    have h : buys ts d ≤ buys ts ((d + 1 : Nat) : Int) := sum_map_le fun t ht => fl_mono (f.g.2 t ht).1 (tr_pos (f.g.2 t ht)) (by omega)
    omega
  per := fun d => by
    have e : buys ts ((d + per ts : Nat) : Int) = buys ts d + buys ts (per ts) := by
      unfold buys
      rw [← sum_map_add]
      refine sum_map_eq fun t ht => ?_
      have hd := (per_dvd f.g (d := per ts)).mp (Nat.dvd_refl _) t ht
      rw [Int.natCast_add, Int.mul_add]
      exact Int.add_ediv_of_dvd_right hd
    have h10 := ten_buys f (per ts)
    have hB : ((perB ts : Nat) : Int) = (per ts : Int) - buys ts (per ts) := by
      unfold perB cN cost
      omega
    show ((d + per ts : Nat) : Int) - buys ts ((d + per ts : Nat) : Int) = (d : Int) - buys ts d + (perB ts : Int)
    rw [e, hB]
    omega
  ppos := per_pos f.g
  ten := fun d => by
    have := ten_buys f d
    show (d : Int) ≤ 10 * ((d : Int) - buys ts d)
    omega
  sub := fun x y => by
    have e : buys ts x + buys ts y ≤ buys ts ((x + y : Nat) : Int) := by
      unfold buys
      rw [← sum_map_add]
      refine sum_map_le fun t ht => ?_
      rw [Int.natCast_add]
      exact fl_super (tr_pos (f.g.2 t ht))
    show ((x + y : Nat) : Int) - buys ts ((x + y : Nat) : Int) ≤ (x : Int) - buys ts x + ((y : Int) - buys ts y)
    omega
theorem perB_eq {ts : List Tr} (f : Fair ts) : ((perB ts : Nat) : Int) = cost ts (per ts) := by
  have h := (cf f).nonneg (per ts)
  unfold perB
  exact Int.toNat_of_nonneg h
theorem perB_le {ts : List Tr} (f : Fair ts) : perB ts ≤ per ts := by
  have h : cost ts (per ts) ≤ (per ts : Int) := (cf f).le_self (per ts)
  have e := perB_eq f
  omega
/-! tables -/
theorem tops_eq {c : Nat → Int} (h0 : c 0 = 0) : ∀ n : Nat, topsF 0 ((List.range (n + 1)).map c) = (List.range (n + 1)).map (T c) ∧ topsM 0 ((List.range (n + 1)).map c) = T c n
  | 0 => by
    constructor
    · show [if (0 : Int) < c 0 then c 0 else 0] = [c 0]
      rw [h0]
      rfl
    · show (if (0 : Int) < c 0 then c 0 else 0) = c 0
      rw [h0]
      rfl
  | n + 1 => by
    obtain ⟨h1, h2⟩ := tops_eq h0 n
    have e : topsM 0 ((List.range (n + 1 + 1)).map c) = T c (n + 1) := by
      rw [List.range_succ, List.map_append, List.map_singleton, topsM_snoc, h2]
      rfl
    refine ⟨?_, e⟩
    rw [List.range_succ, List.map_append, List.map_append, List.map_singleton, List.map_singleton, topsF_snoc, h1, ← e]
    rw [List.range_succ (n := n + 1), List.map_append, List.map_singleton]
theorem firsts_eq {c : Nat → Int} {P B : Nat} (h : CF c P B) : ∀ n : Nat, firstsF 0 [] ((List.range (n + 1)).map (T c)) = (List.range ((T c n).toNat + 1)).map fun k => ((D c k : Nat) : Int)
  | 0 => by
    have e : T c 0 = 0 := h.zero
    show (if T c 0 = ((([] : List Int)).length : Int) then [] ++ [((0 : Nat) : Int)] else []) = _
    rw [e]
    show [((0 : Nat) : Int)] = [((D c 0 : Nat) : Int)]
    rw [h.D_zero]
  | n + 1 => by
    have ih := firsts_eq h n
    have hs := h.T_step n
    have hm := CF.T_mono c (Nat.le_add_right n 1)
    have hn := h.T_nonneg n
    rw [List.range_succ, List.map_append, List.map_singleton, firstsF_snoc, ih]
    simp only [List.length_map, List.length_range, Nat.zero_add]
    by_cases q : T c (n + 1) = (((T c n).toNat + 1 : Nat) : Int)
    · rw [if_pos q]
      have e1 : (T c (n + 1)).toNat = (T c n).toNat + 1 := by omega
      rw [e1, List.range_succ (n := (T c n).toNat + 1), List.map_append, List.map_singleton]
      have e2 : D c ((T c n).toNat + 1) = n + 1 := by
        refine h.D_eq ⟨?_, fun j hj => ?_⟩
        · obtain ⟨j, hj, ej⟩ := CF.T_at c (n + 1)
          rcases Nat.lt_or_eq_of_le hj with z | z
          · have := CF.T_ge c (d := n) (j := j) (by omega)
            omega
          · rw [z] at ej
            omega
        · have := CF.T_ge c (d := n) (j := j) (by omega)
          push_cast
          omega
      rw [e2]
    · rw [if_neg q]
      have e1 : (T c (n + 1)).toNat = (T c n).toNat := by
        push_cast at q
        omega
      rw [e1]
theorem getD_map {f : Nat → Int} {n i : Nat} (h : i < n) : ((List.range n).map f).getD i 0 = f i := by
  rw [List.getD_eq_getElem?_getD, List.getElem?_map, List.getElem?_range h]
  rfl
/-- behind its end the table of the greatest costs goes on as it is said -/
theorem value_tops {c : Nat → Int} {P B : Nat} (h : CF c P B) (d : Nat) : valueAt ((List.range (2 * P)).map (T c)) d P B = T c d := by
  have hp := h.ppos
  unfold valueAt
  simp only [List.length_map, List.length_range]
  by_cases q : (d : Int) < ((2 * P : Nat) : Int)
  · rw [if_pos q, Int.toNat_natCast, getD_map (by omega)]
  · rw [if_neg q]
    obtain ⟨e, he⟩ : ∃ e, d = 2 * P + e := ⟨d - 2 * P, by omega⟩
    have e1 : (d : Int) - ((2 * P : Nat) : Int) = (e : Int) := by omega
    rw [e1, ← Int.natCast_ediv]
    have h1 := Nat.div_add_mod e P
    have h2 := Nat.mod_lt e hp
    have h3 : (e / P + 1) * P = P * (e / P) + P := by rw [Nat.add_mul, Nat.one_mul, Nat.mul_comm]
    have e2 : (d : Int) - (((e / P : Nat) : Int) + 1) * (P : Int) = ((P + e % P : Nat) : Int) := by
      have : (((e / P : Nat) : Int) + 1) * (P : Int) = (((e / P + 1) * P : Nat) : Int) := by push_cast; rfl
      rw [this]
      omega
    rw [e2, Int.toNat_natCast, getD_map (by omega)]
    have e3 : d = P + e % P + (e / P + 1) * P := by omega
    have h5 := h.T_perk (d := P + e % P) (by omega) (e / P + 1)
    rw [← e3] at h5
    rw [h5]
    push_cast
    rfl
theorem value_firsts {c : Nat → Int} {P B : Nat} (h : CF c P B) (n : Nat) : valueAt ((List.range ((T c (2 * P - 1)).toNat + 1)).map fun k => ((D c k : Nat) : Int)) n B P = ((D c n : Nat) : Int) := by
  have hp := h.ppos
  have hb := h.bpos
  have ht : T c (2 * P - 1) = T c (P - 1) + B := by
    have := h.T_per (d := P - 1) (by omega)
    rw [show P - 1 + P = 2 * P - 1 by omega] at this
    exact this
  have h0 := h.T_nonneg (P - 1)
  generalize hL : (T c (2 * P - 1)).toNat + 1 = L
  unfold valueAt
  simp only [List.length_map, List.length_range]
  by_cases q : (n : Int) < (L : Int)
  · rw [if_pos q, Int.toNat_natCast, getD_map (by omega)]
  · rw [if_neg q]
    obtain ⟨e, he⟩ : ∃ e, n = L + e := ⟨n - L, by omega⟩
    have e1 : (n : Int) - (L : Int) = (e : Int) := by omega
    rw [e1, ← Int.natCast_ediv]
    have h1 := Nat.div_add_mod e B
    have h2 := Nat.mod_lt e hb
    have h3 : (e / B + 1) * B = B * (e / B) + B := by rw [Nat.add_mul, Nat.one_mul, Nat.mul_comm]
    obtain ⟨g, hg⟩ : ∃ g, L = B + g := ⟨L - B, by omega⟩
    have e2 : (n : Int) - (((e / B : Nat) : Int) + 1) * (B : Int) = ((g + e % B : Nat) : Int) := by
      have : (((e / B : Nat) : Int) + 1) * (B : Int) = (((e / B + 1) * B : Nat) : Int) := by push_cast; rfl
      rw [this]
      omega
    rw [e2, Int.toNat_natCast, getD_map (by omega)]
    have e3 : n = g + e % B + (e / B + 1) * B := by omega
    have h5 := h.D_perk (n := g + e % B) (by omega) (e / B + 1)
    rw [← e3] at h5
    rw [h5]
    push_cast
    rfl
end EB

namespace EB
open PySem PySem.Spec PyProof.Rows L2
/-! ### what an offer is -/
def nmOk (ts : List Tr) : Prop := (ts.map Tr.k).Nodup ∧ ∀ t ∈ ts, kindOk t.k = true ∧ t.k.length ≤ 1000
def wholeS (d : Nat) (t : Tr) : Nat := d.lcm t.n.natAbs
def wholeF (ts : List Tr) : Nat := ts.foldl wholeS 1
theorem wholeF_le : ∀ (ts : List Tr) (d : Nat), (∀ t ∈ ts, t.ok) → ts.foldl wholeS d ≤ d * 12 ^ ts.length
  | [], d, _ => by simp
  | t :: ts, d, h => by
    have h1 := wholeF_le ts (wholeS d t) fun u hu => h u (List.mem_cons_of_mem _ hu)
    have ht := h t (List.mem_cons_self ..)
    have h2 : wholeS d t ≤ d * 12 := Nat.le_trans (PySem.W.mc_lcm_le _ _) (Nat.mul_le_mul_left _ (by have := ht.2.2.1; have := ht.2.2.2; omega))
    have h3 : wholeS d t * 12 ^ ts.length ≤ d * 12 * 12 ^ ts.length := Nat.mul_le_mul_right _ h2
    rw [List.foldl_cons, List.length_cons, Nat.pow_succ]
    rw [Nat.mul_assoc, Nat.mul_comm 12] at h3
    omega
theorem wholeF_most {ts : List Tr} (h : gds ts) (i : Nat) : (ts.take i).foldl wholeS 1 ≤ 1728 := by
  have h1 := wholeF_le (ts.take i) 1 fun t ht => h.2 t (List.mem_of_mem_take ht)
  have h2 : (ts.take i).length ≤ 3 := by
    rw [List.length_take]
    have := h.1
    omega
  have h3 : 12 ^ (ts.take i).length ≤ 12 ^ 3 := Nat.pow_le_pow_right (by omega) h2
  omega
theorem wholeF_dvd : ∀ (ts : List Tr) (d m : Nat), (ts.foldl wholeS d ∣ m ↔ d ∣ m ∧ ∀ t ∈ ts, t.n.natAbs ∣ m)
  | [], d, m => by simp
  | t :: ts, d, m => by
    rw [List.foldl_cons, wholeF_dvd ts (wholeS d t) m]
    unfold wholeS
    rw [Nat.lcm_dvd_iff]
    constructor
    · rintro ⟨⟨a, b⟩, c⟩
      refine ⟨a, fun u hu => ?_⟩
      rcases List.mem_cons.mp hu with rfl | hu
      · exact b
      · exact c u hu
    · rintro ⟨a, b⟩
      exact ⟨⟨a, b t (List.mem_cons_self ..)⟩, fun u hu => b u (List.mem_cons_of_mem _ hu)⟩
def parts (ts : List Tr) : Int := (ts.map fun t => (wholeF ts : Int) / t.n * t.l).sum
theorem parts_fair {ts : List Tr} (g : gds ts) : 10 * parts ts ≤ 9 * (wholeF ts : Int) ↔ 10 * worth ts ≤ 9 * 27720 := by
  have hd : wholeF ts ∣ 27720 := by
    refine (wholeF_dvd ts 1 27720).mpr ⟨Nat.one_dvd _, fun t ht => ?_⟩
    have := dvd_big (g.2 t ht).2.2.1 (g.2 t ht).2.2.2
    exact Int.natAbs_dvd_natAbs.mpr this
  obtain ⟨k, hk⟩ := hd
  have hk0 : 0 < k := by
    rcases Nat.eq_zero_or_pos k with z | z
    · rw [z] at hk
      omega
    · exact z
  have hw : worth ts = parts ts * k := by
    unfold worth parts
    rw [← sum_map_mul]
    refine sum_map_eq fun t ht => ?_
    have hn := tr_pos (g.2 t ht)
    have h1 : t.n.natAbs ∣ wholeF ts := ((wholeF_dvd ts 1 (wholeF ts)).mp (Nat.dvd_refl _)).2 t ht
    obtain ⟨q, hq⟩ := h1
    have hq2 : (wholeF ts : Int) = t.n * (q : Int) := by
      rw [hq]
      push_cast
      rw [Int.natAbs_of_nonneg (Int.le_of_lt hn)]
    have e1 : (wholeF ts : Int) / t.n = q := by
      rw [hq2]
      exact Int.mul_ediv_cancel_left _ (Int.ne_of_gt hn)
    have e2 : (27720 : Int) / t.n = (q : Int) * k := by
      have : (27720 : Int) = t.n * ((q : Int) * k) := by
        have z : (27720 : Int) = ((wholeF ts * k : Nat) : Int) := by rw [← hk]; rfl
        rw [z]
        push_cast
        rw [hq2, Int.mul_assoc]
      rw [this]
      exact Int.mul_ediv_cancel_left _ (Int.ne_of_gt hn)
    rw [e1, e2, Int.mul_assoc, Int.mul_assoc, Int.mul_comm (k : Int)]
  have hz : (27720 : Int) = (wholeF ts : Int) * k := by
    have z : (27720 : Int) = ((wholeF ts * k : Nat) : Int) := by rw [← hk]; rfl
    rw [z]
    push_cast
    rfl
  have hk1 : (0 : Int) < k := by omega
  rw [hw, hz]
  constructor
  · intro h
    have := Int.mul_le_mul_of_nonneg_right h (Int.le_of_lt hk1)
    rw [Int.mul_assoc, Int.mul_assoc] at this
    exact this
  · intro h
    refine Int.le_of_mul_le_mul_right ?_ hk1
    rw [Int.mul_assoc, Int.mul_assoc]
    exact h
/-- the tables of an offer -/
abbrev topsL (ts : List Tr) : List Int := (List.range (2 * per ts)).map (T (cN ts))
noncomputable abbrev firstsL (ts : List Tr) : List Int := (List.range ((T (cN ts) (2 * per ts - 1)).toNat + 1)).map fun k => ((D (cN ts) k : Nat) : Int)
noncomputable abbrev gapsL (ts : List Tr) : List Int := gapsF (firstsL ts) 0 (topsL ts)
def ofs (t p o f g : Addr) : List (Str × V) := [("_trades", .ref t), ("_period", .ref p), ("_tops", .ref o), ("_firsts", .ref f), ("_gaps", .ref g)]
/-- at a an offer of these trades -/
structure OfAt (K : PySem.W.Frag) (H : Hp) (a : Addr) (ts : List Tr) : Prop where
  ex : ∃ dx t p o f g, H a = some (.ins (He.ga K "Offer") dx (ofs t p o f g)) ∧ TrAt K H t ts ∧ SqT K H p [.int (perB ts : Nat), .int (per ts : Nat)] ∧ SqL K H o ((topsL ts).map V.int) ∧ SqL K H f ((firstsL ts).map V.int) ∧ SqL K H g ((gapsL ts).map V.int)
theorem OfAt.mono {K : PySem.W.Frag} {H H' : Hp} {a : Addr} {ts : List Tr} (s : Same H H') (h : OfAt K H a ts) : OfAt K H' a ts := by
  obtain ⟨dx, t, p, o, f, g, h1, h2, h3, h4, h5, h6⟩ := h.ex
  exact ⟨dx, t, p, o, f, g, s _ _ h1, h2.mono s, Same.tup s h3, s.seq h4, s.seq h5, s.seq h6⟩
section
variable {P : Program} {w : World} {K : PySem.W.Frag} {mg : Str → Option Value} {base : Heap} (T' : Tx K mg)
theorem inV_str {z : Str} {l : List Str} (h : z ∉ l) : inV (.str z) (l.map V.str) = false := by
  unfold inV
  rw [List.any_eq_false]
  intro y hy
  obtain ⟨x, hx, rfl⟩ := List.mem_map.mp hy
  show ¬ ((x == z) = true)
  intro e
  exact h (eq_of_beq e ▸ hx)
theorem flat_str (l : List Str) : (l.map V.str).all flatV = true := by
  rw [List.all_eq_true]
  intro y hy
  obtain ⟨x, hx, rfl⟩ := List.mem_map.mp hy
  rfl
end
section
variable {P : Program} {w : World} {K : PySem.W.Frag} {mg : Str → Option Value} {base : Heap} (T : Tx K mg)
include T
def spChkTr (K : PySem.W.Frag) : Sp := fun vs H Q _ => ∃ (a : Addr) (ts : List Tr), vs = [.ref a] ∧ TrAt K H a ts ∧ gds ts ∧ ts ≠ [] ∧ nmOk ts ∧ ∀ H', Same H H' → Q .non H'
theorem ok_check_trades : FnR P w K mg base CX0 4 (a_check_trades K) (spChkTr K) := by
  refine fnR0 (d := d_check_trades) T.F_check_trades sc_check_trades rfl (fun _ _ _ _ _ _ us hl => match us, hl with | [_], _ => rfl) (fun vs H Q E h => ?_) (fun cdv A outer s H vs Q E hr h => ?_)
  · obtain ⟨a, ts, rfl, _⟩ := h
    rfl
  obtain ⟨a, ts, rfl, hT, hg, hne, hnm, k⟩ := h
  obtain ⟨ps, h1, h2, h3⟩ := hT.ex
  obtain ⟨uE, hE⟩ := T.v_Offer_MAX_TRADES
  refine ⟨_, (pss_cons (ps_if (pt_not (pt_truth (pv 0) (by intro _; rfl))) (pss_one ps_never) pss_nil) (pss_cons (ps_set (i := 1) sc_check_trades.nd rfl (Or.inl rfl) (pe_lst pa_nil)) (pss_one (ps_for PassesOwn.never rfl (pi_enumT (by rfl) T.n_enumerate (pa_cons (pv 0) pa_nil)) (pg_tup rfl (pgs_cons (pg_name (i := 2) sc_check_trades.nd rfl (Or.inl rfl)) (pgs_cons (pg_tup rfl (pgs_cons (pg_name (i := 3) sc_check_trades.nd rfl (Or.inl rfl)) (pgs_cons (pg_name (i := 4) sc_check_trades.nd rfl (Or.inl rfl)) (pgs_cons (pg_name (i := 5) sc_check_trades.nd rfl (Or.inl rfl)) pgs_nil)))) pgs_nil))) (pss_cons (ps_if (PW.pt (pw_or (pt_cmpR op_eq (pv 2) (ClX.pe_cval (pe_cC T.g_Offer)) (nomark _)) (pw_or (pt_cmpR op_in_seq (pv 3) (pv 1) rfl) (pw_or1 (pt_not (pt_val (pe_cR (ok_is_trade T) (hr.mono (by decide)) T.F_is_trade.kp T.g_is_trade pass0 (pa_cons (pv 3) (pa_cons (pv 4) (pa_cons (pv 5) pa_nil)))))))))) (pss_one ps_never) pss_nil) (pss_one (ps_expr (pe_bm PySem.F.plainAttrs_list PySem.F.slot_list_append PySem.F.type_list_append mt_append (pv 1) (pa_cons (pv 3) pa_nil))))))))), ?_⟩
  have hps : (ps.map V.ref).isEmpty = false := by
    cases ps with
    | nil =>
      cases ts with
      | nil => exact absurd rfl hne
      | cons _ _ => cases h2
    | cons _ _ => rfl
  refine ⟨_, rfl, true, .inr (.inl ⟨_, h1, by rw [hps]; rfl⟩), iteF ?_⟩
  refine ⟨Nat.zero_le _, fun p hp => ?_⟩
  refine ⟨_, rfl, a, _, rfl, Same.tup (same_new hp) h1, for_it (walk_enumT (K := K) (a := a) (xs := ps.map V.ref)) (fun i σ H1 => Same H H1 ∧ H1 p = some (.lst (((ts.take i).map Tr.k).map V.str)) ∧ ∃ x2 x3 x4 x5, σ = [some (.ref a), some (.ref p), x2, x3, x4, x5])
    ⟨same_new hp, upd_same, _, _, _, _, rfl⟩ (fun i σ H1 _ q => Same.tup q.1 h1) ?_ ?_⟩
  · rintro i x σ H1 H2 hi ⟨s1, e1, x2, x3, x4, x5, rfl⟩ ⟨q, u, v, rfl, nq, rfl, eu, ev⟩
    cases eu
    obtain ⟨pt, t, rfl, ep, et, hm, li, hpt⟩ := TrAt.at_ h2 h3 ev
    have s2 : Same H (upd H1 q (.tup [.int (i : Nat), .ref pt])) := s1.trans (same_new nq)
    have e2 := upd_old (u := .tup [.int (i : Nat), .ref pt]) e1 nq
    have ht := hg.2 _ hm
    have hk := hnm.2 _ hm
    refine ⟨q, _, rfl, SqT.of upd_same, rfl, _, _, rfl, _, _, rfl, ⟨pt, _, rfl, Same.tup s2 hpt, rfl, _, _, rfl, _, _, rfl, _, _, rfl, rfl, rfl, ?_⟩⟩
    refine ⟨_, rfl, He.ga K "Offer", _, _, _, rfl, T.r_Offer, hE, rfl, _, rfl, ite2 (fun hd => ?_) (fun _ => ?_)⟩
    · have hd := V.int.inj (of_decide_eq_true hd)
      have := hg.1
      omega
    have hnotin : t.k ∉ (ts.take i).map Tr.k := by
      intro hin
      have hnd : ((ts.take (i + 1)).map Tr.k).Nodup := (hnm.1.sublist ((List.take_sublist _ _).map _))
      rw [take_at et, List.map_append, List.nodup_append] at hnd
      exact hnd.2.2 _ hin _ (List.mem_singleton.mpr rfl) rfl
    refine ⟨_, rfl, _, rfl, p, _, rfl, .inl (SqL.of e2), rfl, flat_str _, _, rfl, ite2 (fun hd => ?_) (fun _ => ?_)⟩
    · rw [if_neg Bool.false_ne_true, inV_str hnotin] at hd
      cases hd
    refine ⟨_, rfl, _, rfl, _, rfl, t, rfl, hk.2, fun H3 s3 => ⟨_, rfl, ?_⟩⟩
    rw [trOk_of ht hk.1]
    refine iteF ?_
    have e3 := s3 _ _ e2
    refine ⟨_, rfl, .inl ⟨rfl, _, SqL.of e3⟩, _, rfl, p, _, _, rfl, rfl, e3, small3 ?_, same_mut (s2.trans s3) hp, ?_, _, _, _, _, rfl⟩
    · rw [List.length_map, List.length_map, List.length_take]
      have := hg.1
      omega
    · rw [upd_same, take_at et, List.map_append, List.map_append]
      rfl
  · rintro σ H1 ⟨s1, e1, x2, x3, x4, x5, rfl⟩
    exact k _ s1
def spChkGen (K : PySem.W.Frag) : Sp := fun vs H Q _ => ∃ (a : Addr) (ts : List Tr), vs = [.ref a] ∧ TrAt K H a ts ∧ Fair ts ∧ ∀ H', Same H H' → Q .non H'
theorem ok_check_generosity : FnR P w K mg base CX0 1 (a_check_generosity K) (spChkGen K) := by
  refine fnR0 (d := d_check_generosity) T.F_check_generosity sc_check_generosity rfl (fun _ _ _ _ _ _ us hl => match us, hl with | [_], _ => rfl) (fun vs H Q E h => ?_) (fun cdv A outer s H vs Q E hr h => ?_)
  · obtain ⟨a, ts, rfl, _⟩ := h
    rfl
  obtain ⟨a, ts, rfl, hT, hf, k⟩ := h
  obtain ⟨ps, h1, h2, h3⟩ := hT.ex
  refine ⟨_, (pss_cons (ps_set (i := 1) sc_check_generosity.nd rfl (Or.inr rfl) pe_int) (pss_cons (ps_for PassesOwn.never rfl (pi_tup (pv 0)) (pg_tup rfl (pgs_cons (pg_name (i := 2) sc_check_generosity.nd rfl (Or.inl rfl)) (pgs_cons (pg_name (i := 2) sc_check_generosity.nd rfl (Or.inl rfl)) (pgs_cons (pg_name (i := 3) sc_check_generosity.nd rfl (Or.inl rfl)) pgs_nil)))) (pss_one (ps_set (i := 1) sc_check_generosity.nd rfl (Or.inr rfl) (pe_callBfun cr_lcm (by rfl) T.b_lcm (pa_cons (pv 1) (pa_cons (pv 3) pa_nil)))))) (pss_cons (ps_set (i := 4) sc_check_generosity.nd rfl (Or.inl rfl) (pe_callB (cr_sum rfl) (by rfl) T.n_sum (by decide +kernel) (pa_cons (pe_lc (own := [("_", 2), ("left", 5), ("needed", 3)]) rfl sc_check_generosity.nd (pi_tup (pv 0)) (blkOk_by (own := [("_", 2), ("left", 5), ("needed", 3)]) (N := N_check_generosity) (sc := defScope s_check_generosity) (by decide +kernel)) (fun _ _ _ _ _ => (pg_tupB (n := 3) (pgs_cons (pg_name (i := 2) sc_check_generosity.nd rfl (Or.inl rfl) (.inr rfl)) (pgs_cons (pg_name (i := 5) sc_check_generosity.nd rfl (Or.inl rfl) (.inr rfl)) (pgs_cons (pg_name (i := 3) sc_check_generosity.nd rfl (Or.inl rfl) (.inr rfl)) pgs_nil))))) (fun _ _ _ _ _ => pts_nil) (fun _ _ _ _ _ => (pe_op op_mul (pe_op op_fdiv (pv 1) (pv 3)) (pv 5)))) pa_nil))) (pss_one (ps_if (pt_cmpR op_gt (pe_op op_mul pe_int (pv 4)) (pe_op op_mul pe_int (pv 1)) (nomark _)) (pss_one ps_never) pss_nil))))), ?_⟩
  refine ⟨_, rfl, a, rfl, ⟨_, h1⟩, for_tup (xs := ps.map V.ref) (fun i σ H1 => H1 = H ∧ ∃ x2 x3 x4 x5, σ = [some (.ref a), some (.int (((ts.take i).foldl wholeS 1 : Nat) : Int)), x2, x3, x4, x5]) ⟨rfl, _, _, _, _, rfl⟩ (fun i σ H1 _ q => by rw [q.1]; exact h1) ?_ ?_⟩
  · rintro i x σ H1 hx ⟨rfl, x2, x3, x4, x5, rfl⟩
    obtain ⟨p, t, rfl, ep, et, hm, li, hp⟩ := TrAt.at_ h2 h3 hx
    have ht := hf.g.2 _ hm
    refine ⟨p, _, rfl, hp, rfl, _, _, rfl, _, _, rfl, _, _, rfl, rfl, ?_⟩
    refine ⟨_, rfl, _, rfl, _, _, rfl, ?_, ?_, rfl, some (.int t.l), some (.int t.n), x4, x5, ?_⟩
    · have := wholeF_most hf.g i
      exact Nat.lt_of_le_of_lt (by omega : _ ≤ 1728) (by decide)
    · have := ht.2.2.1
      have := ht.2.2.2
      exact Nat.lt_of_le_of_lt (by omega : _ ≤ 12) (by decide)
    · rw [take_at et, List.foldl_append]
      rfl
  · rintro σ H1 ⟨rfl, x2, x3, x4, x5, rfl⟩
    have ew : (ts.take (ps.map V.ref).length).foldl wholeS 1 = wholeF ts := by
      rw [List.length_map, h2, List.take_length]
      rfl
    rw [ew]
    have hw : wholeF ts ≤ 1728 := by
      have := wholeF_most hf.g ts.length
      rw [List.take_length] at this
      exact this
    refine ⟨_, rfl, a, rfl, ⟨_, h1⟩, fun D hD => ?_⟩
    refine lc_tup (xs := ps.map V.ref) (fun i H2 => Same H1 H2 ∧ H1 D = none ∧ H2 D = some (.lst ((ts.take i).map fun t => V.int ((wholeF ts : Int) / t.n * t.l)))) ⟨same_new hD, hD, upd_same⟩ (fun i H2 _ q => Same.tup q.1 h1) ?_ ?_
    · rintro i x H2 hx ⟨s1, n1, e1⟩
      obtain ⟨p, t, rfl, ep, et, hm, li, hp⟩ := TrAt.at_ h2 h3 hx
      have ht := hf.g.2 _ hm
      refine ⟨p, _, rfl, Same.tup s1 hp, rfl, _, _, rfl, _, _, rfl, _, _, rfl, rfl, rfl, ?_⟩
      refine ⟨_, rfl, _, rfl, _, _, rfl, rfl, ⟨by have := ht.2.2.1; omega, by have := ht.2.2.2; omega⟩, _, rfl, _, _, rfl, rfl, .inr ⟨by have := ht.1; omega, by have := ht.2.1; omega⟩, ?_⟩
      refine ⟨_, e1, small3 ?_, same_mut s1 n1, n1, ?_⟩
      · rw [List.length_map, List.length_take]
        have := hf.g.1
        omega
      · rw [upd_same, take_at et, List.map_append]
        rfl
    · rintro H2 ⟨s1, n1, e1⟩
      refine ⟨D, ts.map fun t => (wholeF ts : Int) / t.n * t.l, rfl, SqL.of ?_, ?_⟩
      · rw [e1, List.length_map, h2, List.take_length, List.map_map]
        rfl
      · refine ⟨_, rfl, _, _, rfl, rfl, .inl ⟨by decide, by decide⟩, _, rfl, _, _, rfl, rfl, .inl ⟨by decide, by decide⟩, _, _, rfl, rfl, _, rfl, ite2 (fun hd => ?_) (fun _ => k _ s1)⟩
        have hd : 9 * (wholeF ts : Int) < 10 * parts ts := of_decide_eq_true hd
        have := (parts_fair hf.g).mpr hf.w
        omega
end
end EB

namespace EB
open PySem PySem.Spec PyProof.Rows L2
/-! ### a heap with one object left out -/
def hid (H : Hp) (x : Addr) : Hp := fun b => if b = x then none else H b
theorem hid_x {H : Hp} {x : Addr} : hid H x x = none := if_pos rfl
theorem hid_ne {H : Hp} {x b : Addr} (h : b ≠ x) : hid H x b = H b := if_neg h
theorem hid_same {H : Hp} {x : Addr} : Same (hid H x) H := fun b o e => by
  by_cases h : b = x
  · rw [h, hid_x] at e
    cases e
  · rw [hid_ne h] at e
    exact e
theorem same_hid {H0 H : Hp} {x : Addr} (s : Same H0 H) (h : H0 x = none) : Same H0 (hid H x) := fun b o e => by
  rw [hid_ne (ne_of_none e h)]
  exact s b o e
theorem hid_old {H : Hp} {x b : Addr} {o u : HO} (h : H b = some o) (hx : H x = some u) (d : o ≠ u) : hid H x b = some o := by
  rw [hid_ne (ne_of h hx d)]
  exact h
theorem hid_upd {H : Hp} {x : Addr} {o : HO} : hid (upd H x o) x = hid H x := funext fun b => by
  by_cases h : b = x
  · rw [h, hid_x, hid_x]
  · rw [hid_ne h, hid_ne h, upd_ne h]
theorem putF_ne {f g : Str} {v x : V} {r : List (Str × V)} (h : ¬ g = f) : putF f v ((g, x) :: r) = (g, x) :: putF f v r := by
  show (if g = f then _ else _) = _
  rw [if_neg h]
theorem put1 {a : V} : putF "_trades" a [] = ([("_trades", a)] : List (Str × V)) := rfl
theorem put2 {a b : V} : putF "_period" b ([("_trades", a)] : List (Str × V)) = ([("_trades", a), ("_period", b)] : List (Str × V)) := by
  rw [putF_ne (by decide +kernel)]
  rfl
theorem put3 {a b c : V} : putF "_tops" c ([("_trades", a), ("_period", b)] : List (Str × V)) = ([("_trades", a), ("_period", b), ("_tops", c)] : List (Str × V)) := by
  rw [putF_ne (by decide +kernel), putF_ne (by decide +kernel)]
  rfl
theorem put4 {a b c d : V} : putF "_firsts" d ([("_trades", a), ("_period", b), ("_tops", c)] : List (Str × V)) = ([("_trades", a), ("_period", b), ("_tops", c), ("_firsts", d)] : List (Str × V)) := by
  rw [putF_ne (by decide +kernel), putF_ne (by decide +kernel), putF_ne (by decide +kernel)]
  rfl
theorem put5 {a b c d e : V} : putF "_gaps" e ([("_trades", a), ("_period", b), ("_tops", c), ("_firsts", d)] : List (Str × V)) = ([("_trades", a), ("_period", b), ("_tops", c), ("_firsts", d), ("_gaps", e)] : List (Str × V)) := by
  rw [putF_ne (by decide +kernel), putF_ne (by decide +kernel), putF_ne (by decide +kernel), putF_ne (by decide +kernel)]
  rfl
theorem lkN {k g : Str} {v : V} {r : List (Str × V)} (h : (k == g) = false) : ((g, v) :: r).lookup k = r.lookup k := by rw [List.lookup_cons, h]
theorem lkY {k : Str} {v : V} {r : List (Str × V)} : ((k, v) :: r).lookup k = some v := by rw [List.lookup_cons, beq_self_eq_true]
theorem lk_tops {a b c : V} {r : List (Str × V)} : (("_trades", a) :: ("_period", b) :: ("_tops", c) :: r : List (Str × V)).lookup ("_tops" : Str) = some c := by
  rw [lkN (by decide +kernel), lkN (by decide +kernel), lkY]
theorem lk_firsts {a b c d : V} {r : List (Str × V)} : (("_trades", a) :: ("_period", b) :: ("_tops", c) :: ("_firsts", d) :: r : List (Str × V)).lookup ("_firsts" : Str) = some d := by
  rw [lkN (by decide +kernel), lkN (by decide +kernel), lkN (by decide +kernel), lkY]
theorem lk_gaps {a b c d e : V} {r : List (Str × V)} : (("_trades", a) :: ("_period", b) :: ("_tops", c) :: ("_firsts", d) :: ("_gaps", e) :: r : List (Str × V)).lookup ("_gaps" : Str) = some e := by
  rw [lkN (by decide +kernel), lkN (by decide +kernel), lkN (by decide +kernel), lkN (by decide +kernel), lkY]
theorem lk_period {a b : V} {r : List (Str × V)} : (("_trades", a) :: ("_period", b) :: r : List (Str × V)).lookup ("_period" : Str) = some b := by
  rw [lkN (by decide +kernel), lkY]
theorem lk_trades {a : V} {r : List (Str × V)} : (("_trades", a) :: r : List (Str × V)).lookup ("_trades" : Str) = some a := lkY
theorem lk_no {t p o f g : Addr} {m : Str} (h : ((m == "_trades") || ((m == "_period") || ((m == "_tops") || ((m == "_firsts") || (m == "_gaps"))))) = false) : (ofs t p o f g).lookup m = none := by
  obtain ⟨h1, h⟩ := Bool.or_eq_false_iff.mp h
  obtain ⟨h2, h⟩ := Bool.or_eq_false_iff.mp h
  obtain ⟨h3, h⟩ := Bool.or_eq_false_iff.mp h
  obtain ⟨h4, h5⟩ := Bool.or_eq_false_iff.mp h
  unfold ofs
  rw [lkN h1, lkN h2, lkN h3, lkN h4, lkN h5]
  rfl
theorem per_le' {ts : List Tr} (g : gds ts) : per ts ≤ 1728 := by
  have := per_most g ts.length
  rw [List.take_length] at this
  exact this
theorem tops_in {ts : List Tr} (f : Fair ts) : ∀ t ∈ topsL ts, 0 ≤ t ∧ t < (firstsL ts).length := by
  intro t ht
  obtain ⟨d, hd, rfl⟩ := List.mem_map.mp ht
  have h1 := List.mem_range.mp hd
  have h2 := (cf f).T_nonneg d
  have h3 := CF.T_mono (cN ts) (show d ≤ 2 * per ts - 1 by omega)
  refine ⟨h2, ?_⟩
  rw [List.length_map, List.length_range]
  omega
/-- an offer at a whose tables were not there ahead of it -/
structure OfNew (K : PySem.W.Frag) (H0 H : Hp) (a : Addr) (ts : List Tr) : Prop where
  ex : ∃ dx t p o f g, H a = some (.ins (He.ga K "Offer") dx (ofs t p o f g)) ∧ TrAt K H t ts ∧ SqT K H p [.int (perB ts : Nat), .int (per ts : Nat)] ∧ SqL K H o ((topsL ts).map V.int) ∧ SqL K H f ((firstsL ts).map V.int) ∧ SqL K H g ((gapsL ts).map V.int) ∧
    H0 o = none ∧ H0 f = none ∧ H0 g = none
section
variable {P : Program} {w : World} {K : PySem.W.Frag} {mg : Str → Option Value} {base : Heap}
/-- a def whose last parameter takes what is left over -/
theorem fnRS {d : DD} {fd : FuncData} {N ps : List Str} {pv : Str} {k : Nat} {sp : Sp} (F : FnP K d fd) (S : FnScope N (ps ++ [pv]) (defScope d.st)) (e : d.df = [])
    (b : ∀ (kV doc pm : Value) (an : Option Addr) (cdv ct : Value) (us rest : List Value), us.length = ps.length → bindArgs (PySem.W.fnOf d.nm d.ql (defArgs d.st) (defBody d.st) (defScope d.st) .none kV doc pm an cdv ct) ⟨us ++ rest, []⟩ = (newTuple rest >>= fun t => pure (ps.zip us ++ [(pv, t)])))
    (hbody : ∀ (cdv : Value) (A : Around) (outer : List Env) (s : Shared) (H : Hp) (vs : List V) (Q : VK) (E : XK), Room k (A.deeper (envOfC d.ql (defScope d.st) s.heap.objs.size (d.adr K) cdv)) → sp vs H Q E →
      ∃ t, PSs (cxOf CX0 P w K mg base N d.ql (defScope d.st) (d.adr K) cdv A outer s H E).nox (defBody d.st) t ∧ t { nx := fun _ H' => Q .non H', rt := Q } (start N vs) H) :
    FnR P w K mg base CX0 (k + 1) (d.adr K) (fun vs H Q E => ∃ ws rest, vs = ws ++ rest ∧ ws.length = ps.length ∧ rest.length ≤ sizeLine ∧ ∀ p, H p = none → sp (ws ++ [V.ref p]) (upd H p (.tup rest)) Q E) := by
  have z : FnP K d fd := F
  unfold FnP at z
  rw [e] at z
  obtain ⟨oc, od, dV, kV, doc, pm, an, cdv, ct, osl, rfl, lk, hcd, hD, hK⟩ := z.ex
  have hdV : dV = .none := by
    rcases hD with ⟨_, h⟩ | ⟨h, _⟩
    · exact h
    · exact absurd rfl h
  subst hdV
  exact StX.fn_star lk hcd S StX.cxUp_none (fun us rest hl => b kV doc pm an cdv ct us rest hl) fun A outer s H vs Q E hr h => by
    obtain ⟨t, h1, h2⟩ := hbody cdv A outer s H vs Q E hr h
    exact ⟨t, h1.nox, h2⟩
/-- a def called with its first values, the others filled up by its defaults -/
theorem fnRD {d : DD} {fd : FuncData} {N ps : List Str} {k : Nat} {sp : Sp} (F : FnP K d fd) (S : FnScope N ps (defScope d.st)) (n j : Nat) (hd : d.df.map (He.Dv.v K) ≠ []) (hn : n + ((d.df.map (He.Dv.v K)).length - j) = ps.length)
    (b : ∀ (Tt : Addr) (kV doc pm : Value) (an : Option Addr) (cdv ct : Value) (us its : List Value), us.length = n → its.length = (d.df.map (He.Dv.v K)).length →
      ∃ k, bindArgs (PySem.W.fnOf d.nm d.ql (defArgs d.st) (defBody d.st) (defScope d.st) (.ref Tt) kV doc pm an cdv ct) ⟨us, []⟩ = seqItems? (.ref Tt) >>= k ∧ k (some its.toArray) = pure (ps.zip (us ++ its.drop j)))
    (len : ∀ vs H Q E, sp vs H Q E → vs.length = ps.length)
    (hbody : ∀ (cdv : Value) (A : Around) (outer : List Env) (s : Shared) (H : Hp) (vs : List V) (Q : VK) (E : XK), Room k (A.deeper (envOfC d.ql (defScope d.st) s.heap.objs.size (d.adr K) cdv)) → sp vs H Q E →
      ∃ t, PSs (cxOf CX0 P w K mg base N d.ql (defScope d.st) (d.adr K) cdv A outer s H E).nox (defBody d.st) t ∧ t { nx := fun _ H' => Q .non H', rt := Q } (start N vs) H) :
    FnR P w K mg base CX0 (k + 1) (d.adr K) (fun vs H Q E => sp (vs ++ (d.df.map (He.Dv.v K)).drop j) H Q E) := by
  have F1 : FnOk P w K mg base CX0 (k + 1) (d.adr K) fd ps sp := FunD.ok F S len fun cdv A outer s H vs Q E hr h => by
    obtain ⟨t, h1, h2⟩ := hbody cdv A outer s H vs Q E hr h
    exact ⟨t, h1.nox, h2⟩
  obtain ⟨ds, h1, h2⟩ := FunD.binds1 F n j hd hn b
  exact F1.raw h2 h1
end
section
variable {P : Program} {w : World} {K : PySem.W.Frag} {mg : Str → Option Value} {base : Heap} (T : Tx K mg)
include T
def spChkNum : Sp := fun vs H Q _ => ∃ i lo hi : Int, vs = [.int i, .int lo, .int hi] ∧ lo ≤ i ∧ i ≤ hi ∧ Q .non H
def spChkNum1 : Sp := fun vs H Q _ => ∃ i : Int, vs = [.int i] ∧ 0 ≤ i ∧ i ≤ 1000000000000000000 ∧ Q .non H
theorem ok_check_number : FnR P w K mg base CX0 3 (a_check_number K) spChkNum1 := by
  refine (fnRD (d := d_check_number) (sp := spChkNum) (k := 2) (ps := ["value", "least", "most"]) T.F_check_number sc_check_number 1 0 (fun z => nomatch z) rfl (fun _ _ _ _ _ _ _ us its hl hi => match us, its, hl, hi with | [_], [_, _], _, _ => ⟨_, rfl, rfl⟩) (fun vs H Q E h => ?_) (fun cdv A outer s H vs Q E hr h => ?_)).imp fun vs H Q E h => ?_
  · obtain ⟨i, lo, hi, rfl, _⟩ := h
    rfl
  · obtain ⟨i, lo, hi, rfl, h1, h2, k⟩ := h
    refine ⟨_, (pss_one (ps_if (pt_not (pt_val (pe_cR (ok_is_number T) (hr.mono (by decide)) T.F_is_number.kp T.g_is_number pass0 (pa_cons (pv 0) (pa_cons (pv 1) (pa_cons (pv 2) pa_nil)))))) (pss_one ps_never) pss_nil)), ?_⟩
    refine ⟨_, rfl, _, rfl, _, rfl, i, lo, hi, rfl, _, rfl, ?_⟩
    rw [numOk_iff.mpr ⟨h1, h2⟩]
    exact iteF k
  · obtain ⟨i, rfl, h1, h2, k⟩ := h
    exact ⟨i, 0, 1000000000000000000, rfl, h1, h2, k⟩
def spInit (K : PySem.W.Frag) : Sp := fun vs H Q _ => ∃ (x p : Addr) (H0 : Hp) (dx : Addr) (ts : List Tr), vs = [.ref x, .ref p] ∧ Same H0 H ∧ H0 x = none ∧ H x = some (.ins (He.ga K "Offer") dx []) ∧ TrAt K H0 p ts ∧ Fair ts ∧ ts ≠ [] ∧ nmOk ts ∧
  ∀ H', Same H0 H' → OfNew K H0 H' x ts → Q .non H'
theorem ok_Offer_init : FnR P w K mg base CX0 5 (a_Offer_init K) (fun vs H Q E => ∃ ws rest, vs = ws ++ rest ∧ ws.length = 1 ∧ rest.length ≤ sizeLine ∧ ∀ p, H p = none → spInit K (ws ++ [V.ref p]) (upd H p (.tup rest)) Q E) := by
  refine fnRS (d := d_Offer_init) (ps := ["self"]) T.F_Offer_init sc_Offer_init rfl (fun kV doc pm an cdv ct => StX.bind_star1 (B := fun us => bindArgs (PySem.W.fnOf d_Offer_init.nm d_Offer_init.ql (defArgs d_Offer_init.st) (defBody d_Offer_init.st) (defScope d_Offer_init.st) .none kV doc pm an cdv ct) ⟨us, []⟩) (fun _ => rfl) (fun _ _ _ => rfl)) (fun cdv A outer s H vs Q E hr h => ?_)
  obtain ⟨x, p, H0, dx, ts, rfl, s0, n0, hx, hT0, hf, hne, hnm, k⟩ := h
  refine ⟨_, (pss_cons (ps_expr (pe_cR (ok_check_trades T) (hr.mono (by decide)) T.F_check_trades.kp T.g_check_trades pass0 (pa_cons (pv 1) pa_nil))) (pss_cons (ps_expr (pe_cR (ok_check_generosity T) (hr.mono (by decide)) T.F_check_generosity.kp T.g_check_generosity pass0 (pa_cons (pv 1) pa_nil))) (pss_cons (ps_fld (pv 0) (pe_callTy call_tuple_of (by rfl) T.n_tuple (by decide +kernel) (pa_cons (pe_lc (own := [("kind", 3), ("left", 4), ("needed", 5)]) rfl sc_Offer_init.nd (pi_tup (pv 1)) (blkOk_by (own := [("kind", 3), ("left", 4), ("needed", 5)]) (N := N_Offer_init) (sc := defScope s_Offer_init) (by decide +kernel)) (fun _ _ _ _ _ => (pg_tupB (n := 3) (pgs_cons (pg_name (i := 3) sc_Offer_init.nd rfl (Or.inl rfl) (.inr rfl)) (pgs_cons (pg_name (i := 4) sc_Offer_init.nd rfl (Or.inl rfl) (.inr rfl)) (pgs_cons (pg_name (i := 5) sc_Offer_init.nd rfl (Or.inl rfl) (.inr rfl)) pgs_nil))))) (fun _ _ _ _ _ => pts_nil) (fun _ _ _ _ _ => (pe_tup (pa_cons (pv 3) (pa_cons (pv 4) (pa_cons (pv 5) pa_nil)))))) pa_nil)) rfl) (pss_cons (ps_set (i := 2) sc_Offer_init.nd rfl (Or.inl rfl) (pe_cR (ok_drinks_of_period T) (hr.mono (by decide)) T.F_drinks_of_period.kp T.g_drinks_of_period pass0 (pa_cons (pv 1) pa_nil))) (pss_cons (ps_fld (pv 0) (pe_tup (pa_cons (pe_cR (ok_cost_of T) (hr.mono (by decide)) T.F_cost_of.kp T.g_cost_of pass0 (pa_cons (pv 1) (pa_cons (pv 2) pa_nil))) (pa_cons (pv 2) pa_nil))) rfl) (pss_cons (ps_fld (pv 0) (pe_cR (ok_tops_of T) (hr.mono (by decide)) T.F_tops_of.kp T.g_tops_of pass0 (pa_cons (pe_lc (own := [("count", 6)]) rfl sc_Offer_init.nd (pi_range1 rfl T.n_range (pa_cons (pe_op op_mul pe_int (pv 2)) pa_nil)) (blkOk_by (own := [("count", 6)]) (N := N_Offer_init) (sc := defScope s_Offer_init) (by decide +kernel)) (fun _ _ _ _ _ => (pg_name (i := 6) sc_Offer_init.nd rfl (Or.inl rfl) (.inr rfl))) (fun _ _ _ _ _ => pts_nil) (fun _ _ _ _ _ => (pe_cR (ok_cost_of T) (hr.mono (by decide)) T.F_cost_of.kp T.g_cost_of pass0 (pa_cons (pv 1) (pa_cons (pv 6) pa_nil))))) pa_nil)) rfl) (pss_cons (ps_fld (pv 0) (pe_cR (ok_firsts_of T) (hr.mono (by decide)) T.F_firsts_of.kp T.g_firsts_of pass0 (pa_cons (pe_fld (pv 0) rfl) pa_nil)) rfl) (pss_one (ps_fld (pv 0) (pe_cR (ok_gaps_of T) (hr.mono (by decide)) T.F_gaps_of.kp T.g_gaps_of pass0 (pa_cons (pe_fld (pv 0) rfl) (pa_cons (pe_fld (pv 0) rfl) pa_nil))) rfl))))))))), ?_⟩
  -- the checks
  refine ⟨_, rfl, p, ts, rfl, hT0.mono s0, hf.g, hne, hnm, fun H1 s1 => ?_⟩
  refine ⟨_, rfl, p, ts, rfl, hT0.mono (s0.trans s1), hf, fun H2 s2 => ?_⟩
  have s02 : Same H0 H2 := s0.trans (s1.trans s2)
  have hx2 : H2 x = some (.ins (He.ga K "Offer") dx []) := s2 _ _ (s1 _ _ hx)
  obtain ⟨ps, h1, h2, h3⟩ := (hT0.mono s02).ex
  -- the trades
  refine ⟨_, rfl, p, rfl, ⟨_, h1⟩, fun D hD => ?_⟩
  refine lc_tup (xs := ps.map V.ref) (fun i H3 => Same H2 H3 ∧ ∃ qs : List Addr, qs.length = i ∧ H3 D = some (.lst (qs.map V.ref)) ∧ ∀ (j : Nat) (q : Addr) (t : Tr), qs[j]? = some q → ts[j]? = some t → H3 q = some (.tup t.vs))
    ⟨same_new hD, [], rfl, upd_same, fun j q t hq => by cases hq⟩ (fun i H3 _ q => Same.tup q.1 h1) ?_ ?_
  · rintro i y H3 hy ⟨s3, qs, hq1, e3, hq2⟩
    obtain ⟨pt, t, rfl, ep, et, hm, li, hpt⟩ := TrAt.at_ h2 h3 hy
    refine ⟨pt, _, rfl, Same.tup s3 hpt, rfl, _, _, rfl, _, _, rfl, _, _, rfl, rfl, rfl, ?_⟩
    refine ⟨_, rfl, _, rfl, _, rfl, by show 3 ≤ sizeLine; decide, fun q nq => ?_⟩
    have nD : D ≠ q := ne_of_none e3 nq
    refine ⟨_, upd_old e3 nq, small3 (by rw [List.length_map, hq1]; have := hf.g.1; omega), same_mut (s3.trans (same_new nq)) hD, qs ++ [q], by rw [List.length_append, hq1]; rfl, by rw [upd_same, List.map_append]; rfl, fun j q' t' hj ht' => ?_⟩
    rcases Nat.lt_or_ge j qs.length with z | z
    · rw [List.getElem?_append_left z] at hj
      have e4 := upd_old (u := .tup t.vs) (hq2 j q' t' hj ht') nq
      rw [upd_ne (ne_of (upd_old (u := .tup t.vs) (hq2 j q' t' hj ht') nq) (upd_old (u := .tup t.vs) e3 nq) (by intro z; cases z))]
      exact e4
    · rw [List.getElem?_append_right z] at hj
      have ej : j = qs.length := by
        have := lt_of_at hj
        simp only [List.length_singleton] at this
        omega
      rw [ej, Nat.sub_self] at hj
      have eq : q = q' := Option.some.inj hj
      subst eq
      rw [ej, hq1, et] at ht'
      have ett : t = t' := Option.some.inj ht'
      subst ett
      rw [upd_ne nD.symm]
      exact upd_same
  rintro H3 ⟨s3, qs, hq1, e3, hq2⟩
  rw [List.length_map] at hq1
  refine ⟨D, _, rfl, .inl ⟨SqL.of e3, fun l hl => ?_⟩⟩
  have hx3 : H3 x = some (.ins (He.ga K "Offer") dx []) := s3 _ _ hx2
  have hx4 := upd_old (u := .tup (qs.map V.ref)) hx3 hl
  have s04 : Same H0 (upd H3 l (.tup (qs.map V.ref))) := s02.trans (s3.trans (same_new hl))
  refine ⟨_, rfl, x, _, dx, [], rfl, hx4, T.k_Offer, T.na_trades, by show 0 < 1000; decide, ?_⟩
  -- the period
  generalize hH4 : upd H3 l (.tup (qs.map V.ref)) = H4 at hx4 s04
  have e4 : H4 l = some (.tup (qs.map V.ref)) := by rw [← hH4]; exact upd_same
  have q4 : ∀ (j : Nat) (q : Addr) (t : Tr), qs[j]? = some q → ts[j]? = some t → H4 q = some (.tup t.vs) := fun j q t a b => by
    rw [← hH4]
    exact upd_old (hq2 j q t a b) hl
  -- B4: all but the offer itself
  have sB4 : Same H0 (hid H4 x) := same_hid s04 n0
  have tB4 : TrAt K (hid H4 x) l ts := by
    refine ⟨qs, SqT.of (hid_old e4 hx4 (by intro z; cases z)), by rw [hq1, h2], fun j q t a b => SqT.of (hid_old (q4 j q t a b) hx4 (by intro z; cases z))⟩
  have pB4 : TrAt K (hid H4 x) p ts := hT0.mono sB4
  generalize hB4 : hid H4 x = B4 at sB4 tB4 pB4
  have nB4 : B4 x = none := by rw [← hB4]; exact hid_x
  rw [put1]
  have sb5 : Same B4 (upd H4 x (.ins (He.ga K "Offer") dx [("_trades", .ref l)])) := by
    rw [← hB4]
    exact same_mut hid_same hid_x
  generalize hH5 : upd H4 x (.ins (He.ga K "Offer") dx [("_trades", .ref l)]) = H5 at sb5
  have hx5 : H5 x = some (.ins (He.ga K "Offer") dx [("_trades", .ref l)]) := by rw [← hH5]; exact upd_same
  refine ⟨_, rfl, p, ts, rfl, pB4.mono sb5, hf.g, fun H6 s6 => ?_⟩
  refine ⟨_, rfl, _, rfl, p, ts, _, rfl, pB4.mono (sb5.trans s6), hf.g, fun H7 s7 => ⟨_, rfl, by show 2 ≤ sizeLine; decide, fun pp hpp => ?_⟩⟩
  have hx8 := upd_old (u := .tup [.int (cost ts (per ts : Nat)), .int (per ts : Nat)]) (s7 _ _ (s6 _ _ hx5)) hpp
  have sb8 : Same B4 (upd H7 pp (.tup [.int (cost ts (per ts : Nat)), .int (per ts : Nat)])) := sb5.trans (s6.trans (s7.trans (same_new hpp)))
  refine ⟨_, rfl, x, _, dx, _, rfl, hx8, T.k_Offer, T.na_period, by show 1 < 1000; decide, ?_⟩
  rw [put2]
  generalize hH8 : upd H7 pp (.tup [.int (cost ts (per ts : Nat)), .int (per ts : Nat)]) = H8 at hx8 sb8
  have e8 : H8 pp = some (.tup [.int (perB ts : Nat), .int (per ts : Nat)]) := by rw [← hH8, upd_same, perB_eq hf]
  have sB8 : Same B4 (hid H8 x) := same_hid sb8 nB4
  have eB8 : hid H8 x pp = some (.tup [.int (perB ts : Nat), .int (per ts : Nat)]) := hid_old e8 hx8 (by intro z; cases z)
  generalize hB8 : hid H8 x = B8 at sB8 eB8
  have nB8 : B8 x = none := by rw [← hB8]; exact hid_x
  have sb9 : Same B8 (upd H8 x (.ins (He.ga K "Offer") dx [("_trades", .ref l), ("_period", .ref pp)])) := by
    rw [← hB8]
    exact same_mut hid_same hid_x
  generalize hH9 : upd H8 x (.ins (He.ga K "Offer") dx [("_trades", .ref l), ("_period", .ref pp)]) = H9 at sb9
  have hx9 : H9 x = some (.ins (He.ga K "Offer") dx [("_trades", .ref l), ("_period", .ref pp)]) := by rw [← hH9]; exact upd_same
  have hp := per_le' hf.g
  have pB8 : TrAt K B8 p ts := pB4.mono sB8
  -- the tops
  refine ⟨_, rfl, _, _, rfl, rfl, .inl ⟨by decide, by decide⟩, _, rfl, ?_, ?_, fun D2 hD2 => ?_⟩
  · omega
  · omega
  refine lc_range (lo := 0) (n := (2 * (per ts : Int)).toNat) (fun i H10 => Same H9 H10 ∧ H10 D2 = some (.lst (((List.range i).map (cN ts)).map V.int))) ⟨same_new hD2, upd_same⟩ ?_ ?_
  · rintro i H10 hi ⟨s10, e10⟩
    refine ⟨rfl, _, rfl, _, rfl, p, ts, _, rfl, pB8.mono (sb9.trans s10), hf.g, fun H11 s11 => ⟨_, s11 _ _ e10, small3 ?_, same_mut (s10.trans s11) hD2, ?_⟩⟩
    · rw [List.length_map, List.length_map, List.length_range]
      omega
    · rw [upd_same, List.range_succ, List.map_append, List.map_append]
      show _ = some (HO.lst (_ ++ [V.int (cost ts (i : Int))]))
      rw [Int.zero_add]
  rintro H10 ⟨s10, e10⟩
  have en : (2 * (per ts : Int)).toNat = 2 * per ts := by omega
  rw [en] at e10
  obtain ⟨m, hm⟩ : ∃ m, 2 * per ts = m + 1 := ⟨2 * per ts - 1, by have := per_pos hf.g; omega⟩
  have etops : topsF 0 ((List.range (2 * per ts)).map (cN ts)) = topsL ts := by
    unfold topsL
    rw [hm]
    exact (tops_eq (cf hf).zero m).1
  refine ⟨D2, _, rfl, SqL.of e10, by rw [List.length_map, List.length_range]; omega, fun H11 o s11 no e11 => ?_⟩
  rw [etops] at e11
  have hx11 : H11 x = some (.ins (He.ga K "Offer") dx [("_trades", .ref l), ("_period", .ref pp)]) := s11 _ _ (s10 _ _ hx9)
  have sb11 : Same B8 H11 := sb9.trans (s10.trans s11)
  refine ⟨_, rfl, x, _, dx, _, rfl, hx11, T.k_Offer, T.na_tops, by show 2 < 1000; decide, ?_⟩
  rw [put3]
  have sB11 : Same B8 (hid H11 x) := same_hid sb11 nB8
  have eB11 : hid H11 x o = some (.lst ((topsL ts).map V.int)) := hid_old e11 hx11 (by intro z; cases z)
  generalize hB11 : hid H11 x = B11 at sB11 eB11
  have nB11 : B11 x = none := by rw [← hB11]; exact hid_x
  have sb12 : Same B11 (upd H11 x (.ins (He.ga K "Offer") dx [("_trades", .ref l), ("_period", .ref pp), ("_tops", .ref o)])) := by
    rw [← hB11]
    exact same_mut hid_same hid_x
  generalize hH12 : upd H11 x (.ins (He.ga K "Offer") dx [("_trades", .ref l), ("_period", .ref pp), ("_tops", .ref o)]) = H12 at sb12
  have hx12 : H12 x = some (.ins (He.ga K "Offer") dx [("_trades", .ref l), ("_period", .ref pp), ("_tops", .ref o)]) := by rw [← hH12]; exact upd_same
  -- the firsts
  have efirsts : firstsF 0 [] (topsL ts) = firstsL ts := by
    show firstsF 0 [] ((List.range (2 * per ts)).map (EB.T (cN ts))) = (List.range ((EB.T (cN ts) (2 * per ts - 1)).toNat + 1)).map _
    rw [hm]
    exact firsts_eq (cf hf) m
  have ltop : (topsL ts).length ≤ 10000 := by
    rw [List.length_map, List.length_range]
    omega
  refine ⟨_, rfl, x, _, dx, _, _, rfl, hx12, T.k_Offer, T.na_tops, lk_tops, o, topsL ts, rfl, SqL.of (sb12 _ _ eB11), ltop, fun H13 f s13 nf e13 => ?_⟩
  rw [efirsts] at e13
  have hx13 := s13 _ _ hx12
  refine ⟨_, rfl, x, _, dx, _, rfl, hx13, T.k_Offer, T.na_firsts, by show 3 < 1000; decide, ?_⟩
  rw [put4]
  have sB13 : Same B11 (hid H13 x) := same_hid (sb12.trans s13) nB11
  have eB13 : hid H13 x f = some (.lst ((firstsL ts).map V.int)) := hid_old e13 hx13 (by intro z; cases z)
  generalize hB13 : hid H13 x = B13 at sB13 eB13
  have nB13 : B13 x = none := by rw [← hB13]; exact hid_x
  have sb14 : Same B13 (upd H13 x (.ins (He.ga K "Offer") dx [("_trades", .ref l), ("_period", .ref pp), ("_tops", .ref o), ("_firsts", .ref f)])) := by
    rw [← hB13]
    exact same_mut hid_same hid_x
  generalize hH14 : upd H13 x (.ins (He.ga K "Offer") dx [("_trades", .ref l), ("_period", .ref pp), ("_tops", .ref o), ("_firsts", .ref f)]) = H14 at sb14
  have hx14 : H14 x = some (.ins (He.ga K "Offer") dx [("_trades", .ref l), ("_period", .ref pp), ("_tops", .ref o), ("_firsts", .ref f)]) := by rw [← hH14]; exact upd_same
  -- the gaps
  refine ⟨_, rfl, x, _, dx, _, _, rfl, hx14, T.k_Offer, T.na_tops, lk_tops, _, rfl, x, _, dx, _, _, rfl, hx14, T.k_Offer, T.na_firsts, lk_firsts, o, f, topsL ts, firstsL ts, rfl, SqL.of (sb14 _ _ (sB13 _ _ eB11)), SqL.of (sb14 _ _ eB13), ltop, tops_in hf, fun H15 g s15 ng e15 => ?_⟩
  have hx15 := s15 _ _ hx14
  refine ⟨_, rfl, x, _, dx, _, rfl, hx15, T.k_Offer, T.na_gaps, by show 4 < 1000; decide, ?_⟩
  rw [put5]
  have s16 : Same B13 (upd H15 x (.ins (He.ga K "Offer") dx (ofs l pp o f g))) := same_mut (sb14.trans s15) nB13
  have s017 : Same H0 B13 := sB4.trans (sB8.trans (sB11.trans sB13))
  refine k _ (s017.trans s16) ⟨dx, l, pp, o, f, g, upd_same, tB4.mono (sB8.trans (sB11.trans (sB13.trans s16))), SqT.of (s16 _ _ (sB13 _ _ (sB11 _ _ eB8))), SqL.of (s16 _ _ (sB13 _ _ eB11)), SqL.of (s16 _ _ eB13), SqL.of ?_, Same.free (sB4.trans (sB8.trans (sb9.trans s10))) no, Same.free (sB4.trans (sB8.trans (sB11.trans sb12))) nf, Same.free (s017.trans sb14) ng⟩
  rw [upd_ne (ne_of e15 hx15 (by intro z; cases z))]
  exact e15
end
end EB

namespace EB
open PySem PySem.Spec PyProof.Rows L2
/-! ### the source of draws: a list at h, its cells at l -/
def hid2 (H : Hp) (h l : Addr) : Hp := fun b => if b = h ∨ b = l then none else H b
theorem hid2_h {H : Hp} {h l : Addr} : hid2 H h l h = none := if_pos (.inl rfl)
theorem hid2_l {H : Hp} {h l : Addr} : hid2 H h l l = none := if_pos (.inr rfl)
theorem hid2_ne {H : Hp} {h l b : Addr} (h1 : b ≠ h) (h2 : b ≠ l) : hid2 H h l b = H b := if_neg fun z => z.elim h1 h2
theorem hid2_same {H : Hp} {h l : Addr} : Same (hid2 H h l) H := fun b o e => by
  by_cases q : b = h ∨ b = l
  · unfold hid2 at e
    rw [if_pos q] at e
    cases e
  · unfold hid2 at e
    rw [if_neg q] at e
    exact e
theorem same_hid2 {H0 H : Hp} {h l : Addr} (s : Same H0 H) (n1 : H0 h = none) (n2 : H0 l = none) : Same H0 (hid2 H h l) := fun b o e => by
  rw [hid2_ne (ne_of_none e n1) (ne_of_none e n2)]
  exact s b o e
/-- the state of the draws; H0 knows nothing of it -/
structure HS (H0 H : Hp) (h l : Addr) : Prop where
  same : Same H0 H
  nh : H0 h = none
  nl : H0 l = none
  ne : h ≠ l
  ex : ∃ (m i : Int) (ns : List Int), H h = some (.lst [.int m, .ref l, .int i]) ∧ H l = some (.lst (ns.map V.int)) ∧ 0 ≤ m ∧ m < 2147483647 ∧ 0 ≤ i ∧ ns.length ≤ 63
theorem HS.grow {H0 H H' : Hp} {h l : Addr} (x : HS H0 H h l) (s : Same H H') : HS H0 H' h l := by
  obtain ⟨m, i, ns, e1, e2, r⟩ := x.ex
  exact ⟨x.same.trans s, x.nh, x.nl, x.ne, m, i, ns, s _ _ e1, s _ _ e2, r⟩
theorem HS.re {H0 H : Hp} {h l : Addr} (x : HS H0 H h l) : HS (hid2 H h l) H h l := ⟨hid2_same, hid2_h, hid2_l, x.ne, x.ex⟩
theorem HS.sub {H0 H : Hp} {h l : Addr} (x : HS H0 H h l) : Same H0 (hid2 H h l) := same_hid2 x.same x.nh x.nl
theorem HS.tup {K : PySem.W.Frag} {H0 H : Hp} {h l a : Addr} {xs : List V} (x : HS H0 H h l) (t : SqT K H a xs) : SqT K (hid2 H h l) a xs := by
  obtain ⟨m, i, ns, e1, e2, _⟩ := x.ex
  rcases t with (t | ⟨o, t⟩) | t
  · exact .inl (.inl (by rw [hid2_ne (ne_of t e1 (by intro z; cases z)) (ne_of t e2 (by intro z; cases z))]; exact t))
  · exact .inl (.inr ⟨o, by rw [hid2_ne (ne_of t e1 (by intro z; cases z)) (ne_of t e2 (by intro z; cases z))]; exact t⟩)
  · exact .inr t
theorem HS.tr {K : PySem.W.Frag} {H0 H : Hp} {h l a : Addr} {ts : List Tr} (x : HS H0 H h l) (t : TrAt K H a ts) : TrAt K (hid2 H h l) a ts := by
  obtain ⟨ps, h1, h2, h3⟩ := t.ex
  exact ⟨ps, x.tup h1, h2, fun i p t a b => x.tup (h3 i p t a b)⟩
theorem HS.lst {K : PySem.W.Frag} {H0 H : Hp} {h l a : Addr} {xs : List V} (x : HS H0 H h l) (t : SqL K H a xs) (n1 : a ≠ h) (n2 : a ≠ l) : SqL K (hid2 H h l) a xs := by
  rcases t with (t | ⟨o, t⟩) | t
  · exact .inl (.inl (by rw [hid2_ne n1 n2]; exact t))
  · exact .inl (.inr ⟨o, by rw [hid2_ne n1 n2]; exact t⟩)
  · exact .inr t
theorem HS.of_ {K : PySem.W.Frag} {H0 H H1 : Hp} {h l a : Addr} {ts : List Tr} (x : HS H0 H h l) (s : Same H H1) (t : OfNew K H H1 a ts) : OfAt K (hid2 H1 h l) a ts := by
  obtain ⟨dx, t, p, o, f, g, h1, h2, h3, h4, h5, h6, n1, n2, n3⟩ := t.ex
  have y := x.grow s
  obtain ⟨m, i, ns, e1, e2, _⟩ := x.ex
  have q : ∀ b, H b = none → b ≠ h ∧ b ≠ l := fun b n => ⟨(ne_of_none e1 n).symm, (ne_of_none e2 n).symm⟩
  refine ⟨dx, t, p, o, f, g, ?_, y.tr h2, y.tup h3, y.lst h4 (q o n1).1 (q o n1).2, y.lst h5 (q f n2).1 (q f n2).2, y.lst h6 (q g n3).1 (q g n3).2⟩
  rw [hid2_ne (ne_of h1 (s _ _ e1) (by intro z; cases z)) (ne_of h1 (s _ _ e2) (by intro z; cases z))]
  exact h1
theorem ixN_int {n : Nat} {i : Int} (h0 : 0 ≤ i) (h1 : i < n) : ixN n i = some i.toNat := by
  unfold ixN
  rw [if_pos h0, if_pos h1]
section
variable {P : Program} {w : World} {K : PySem.W.Frag} {mg : Str → Option Value} {base : Heap} (T : Tx K mg)
include T
def spMix (K : PySem.W.Frag) : Sp := fun vs H Q _ => ∃ (a : Addr) (ns : List Int) (seed : Int), vs = [.ref a, .int seed] ∧ SqL K H a (ns.map V.int) ∧ ns.length ≤ 63 ∧ 0 ≤ seed ∧ seed < 2147483647 ∧ ∀ H' h l, HS H H' h l → Q (.ref h) H'
theorem ok_law_mix : FnR P w K mg base CX0 1 (a_law_mix K) (spMix K) := by
  refine fnR0 (d := d_law_mix) T.F_law_mix sc_law_mix rfl (fun _ _ _ _ _ _ us hl => match us, hl with | [_, _], _ => rfl) (fun vs H Q E h => ?_) (fun cdv A outer s H vs Q E hr h => ?_)
  · obtain ⟨a, ns, seed, rfl, _⟩ := h
    rfl
  obtain ⟨a, ns, seed, rfl, hS, hl, h0, h1, k⟩ := h
  refine ⟨_, (pss_cons (ps_set (i := 2) sc_law_mix.nd rfl (Or.inl rfl) (pv 1)) (pss_cons (ps_for PassesOwn.never rfl (pi_list (pv 0)) (pg_name (i := 3) sc_law_mix.nd rfl (Or.inl rfl)) (pss_one (ps_set (i := 2) sc_law_mix.nd rfl (Or.inl rfl) (pe_op op_mod (pe_op op_add (pe_op op_add (pe_op op_mul (pv 2) pe_int) (pe_op op_mod (pv 3) pe_int)) pe_int) pe_int)))) (pss_one (ps_ret (pe_lst (pa_cons (pv 2) (pa_cons (pe_callTy call_list_of (by rfl) T.n_list (by decide +kernel) (pa_cons (pv 0) pa_nil)) (pa_cons pe_int pa_nil)))))))), ?_⟩
  refine ⟨_, rfl, _, rfl, a, rfl, ⟨_, hS⟩, for_list (K := K) (a := a) (xs := ns.map V.int) (fun i σ H1 => H1 = H ∧ ∃ (m : Int) (x : Option V), 0 ≤ m ∧ m < 2147483647 ∧ σ = [some (.ref a), some (.int seed), some (.int m), x]) ⟨rfl, seed, none, h0, h1, rfl⟩ (fun i σ H1 _ q => by rw [q.1]; exact hS) ?_ ?_⟩
  · rintro i x σ H1 hx ⟨rfl, m, x3, m0, m1, rfl⟩
    obtain ⟨c, ec, rfl⟩ := int_at hx
    refine ⟨_, rfl, _, _, rfl, rfl, .inr ⟨by decide, by decide⟩, _, rfl, _, _, rfl, rfl, by show (0 : Int) < 2147483629; decide, _, _, rfl, rfl, _, _, rfl, rfl, _, _, rfl, rfl, by show (0 : Int) < 2147483647; decide, rfl, _, some (.int c), ?_, ?_, rfl⟩
    · exact Int.emod_nonneg _ (by decide)
    · exact Int.emod_lt_of_pos _ (by decide)
  · rintro σ H1 ⟨rfl, m, x3, m0, m1, rfl⟩
    refine ⟨_, rfl, _, rfl, a, _, rfl, .inl hS, fun l hl1 => ⟨by show 3 ≤ sizeLine; decide, fun h hh => ?_⟩⟩
    have nh : h ≠ l := fun z => by
      rw [z, upd_same] at hh
      cases hh
    have hh2 : H1 h = none := by
      rw [upd_ne nh] at hh
      exact hh
    refine k _ h l ⟨(same_new hl1).trans (same_new hh), hh2, hl1, nh, m, 0, ns, upd_same, ?_, m0, m1, Int.le_refl _, hl⟩
    rw [upd_ne nh.symm]
    exact upd_same
def spNext : Sp := fun vs H Q _ => ∃ (h l : Addr) (lim : Int) (H0 : Hp), vs = [.ref h, .int lim] ∧ 0 < lim ∧ lim ≤ 2000000000000000000 ∧ HS H0 H h l ∧ ∀ H' r, HS H0 H' h l → 0 ≤ r → r < lim → Q (.int r) H'
theorem ok_law_next : FnR P w K mg base CX0 1 (a_law_next K) spNext := by
  refine fnR0 (d := d_law_next) T.F_law_next sc_law_next rfl (fun _ _ _ _ _ _ us hl => match us, hl with | [_, _], _ => rfl) (fun vs H Q E h => ?_) (fun cdv A outer s H vs Q E hr h => ?_)
  · obtain ⟨h, l, lim, H0, rfl, _⟩ := h
    rfl
  obtain ⟨h, l, lim, H0, rfl, l0, l1, hs, k⟩ := h
  obtain ⟨s0, nh, nl, hne, m, i, ns, eh, el, m0, m1, i0, hl⟩ := hs
  refine ⟨_, (pss_cons (ps_set (i := 2) sc_law_next.nd rfl (Or.inl rfl) (pe_ix ix_list (pe_op op_cat (pe_ix ix_list (pv 0) pe_int (fun _ _ => rfl)) (pe_lst (pa_cons pe_int pa_nil))) (pe_op op_mod (pe_ix ix_list (pv 0) pe_int (fun _ _ => rfl)) (pe_callB (call_max2 rfl) (by rfl) T.n_max (by decide +kernel) (pa_cons pe_int (pa_cons (pe_callB call_len_seq (by rfl) T.n_len PySem.boot_len (pa_cons (pe_ix ix_list (pv 0) pe_int (fun _ _ => rfl)) pa_nil)) pa_nil)))) (fun _ _ => rfl))) (pss_cons (ps_if (pt_cmpR op_ge (pv 2) (pe_op op_pow pe_int pe_int) (nomark _)) (pss_cons (ps_asg (pe_op op_fdivW (pv 2) (pv 1)) (pg_sub (pe_ix ix_list (pv 0) pe_int (fun _ _ => rfl)) (pe_op op_mod (pe_ix ix_list (pv 0) pe_int (fun _ _ => rfl)) (pe_callB call_len_seq (by rfl) T.n_len PySem.boot_len (pa_cons (pe_ix ix_list (pv 0) pe_int (fun _ _ => rfl)) pa_nil))) set_list)) (pss_one (ps_ret (pe_op op_mod (pv 2) (pv 1))))) pss_nil) (pss_cons (ps_asg (pe_op op_mod (pe_op op_add (pe_op op_add (pe_op op_mul (pe_ix ix_list (pv 0) pe_int (fun _ _ => rfl)) pe_int) (pe_op op_mul (pv 2) pe_int)) pe_int) pe_int) (pg_sub (pv 0) pe_int set_list)) (pss_cons (ps_asg (pe_op op_add (pe_ix ix_list (pv 0) pe_int (fun _ _ => rfl)) pe_int) (pg_sub (pv 0) pe_int set_list)) (pss_one (ps_ret (pe_op op_mod (pe_op op_fdiv (pe_ix ix_list (pv 0) pe_int (fun _ _ => rfl)) pe_int) (pv 1)))))))), ?_⟩
  refine ⟨_, rfl, h, _, 1, _, rfl, rfl, SqL.of eh, rfl, by show 1 ≤ sizeLine; decide, fun z hz => ?_⟩
  refine ⟨l, z, _, _, rfl, rfl, upd_old el hz, upd_same, by rw [List.length_map]; exact Nat.le_trans (Nat.succ_le_succ hl) (by decide), fun y hy => ?_⟩
  have eh2 := upd_old (u := .lst (ns.map V.int ++ [.int 0])) (upd_old (u := .lst [.int 0]) eh hz) hy
  have el2 := upd_old (u := .lst (ns.map V.int ++ [.int 0])) (upd_old (u := .lst [.int 0]) el hz) hy
  have s2 : Same H (upd (upd H z (.lst [.int 0])) y (.lst (ns.map V.int ++ [.int 0]))) := (same_new hz).trans (same_new hy)
  have ey : (upd (upd H z (.lst [.int 0])) y (.lst (ns.map V.int ++ [.int 0]))) y = some (.lst (ns.map V.int ++ [.int 0])) := upd_same
  generalize upd (upd H z (.lst [.int 0])) y (.lst (ns.map V.int ++ [.int 0])) = H2 at eh2 el2 s2 ey
  refine ⟨_, rfl, h, _, 2, _, rfl, rfl, SqL.of eh2, rfl, _, rfl, h, _, 1, _, rfl, rfl, SqL.of eh2, rfl, l, _, rfl, .inl (SqL.of el2), 1, _, rfl, ?_⟩
  have hlen : ((ns.map V.int).length : Int) = (ns.length : Int) := by rw [List.length_map]
  rw [hlen]
  have hj : 0 < (if (ns.length : Int) > 1 then (ns.length : Int) else 1) := by split <;> omega
  have hjm : (if (ns.length : Int) > 1 then (ns.length : Int) else 1) ≤ ns.length + 1 := by split <;> omega
  have hj2 : ns ≠ [] → (if (ns.length : Int) > 1 then (ns.length : Int) else 1) = ns.length := fun hn => by
    have : 0 < ns.length := List.length_pos_iff.mpr hn
    split <;> omega
  generalize (if (ns.length : Int) > 1 then (ns.length : Int) else 1) = j at hj hjm hj2
  refine ⟨_, _, rfl, rfl, hj, ?_⟩
  have r0 := Int.emod_nonneg i (Int.ne_of_gt hj)
  have r1 := Int.emod_lt_of_pos i hj
  -- the cell that is read
  obtain ⟨c, hc, hc2⟩ : ∃ c : Int, (ns.map V.int ++ [V.int 0])[(i % j).toNat]? = some (.int c) ∧ (0 < c → ns ≠ []) := by
    by_cases hn : ns = []
    · subst hn
      have : (i % j).toNat = 0 := by
        simp only [List.length_nil] at hjm
        omega
      rw [this]
      exact ⟨0, rfl, fun z => absurd z (by decide)⟩
    · have ej := hj2 hn
      have lt : (i % j).toNat < ns.length := by omega
      refine ⟨ns[(i % j).toNat], ?_, fun _ => hn⟩
      rw [List.getElem?_append_left (by rw [List.length_map]; exact lt), List.getElem?_map, List.getElem?_eq_getElem lt]
      rfl
  refine ⟨y, _, _, .int c, rfl, rfl, SqL.of ey, at_of (j := (i % j).toNat) (by omega) hc, ?_⟩
  refine ⟨_, rfl, _, _, rfl, rfl, ⟨by decide, by decide, by decide⟩, _, _, rfl, rfl, _, rfl, ite2 (fun hd => ?_) (fun hd => ?_)⟩
  · -- a great cell: a digit of it
    have hd : (10 : Int) ^ (18 : Int).toNat ≤ c := of_decide_eq_true hd
    have hc0 : 0 < c := Int.lt_of_lt_of_le (by decide) hd
    have hn := hc2 hc0
    have ej := hj2 hn
    have hp : 0 < ns.length := List.length_pos_iff.mpr hn
    refine ⟨_, rfl, _, rfl, _, _, rfl, rfl, wide_div l0 (b := 64) ?_ (by decide) (by decide), ?_⟩
    · have : lim.natAbs ≤ 2000000000000000000 := by omega
      exact Nat.lt_of_le_of_lt this (by decide)
    refine ⟨_, rfl, h, _, 1, _, rfl, rfl, SqL.of eh2, rfl, _, rfl, h, _, 2, _, rfl, rfl, SqL.of eh2, rfl, _, rfl, h, _, 1, _, rfl, rfl, SqL.of eh2, rfl, l, _, rfl, .inl (SqL.of el2), _, _, rfl, rfl, ?_, ?_⟩
    · show (0 : Int) < ((ns.map V.int).length : Int)
      rw [hlen]
      omega
    rw [hlen]
    have q0 := Int.emod_nonneg i (show (ns.length : Int) ≠ 0 by omega)
    have q1 := Int.emod_lt_of_pos i (show (0 : Int) < ns.length by omega)
    refine ⟨l, _, _, _, rfl, rfl, el2, ixN_int q0 (by rw [List.length_map]; exact q1), ?_⟩
    refine ⟨_, rfl, _, rfl, _, _, rfl, rfl, l0, ?_⟩
    refine k _ _ ⟨same_mut (s0.trans s2) nl, nh, nl, hne, m, i, ns.set (i % (ns.length : Int)).toNat (c / lim), ?_, ?_, m0, m1, i0, by rw [List.length_set]; exact hl⟩ (Int.emod_nonneg _ (Int.ne_of_gt l0)) (Int.emod_lt_of_pos _ l0)
    · rw [upd_ne hne]
      exact eh2
    · rw [upd_same, List.map_set]
  · -- mixed with the cell
    refine ⟨_, rfl, h, _, 0, _, rfl, rfl, SqL.of eh2, rfl, _, _, rfl, rfl, .inr ⟨by decide, by decide⟩, _, rfl, _, _, rfl, rfl, .inr ⟨by decide, by decide⟩, _, _, rfl, rfl, _, _, rfl, rfl, _, _, rfl, rfl, by show (0 : Int) < 2147483647; decide, ?_⟩
    refine ⟨_, rfl, h, _, 0, 0, rfl, rfl, eh2, rfl, ?_⟩
    have b0 : 0 ≤ (m * 48271 + c * 69621 + 11) % 2147483647 := Int.emod_nonneg _ (by decide)
    have b1 : (m * 48271 + c * 69621 + 11) % 2147483647 < 2147483647 := Int.emod_lt_of_pos _ (by decide)
    have e3 : upd H2 h (.lst ([V.int m, .ref l, .int i].set 0 (.int ((m * 48271 + c * 69621 + 11) % 2147483647)))) h = some (.lst [V.int ((m * 48271 + c * 69621 + 11) % 2147483647), .ref l, .int i]) := upd_same
    refine ⟨_, rfl, h, _, 2, _, rfl, rfl, SqL.of e3, rfl, _, _, rfl, rfl, _, rfl, h, _, 2, 2, rfl, rfl, e3, rfl, ?_⟩
    rw [upd_upd]
    have e4 : upd H2 h (.lst ([V.int ((m * 48271 + c * 69621 + 11) % 2147483647), .ref l, .int i].set 2 (.int (i + 1)))) h = some (.lst [V.int ((m * 48271 + c * 69621 + 11) % 2147483647), .ref l, .int (i + 1)]) := upd_same
    refine ⟨_, rfl, h, _, 0, _, rfl, rfl, SqL.of e4, rfl, _, _, rfl, rfl, ⟨by decide, by decide⟩, _, rfl, _, _, rfl, rfl, l0, ?_⟩
    refine k _ _ ⟨same_mut (s0.trans s2) nh, nh, nl, hne, (m * 48271 + c * 69621 + 11) % 2147483647, i + 1, ns, e4, ?_, b0, b1, by omega, hl⟩ (Int.emod_nonneg _ (Int.ne_of_gt l0)) (Int.emod_lt_of_pos _ l0)
    rw [upd_ne hne.symm]
    exact el2
def spBuys (K : PySem.W.Frag) : Sp := fun vs H Q _ => ∃ (a : Addr) (ts : List Tr) (d : Int), vs = [.ref a, .int d] ∧ TrAt K H a ts ∧ gds ts ∧ ∀ H', Same H H' → Q (.int (buys ts d)) H'
theorem ok_law_buys : FnR P w K mg base CX0 1 (a_law_buys K) (spBuys K) := by
  refine fnR0 (d := d_law_buys) T.F_law_buys sc_law_buys rfl (fun _ _ _ _ _ _ us hl => match us, hl with | [_, _], _ => rfl) (fun vs H Q E h => ?_) (fun cdv A outer s H vs Q E hr h => ?_)
  · obtain ⟨a, ts, d, rfl, _⟩ := h
    rfl
  obtain ⟨a, ts, d, rfl, hT, ⟨hlen, hok⟩, k⟩ := h
  obtain ⟨ps, h1, h2, h3⟩ := hT.ex
  refine ⟨_, (pss_one (ps_ret (pe_callB (cr_sum rfl) (by rfl) T.n_sum (by decide +kernel) (pa_cons (pe_lc (own := [("_law_kind", 2), ("_law_left", 3), ("_law_needed", 4)]) rfl sc_law_buys.nd (pi_tup (pv 0)) (blkOk_by (own := [("_law_kind", 2), ("_law_left", 3), ("_law_needed", 4)]) (N := N_law_buys) (sc := defScope s_law_buys) (by decide +kernel)) (fun _ _ _ _ _ => (pg_tupB (n := 3) (pgs_cons (pg_name (i := 2) sc_law_buys.nd rfl (Or.inl rfl) (.inr rfl)) (pgs_cons (pg_name (i := 3) sc_law_buys.nd rfl (Or.inl rfl) (.inr rfl)) (pgs_cons (pg_name (i := 4) sc_law_buys.nd rfl (Or.inl rfl) (.inr rfl)) pgs_nil))))) (fun _ _ _ _ _ => pts_nil) (fun _ _ _ _ _ => (pe_op op_fdiv (pe_op op_mul (pv 3) (pv 1)) (pv 4)))) pa_nil)))), ?_⟩
  refine ⟨_, rfl, a, rfl, ⟨_, h1⟩, fun D hD => ?_⟩
  refine lc_tup (xs := ps.map V.ref) (fun i H1 => Same H H1 ∧ H D = none ∧ H1 D = some (.lst ((ts.take i).map fun t => V.int (t.l * d / t.n)))) ⟨same_new hD, hD, upd_same⟩ (fun i H1 _ q => Same.tup q.1 h1) ?_ ?_
  · rintro i x H1 hx ⟨s1, n1, e1⟩
    obtain ⟨p, t, rfl, ep, et, hm, li, hp⟩ := TrAt.at_ h2 h3 hx
    have ht := hok _ hm
    refine ⟨p, _, rfl, Same.tup s1 hp, rfl, _, _, rfl, _, _, rfl, _, _, rfl, rfl, rfl, ?_⟩
    refine ⟨_, rfl, _, rfl, _, _, rfl, rfl, .inl ⟨by have := ht.1; omega, by have := ht.2.1; omega⟩, _, rfl, _, _, rfl, rfl, ⟨by have := ht.2.2.1; omega, by have := ht.2.2.2; omega⟩, ?_⟩
    refine ⟨_, e1, small3 ?_, same_mut s1 n1, n1, ?_⟩
    · rw [List.length_map, List.length_take]
      omega
    · rw [upd_same, take_at et, List.map_append]
      rfl
  · rintro H1 ⟨s1, n1, e1⟩
    refine ⟨D, ts.map fun t => t.l * d / t.n, rfl, SqL.of ?_, ?_⟩
    · rw [e1, List.length_map, h2, List.take_length, List.map_map]
      rfl
    · exact k _ s1
end
end EB

namespace EB
open PySem PySem.Spec PyProof.Rows L2
theorem HS.keep {H0 H : Hp} {h l b : Addr} {o : HO} (e : H b = some o) (n1 : b ≠ h) (n2 : b ≠ l) : hid2 H h l b = some o := by
  rw [hid2_ne n1 n2]
  exact e
theorem HS.new {H0 H : Hp} {h l b : Addr} (x : HS H0 H h l) (n : H b = none) : b ≠ h ∧ b ≠ l := by
  obtain ⟨m, i, ns, e1, e2, _⟩ := x.ex
  exact ⟨(ne_of_none e1 n).symm, (ne_of_none e2 n).symm⟩
theorem HS.mut {H0 H : Hp} {h l b : Addr} {o : HO} (x : HS H0 H h l) (n : H0 b = none) (n1 : b ≠ h) (n2 : b ≠ l) : HS H0 (upd H b o) h l := by
  obtain ⟨m, i, ns, e1, e2, r⟩ := x.ex
  exact ⟨same_mut x.same n, x.nh, x.nl, x.ne, m, i, ns, by rw [upd_ne n1.symm]; exact e1, by rw [upd_ne n2.symm]; exact e2, r⟩
theorem HS.down {H0 H H' : Hp} {h l : Addr} (x : HS H0 H h l) (y : HS (hid2 H h l) H' h l) : HS H0 H' h l := ⟨x.sub.trans y.same, x.nh, x.nl, x.ne, y.ex⟩
def kinds3 : List Str := ["empty", "cap", "label"]
/-- trades as the law draws them -/
structure Drawn (ts : List Tr) (most largest : Int) : Prop where
  ks : ts.map Tr.k = kinds3.take ts.length
  len : (ts.length : Int) ≤ most
  len3 : ts.length ≤ 3
  each : ∀ t ∈ ts, t.ok ∧ t.n ≤ largest ∧ t.l ≤ t.n
  w : 10 * worth ts ≤ 9 * 27720
theorem Drawn.fair {ts : List Tr} {a b : Int} (d : Drawn ts a b) : Fair ts := ⟨⟨d.len3, fun t ht => (d.each t ht).1⟩, d.w⟩
theorem Drawn.nm {ts : List Tr} {a b : Int} (d : Drawn ts a b) : nmOk ts := by
  have hk : ∀ k ∈ kinds3, kindOk k = true ∧ k.length ≤ 1000 := by decide +kernel
  have hn : kinds3.Nodup := by decide +kernel
  refine ⟨by rw [d.ks]; exact hn.sublist (List.take_sublist _ _), fun t ht => ?_⟩
  have : t.k ∈ ts.map Tr.k := List.mem_map.mpr ⟨t, ht, rfl⟩
  rw [d.ks] at this
  exact hk _ (List.mem_of_mem_take this)
theorem worth_snoc (ts : List Tr) (t : Tr) : worth (ts ++ [t]) = worth ts + 27720 / t.n * t.l := by
  unfold worth
  rw [List.map_append, List.sum_append]
  simp
/-- new tuples, one for each trade -/
def NewTr (H : Hp) (qs : List Addr) (ts : List Tr) : Prop := qs.length = ts.length ∧ ∀ (j : Nat) (q : Addr) (t : Tr), qs[j]? = some q → ts[j]? = some t → H q = some (.tup t.vs)
theorem NewTr.at_ {K : PySem.W.Frag} {H : Hp} {qs : List Addr} {ts : List Tr} {p : Addr} (n : NewTr H qs ts) (h : SqT K H p (qs.map V.ref)) : TrAt K H p ts := ⟨qs, h, n.1, fun i q t a b => SqT.of (n.2 i q t a b)⟩
theorem NewTr.mono {H H' : Hp} {qs : List Addr} {ts : List Tr} (n : NewTr H qs ts) (h : ∀ q xs, H q = some (.tup xs) → H' q = some (.tup xs)) : NewTr H' qs ts := ⟨n.1, fun j q t a b => h _ _ (n.2 j q t a b)⟩
theorem NewTr.snoc {H : Hp} {qs : List Addr} {ts : List Tr} {q : Addr} {t : Tr} (n : NewTr H qs ts) (h : H q = some (.tup t.vs)) : NewTr H (qs ++ [q]) (ts ++ [t]) := by
  refine ⟨by rw [List.length_append, List.length_append, n.1]; rfl, fun j q' t' hj ht' => ?_⟩
  rcases Nat.lt_or_ge j qs.length with z | z
  · rw [List.getElem?_append_left z] at hj
    rw [List.getElem?_append_left (by rw [← n.1]; exact z)] at ht'
    exact n.2 j q' t' hj ht'
  · rw [List.getElem?_append_right z] at hj
    rw [List.getElem?_append_right (by rw [← n.1]; exact z)] at ht'
    have ej : j - qs.length = 0 := by
      have := lt_of_at hj
      simp only [List.length_singleton] at this
      omega
    rw [ej] at hj
    rw [← n.1, ej] at ht'
    cases Option.some.inj hj
    cases Option.some.inj ht'
    exact h
theorem HS.keepT {H : Hp} {h l q : Addr} {xs : List V} {H0 : Hp} (x : HS H0 H h l) (e : H q = some (.tup xs)) : hid2 H h l q = some (.tup xs) := by
  obtain ⟨m, i, ns, e1, e2, _⟩ := x.ex
  exact HS.keep (H0 := H0) e (ne_of e e1 (by intro z; cases z)) (ne_of e e2 (by intro z; cases z))
section
variable {P : Program} {w : World} {K : PySem.W.Frag} {mg : Str → Option Value} {base : Heap} (T : Tx K mg)
include T
def spTrades (K : PySem.W.Frag) : Sp := fun vs H Q _ => ∃ (h l : Addr) (most largest : Int) (H0 : Hp), vs = [.ref h, .int most, .int largest] ∧ 1 ≤ most ∧ most ≤ 3 ∧ 1 ≤ largest ∧ largest ≤ 12 ∧ HS H0 H h l ∧
  ∀ H' p ts, HS H0 H' h l → TrAt K H' p ts → ts ≠ [] → Drawn ts most largest → Q (.ref p) H'
theorem ok_law_trades : FnR P w K mg base CX0 2 (a_law_trades K) (spTrades K) := by
  refine fnR0 (d := d_law_trades) T.F_law_trades sc_law_trades rfl (fun _ _ _ _ _ _ us hl => match us, hl with | [_, _, _], _ => rfl) (fun vs H Q E h => ?_) (fun cdv A outer s H vs Q E hr h => ?_)
  · obtain ⟨h, l, most, largest, H0, rfl, _⟩ := h
    rfl
  obtain ⟨h, l, most, largest, H0, rfl, m1, m3, g1, g12, hs, k⟩ := h
  refine ⟨_, (pss_cons (ps_par (i := 3) (j := 4) (by rfl) sc_law_trades.nd rfl rfl (by decide) rfl rfl (pa_cons (pe_lst pa_nil) (pa_cons pe_int pa_nil)) (by rfl)) (pss_cons (ps_for PassesOwn.never rfl (pi_list (pe_slice sl_list (pe_lst (pa_cons pe_str (pa_cons pe_str (pa_cons pe_str pa_nil)))) po_none (po_some (pe_op op_add pe_int (pe_cR (ok_law_next T) (hr.mono (by decide)) T.F_law_next.kp T.g_law_next pass0 (pa_cons (pv 0) (pa_cons (pv 1) pa_nil))))))) (pg_name (i := 5) sc_law_trades.nd rfl (Or.inl rfl)) (pss_cons (ps_set (i := 6) sc_law_trades.nd rfl (Or.inl rfl) (pe_op op_add pe_int (pe_cR (ok_law_next T) (hr.mono (by decide)) T.F_law_next.kp T.g_law_next pass0 (pa_cons (pv 0) (pa_cons (pv 2) pa_nil))))) (pss_cons (ps_set (i := 7) sc_law_trades.nd rfl (Or.inl rfl) (pe_cR (ok_law_next T) (hr.mono (by decide)) T.F_law_next.kp T.g_law_next pass0 (pa_cons (pv 0) (pa_cons (pe_op op_add (pv 6) pe_int) pa_nil)))) (pss_cons (ps_while PassesOwn.never (pt_cmpR op_gt (pe_op op_mul pe_int (pe_op op_add (pe_op op_mul (pv 4) (pv 6)) (pe_op op_mul (pv 7) pe_int))) (pe_op op_mul (pe_op op_mul pe_int pe_int) (pv 6)) (nomark _)) (pss_one (ps_set (i := 7) sc_law_trades.nd rfl (Or.inl rfl) (pe_op op_sub (pv 7) pe_int)))) (pss_cons (ps_set (i := 4) sc_law_trades.nd rfl (Or.inl rfl) (pe_op op_add (pv 4) (pe_op op_fdiv (pe_op op_mul (pv 7) pe_int) (pv 6)))) (pss_one (ps_expr (pe_bm PySem.F.plainAttrs_list PySem.F.slot_list_append PySem.F.type_list_append mt_append (pv 3) (pa_cons (pe_tup (pa_cons (pv 5) (pa_cons (pv 7) (pa_cons (pv 6) pa_nil)))) pa_nil))))))))) (pss_one (ps_ret (pe_callTy call_tuple_of (by rfl) T.n_tuple (by decide +kernel) (pa_cons (pv 3) pa_nil)))))), ?_⟩
  refine ⟨Nat.zero_le _, fun F hF => ⟨_, _, rfl, ?_⟩⟩
  have nF := hs.new hF
  have n0F : H0 F = none := hs.same.free hF
  have hsA := hs.grow (same_new (u := .lst []) hF)
  refine ⟨by show 3 ≤ sizeLine; decide, fun L hL => ?_⟩
  have nL := hsA.new hL
  have nFL : F ≠ L := ne_of_none upd_same hL
  have hsB := hsA.grow (same_new (u := .lst [.str "empty", .str "cap", .str "label"]) hL)
  have eF : upd (upd H F (.lst [])) L (.lst [.str "empty", .str "cap", .str "label"]) F = some (.lst []) := by
    rw [upd_ne nFL]
    exact upd_same
  have eL : upd (upd H F (.lst [])) L (.lst [.str "empty", .str "cap", .str "label"]) L = some (.lst (kinds3.map V.str)) := upd_same
  have n0L : H0 L = none := hsA.same.free hL
  generalize upd (upd H F (.lst [])) L (.lst [.str "empty", .str "cap", .str "label"]) = HB at hsB eF eL
  refine ⟨_, rfl, _, rfl, h, l, most, hid2 HB h l, rfl, by omega, by omega, hsB.re, fun HC r hsC r0 r1 => ⟨_, _, rfl, rfl, _, rfl, L, _, rfl, SqL.of (hsC.same _ _ (HS.keep (H0 := H0) eL nL.1 nL.2)), fun p hp => ?_⟩⟩
  have eFC : HC F = some (.lst []) := hsC.same _ _ (HS.keep (H0 := H0) eF nF.1 nF.2)
  have hsC' : HS H0 HC h l := hsB.down hsC
  have np := hsC'.new hp
  have n0p : H0 p = none := hsC'.same.free hp
  have npF : p ≠ F := (ne_of_none eFC hp).symm
  -- the kinds that are gone through
  obtain ⟨n, hn, hn1, hn3⟩ : ∃ n : Nat, (1 + r) = (n : Int) ∧ 1 ≤ n ∧ n ≤ 3 := ⟨(1 + r).toNat, by omega, by omega, by omega⟩
  have hnm : (n : Int) ≤ most := by omega
  have ecut : cutV (kinds3.map V.str) none (some (1 + r)) = (kinds3.take n).map V.str := by
    rw [hn]
    unfold cutV
    rw [HT.sIx_none, HT.sIx_nat]
    have hl3 : (kinds3.map V.str).length = 3 := rfl
    rw [hl3, Nat.min_eq_left hn3, Nat.sub_zero, List.drop_zero, List.map_take]
  rw [ecut]
  have hsD := hsC'.grow (same_new (u := .lst ((kinds3.take n).map V.str)) hp)
  have eFD : upd HC p (.lst ((kinds3.take n).map V.str)) F = some (.lst []) := by
    rw [upd_ne npF.symm]
    exact eFC
  have epD : upd HC p (.lst ((kinds3.take n).map V.str)) p = some (.lst ((kinds3.take n).map V.str)) := upd_same
  generalize upd HC p (.lst ((kinds3.take n).map V.str)) = HD at hsD eFD epD
  refine ⟨p, rfl, ⟨_, SqL.of epD⟩, for_list (K := K) (a := p) (xs := (kinds3.take n).map V.str) (fun i σ H1 => HS H0 H1 h l ∧ H1 p = some (.lst ((kinds3.take n).map V.str)) ∧ ∃ (ts : List Tr) (qs : List Addr) (x5 x6 x7 : Option V),
      ts.length = i ∧ H1 F = some (.lst (qs.map V.ref)) ∧ NewTr H1 qs ts ∧ (i ≤ n → ts.map Tr.k = kinds3.take i) ∧ (∀ t ∈ ts, t.ok ∧ t.n ≤ largest ∧ t.l ≤ t.n) ∧ 10 * worth ts ≤ 9 * 27720 ∧ 0 ≤ worth ts ∧
      σ = [some (.ref h), some (.int most), some (.int largest), some (.ref F), some (.int (worth ts)), x5, x6, x7])
    ⟨hsD, epD, [], [], none, none, none, rfl, eFD, ⟨rfl, fun j q t a => (by cases a)⟩, fun _ => rfl, fun t ht => (by cases ht), by decide, by decide, rfl⟩ (fun i σ H1 _ q => SqL.of q.2.1) ?_ ?_⟩
  · rintro i x σ H1 hx ⟨hs1, ep1, ts, qs, x5, x6, x7, hti, eF1, hnt, hks, hall, hw, hw0, rfl⟩
    have hin : i < n := by
      have := lt_of_at hx
      rw [List.length_map, List.length_take] at this
      omega
    obtain ⟨kd, ekd, rfl⟩ : ∃ kd, (kinds3.take n)[i]? = some kd ∧ x = .str kd := by
      rw [List.getElem?_map] at hx
      cases e : (kinds3.take n)[i]? with
      | none =>
        rw [e] at hx
        cases hx
      | some kd =>
        rw [e] at hx
        exact ⟨kd, rfl, (Option.some.inj hx).symm⟩
    have ekd2 : kinds3[i]? = some kd := by
      rw [List.getElem?_take] at ekd
      rw [if_pos hin] at ekd
      exact ekd
    -- needed
    refine ⟨_, rfl, _, rfl, h, l, largest, hid2 H1 h l, rfl, by omega, by omega, hs1.re, fun H2 r2 hs2 r20 r21 => ⟨_, _, rfl, rfl, ?_⟩⟩
    have hs2' := hs1.down hs2
    have ep2 := hs2.same _ _ (HS.keep (H0 := H0) ep1 np.1 np.2)
    have eF2 := hs2.same _ _ (HS.keep (H0 := H0) eF1 nF.1 nF.2)
    have hnt2 := hnt.mono fun q xs e => hs2.same _ _ (hs1.keepT e)
    -- left
    refine ⟨_, rfl, _, rfl, _, _, rfl, rfl, h, l, (1 + r2) + 1, hid2 H2 h l, rfl, by omega, by omega, hs2'.re, fun H3 r3 hs3 r30 r31 => ?_⟩
    have hs3' := hs2'.down hs3
    have ep3 := hs3.same _ _ (HS.keep (H0 := H0) ep2 np.1 np.2)
    have eF3 := hs3.same _ _ (HS.keep (H0 := H0) eF2 nF.1 nF.2)
    have hnt3 := hnt2.mono fun q xs e => hs3.same _ _ (hs2'.keepT e)
    obtain ⟨nd, hnd⟩ : ∃ nd : Int, nd = 1 + r2 := ⟨_, rfl⟩
    have nd1 : 1 ≤ nd := by omega
    have nd2 : nd ≤ 12 := by omega
    have e27 : (9 : Int) * 27720 * nd = 249480 * nd := rfl
    refine ⟨fun m σ H => H = H3 ∧ ∃ lf : Int, 0 ≤ lf ∧ lf ≤ r3 ∧ m = lf.toNat ∧ σ = [some (.ref h), some (.int most), some (.int largest), some (.ref F), some (.int (worth ts)), some (.str kd), some (.int nd), some (.int lf)], ⟨r3.toNat, rfl, r3, r30, Int.le_refl _, rfl, (by rw [hnd]; rfl)⟩, ?_⟩
    rintro m σ H4 ⟨rfl, lf, lf0, lf1, hm, rfl⟩
    have hwn : 10 * (worth ts * nd) ≤ 249480 * nd := by
      have := Int.mul_le_mul_of_nonneg_right hw (show 0 ≤ nd by omega)
      rw [Int.mul_assoc] at this
      exact this
    have hww : worth ts ≤ 24948 := by omega
    refine ⟨_, rfl, _, rfl, _, _, rfl, rfl, .inr ⟨by omega, by omega⟩, _, rfl, _, _, rfl, rfl, .inr ⟨by decide, by decide⟩, _, _, rfl, rfl, _, _, rfl, rfl, .inl ⟨by decide, by decide⟩, _, _, rfl, rfl, .inl ⟨by decide, by decide⟩, _, rfl, _, _, rfl, rfl, .inr ⟨by omega, by omega⟩, _, _, rfl, rfl, _, rfl, ite2 (fun hd => ?_) (fun hd => ?_)⟩
    · have hd : 9 * 27720 * nd < 10 * (worth ts * nd + lf * 27720) := of_decide_eq_true hd
      refine ⟨fun σ' H' => ∃ m', m' < m ∧ (H' = H4 ∧ ∃ lf : Int, 0 ≤ lf ∧ lf ≤ r3 ∧ m' = lf.toNat ∧ σ' = [some (.ref h), some (.int most), some (.int largest), some (.ref F), some (.int (worth ts)), some (.str kd), some (.int nd), some (.int lf)]), fun _ _ z => z, ?_⟩
      exact ⟨_, rfl, _, _, rfl, rfl, (lf - 1).toNat, by omega, rfl, lf - 1, by omega, by omega, rfl, rfl⟩
    · have hd : ¬ 9 * 27720 * nd < 10 * (worth ts * nd + lf * 27720) := fun z => hd (decide_eq_true z)
      obtain ⟨q0, hq0⟩ := dvd_big nd1 nd2
      have eq1 : lf * 27720 / nd = q0 * lf := by
        rw [hq0, show lf * (nd * q0) = nd * (q0 * lf) by rw [Int.mul_left_comm, Int.mul_comm lf q0]]
        exact Int.mul_ediv_cancel_left _ (by omega)
      have eq2 : (27720 : Int) / nd = q0 := by
        rw [hq0]
        exact Int.mul_ediv_cancel_left _ (by omega)
      have hle : 10 * (worth ts + q0 * lf) ≤ 9 * 27720 := by
        have h1 : 10 * (worth ts + q0 * lf) * nd ≤ 9 * 27720 * nd := by
          have h2 : lf * 27720 = q0 * lf * nd := by
            rw [hq0, Int.mul_comm (q0 * lf) nd, Int.mul_left_comm, Int.mul_comm lf q0]
          have h3 : 10 * (worth ts + q0 * lf) * nd = 10 * (worth ts * nd + q0 * lf * nd) := by
            rw [Int.mul_assoc, Int.add_mul]
          rw [h3, ← h2]
          omega
        exact Int.le_of_mul_le_mul_right h1 (by omega)
      have hq00 : 0 ≤ q0 := by
        rw [← eq2]
        exact Int.ediv_nonneg (by decide) (by omega)
      have hql : 0 ≤ q0 * lf := Int.mul_nonneg hq00 lf0
      have ewt : worth (ts ++ [⟨kd, lf, nd⟩]) = worth ts + lf * 27720 / nd := by
        rw [worth_snoc, eq1]
        show worth ts + 27720 / nd * lf = _
        rw [eq2]
      -- worth, and the trade
      refine ⟨_, rfl, _, rfl, _, _, rfl, rfl, .inr ⟨by decide, by decide⟩, _, rfl, _, _, rfl, rfl, ⟨by omega, by omega⟩, _, _, rfl, rfl, ?_⟩
      refine ⟨_, rfl, .inl ⟨rfl, _, SqL.of eF3⟩, _, rfl, _, rfl, _, rfl, by show 3 ≤ sizeLine; decide, fun q hq => ?_⟩
      have eF5 := upd_old (u := .tup [.str kd, .int lf, .int nd]) eF3 hq
      have nq := hs3'.new hq
      have npq : p ≠ q := ne_of_none ep3 hq
      have nFq : F ≠ q := ne_of_none eF3 hq
      refine ⟨F, _, _, rfl, rfl, eF5, small3 ?_, ?_⟩
      · rw [List.length_map, hnt3.1]
        omega
      refine ⟨(hs3'.grow (same_new hq)).mut n0F nF.1 nF.2, ?_, ts ++ [⟨kd, lf, nd⟩], qs ++ [q], some (.str kd), some (.int nd), some (.int lf), ?_, ?_, ?_, fun hi => ?_, fun t ht => ?_, ?_, ?_, ?_⟩
      · rw [upd_ne npF]
        exact upd_old ep3 hq
      · rw [List.length_append, hti]
        rfl
      · rw [upd_same, List.map_append]
        rfl
      · refine NewTr.snoc (hnt3.mono fun q' xs e => ?_) ?_
        · rw [upd_ne (ne_of e eF3 (by intro z; cases z))]
          exact upd_old e hq
        · rw [upd_ne nFq.symm]
          exact upd_same
      · rw [List.map_append, hks (by omega), take_at ekd2]
        rfl
      · rcases List.mem_append.mp ht with ht | ht
        · exact hall t ht
        · cases List.mem_singleton.mp ht
          exact ⟨⟨lf0, by show lf ≤ 12; omega, nd1, nd2⟩, by show nd ≤ largest; omega, by show lf ≤ nd; omega⟩
      · rw [ewt, eq1]
        exact hle
      · rw [ewt, eq1]
        omega
      · rw [ewt]
        rfl
  · rintro σ H1 ⟨hs1, ep1, ts, qs, x5, x6, x7, hti, eF1, hnt, hks, hall, hw, hw0, rfl⟩
    have hlen : ((kinds3.take n).map V.str).length = n := by
      rw [List.length_map, List.length_take]
      exact Nat.min_eq_left hn3
    rw [hlen] at hti
    refine ⟨_, rfl, F, _, rfl, .inl ⟨SqL.of eF1, fun p' hp' => ?_⟩⟩
    refine k _ p' ts (hs1.grow (same_new hp')) ((hnt.mono fun q xs e => upd_old e hp').at_ (SqT.of upd_same)) (fun z => by rw [z] at hti; simp only [List.length_nil] at hti; omega) ⟨?_, by omega, by omega, hall, hw⟩
    rw [hlen] at hks
    rw [hks (Nat.le_refl _), hti]
end
end EB

namespace EB
open PySem PySem.Spec PyProof.Rows L2
theorem upd_none {H : Hp} {a b : Addr} {o : HO} (h : upd H a o b = none) : b ≠ a ∧ H b = none := by
  have n : b ≠ a := fun z => by
    rw [z, upd_same] at h
    cases h
  rw [upd_ne n] at h
  exact ⟨n, h⟩
/-- what a new offer asks, its trades handed on one by one -/
theorem make_ok {K : PySem.W.Frag} {H : Hp} {ts : List Tr} {ps : List Addr} {Q : VK} {E : XK} {x dx : Addr} (h2 : ps.length = ts.length) (h3 : ∀ (i : Nat) (p : Addr) (t : Tr), ps[i]? = some p → ts[i]? = some t → SqT K H p t.vs)
    (hf : Fair ts) (hne : ts ≠ []) (hnm : nmOk ts) (nx : H x = none) (nd : H dx = none) (ned : dx ≠ x) (k : ∀ H', Same H H' → OfNew K H H' x ts → Q (.ref x) H') :
    ∃ ws rest, (V.ref x :: ps.map V.ref) = ws ++ rest ∧ ws.length = 1 ∧ rest.length ≤ sizeLine ∧ ∀ p, (upd (upd H dx (.own x)) x (.ins (He.ga K "Offer") dx [])) p = none →
      spInit K (ws ++ [V.ref p]) (upd (upd (upd H dx (.own x)) x (.ins (He.ga K "Offer") dx [])) p (.tup rest)) (fun v H2 => v = .non ∧ Q (.ref x) H2) E := by
  refine ⟨[.ref x], ps.map V.ref, rfl, rfl, ?_, fun p hp => ?_⟩
  · rw [List.length_map, h2]
    exact Nat.le_trans hf.g.1 (by decide)
  obtain ⟨npx, hp1⟩ := upd_none hp
  obtain ⟨npd, hp2⟩ := upd_none hp1
  have sH : Same H (upd H p (.tup (ps.map V.ref))) := same_new hp2
  refine ⟨x, p, upd H p (.tup (ps.map V.ref)), dx, ts, rfl, fun b o e => ?_, by rw [upd_ne npx.symm]; exact nx, by rw [upd_ne npx.symm]; exact upd_same, ⟨ps, SqT.of upd_same, h2, fun i q t a b => Same.tup sH (h3 i q t a b)⟩, hf, hne, hnm, fun H' s' o' => ⟨rfl, ?_⟩⟩
  · by_cases z : b = p
    · rw [z, upd_same] at e
      rw [z, upd_same]
      exact e
    · rw [upd_ne z] at e
      rw [upd_ne z, upd_ne (ne_of_none e nx), upd_ne (ne_of_none e nd)]
      exact e
  · obtain ⟨d, t, q, o, f, g, e1, e2, e3, e4, e5, e6, n1, n2, n3⟩ := o'.ex
    exact k _ (sH.trans s') ⟨d, t, q, o, f, g, e1, e2, e3, e4, e5, e6, (upd_none n1).2, (upd_none n2).2, (upd_none n3).2⟩
section
variable {P : Program} {w : World} {K : PySem.W.Frag} {mg : Str → Option Value} {base : Heap} (T : Tx K mg)
include T
def spOffer (K : PySem.W.Frag) : Sp := fun vs H Q _ => ∃ (p : Addr) (ts : List Tr), vs = [.ref p] ∧ TrAt K H p ts ∧ Fair ts ∧ ts ≠ [] ∧ nmOk ts ∧ ∀ H' x, Same H H' → OfNew K H H' x ts → Q (.ref x) H'
theorem ok_law_offer : FnR P w K mg base CX0 7 (a_law_offer K) (spOffer K) := by
  refine fnR0 (d := d_law_offer) T.F_law_offer sc_law_offer rfl (fun _ _ _ _ _ _ us hl => match us, hl with | [_], _ => rfl) (fun vs H Q E h => ?_) (fun cdv A outer s H vs Q E hr h => ?_)
  · obtain ⟨p, ts, rfl, _⟩ := h
    rfl
  obtain ⟨p, ts, rfl, hT, hf, hne, hnm, k⟩ := h
  obtain ⟨ps, h1, h2, h3⟩ := hT.ex
  refine ⟨_, (pss_cons (ps_if (pt_cmpR op_eq (pe_callB call_len_seq (by rfl) T.n_len PySem.boot_len (pa_cons (pv 0) pa_nil)) pe_int (nomark _)) (pss_one (ps_ret (StX.pe_makeR T.mk_Offer (ok_Offer_init T) (hr.mono (by decide)) (by rfl) T.g_Offer pass0 (pa_cons (pe_ix ix_tup (pv 0) pe_int (fun _ _ => rfl)) pa_nil)))) pss_nil) (pss_one (ps_ret (pe_ifExp (pt_cmpR op_eq (pe_callB call_len_seq (by rfl) T.n_len PySem.boot_len (pa_cons (pv 0) pa_nil)) pe_int (nomark _)) (StX.pe_makeR T.mk_Offer (ok_Offer_init T) (hr.mono (by decide)) (by rfl) T.g_Offer pass0 (pa_cons (pe_ix ix_tup (pv 0) pe_int (fun _ _ => rfl)) (pa_cons (pe_ix ix_tup (pv 0) pe_int (fun _ _ => rfl)) pa_nil))) (StX.pe_makeR T.mk_Offer (ok_Offer_init T) (hr.mono (by decide)) (by rfl) T.g_Offer pass0 (pa_cons (pe_ix ix_tup (pv 0) pe_int (fun _ _ => rfl)) (pa_cons (pe_ix ix_tup (pv 0) pe_int (fun _ _ => rfl)) (pa_cons (pe_ix ix_tup (pv 0) pe_int (fun _ _ => rfl)) pa_nil)))))))), ?_⟩
  refine ⟨_, rfl, p, _, rfl, .inr h1, rfl, _, rfl, ite2 (fun hd => ?_) (fun hd => ?_)⟩
  · have hd : ((ps.map V.ref).length : Int) = 1 := V.int.inj (of_decide_eq_true hd)
    match ps, hd, h1, h2, h3 with
    | [a], _, h1, h2, h3 =>
      refine ⟨_, rfl, p, _, 0, _, rfl, rfl, h1, rfl, fun x dx nx nd ned => ?_⟩
      exact make_ok h2 h3 hf hne hnm nx nd ned fun H' s' o' => k H' x s' o'
    | [], hd, _, _, _ => exact absurd hd (by decide)
    | a :: b :: r, hd, _, _, _ =>
      simp only [List.map_cons, List.length_cons] at hd
      omega
  · have hd : ¬ ((ps.map V.ref).length : Int) = 1 := fun z => hd (decide_eq_true (by rw [z]))
    refine ⟨_, rfl, p, _, rfl, .inr h1, rfl, _, rfl, ite2 (fun hd2 => ?_) (fun hd2 => ?_)⟩
    · have hd2 : ((ps.map V.ref).length : Int) = 2 := V.int.inj (of_decide_eq_true hd2)
      match ps, hd2, h1, h2, h3 with
      | [a, b], _, h1, h2, h3 =>
        refine ⟨_, rfl, p, _, 0, _, rfl, rfl, h1, rfl, _, rfl, p, _, 1, _, rfl, rfl, h1, rfl, fun x dx nx nd ned => ?_⟩
        exact make_ok h2 h3 hf hne hnm nx nd ned fun H' s' o' => k H' x s' o'
      | [], hd, _, _, _ => exact absurd hd (by decide)
      | [_], hd, _, _, _ => exact absurd hd (by simp)
      | a :: b :: c :: r, hd, _, _, _ =>
        simp only [List.map_cons, List.length_cons] at hd
        omega
    · have hd2 : ¬ ((ps.map V.ref).length : Int) = 2 := fun z => hd2 (decide_eq_true (by rw [z]))
      have hl := hf.g.1
      match ps, hd, hd2, h1, h2, h3 with
      | [a, b, c], _, _, h1, h2, h3 =>
        refine ⟨_, rfl, p, _, 0, _, rfl, rfl, h1, rfl, _, rfl, p, _, 1, _, rfl, rfl, h1, rfl, _, rfl, p, _, 2, _, rfl, rfl, h1, rfl, fun x dx nx nd ned => ?_⟩
        exact make_ok h2 h3 hf hne hnm nx nd ned fun H' s' o' => k H' x s' o'
      | [], _, _, _, h2, _ =>
        cases ts with
        | nil => exact absurd rfl hne
        | cons _ _ => cases h2
      | [_], hd, _, _, _, _ => exact absurd rfl hd
      | [_, _], _, hd, _, _, _ => exact absurd rfl hd
      | a :: b :: c :: d :: r, _, _, _, h2, _ =>
        simp only [List.length_cons] at h2
        omega
/-! ### an offer's methods -/
def spDF (K : PySem.W.Frag) : Sp := fun vs H Q _ => ∃ (a : Addr) (ts : List Tr) (n : Nat), vs = [.ref a, .int (n : Nat)] ∧ OfAt K H a ts ∧ Fair ts ∧ Q (.int (D (cN ts) n : Nat)) H
theorem ok_Offer_drinks_for : FnR P w K mg base CX0 2 (a_Offer_drinks_for K) (spDF K) := by
  refine fnR0 (d := d_Offer_drinks_for) T.F_Offer_drinks_for sc_Offer_drinks_for rfl (fun _ _ _ _ _ _ us hl => match us, hl with | [_, _], _ => rfl) (fun vs H Q E h => ?_) (fun cdv A outer s H vs Q E hr h => ?_)
  · obtain ⟨a, ts, n, rfl, _⟩ := h
    rfl
  obtain ⟨a, ts, n, rfl, ho, hf, k⟩ := h
  obtain ⟨dx, t, p, o, f, g, e1, e2, e3, e4, e5, e6⟩ := ho.ex
  refine ⟨_, (pss_cons (ps_asg (pe_fld (pv 0) rfl) (pg_tup rfl (pgs_cons (pg_name (i := 2) sc_Offer_drinks_for.nd rfl (Or.inl rfl)) (pgs_cons (pg_name (i := 3) sc_Offer_drinks_for.nd rfl (Or.inl rfl)) pgs_nil)))) (pss_one (ps_ret (pe_cR (ok_value_at T) (hr.mono (by decide)) T.F_value_at.kp T.g_value_at pass0 (pa_cons (pe_fld (pv 0) rfl) (pa_cons (pv 1) (pa_cons (pv 2) (pa_cons (pv 3) pa_nil)))))))), ?_⟩
  refine ⟨_, rfl, a, _, dx, _, _, rfl, e1, T.k_Offer, T.na_period, lk_period, p, _, rfl, e3, rfl, _, _, rfl, _, _, rfl, rfl, ?_⟩
  refine ⟨_, rfl, a, _, dx, _, _, rfl, e1, T.k_Offer, T.na_firsts, lk_firsts, _, rfl, _, rfl, _, rfl, f, firstsL ts, n, perB ts, per ts, rfl, e5, by omega, ?_, ?_, ?_, ?_, ?_, ?_⟩
  all_goals have hp := per_le' hf.g
  all_goals have hb := (cf hf).bpos
  all_goals have hB := perB_le hf
  · omega
  · omega
  · omega
  · omega
  · have ht := (cf hf).T_per (d := per ts - 1) (by have := per_pos hf.g; omega)
    have h0 := (cf hf).T_nonneg (per ts - 1)
    have e : per ts - 1 + per ts = 2 * per ts - 1 := by have := per_pos hf.g; omega
    rw [e] at ht
    rw [List.length_map, List.length_range]
    omega
  · rw [value_firsts (cf hf)]
    exact k
def spCall (K : PySem.W.Frag) : Sp := fun vs H Q _ => ∃ (a : Addr) (ts : List Tr) (n : Nat), vs = [.ref a, .int (n : Nat)] ∧ OfAt K H a ts ∧ Fair ts ∧ n ≤ 1000000000000000000 ∧ Q (.int (D (cN ts) n : Nat)) H
theorem ok_Offer_call : FnR P w K mg base CX0 4 (a_Offer_call K) (spCall K) := by
  refine fnR0 (d := d_Offer_call) T.F_Offer_call sc_Offer_call rfl (fun _ _ _ _ _ _ us hl => match us, hl with | [_, _], _ => rfl) (fun vs H Q E h => ?_) (fun cdv A outer s H vs Q E hr h => ?_)
  · obtain ⟨a, ts, n, rfl, _⟩ := h
    rfl
  obtain ⟨a, ts, n, rfl, ho, hf, hn, k⟩ := h
  obtain ⟨dx, t, p, o, f, g, e1, e2, e3, e4, e5, e6⟩ := ho.ex
  refine ⟨_, (pss_cons (ps_expr (pe_cR (ok_check_number T) (hr.mono (by decide)) T.F_check_number.kp T.g_check_number pass0 (pa_cons (pv 1) pa_nil))) (pss_one (ps_ret (pe_methR (pv 0) T.k_Offer T.m_Offer_drinks_for (ok_Offer_drinks_for T) (hr.mono (by decide)) pass0 (pa_cons (pv 1) pa_nil))))), ?_⟩
  refine ⟨_, rfl, n, rfl, by omega, by omega, ?_⟩
  exact ⟨_, rfl, a, dx, _, rfl, e1, lk_no (by decide +kernel), _, rfl, a, ts, n, rfl, ho, hf, k⟩
end
end EB

namespace EB
open PySem PySem.Spec PyProof.Rows L2
section
variable {P : Program} {w : World} {K : PySem.W.Frag} {mg : Str → Option Value} {base : Heap} (T : Tx K mg)
theorem bnd0 {d : DD} {fd : FuncData} {N ps : List Str} (F : FnP K d fd) (S : FnScope N ps (defScope d.st)) (e : d.df = [])
    (b : ∀ (kV doc pm : Value) (an : Option Addr) (cdv ct : Value) (us : List Value), us.length = ps.length → bindArgs (PySem.W.fnOf d.nm d.ql (defArgs d.st) (defBody d.st) (defScope d.st) .none kV doc pm an cdv ct) ⟨us, []⟩ = pure (ps.zip us)) : Binds K fd ps [] := by
  have F2 : FunD K d.nm d.ql (defArgs d.st) (defBody d.st) (defScope d.st) [] [] (d.adr K) fd := by
    have z : FnP K d fd := F
    unfold FnP at z
    rw [e] at z
    exact z
  exact F2.bindsN b
include T
theorem b_Offer_period : Binds K T.fd_Offer_period ["self"] [] := bnd0 T.F_Offer_period sc_Offer_period rfl (fun _ _ _ _ _ _ us hl => match us, hl with | [_], _ => rfl)
def spPeriod (K : PySem.W.Frag) : Sp := fun vs H Q _ => ∃ (a : Addr) (ts : List Tr), vs = [.ref a] ∧ OfAt K H a ts ∧ ∀ p, SqT K H p [.int (perB ts : Nat), .int (per ts : Nat)] → Q (.ref p) H
theorem ok_Offer_period : FnOk P w K mg base CX0 1 (a_Offer_period K) T.fd_Offer_period ["self"] (spPeriod K) := by
  refine fnK0 (d := d_Offer_period) T.F_Offer_period sc_Offer_period (fun vs H Q E h => ?_) (fun cdv A outer s H vs Q E hr h => ?_)
  · obtain ⟨a, ts, rfl, _⟩ := h
    rfl
  obtain ⟨a, ts, rfl, ho, k⟩ := h
  obtain ⟨dx, t, p, o, f, g, e1, e2, e3, e4, e5, e6⟩ := ho.ex
  refine ⟨_, (pss_one (ps_ret (pe_fld (pv 0) rfl))), ?_⟩
  exact ⟨_, rfl, a, _, dx, _, _, rfl, e1, T.k_Offer, T.na_period, lk_period, k _ e3⟩
end
end EB

namespace EB
open PySem PySem.Spec PyProof.Rows L2
section
variable {P : Program} {w : World} {K : PySem.W.Frag} {mg : Str → Option Value} {base : Heap} (T : Tx K mg)
include T
theorem b_Offer_trades : Binds K T.fd_Offer_trades ["self"] [] := bnd0 T.F_Offer_trades sc_Offer_trades rfl (fun _ _ _ _ _ _ us hl => match us, hl with | [_], _ => rfl)
/-- the property trades: the offer's own tuple -/
def spOwn (K : PySem.W.Frag) : Sp := fun vs H Q _ => ∃ (a : Addr) (ts : List Tr), vs = [.ref a] ∧ OfAt K H a ts ∧ ∀ p, TrAt K H p ts → Q (.ref p) H
theorem ok_Offer_trades : FnOk P w K mg base CX0 1 (a_Offer_trades K) T.fd_Offer_trades ["self"] (spOwn K) := by
  refine fnK0 (d := d_Offer_trades) T.F_Offer_trades sc_Offer_trades (fun vs H Q E h => ?_) (fun cdv A outer s H vs Q E hr h => ?_)
  · obtain ⟨a, ts, rfl, _⟩ := h
    rfl
  obtain ⟨a, ts, rfl, ho, k⟩ := h
  obtain ⟨dx, t, p, o, f, g, e1, e2, e3, e4, e5, e6⟩ := ho.ex
  refine ⟨_, (pss_one (ps_ret (pe_fld (pv 0) rfl))), ?_⟩
  exact ⟨_, rfl, a, _, dx, _, _, rfl, e1, T.k_Offer, T.na_trades, lk_trades, k _ e2⟩
theorem b_Offer_kinds : Binds K T.fd_Offer_kinds ["self"] [] := bnd0 T.F_Offer_kinds sc_Offer_kinds rfl (fun _ _ _ _ _ _ us hl => match us, hl with | [_], _ => rfl)
/-- the property kinds: a new tuple -/
def spKinds (K : PySem.W.Frag) : Sp := fun vs H Q _ => ∃ (a : Addr) (ts : List Tr), vs = [.ref a] ∧ OfAt K H a ts ∧ ts.length ≤ 3 ∧ ∀ H' p, Same H H' → SqT K H' p ((ts.map Tr.k).map V.str) → Q (.ref p) H'
theorem ok_Offer_kinds : FnOk P w K mg base CX0 1 (a_Offer_kinds K) T.fd_Offer_kinds ["self"] (spKinds K) := by
  refine fnK0 (d := d_Offer_kinds) T.F_Offer_kinds sc_Offer_kinds (fun vs H Q E h => ?_) (fun cdv A outer s H vs Q E hr h => ?_)
  · obtain ⟨a, ts, rfl, _⟩ := h
    rfl
  obtain ⟨a, ts, rfl, ho, hl, k⟩ := h
  obtain ⟨dx, t, p, o, f, g, e1, e2, e3, e4, e5, e6⟩ := ho.ex
  obtain ⟨ps, h1, h2, h3⟩ := e2.ex
  refine ⟨_, (pss_one (ps_ret (pe_callTy call_tuple_of (by rfl) T.n_tuple (by decide +kernel) (pa_cons (pe_lc (own := [("kind", 1), ("_", 2)]) rfl sc_Offer_kinds.nd (pi_tup (pe_fld (pv 0) rfl)) (blkOk_by (own := [("kind", 1), ("_", 2)]) (N := N_Offer_kinds) (sc := defScope s_Offer_kinds) (by decide +kernel)) (fun _ _ _ _ _ => (pg_tupB (n := 3) (pgs_cons (pg_name (i := 1) sc_Offer_kinds.nd rfl (Or.inl rfl) (.inr rfl)) (pgs_cons (pg_name (i := 2) sc_Offer_kinds.nd rfl (Or.inl rfl) (.inr rfl)) (pgs_cons (pg_name (i := 2) sc_Offer_kinds.nd rfl (Or.inl rfl) (.inr rfl)) pgs_nil))))) (fun _ _ _ _ _ => pts_nil) (fun _ _ _ _ _ => (pv 1))) pa_nil)))), ?_⟩
  refine ⟨_, rfl, a, _, dx, _, _, rfl, e1, T.k_Offer, T.na_trades, lk_trades, t, rfl, ⟨_, h1⟩, fun D hD => ?_⟩
  refine lc_tup (xs := ps.map V.ref) (fun i H2 => Same H H2 ∧ H2 D = some (.lst (((ts.take i).map Tr.k).map V.str))) ⟨same_new hD, upd_same⟩ (fun i H2 _ q => Same.tup q.1 h1) ?_ ?_
  · rintro i x H2 hx ⟨s1, e7⟩
    obtain ⟨pt, u, rfl, ep, et, hm, li, hpt⟩ := TrAt.at_ h2 h3 hx
    refine ⟨pt, _, rfl, Same.tup s1 hpt, rfl, _, _, rfl, _, _, rfl, _, _, rfl, rfl, rfl, ?_⟩
    refine ⟨_, rfl, _, e7, small3 ?_, same_mut s1 hD, ?_⟩
    · rw [List.length_map, List.length_map, List.length_take]
      omega
    · rw [upd_same, take_at et, List.map_append, List.map_append]
      rfl
  · rintro H2 ⟨s1, e7⟩
    rw [List.length_map, h2, List.take_length] at e7
    exact ⟨D, _, rfl, .inl ⟨SqL.of e7, fun q hq => k _ q (s1.trans (same_new hq)) (SqT.of upd_same)⟩⟩
end
end EB

namespace EB
open PySem PySem.Spec PyProof.Rows L2
section
variable {P : Program} {w : World} {K : PySem.W.Frag} {mg : Str → Option Value} {base : Heap} (T : Tx K mg)
include T
/-- offer[kind], the kind is there -/
def spGetO (K : PySem.W.Frag) : Sp := fun vs H Q _ => ∃ (a : Addr) (ts : List Tr) (t : Tr), vs = [.ref a, .str t.k] ∧ OfAt K H a ts ∧ t ∈ ts ∧ (ts.map Tr.k).Nodup ∧ ∀ H' p, Same H H' → SqT K H' p [.int t.l, .int t.n] → Q (.ref p) H'
theorem ok_Offer_getitem : FnR P w K mg base CX0 1 (a_Offer_getitem K) (spGetO K) := by
  refine fnR0 (d := d_Offer_getitem) T.F_Offer_getitem sc_Offer_getitem rfl (fun _ _ _ _ _ _ us hl => match us, hl with | [_, _], _ => rfl) (fun vs H Q E h => ?_) (fun cdv A outer s H vs Q E hr h => ?_)
  · obtain ⟨a, ts, z, rfl, _⟩ := h
    rfl
  obtain ⟨a, ts, u, rfl, ho, hu, hnd, k⟩ := h
  obtain ⟨dx, t, p, o, f, g, e1, e2, e3, e4, e5, e6⟩ := ho.ex
  obtain ⟨ps, h1, h2, h3⟩ := e2.ex
  refine ⟨_, (pss_cons (ps_for PassesOwn.never rfl (pi_tup (pe_fld (pv 0) rfl)) (pg_tup rfl (pgs_cons (pg_name (i := 2) sc_Offer_getitem.nd rfl (Or.inl rfl)) (pgs_cons (pg_name (i := 3) sc_Offer_getitem.nd rfl (Or.inl rfl)) (pgs_cons (pg_name (i := 4) sc_Offer_getitem.nd rfl (Or.inl rfl)) pgs_nil)))) (pss_one (ps_if (pt_cmpR op_eq (pv 2) (pv 1) (nomark _)) (pss_one (ps_ret (pe_tup (pa_cons (pv 3) (pa_cons (pv 4) pa_nil))))) pss_nil))) (pss_one ps_never)), ?_⟩
  refine ⟨_, rfl, a, _, dx, _, _, rfl, e1, T.k_Offer, T.na_trades, lk_trades, t, rfl, ⟨_, h1⟩, for_tup (xs := ps.map V.ref) (fun i σ H1 => H1 = H ∧ (∀ v ∈ ts.take i, v.k ≠ u.k) ∧ ∃ x2 x3 x4, σ = [some (.ref a), some (.str u.k), x2, x3, x4]) ⟨rfl, fun v m => (by cases m), _, _, _, rfl⟩ (fun i σ H1 _ q => by rw [q.1]; exact h1) ?_ ?_⟩
  · rintro i x σ H1 hx ⟨rfl, hn, x2, x3, x4, rfl⟩
    obtain ⟨p, v, rfl, ep, ev, hm, li, hp⟩ := TrAt.at_ h2 h3 hx
    refine ⟨p, _, rfl, hp, rfl, _, _, rfl, _, _, rfl, _, _, rfl, rfl, ?_⟩
    refine ⟨_, rfl, _, rfl, rfl, _, rfl, ite2 (fun hd => ?_) (fun hd => ?_)⟩
    · have hd : v.k = u.k := V.str.inj (of_decide_eq_true hd)
      have e : v = u := by
        obtain ⟨i1, l1, g1⟩ := List.mem_iff_getElem.mp hu
        obtain ⟨i2, l2, g2⟩ := List.mem_iff_getElem.mp hm
        have q := (List.getElem_inj (h₀ := by rw [List.length_map]; exact l2) (h₁ := by rw [List.length_map]; exact l1) hnd).mp (by rw [List.getElem_map, List.getElem_map, g1, g2, hd])
        subst q
        rw [← g1, ← g2]
      subst e
      exact ⟨_, rfl, _, rfl, by show 2 ≤ sizeLine; decide, fun q hq => k _ q (same_new hq) (SqT.of upd_same)⟩
    · have hd : v.k ≠ u.k := fun y => hd (decide_eq_true (by rw [y]))
      refine ⟨rfl, fun v2 m => ?_, _, _, _, rfl⟩
      rw [take_at ev] at m
      rcases List.mem_append.mp m with m | m
      · exact hn v2 m
      · rw [List.mem_singleton.mp m]
        exact hd
  · rintro σ H1 ⟨rfl, hn, x2, x3, x4, rfl⟩
    rw [List.length_map, h2, List.take_length] at hn
    exact hn u hu rfl
end
end EB

namespace EB
theorem fl_sub1 {l n x y : Int} (hn : 0 < n) : l * (x + y) / n ≤ l * x / n + l * y / n + 1 := by
  rw [Int.mul_add]
  have h1 := Int.mul_ediv_add_emod (l * x) n
  have h2 := Int.mul_ediv_add_emod (l * y) n
  have h3 := Int.mul_ediv_add_emod (l * x + l * y) n
  have b1 := Int.emod_lt_of_pos (l * x) hn
  have b2 := Int.emod_lt_of_pos (l * y) hn
  have b3 := Int.emod_nonneg (l * x + l * y) (show n ≠ 0 by omega)
  generalize l * x / n = p at *
  generalize l * y / n = q at *
  generalize (l * x + l * y) / n = r at *
  generalize l * x % n = u at *
  generalize l * y % n = v at *
  generalize (l * x + l * y) % n = z at *
  have : n * r < n * (p + q + 2) := by
    rw [Int.mul_add, Int.mul_add]
    omega
  have := Int.lt_of_mul_lt_mul_left this (by omega)
  omega
theorem buys_sub : ∀ {ts : List Tr} (h : ∀ t ∈ ts, t.ok) (x y : Int), buys ts (x + y) ≤ buys ts x + buys ts y + ts.length
  | [], _, _, _ => by
    show (0 : Int) ≤ 0 + 0 + ((0 : Nat) : Int)
    omega
  | t :: ts, h, x, y => by
    have h1 := buys_sub (ts := ts) (fun t m => h t (List.mem_cons_of_mem _ m)) x y
    have h2 := fl_sub1 (l := t.l) (x := x) (y := y) (tr_pos (h t (List.mem_cons_self ..)))
    show t.l * (x + y) / t.n + buys ts (x + y) ≤ (t.l * x / t.n + buys ts x) + (t.l * y / t.n + buys ts y) + ((ts.length + 1 : Nat) : Int)
    push_cast
    omega
theorem T_three {ts : List Tr} (f : Fair ts) : T (cN ts) (per ts - 1) ≤ perB ts + 2 := by
  have C := cf f
  obtain ⟨j, hj, e⟩ := CF.T_at (cN ts) (per ts - 1)
  have hp := per_pos f.g
  rw [e]
  obtain ⟨k, hk⟩ : ∃ k, per ts = j + k := ⟨per ts - j, by omega⟩
  have h1 := buys_sub f.g.2 (j : Int) (k : Int)
  have h2 := C.ten k
  have h3 : cN ts (per ts) = perB ts := by
    have := C.per 0
    rw [Nat.zero_add, C.zero] at this
    omega
  have h4 := f.g.1
  rw [hk] at h3
  have h5 : ((j + k : Nat) : Int) - buys ts ((j + k : Nat) : Int) = perB ts := h3
  have h6 : (k : Int) ≤ 10 * ((k : Int) - buys ts k) := h2
  show (j : Int) - buys ts j ≤ _
  push_cast at h5
  omega
end EB

namespace EB
/-- the rounds from so many drunk bottles on, with fuel -/
def rnd (c : Nat → Int) (n : Nat) : Nat → Nat → List Int
  | 0, _ => []
  | m + 1, d => if 0 < (n : Int) - c d then ((n : Int) - c d) :: rnd c n m (d + ((n : Int) - c d).toNat) else []
def roundsL (c : Nat → Int) (n : Nat) : List Int := rnd c n (10 * n + 1) 0
namespace CF
variable {c : Nat → Int} {P B : Nat}
/-- so far every number of drinks costs less than there is -/
theorem below (h : CF c P B) {n d : Nat} (q : ∀ j, j < d → c j < n) : d ≤ D c n := by
  apply Nat.le_of_not_lt
  intro z
  have := q _ z
  rw [h.D_cost] at this
  omega
theorem below_next (h : CF c P B) {n d : Nat} (q : ∀ j, j < d → c j < n) (hp : 0 < (n : Int) - c d) : ∀ j, j < d + ((n : Int) - c d).toNat → c j < n := by
  intro j hj
  rcases Nat.lt_or_ge j d with z | z
  · exact q j z
  · have := h.steps d (j - d)
    rw [show d + (j - d) = j from by omega] at this
    omega
/-- bounds behind which so many rounds remain -/
def bnd : Nat → Nat
  | 0 => 60
  | k + 1 => bnd k * 20 / 19
theorem bnd_ge : ∀ k, 60 ≤ bnd k
  | 0 => Nat.le_refl _
  | k + 1 => by
    have := bnd_ge k
    show 60 ≤ bnd k * 20 / 19
    omega
theorem rnd_len (h : CF c P B) {n : Nat} (hlow : ∀ d r, D c n = d + r → (r : Int) ≤ 10 * ((n : Int) - c d) + 30) :
    ∀ (k m d : Nat), (∀ j, j < d → c j < n) → D c n - d ≤ bnd k → (rnd c n m d).length ≤ 61 + k := by
  have tail : ∀ (m d : Nat), (∀ j, j < d → c j < n) → (rnd c n m d).length ≤ D c n - d + 1 := by
    intro m
    induction m with
    | zero => intro d _; exact Nat.zero_le _
    | succ m ih =>
      intro d q
      show (if 0 < (n : Int) - c d then ((n : Int) - c d) :: rnd c n m (d + ((n : Int) - c d).toNat) else []).length ≤ _
      by_cases z : 0 < (n : Int) - c d
      · rw [if_pos z, List.length_cons]
        have q2 := h.below_next q z
        have := ih _ q2
        have := h.below q2
        omega
      · rw [if_neg z]
        exact Nat.zero_le _
  intro k
  induction k with
  | zero =>
    intro m d q hd
    have := tail m d q
    have : bnd 0 = 60 := rfl
    omega
  | succ k ih =>
    intro m d q hd
    cases m with
    | zero => exact Nat.zero_le _
    | succ m =>
      show (if 0 < (n : Int) - c d then ((n : Int) - c d) :: rnd c n m (d + ((n : Int) - c d).toNat) else []).length ≤ _
      by_cases z : 0 < (n : Int) - c d
      · rw [if_pos z, List.length_cons]
        have q2 := h.below_next q z
        have hb := h.below q
        have hb2 := h.below q2
        have h5 := hlow d (D c n - d) (by omega)
        have h6 := bnd_ge k
        have h7 : bnd (k + 1) = bnd k * 20 / 19 := rfl
        have := ih m _ q2 (by omega)
        omega
      · rw [if_neg z]
        exact Nat.zero_le _
theorem bnd_big : 10000000000000000000 ≤ bnd 900 := by decide +kernel
end CF
theorem slow {ts : List Tr} (f : Fair ts) {n d r : Nat} (e : D (cN ts) n = d + r) : (r : Int) ≤ 10 * ((n : Int) - cN ts d) + 30 := by
  have C := cf f
  have h1 := C.D_cost n
  rw [e] at h1
  have h3 : (r : Int) ≤ 10 * ((r : Int) - buys ts r) := C.ten r
  have h2 := buys_sub f.g.2 (d : Int) (r : Int)
  have h4 := f.g.1
  have h5 : ((d + r : Nat) : Int) - buys ts ((d + r : Nat) : Int) = n := h1
  show (r : Int) ≤ 10 * ((n : Int) - ((d : Int) - buys ts d)) + 30
  push_cast at h5
  omega
theorem rounds_len {ts : List Tr} (f : Fair ts) {n : Nat} (hn : n ≤ 1000000000000000000) {m d : Nat} (q : ∀ j, j < d → cN ts j < n) : (rnd (cN ts) n m d).length ≤ 1000 := by
  have C := cf f
  have h1 := C.D_le_ten n
  have := C.rnd_len (n := n) (fun d r e => slow f e) 900 m d q (Nat.le_trans (by omega) CF.bnd_big)
  omega
end EB

namespace EB
open PySem PySem.Spec PyProof.Rows L2
section
variable {P : Program} {w : World} {K : PySem.W.Frag} {mg : Str → Option Value} {base : Heap}
theorem gfnG {d : DD} {fd : FuncData} {N ps : List Str} {k : Nat} {sp : SpG} (F : FnP K d fd) (S : GScope N ps (defScope d.st)) (len : ∀ vs H Q E, sp vs H Q E → vs.length = ps.length)
    (hbody : ∀ (cdv : Value) (A : Around) (outer : List Env) (s : Shared) (H : Hp) (vs : List V) (Q : List V → Hp → Prop) (E : XK) (pn : List (Addr × Obj)), Room k (A.deeper (envOfC d.ql (defScope d.st) s.heap.objs.size (d.adr K) cdv)) → sp vs H Q E →
      ∃ t, GSs (gcxOf P w K mg base N d.ql (defScope d.st) (d.adr K) cdv A outer s H E pn) (defBody d.st) t ∧ t { nx := fun ys _ H' => Q ys H', rt := fun ys v H' => v = .non ∧ Q ys H' } [] (start N vs) H) :
    GFn P w K mg base (k + 1) (d.adr K) fd ps sp := by
  obtain ⟨oc, od, dV, kV, doc, pm, an, cdv, ct, osl, rfl, lk, hcd, _, _⟩ := F.ex
  exact gfn_of lk hcd S len fun A outer s H vs Q E pn hr hsp => hbody cdv A outer s H vs Q E pn hr hsp
theorem bndG {d : DD} {fd : FuncData} {ps : List Str} (F : FnP K d fd) (e : d.df = [])
    (b : ∀ (kV doc pm : Value) (an : Option Addr) (cdv ct : Value) (us : List Value), us.length = ps.length → bindArgs (PySem.W.fnOf d.nm d.ql (defArgs d.st) (defBody d.st) (defScope d.st) .none kV doc pm an cdv ct) ⟨us, []⟩ = pure (ps.zip us)) : Binds K fd ps [] := by
  have F2 : FunD K d.nm d.ql (defArgs d.st) (defBody d.st) (defScope d.st) [] [] (d.adr K) fd := by
    have z : FnP K d fd := F
    unfold FnP at z
    rw [e] at z
    exact z
  exact F2.bindsN b
theorem noStop0 : NoStop K E0 := fun _ _ _ h => False.elim h
theorem passG {X : Cx} : Passes (CX X.prog X.w) X E0 := by
  intro pins σ H s e s' I h
  obtain ⟨a, B, H', cls, d, z1, fl, z2, ub, z3, z4, z5, z6⟩ := h
  first | exact False.elim z1 | exact False.elim z2 | exact False.elim z3 | exact False.elim z4 | exact False.elim z5 | exact False.elim z6
end
end EB

namespace EB
open PySem PySem.Spec PyProof.Rows L2
theorem roundsL_len {ts : List Tr} (f : Fair ts) {n : Nat} (hn : n ≤ 1000000000000000000) : (roundsL (cN ts) n).length ≤ 1000 := rounds_len f hn (fun j q => absurd q (Nat.not_lt_zero _))
/-- how far the rounds have come -/
def RndW (a : Addr) (ts : List Tr) (n : Nat) (H : Hp) : Nat → List V → L2.St → Hp → Prop := fun m ys σ H1 => ∃ (d : Nat) (pre : List Int), Same H H1 ∧ (∀ j, j < d → cN ts j < n) ∧ D (cN ts) n < d + m ∧ ys = pre.map V.int ∧ pre ++ rnd (cN ts) n m d = roundsL (cN ts) n ∧
  σ = [some (.ref a), some (.int (n : Nat)), some (.int (d : Nat)), some (.int ((n : Int) - cN ts d))]
section
variable {P : Program} {w : World} {K : PySem.W.Frag} {mg : Str → Option Value} {base : Heap} (T : Tx K mg)
include T
def spRounds (K : PySem.W.Frag) : SpG := fun vs H Q _ => ∃ (a : Addr) (ts : List Tr) (n : Nat), vs = [.ref a, .int (n : Nat)] ∧ OfAt K H a ts ∧ Fair ts ∧ n ≤ 1000000000000000000 ∧ ∀ H', Same H H' → Q ((roundsL (cN ts) n).map V.int) H'
theorem ok_Offer_rounds : GFn P w K mg base 4 (a_Offer_rounds K) T.fd_Offer_rounds ["self", "bottles"] (spRounds K) := by
  refine gfnG (d := d_Offer_rounds) T.F_Offer_rounds sc_Offer_rounds (fun vs H Q E h => ?_) (fun cdv A outer s H vs Q E pn hr h => ?_)
  · obtain ⟨a, ts, n, rfl, _⟩ := h
    rfl
  obtain ⟨a, ts, n, rfl, ho, hf, hn, k⟩ := h
  obtain ⟨dx, t, p, o, f, g, e1, e2, e3, e4, e5, e6⟩ := ho.ex
  have C := cf hf
  refine ⟨_, (gss_cons (gs_ps (ps_expr (pe_cR (ok_check_number T) (hr.mono (by decide)) T.F_check_number.kp T.g_check_number pass0 (pa_cons (pv 1) pa_nil)))) (gss_cons (gs_ps (ps_set (i := 2) sc_Offer_rounds.nd rfl (Or.inl rfl) pe_int)) (gss_cons (gs_ps (ps_set (i := 3) sc_Offer_rounds.nd rfl (Or.inl rfl) (pv 1))) (gss_cons (gs_while owns_gcx (pt_cmpR op_gt (pv 3) pe_int (nomark _)) (gss_cons (gs_yield (pv 3)) (gss_pss (pss_cons (ps_set (i := 2) sc_Offer_rounds.nd rfl (Or.inl rfl) (pe_op op_add (pv 2) (pv 3))) (pss_one (ps_set (i := 3) sc_Offer_rounds.nd rfl (Or.inl rfl) (pe_op op_sub (pv 1) (pe_cR (ok_cost_of T) (hr.mono (by decide)) T.F_cost_of.kp T.g_cost_of pass0 (pa_cons (pe_fld (pv 0) rfl) (pa_cons (pv 2) pa_nil)))))))))) gss_nil)))), ?_⟩
  refine ⟨_, rfl, n, rfl, by omega, by omega, ?_⟩
  refine ⟨_, rfl, RndW a ts n H, ⟨10 * n + 1, 0, [], Same.refl _, fun j q => absurd q (Nat.not_lt_zero _), by have := C.D_le_ten n; omega, rfl, rfl, ?_⟩, ?_⟩
  · rw [C.zero, Int.sub_zero]
    rfl
  rintro m ys σ H1 ⟨d, pre, s1, hlow, hm, rfl, hpre, rfl⟩
  have hd := C.below hlow
  obtain ⟨m, rfl⟩ : ∃ m', m = m' + 1 := ⟨m - 1, by omega⟩
  have hr2 : rnd (cN ts) n (m + 1) d = if 0 < (n : Int) - cN ts d then ((n : Int) - cN ts d) :: rnd (cN ts) n m (d + ((n : Int) - cN ts d).toNat) else [] := rfl
  refine ⟨_, rfl, _, _, rfl, rfl, _, rfl, ite2 (fun hf0 => ?_) (fun hf0 => ?_)⟩
  · have hf0 : 0 < (n : Int) - cN ts d := of_decide_eq_true hf0
    rw [hr2, if_pos hf0] at hpre
    have hlow2 := C.below_next hlow hf0
    refine ⟨RndW a ts n H m, fun _ _ _ h => ⟨m, Nat.lt_succ_self _, h⟩, ?_, _, rfl, ?_⟩
    · have h1 := roundsL_len hf hn
      rw [← hpre, List.length_append] at h1
      rw [List.length_map]
      exact small3 (by omega)
    refine ⟨_, rfl, _, rfl, _, _, rfl, rfl, ?_⟩
    refine ⟨_, rfl, _, rfl, a, _, dx, _, _, rfl, s1 _ _ e1, T.k_Offer, T.na_trades, lk_trades, ?_⟩
    have ed : (d : Int) + ((n : Int) - cN ts d) = ((d + ((n : Int) - cN ts d).toNat : Nat) : Int) := by omega
    refine ⟨_, rfl, t, ts, _, rfl, e2.mono s1, hf.g, fun H2 s2 => ⟨_, _, rfl, rfl, ?_⟩⟩
    refine ⟨d + ((n : Int) - cN ts d).toNat, pre ++ [(n : Int) - cN ts d], s1.trans s2, hlow2, by omega, by rw [List.map_append]; rfl, by rw [List.append_assoc]; exact hpre, ?_⟩
    show [some (V.ref a), some (V.int (n : Nat)), some (V.int ((d : Int) + ((n : Int) - cN ts d))), some (V.int ((n : Int) - cost ts ((d : Int) + ((n : Int) - cN ts d))))] = _
    rw [ed]
  · have hf0 : ¬ 0 < (n : Int) - cN ts d := fun z => hf0 (decide_eq_true z)
    rw [hr2, if_neg hf0, List.append_nil] at hpre
    rw [hpre]
    exact k _ s1
theorem b_Offer_rounds : Binds K T.fd_Offer_rounds ["self", "bottles"] [] := bndG T.F_Offer_rounds rfl (fun _ _ _ _ _ _ us hl => match us, hl with | [_, _], _ => rfl)
end
end EB

/-! rounds, by segments; trades, keeping the table of generators. -/
namespace EB
open PySem PySem.Spec PyProof.Rows L2 EBG
theorem kv {X : Cx} (i : Nat) {x : Str} {pos : Pos} (hN : X.N[i]? = some x := by rfl) (hv : Vis X.env.scope x := by first | exact Or.inl rfl | exact Or.inr (Or.inl rfl) | exact Or.inr (Or.inr rfl)) (hd : (x == ("__debug__" : Str)) = false := by decide)
    (hcd : (x == ("__classdict__" : Str)) = false := by decide) : KE X (.Name x pos) (tVar i) := k_var hN hv hd hcd
theorem sqT_fz {K : PySem.W.Frag} {H : Hp} {a : Addr} {xs : List V} (h : SqT K H a xs) : SqT K (fz H) a xs := by
  rcases h with (h | ⟨o, h⟩) | h
  · exact .inl (.inl (fz_to h rfl))
  · exact .inl (.inr ⟨o, fz_to h rfl⟩)
  · exact .inr h
theorem TrAt.fz {K : PySem.W.Frag} {H : Hp} {a : Addr} {ts : List Tr} (h : TrAt K H a ts) : TrAt K (fz H) a ts := by
  obtain ⟨ps, h1, h2, h3⟩ := h.ex
  exact ⟨ps, sqT_fz h1, h2, fun i p t a b => sqT_fz (h3 i p t a b)⟩
section
variable {P : Program} {w : World} {K : PySem.W.Frag} {mg : Str → Option Value} {base : Heap}
theorem gfn1G {d : DD} {fd : FuncData} {N ps : List Str} {k : Nat} {sp : SP1} (F : FnP K d fd) (S : GScope N ps (defScope d.st)) (hnc : ∀ n, cellsFrom n (defScope d.st).names [] = []) (len : ∀ vs F Yp Fin E, sp vs F Yp Fin E → vs.length = ps.length)
    (hbody : ∀ (cdv : Value) (A : Around) (outer : List Env) (s : Shared) (F : Hp) (vs : List V) (Yp : List V → V → Hp → Prop) (Fin : List V → Prop) (E : XK) (pn : List (Addr × Obj)), Room k (A.deeper (envOfC d.ql (defScope d.st) s.heap.objs.size (d.adr K) cdv)) → sp vs F Yp Fin E →
      ∃ t, YSs (gx P w K mg base N d.ql (defScope d.st) (d.adr K) cdv outer s F E pn A) (xeG (gx P w K mg base N d.ql (defScope d.st) (d.adr K) cdv outer s F E pn A) E) ⟨F, Yp, Fin, excG (gx P w K mg base N d.ql (defScope d.st) (d.adr K) cdv outer s F E pn A) E⟩ (defBody d.st) t ∧
        t (s, F) { nx := fun ys _ H' => Same F H' ∧ Fin ys, rt := fun ys v H' => v = .non ∧ Same F H' ∧ Fin ys } [] (start N vs) F) : GFn1 P w K mg base (k + 1) (d.adr K) fd ps sp := by
  obtain ⟨oc, od, dV, kV, doc, pm, an, cdv, ct, osl, rfl, lk, hcd, _, _⟩ := F.ex
  exact gfn1_of lk hcd S hnc len fun A outer s H vs Yp Fin E pn hr hsp => hbody cdv A outer s H vs Yp Fin E pn hr hsp
theorem fnKG {d : DD} {fd : FuncData} {N ps : List Str} {k : Nat} {sp : Sp} (F : FnP K d fd) (S : FnScope N ps (defScope d.st)) (len : ∀ vs H Q E, sp vs H Q E → vs.length = ps.length)
    (hbody : ∀ (cdv : Value) (A : Around) (outer : List Env) (s : Shared) (H : Hp) (vs : List V) (Q : VK), Room k (A.deeper (envOfC d.ql (defScope d.st) s.heap.objs.size (d.adr K) cdv)) → sp vs H Q E0 →
      ∃ t, KSs (cxOf CX0 P w K mg base N d.ql (defScope d.st) (d.adr K) cdv A outer s H E0) (defBody d.st) t ∧ t { nx := fun _ H' => Q .non H', rt := Q } (start N vs) H) : FnKp P w K mg base (k + 1) (d.adr K) fd ps sp := by
  obtain ⟨oc, od, dV, kV, doc, pm, an, cdv, ct, osl, rfl, lk, hcd, _, _⟩ := F.ex
  exact fnk_of lk hcd S len fun A outer s H vs Q hr hsp => hbody cdv A outer s H vs Q hr hsp
end
section
variable {P : Program} {w : World} {K : PySem.W.Frag} {mg : Str → Option Value} {base : Heap} (T : Tx K mg)
include T
/-- the offer's own tuple, read while a generator sleeps -/
def spTrK (K : PySem.W.Frag) : Sp := fun vs H Q _ => ∃ (a dx t : Addr) (fs : List (Str × V)), vs = [.ref a] ∧ H a = some (.ins (He.ga K "Offer") dx fs) ∧ fs.lookup ("_trades" : Str) = some (.ref t) ∧ Q (.ref t) H
theorem okK_Offer_trades : FnKp P w K mg base 1 (a_Offer_trades K) T.fd_Offer_trades ["self"] (spTrK K) := by
  refine fnKG (d := d_Offer_trades) T.F_Offer_trades sc_Offer_trades (fun vs H Q E h => ?_) (fun cdv A outer s H vs Q hr h => ?_)
  · obtain ⟨a, dx, t, fs, rfl, _⟩ := h
    rfl
  obtain ⟨a, dx, t, fs, rfl, e1, e2, k⟩ := h
  exact ⟨_, kss_cons (ks_ret (k_fld (kv 0))) kss_nil, _, rfl, a, _, dx, _, _, rfl, e1, T.k_Offer, T.na_trades, e2, k⟩
def RndY (F : Hp) (a : Addr) (ts : List Tr) (n : Nat) : Nat → List V → L2.St → Hp → Prop := fun m ys σ H1 => ∃ (d : Nat) (pre : List Int), Same F H1 ∧ (∀ j, j < d → cN ts j < n) ∧ D (cN ts) n < d + m ∧ ys = pre.map V.int ∧ pre ++ rnd (cN ts) n m d = roundsL (cN ts) n ∧
  σ = [some (.ref a), some (.int (n : Nat)), some (.int (d : Nat)), some (.int ((n : Int) - cN ts d))]
def sp1Rounds (K : PySem.W.Frag) : SP1 := fun vs F Yp Fin _ => ∃ (a dx t : Addr) (fs : List (Str × V)) (ts : List Tr) (n : Nat), vs = [.ref a, .int (n : Nat)] ∧ F a = some (.ins (He.ga K "Offer") dx fs) ∧ fs.lookup ("_trades" : Str) = some (.ref t) ∧ TrAt K F t ts ∧ Fair ts ∧ n ≤ 1000000000000000000 ∧
  (∀ pre (d : Int) post, pre ++ d :: post = roundsL (cN ts) n → ∀ H', Yp (pre.map V.int) (.int d) H') ∧ Fin ((roundsL (cN ts) n).map V.int)
theorem ok1_Offer_rounds : GFn1 P w K mg base 4 (a_Offer_rounds K) T.fd_Offer_rounds ["self", "bottles"] (sp1Rounds K) := by
  refine gfn1G (d := d_Offer_rounds) T.F_Offer_rounds sc_Offer_rounds (fun _ => rfl) (fun vs F Yp Fin E h => ?_) (fun cdv A outer s F vs Yp Fin E pn hr h => ?_)
  · obtain ⟨_, _, _, _, _, _, rfl, _⟩ := h
    rfl
  obtain ⟨a, dx, t, fs, ts, n, rfl, e1, el, e2, hf, hn, hy, hfin⟩ := h
  have C := cf hf
  refine ⟨_, (yss_cons (ys_ps fun a => ps_expr (pe_cR (ok_check_number T) (hr.mono (by decide)) T.F_check_number.kp T.g_check_number pass0 (pa_cons (pv 1) pa_nil))) (yss_cons (ys_ps fun a => ps_set (i := 2) sc_Offer_rounds.nd rfl (Or.inl rfl) pe_int) (yss_cons (ys_ps fun a => ps_set (i := 3) sc_Offer_rounds.nd rfl (Or.inl rfl) (pv 1))
    (yss_cons (ys_while (fun a => ownsG rfl) (fun a => pt_cmpR op_gt (pv 3) pe_int (nomark _)) (yss_cons (ys_yield fun a => pv 3) (yss_pss fun a => pss_cons (ps_set (i := 2) sc_Offer_rounds.nd rfl (Or.inl rfl) (pe_op op_add (pv 2) (pv 3)))
      (pss_one (ps_set (i := 3) sc_Offer_rounds.nd rfl (Or.inl rfl) (pe_op op_sub (pv 1) (pe_cR (ok_cost_of T) (hr.mono (by decide)) T.F_cost_of.kp T.g_cost_of pass0 (pa_cons (pe_fld (pv 0) rfl) (pa_cons (pv 2) pa_nil))))))))) yss_nil)))), ?_⟩
  refine ⟨_, rfl, n, rfl, by omega, by omega, ?_⟩
  refine ⟨_, rfl, RndY F a ts n, ⟨10 * n + 1, 0, [], Same.refl _, fun j q => absurd q (Nat.not_lt_zero _), by have := C.D_le_ten n; omega, rfl, rfl, ?_⟩, ?_⟩
  · rw [C.zero, Int.sub_zero]
    rfl
  rintro m ys σ H1 ⟨d, pre, s1, hlow, hm, rfl, hpre, rfl⟩
  have hd := C.below hlow
  obtain ⟨m, rfl⟩ : ∃ m', m = m' + 1 := ⟨m - 1, by omega⟩
  have hr2 : rnd (cN ts) n (m + 1) d = if 0 < (n : Int) - cN ts d then ((n : Int) - cN ts d) :: rnd (cN ts) n m (d + ((n : Int) - cN ts d).toNat) else [] := rfl
  refine ⟨_, rfl, _, _, rfl, rfl, _, rfl, ite2 (fun hf0 => ?_) (fun hf0 => ?_)⟩
  · have hf0 : 0 < (n : Int) - cN ts d := of_decide_eq_true hf0
    rw [hr2, if_pos hf0] at hpre
    have hlow2 := C.below_next hlow hf0
    refine ⟨RndY F a ts n m, fun _ _ _ h => ⟨m, Nat.lt_succ_self _, h⟩, ?_, _, rfl, s1, hy _ _ _ hpre _, ?_⟩
    · have h1 := roundsL_len hf hn
      rw [← hpre, List.length_append] at h1
      rw [List.length_map]
      exact small3 (by omega)
    have s2 := kg_same s.heap.objs.size F H1
    refine ⟨_, rfl, _, rfl, _, _, rfl, rfl, ?_⟩
    refine ⟨_, rfl, _, rfl, a, _, dx, _, _, rfl, s2 _ _ e1, T.k_Offer, T.na_trades, el, ?_⟩
    have ed : (d : Int) + ((n : Int) - cN ts d) = ((d + ((n : Int) - cN ts d).toNat : Nat) : Int) := by omega
    refine ⟨_, rfl, t, ts, _, rfl, e2.mono s2, hf.g, fun H2 s3 => ⟨_, _, rfl, rfl, ?_⟩⟩
    refine ⟨d + ((n : Int) - cN ts d).toNat, pre ++ [(n : Int) - cN ts d], s2.trans s3, hlow2, by omega, by rw [List.map_append]; rfl, by rw [List.append_assoc]; exact hpre, ?_⟩
    show [some (V.ref a), some (V.int (n : Nat)), some (V.int ((d : Int) + ((n : Int) - cN ts d))), some (V.int ((n : Int) - cost ts ((d : Int) + ((n : Int) - cN ts d))))] = _
    rw [ed]
  · have hf0 : ¬ 0 < (n : Int) - cN ts d := fun z => hf0 (decide_eq_true z)
    rw [hr2, if_neg hf0, List.append_nil] at hpre
    rw [hpre]
    exact ⟨s1, hfin⟩
end
end EB

/-! greedy_steps. -/
namespace EB
open PySem PySem.Spec PyProof.Rows L2 EBG
theorem room_u {k : Nat} {A : Around} (hr : Room k A) : A.units + 1 < cLine := by
  have := hr.un
  omega
theorem k_cS {X : Cx} {x z : Str} {pos : Pos} (hm : ∃ t, X.mg x = some (.str z t)) (hg : Gl X x := by rfl) (hd : (x == ("__debug__" : Str)) = false := by decide) : KE X (.Name x pos) (tC (.str z)) := by
  obtain ⟨t, h⟩ := hm
  exact k_glob hg h ⟨t, rfl⟩ hd
/-! ### the steps, by counting -/
def gCount (t : Tr) (D d : Int) : Int := (t.l * D % t.n + t.l * d) / t.n
def gOne (D d : Int) (t : Tr) : List (Str × Int) := if 0 < gCount t D d then [(t.k, gCount t D d)] else []
def gRound (ts : List Tr) (D d : Int) : List (Str × Int) := ("drink", d) :: ts.flatMap (gOne D d)
def gAll (ts : List Tr) : Int → List Int → List (Str × Int)
  | _, [] => []
  | D, d :: r => gRound ts D d ++ gAll ts (D + d) r
theorem gAll_snoc (ts : List Tr) (d : Int) : ∀ (r : List Int) (D : Int), gAll ts D (r ++ [d]) = gAll ts D r ++ gRound ts (D + r.sum) d
  | [], D => by
    show gRound ts D d ++ [] = [] ++ gRound ts (D + 0) d
    rw [List.append_nil, Int.add_zero]
    rfl
  | e :: r, D => by
    show gRound ts D e ++ gAll ts (D + e) (r ++ [d]) = gRound ts D e ++ gAll ts (D + e) r ++ gRound ts (D + (e :: r).sum) d
    rw [gAll_snoc ts d r (D + e), List.append_assoc, List.sum_cons, Int.add_assoc]
theorem gOne_len (D d : Int) (t : Tr) : (gOne D d t).length ≤ 1 := by
  unfold gOne
  split
  · exact Nat.le_refl _
  · exact Nat.zero_le _
theorem gFlat_len (D d : Int) : ∀ ts : List Tr, (ts.flatMap (gOne D d)).length ≤ ts.length
  | [] => Nat.le_refl _
  | t :: ts => by
    rw [List.flatMap_cons, List.length_append, List.length_cons]
    have h1 := gOne_len D d t
    have h2 := gFlat_len D d ts
    omega
theorem gAll_len {ts : List Tr} (h : ts.length ≤ 3) : ∀ (r : List Int) (D : Int), (gAll ts D r).length ≤ 4 * r.length
  | [], _ => Nat.le_refl _
  | d :: r, D => by
    have h1 := gAll_len h r (D + d)
    have h2 := gFlat_len D d ts
    show (gRound ts D d ++ gAll ts (D + d) r).length ≤ _
    unfold gRound
    rw [List.length_append, List.length_cons, List.length_cons]
    omega
/-! ### the dict of the pieces -/
def PM (f : Str → Int) (ts : List Tr) : List (Key × V) := ts.map fun t => (.inr t.k, .int (f t.k))
theorem PM_val {f : Str → Int} {t : Tr} : ∀ {ts : List Tr}, t ∈ ts → valV (PM f ts) (.inr t.k) = some (.int (f t.k))
  | u :: ts, h => by
    show valV ((Sum.inr u.k, V.int (f u.k)) :: PM f ts) _ = _
    by_cases e : u.k = t.k
    · rw [valV_pos (by rw [e]), e]
    · rw [valV_neg (fun z => e (Sum.inr.inj z))]
      rcases List.mem_cons.mp h with rfl | m
      · exact absurd rfl e
      · exact PM_val m
theorem PM_put {f : Str → Int} {t : Tr} {ts : List Tr} (h : t ∈ ts) (v : Int) : putK (PM f ts) (.inr t.k) (.int v) = PM (fun k => if k = t.k then v else f k) ts := by
  unfold putK
  rw [valV_any, PM_val h, if_pos (by rfl)]
  unfold PM
  rw [List.map_map]
  refine List.map_congr_left fun u _ => ?_
  show (if Sum.inr u.k = Sum.inr t.k then (Sum.inr u.k, V.int v) else (Sum.inr u.k, V.int (f u.k))) = (Sum.inr u.k, V.int (if u.k = t.k then v else f u.k))
  by_cases e : u.k = t.k
  · rw [if_pos (by rw [e]), if_pos e]
  · rw [if_neg (fun z => e (Sum.inr.inj z)), if_neg e]
theorem PM_congr {f g : Str → Int} {ts : List Tr} (h : ∀ t ∈ ts, f t.k = g t.k) : PM f ts = PM g ts := List.map_congr_left fun t m => by rw [h t m]
theorem PM_new {ts : List Tr} (hn : (ts.map Tr.k).Nodup) {i : Nat} {t : Tr} (e : ts[i]? = some t) (f : Str → Int) : putK (PM f (ts.take i)) (.inr t.k) (.int (f t.k)) = PM f (ts.take (i + 1)) := by
  have hnot : valV (PM f (ts.take i)) (.inr t.k) = none := by
    cases q : valV (PM f (ts.take i)) (.inr t.k) with
    | none => rfl
    | some v =>
      exfalso
      have q2 := valV_any (Sum.inr t.k) (PM f (ts.take i))
      rw [q] at q2
      obtain ⟨p, m, e2⟩ := List.any_eq_true.mp (show _ = true from q2)
      obtain ⟨u, mu, rfl⟩ := List.mem_map.mp m
      have ek : u.k = t.k := Sum.inr.inj (of_decide_eq_true e2)
      obtain ⟨j, hj⟩ := List.mem_iff_getElem?.mp mu
      have hji : j < i := by
        have := lt_of_at hj
        rw [List.length_take] at this
        omega
      rw [List.getElem?_take_of_lt hji] at hj
      have h1 : (ts.map Tr.k)[j]? = some t.k := by rw [List.getElem?_map, hj, ← ek]; rfl
      have h2 : (ts.map Tr.k)[i]? = some t.k := by rw [List.getElem?_map, e]; rfl
      have := L2.nodup_ix hn h1 h2
      omega
  unfold putK
  rw [valV_any, hnot, if_neg (by decide), take_at e]
  unfold PM
  rw [List.map_append]
  rfl
/-! ### the list of the steps -/
def StP (H : Hp) (ps : List Addr) (L : List (Str × Int)) : Prop := Paired (fun (q : Addr) (x : Str × Int) => H q = some (.tup [.str x.1, .int x.2])) ps L
structure StA (H : Hp) (S : Addr) (L : List (Str × Int)) : Prop where
  ex : ∃ ps : List Addr, H S = some (.lst (ps.map V.ref)) ∧ StP H ps L
theorem StP.mono {H H' : Hp} {ps : List Addr} {L : List (Str × Int)} (h : StP H ps L) (k : ∀ q xs, H q = some (.tup xs) → H' q = some (.tup xs)) : StP H' ps L := Paired.mapP h fun _ _ e => k _ _ e
theorem StP.snoc {H : Hp} {q : Addr} {x : Str × Int} (e : H q = some (.tup [.str x.1, .int x.2])) : ∀ {ps : List Addr} {L : List (Str × Int)}, StP H ps L → StP H (ps ++ [q]) (L ++ [x])
  | _, _, .nil => .cons e .nil
  | _, _, .cons r t => .cons r (StP.snoc e t)
theorem StA.mono {H H' : Hp} {S : Addr} {L : List (Str × Int)} (s : Same H H') (h : StA H S L) : StA H' S L :=
  let ⟨ps, h1, h2⟩ := h.ex
  ⟨ps, s _ _ h1, h2.mono fun q xs e => s _ _ e⟩
theorem fz_free {H1 H : Hp} {q : Addr} (g : Grow H1 H) (h : H q = none) : fz H1 q = none := g.same.free h
theorem fz_lst {H : Hp} {q : Addr} {xs : List V} (h : H q = some (.lst xs)) : fz H q = none := by
  unfold fz
  rw [h]
  rfl
theorem fz_dK {H : Hp} {q : Addr} {xs : List (Key × V)} (h : H q = some (.dK xs)) : fz H q = none := by
  unfold fz
  rw [h]
  rfl
/-- one step appended -/
theorem ap_step {H0 H3 Hm : Hp} {S q P : Addr} {ps : List Addr} {L : List (Str × Int)} {z : Str} {c : Int} {kvs : List (Key × V)} (hS : H0 S = none) (fS : fz H3 S = none) (s : Same H0 Hm) (g : Grow H3 Hm) (eP : Hm P = some (.dK kvs)) (h1 : Hm S = some (.lst (ps.map V.ref))) (h2 : StP Hm ps L) (hq : Hm q = none) :
    Same H0 (upd (upd Hm q (.tup [.str z, .int c])) S (.lst (ps.map V.ref ++ [V.ref q]))) ∧ Grow H3 (upd (upd Hm q (.tup [.str z, .int c])) S (.lst (ps.map V.ref ++ [V.ref q]))) ∧ upd (upd Hm q (.tup [.str z, .int c])) S (.lst (ps.map V.ref ++ [V.ref q])) P = some (.dK kvs) ∧
      StA (upd (upd Hm q (.tup [.str z, .int c])) S (.lst (ps.map V.ref ++ [V.ref q]))) S (L ++ [(z, c)]) := by
  have nPS : P ≠ S := ne_of eP h1 (by intro z; cases z)
  have nqS : q ≠ S := fun e => by
    rw [e, h1] at hq
    cases hq
  refine ⟨same_mut (s.trans (same_new hq)) hS, (g.upd (fz_free g hq) rfl).upd fS rfl, ?_, ps ++ [q], ?_, StP.snoc ?_ (h2.mono fun r xs e => ?_)⟩
  · rw [upd_ne nPS]
    exact upd_old eP hq
  · rw [upd_same, List.map_append]
    rfl
  · rw [upd_ne nqS, upd_same]
  · rw [upd_ne (ne_of e h1 (by intro z; cases z))]
    exact upd_old e hq
theorem map_int_inj {a b : List Int} (h : a.map V.int = b.map V.int) : a = b := by
  induction a generalizing b with
  | nil =>
    cases b with
    | nil => rfl
    | cons _ _ => cases h
  | cons x a ih =>
    cases b with
    | nil => cases h
    | cons y b =>
      rw [List.map_cons, List.map_cons] at h
      injection h with h1 h2
      injection h1 with h1
      rw [h1, ih h2]
end EB

namespace EB
open PySem PySem.Spec PyProof.Rows L2 EBG
section
variable {P : Program} {w : World} {K : PySem.W.Frag} {mg : Str → Option Value} {base : Heap} (T : Tx K mg)
include T
def spGreedy (K : PySem.W.Frag) : Sp := fun vs H Q _ => ∃ (a : Addr) (ts : List Tr) (n : Nat), vs = [.ref a, .int (n : Nat)] ∧ OfAt K H a ts ∧ Fair ts ∧ nmOk ts ∧ n ≤ 1000000000000000000 ∧
  ∀ H' p, Same H H' → StA H' p (gAll ts 0 (roundsL (cN ts) n)) → Q (.ref p) H'
theorem ok_greedy_steps : FnR P w K mg base CX0 7 (a_greedy_steps K) (spGreedy K) := by
  refine fnR0 (d := d_greedy_steps) T.F_greedy_steps sc_greedy_steps rfl (fun _ _ _ _ _ _ us hl => match us, hl with | [_, _], _ => rfl) (fun vs H Q E h => ?_) (fun cdv A outer s H vs Q E hr h => ?_)
  · obtain ⟨a, ts, n, rfl, _⟩ := h
    rfl
  obtain ⟨a, ts, n, rfl, ho, hf, hnm, hn, k⟩ := h
  obtain ⟨dx, t, p, o, f, g, e1, e2, e3, e4, e5, e6⟩ := ho.ex
  obtain ⟨ps, h1, h2, h3⟩ := e2.ex
  have C := cf hf
  refine ⟨_, (pss_cons (ps_set (i := 2) sc_greedy_steps.nd rfl (Or.inl rfl) (pe_lst pa_nil)) (pss_cons (ps_setDc (i := 4) (own := [("kind", 3)]) rfl sc_greedy_steps.nd rfl rfl (sw_trueD rfl rfl rfl (by decide +kernel)) (pi_tup (pe_prop (pv 0) T.k_Offer T.p_Offer_kinds (ok_Offer_kinds T) (hr.mono (by decide)) (b_Offer_kinds T) .nil pass0 rfl)) (blkOk_by (own := [("kind", 3)]) (N := N_greedy_steps) (sc := defScope s_greedy_steps) (by decide +kernel)) (fun _ _ _ _ _ => (pg_name (i := 3) sc_greedy_steps.nd rfl (Or.inl rfl) (.inr rfl))) (fun _ _ _ _ _ => pts_nil) (fun _ _ _ _ _ => (pv 3)) (fun _ _ _ _ _ => pe_int)) (pss_cons (ps_forG PassesOwn.never rfl (hr.mono (by decide)) (pgen1_meth (pv 0) T.k_Offer T.m_Offer_rounds (ok1_Offer_rounds T) (hr.mono (by decide)) (b_Offer_rounds T) .nil (pa_cons (pv 1) pa_nil)) (kg_name (i := 5) sc_greedy_steps.nd rfl rfl) (kss_cons (ks_expr (k_append (kv 2) (k_tup (ka_cons (k_cS T.c_DRINK) (ka_cons (kv 5) ka_nil))))) (kss_cons (ks_forT PassesOwn.never rfl (k_prop (kv 0) T.k_Offer T.p_Offer_trades (okK_Offer_trades T) (hr.mono (by decide)) (b_Offer_trades T) .nil) (kg_tup (n := 3) rfl (kgs_cons (kg_name (i := 3) sc_greedy_steps.nd rfl rfl) (kgs_cons (kg_name (i := 6) sc_greedy_steps.nd rfl rfl) (kgs_cons (kg_name (i := 7) sc_greedy_steps.nd rfl rfl) kgs_nil)))) (kss_cons (ks_asg (k_divmod (by rfl) T.n_divmod (by decide +kernel) (ka_cons (k_op ko_add (k_dget (room_u hr) (kv 4) (kv 3) (fun _ _ => rfl)) (k_op ko_mul (kv 6) (kv 5))) (ka_cons (kv 7) ka_nil))) (kg_tup (n := 2) rfl (kgs_cons (kg_name (i := 8) sc_greedy_steps.nd rfl rfl) (kgs_cons (kg_dset (room_u hr) (kv 4) (kv 3)) kgs_nil)))) (kss_cons (ks_if (kt_cmp ko_gt (kv 8) k_int (nomark _)) (kss_cons (ks_expr (k_append (kv 2) (k_tup (ka_cons (kv 3) (ka_cons (kv 8) ka_nil))))) kss_nil) kss_nil) kss_nil))) kss_nil))) (pss_one (ps_ret (pv 2)))))), ?_⟩
  refine ⟨Nat.zero_le _, fun S hS => ?_⟩
  have sS : Same H (upd H S (.lst [])) := same_new hS
  refine ⟨_, rfl, a, dx, _, rfl, sS _ _ e1, ⟨a, ts, rfl, ho.mono sS, hf.g.1, fun H2 kp s2 hk => ⟨kp, rfl, ⟨_, hk⟩, fun P hP => ?_⟩⟩⟩
  have sH2 : Same H H2 := sS.trans s2
  have eS2 : H2 S = some (.lst []) := s2 _ _ upd_same
  have nPS : S ≠ P := ne_of_none eS2 hP
  refine dc_tup (xs := (ts.map Tr.k).map V.str) (fun i H3 => Same H2 H3 ∧ H3 P = some (.dK (PM (fun _ => 0) (ts.take i)))) ⟨same_new hP, upd_same⟩ (fun i H3 _ q => Same.tup q.1 hk) ?_ ?_
  · rintro i x H3 hx ⟨s3, q1⟩
    obtain ⟨u, et, rfl⟩ : ∃ u, ts[i]? = some u ∧ x = .str u.k := by
      rw [List.getElem?_map, List.getElem?_map] at hx
      cases e : ts[i]? with
      | none =>
        rw [e] at hx
        cases hx
      | some u =>
        rw [e] at hx
        exact ⟨u, rfl, (Option.some.inj hx).symm⟩
    have hl : (PM (fun _ => 0) (ts.take i)).length ≤ 3 := by
      unfold PM
      rw [List.length_map, List.length_take]
      have := hf.g.1
      omega
    refine ⟨rfl, _, rfl, _, .inr u.k, rfl, q1, small3 (by omega), same_mut s3 hP, ?_⟩
    rw [upd_same, PM_new hnm.1 et (fun _ => 0)]
  rintro H3 ⟨s3, q1⟩
  rw [List.length_map, List.length_map, List.take_length] at q1
  have eS3 : H3 S = some (.lst []) := s3 _ _ eS2
  have fS : fz H3 S = none := fz_lst eS3
  have fP : fz H3 P = none := fz_dK q1
  have hPH : H P = none := sH2.free hP
  have s03 : Same H H3 := sH2.trans s3
  refine ⟨_, rfl, a, dx, _, rfl, s03 _ _ e1, lk_no (by decide +kernel), _, rfl, (fun ys x _ => ∃ (pre : List Int) (d : Int) (post : List Int), ys = pre.map V.int ∧ x = .int d ∧ pre ++ d :: post = roundsL (cN ts) n), (fun ys => ys = (roundsL (cN ts) n).map V.int),
    ⟨a, dx, t, _, ts, n, rfl, fz_to (s03 _ _ e1) rfl, lk_trades, (e2.mono s03).fz, hf, hn, fun pre d post h _ => ⟨pre, d, post, rfl, rfl, h⟩, rfl⟩,
    (fun ys σ' H' => ∃ (pre post : List Int) (f : Str → Int) (x3 x5 x6 x7 x8 : Option V), ys = pre.map V.int ∧ pre ++ post = roundsL (cN ts) n ∧ Same H H' ∧ Grow H3 H' ∧ H' P = some (.dK (PM f ts)) ∧ (∀ t ∈ ts, f t.k = t.l * pre.sum % t.n) ∧ StA H' S (gAll ts 0 pre) ∧
      σ' = [some (.ref a), some (.int (n : Nat)), some (.ref S), x3, some (.ref P), x5, x6, x7, x8]),
    ⟨[], _, fun _ => 0, none, none, none, none, none, rfl, rfl, s03, Grow.refl _, q1, fun t _ => by rw [List.sum_nil, Int.mul_zero, Int.zero_emod], ⟨[], eS3, .nil⟩, rfl⟩, ?_⟩
  rintro ys σ' H' ⟨pre, post, f, x3, x5, x6, x7, x8, rfl, hpre, s', g', eP', hfv, hst, rfl⟩
  refine ⟨g', fun hfin => ?_, fun x Hx hy => ?_⟩
  · have ep := map_int_inj hfin
    rw [ep] at hst
    exact ⟨_, rfl, k _ _ s' hst⟩
  obtain ⟨pre', d, post', ey, rfl, hpre'⟩ := hy
  cases map_int_inj ey
  have sm := mrg_same H' Hx
  have gm : Grow H3 (mrg H' Hx) := g'.mrg
  have hst := hst.mono sm
  have eP' := sm _ _ eP'
  have s' := s'.trans sm
  generalize mrg H' Hx = Hm at sm gm hst eP' s'
  clear sm g'
  have hlr : pre.length ≤ 1000 := by
    have := roundsL_len hf hn
    rw [← hpre', List.length_append] at this
    omega
  have hgl := gAll_len hf.g.1 pre 0
  obtain ⟨qs, hq1, hq2⟩ := hst.ex
  have lqs : qs.length = (gAll ts 0 pre).length := Paired.length hq2
  refine ⟨_, rfl, .inl ⟨rfl, _, SqL.of hq1⟩, _, rfl, by show 2 ≤ sizeLine; decide, fun q hq => ⟨S, _, _, rfl, rfl, upd_old hq1 hq, by rw [List.length_map]; exact small3 (by omega), ?_⟩⟩
  obtain ⟨sa, ga, ea, sta⟩ := ap_step (z := "drink") (c := d) hS fS s' gm eP' hq1 hq2 hq
  generalize upd (upd Hm q (.tup [.str "drink", .int d])) S (.lst (qs.map V.ref ++ [V.ref q])) = Ha at sa ga ea sta
  refine ⟨_, rfl, a, dx, _, rfl, sa _ _ e1, ⟨a, dx, t, _, rfl, sa _ _ e1, lk_trades, t, rfl, ⟨_, Same.tup sa h1⟩, ?_⟩⟩
  refine for_tup (xs := ps.map V.ref) (fun i σ' H' => ∃ (f' : Str → Int) (x3 x6 x7 x8 : Option V), Same H H' ∧ Grow H3 H' ∧ H' P = some (.dK (PM f' ts)) ∧ (∀ (j : Nat) (u : Tr), ts[j]? = some u → f' u.k = if j < i then u.l * (pre.sum + d) % u.n else u.l * pre.sum % u.n) ∧
    StA H' S (gAll ts 0 pre ++ [(("drink" : Str), d)] ++ (ts.take i).flatMap (gOne pre.sum d)) ∧ σ' = [some (.ref a), some (.int (n : Nat)), some (.ref S), x3, some (.ref P), some (.int d), x6, x7, x8]) ?_ ?_ ?_ ?_
  · exact ⟨f, x3, x6, x7, x8, sa, ga, ea, fun j u e => by rw [if_neg (Nat.not_lt_zero _)]; exact hfv u (List.mem_of_getElem? e), by rw [List.take_zero, List.flatMap_nil, List.append_nil]; exact sta, rfl⟩
  · rintro i σ' H' _ ⟨_, _, _, _, _, s1, _⟩
    exact Same.tup s1 h1
  · rintro i x σ' H' hx ⟨f', y3, y6, y7, y8, s1, g1, eP1, hf1, hst1, rfl⟩
    obtain ⟨p, u, rfl, ep, et, hm, li, hp⟩ := TrAt.at_ h2 h3 hx
    have hu := hf.g.2 _ hm
    have hval : f' u.k = u.l * pre.sum % u.n := by
      rw [hf1 i u et, if_neg (Nat.lt_irrefl _)]
    have hlen : (PM f' ts).length ≤ 3 := by
      unfold PM
      rw [List.length_map]
      exact hf.g.1
    refine ⟨p, _, rfl, Same.tup s1 hp, rfl, _, _, rfl, _, _, rfl, _, _, rfl, rfl, ?_⟩
    refine ⟨_, rfl, _, rfl, P, _, rfl, .inl ⟨_, .inr u.k, .inl eP1, rfl, (PM_val hm).symm⟩, _, rfl, _, rfl, _, _, rfl, rfl, .inl ⟨by have := hu.1; omega, by have := hu.2.1; omega⟩, _, _, rfl, rfl, _, rfl, _, _, rfl, ⟨by have := hu.2.2.1; omega, by have := hu.2.2.2; omega⟩, fun q hq => ?_⟩
    rw [hval, show (u.l * pre.sum % u.n + u.l * d) / u.n = gCount u pre.sum d from rfl, Int.emod_add_emod, ← Int.mul_add]
    have nqP : P ≠ q := ne_of_none eP1 hq
    refine ⟨q, _, rfl, SqT.of upd_same, rfl, _, _, rfl, _, _, rfl, _, rfl, _, rfl, P, _, .inr u.k, rfl, upd_old eP1 hq, rfl, small3 (by omega), rfl, ?_⟩
    rw [PM_put hm]
    have hf2 : ∀ (j : Nat) (t' : Tr), ts[j]? = some t' → (if t'.k = u.k then u.l * (pre.sum + d) % u.n else f' t'.k) = if j < i + 1 then t'.l * (pre.sum + d) % t'.n else t'.l * pre.sum % t'.n := fun j t' e => by
      by_cases ek : t'.k = u.k
      · have ej : j = i := L2.nodup_ix hnm.1 (x := u.k) (by rw [List.getElem?_map, e, ← ek]; rfl) (by rw [List.getElem?_map, et]; rfl)
        subst ej
        rw [et] at e
        cases e
        rw [if_pos rfl, if_pos (Nat.lt_succ_self _)]
      · have ej : j ≠ i := fun z => by
          subst z
          rw [et] at e
          cases e
          exact ek rfl
        rw [if_neg ek, hf1 j t' e]
        by_cases hj : j < i
        · rw [if_pos hj, if_pos (by omega)]
        · rw [if_neg hj, if_neg (by omega)]
    have sb : Same H (upd (upd H' q (.tup [.int (gCount u pre.sum d), .int (u.l * (pre.sum + d) % u.n)])) P (.dK (PM (fun k => if k = u.k then u.l * (pre.sum + d) % u.n else f' k) ts))) := same_mut (s1.trans (same_new hq)) hPH
    have gb : Grow H3 (upd (upd H' q (.tup [.int (gCount u pre.sum d), .int (u.l * (pre.sum + d) % u.n)])) P (.dK (PM (fun k => if k = u.k then u.l * (pre.sum + d) % u.n else f' k) ts))) := (g1.upd (fz_free g1 hq) rfl).upd fP rfl
    have eb : (upd (upd H' q (.tup [.int (gCount u pre.sum d), .int (u.l * (pre.sum + d) % u.n)])) P (.dK (PM (fun k => if k = u.k then u.l * (pre.sum + d) % u.n else f' k) ts))) P = some (.dK (PM (fun k => if k = u.k then u.l * (pre.sum + d) % u.n else f' k) ts)) := upd_same
    obtain ⟨rs, r1, r2⟩ := hst1.ex
    have rb1 : (upd (upd H' q (.tup [.int (gCount u pre.sum d), .int (u.l * (pre.sum + d) % u.n)])) P (.dK (PM (fun k => if k = u.k then u.l * (pre.sum + d) % u.n else f' k) ts))) S = some (.lst (rs.map V.ref)) := by
      rw [upd_ne (ne_of r1 eP1 (by intro z; cases z))]
      exact upd_old r1 hq
    have rb2 : StP (upd (upd H' q (.tup [.int (gCount u pre.sum d), .int (u.l * (pre.sum + d) % u.n)])) P (.dK (PM (fun k => if k = u.k then u.l * (pre.sum + d) % u.n else f' k) ts))) rs _ := r2.mono fun r xs e => by
      rw [upd_ne (ne_of e eP1 (by intro z; cases z))]
      exact upd_old e hq
    generalize upd (upd H' q (.tup [.int (gCount u pre.sum d), .int (u.l * (pre.sum + d) % u.n)])) P (.dK (PM (fun k => if k = u.k then u.l * (pre.sum + d) % u.n else f' k) ts)) = Hb at sb gb eb rb1 rb2
    have fl : (ts.take (i + 1)).flatMap (gOne pre.sum d) = (ts.take i).flatMap (gOne pre.sum d) ++ gOne pre.sum d u := by
      rw [take_at et, List.flatMap_append, List.flatMap_cons, List.flatMap_nil, List.append_nil]
    have lrs : rs.length ≤ 5000 := by
      rw [Paired.length r2, List.length_append, List.length_append, List.length_singleton]
      have h1 := gFlat_len pre.sum d (ts.take i)
      rw [List.length_take] at h1
      have := hf.g.1
      omega
    refine ⟨_, rfl, _, _, rfl, rfl, _, rfl, ite2 (fun hc => ?_) (fun hc => ?_)⟩
    · have hc : 0 < gCount u pre.sum d := of_decide_eq_true hc
      refine ⟨_, rfl, .inl ⟨rfl, _, SqL.of rb1⟩, _, rfl, _, rfl, by show 2 ≤ sizeLine; decide, fun q2 hq2 => ⟨S, _, _, rfl, rfl, upd_old rb1 hq2, by rw [List.length_map]; exact small3 (by omega), ?_⟩⟩
      obtain ⟨sc, gc, ec, stc⟩ := ap_step (z := u.k) (c := gCount u pre.sum d) hS fS sb gb eb rb1 rb2 hq2
      refine ⟨_, _, _, _, _, sc, gc, ec, hf2, ?_, rfl⟩
      rw [fl, show gOne pre.sum d u = [(u.k, gCount u pre.sum d)] from if_pos hc, ← List.append_assoc]
      exact stc
    · have hc : ¬ 0 < gCount u pre.sum d := fun z => hc (decide_eq_true z)
      refine ⟨_, _, _, _, _, sb, gb, eb, hf2, ?_, rfl⟩
      rw [fl, show gOne pre.sum d u = [] from if_neg hc, List.append_nil]
      exact ⟨rs, rb1, rb2⟩
  · rintro σ' H' ⟨f', y3, y6, y7, y8, s1, g1, eP1, hf1, hst1, rfl⟩
    rw [List.length_map, h2] at hf1 hst1
    rw [List.take_length] at hst1
    refine ⟨pre ++ [d], post', f', y3, _, y6, y7, y8, by rw [List.map_append]; rfl, by rw [List.append_assoc]; exact hpre', s1, g1, eP1, fun u hu => ?_, ?_, rfl⟩
    · obtain ⟨j, hj⟩ := List.mem_iff_getElem?.mp hu
      rw [hf1 j u hj, if_pos (lt_of_at hj), List.sum_append, List.sum_cons, List.sum_nil, Int.add_zero]
    · rw [gAll_snoc, Int.zero_add]
      unfold gRound
      rw [List.append_assoc] at hst1
      exact hst1
end
end EB

/-! play, where every step is possible. -/
namespace EB
open PySem PySem.Spec PyProof.Rows L2 EBG
/-- a state of play: drinks, bottles, the pieces of each trade -/
structure PS1 where
  d : Int
  b : Int
  f : Tr → Int
def pl1 (s : PS1) (x : Str × Int) : PS1 := if x.1 = ("drink" : Str) then ⟨s.d + x.2, s.b - x.2, fun t => s.f t + t.l * x.2⟩ else ⟨s.d, s.b + x.2, fun t => if t.k = x.1 then s.f t - t.n * x.2 else s.f t⟩
def plPos (ts : List Tr) (s : PS1) (x : Str × Int) : Bool := if numOk x.2 0 1000000000000000000 = true then (if x.1 = ("drink" : Str) then decide (x.2 ≤ s.b) else match ts.find? fun t => decide (t.k = x.1) with
  | some t => decide (x.2 * t.n ≤ s.f t)
  | none => false) else false
/-- the dict of the pieces -/
structure PcAt (H : Hp) (P : Addr) (ts : List Tr) (F : Tr → Int) : Prop where
  ex : ∃ f : Str → Int, (∀ t ∈ ts, f t.k = F t) ∧ H P = some (.dK (PM f ts))
/-- the steps as they are given -/
structure StS (K : PySem.W.Frag) (H : Hp) (S : Addr) (L : List (Str × Int)) : Prop where
  ex : ∃ ps : List Addr, SqL K H S (ps.map V.ref) ∧ ps.length = L.length ∧ ∀ (i : Nat) (p : Addr) (x : Str × Int), ps[i]? = some p → L[i]? = some x → SqT K H p [.str x.1, .int x.2]
theorem StS.mono {K : PySem.W.Frag} {H H' : Hp} {S : Addr} {L : List (Str × Int)} (s : Same H H') (h : StS K H S L) : StS K H' S L := by
  obtain ⟨ps, h1, h2, h3⟩ := h.ex
  exact ⟨ps, s.seq h1, h2, fun i p x a b => Same.tup s (h3 i p x a b)⟩
theorem find_kind {ts : List Tr} {t : Tr} (hn : (ts.map Tr.k).Nodup) (h : t ∈ ts) : (ts.find? fun u => decide (u.k = t.k)) = some t := by
  induction ts with
  | nil => cases h
  | cons u r ih =>
    rw [List.map_cons, List.nodup_cons] at hn
    by_cases e : u.k = t.k
    · rw [List.find?_cons_of_pos (by rw [e]; exact decide_eq_true rfl)]
      rcases List.mem_cons.mp h with rfl | m
      · rfl
      · exact absurd (List.mem_map.mpr ⟨t, m, e.symm⟩) hn.1
    · rw [List.find?_cons_of_neg (by rw [decide_eq_false e]; exact Bool.false_ne_true)]
      rcases List.mem_cons.mp h with rfl | m
      · exact absurd rfl e
      · exact ih hn.2 m
theorem find_none {ts : List Tr} {z : Str} (h : z ∉ ts.map Tr.k) : (ts.find? fun u => decide (u.k = z)) = none := List.find?_eq_none.mpr fun u m e => h (List.mem_map.mpr ⟨u, m, of_decide_eq_true e⟩)
theorem PM_not {f : Str → Int} {z : Str} : ∀ {ts : List Tr}, z ∉ ts.map Tr.k → valV (PM f ts) (.inr z) = none
  | [], _ => rfl
  | u :: ts, h => by
    show valV ((Sum.inr u.k, V.int (f u.k)) :: PM f ts) _ = _
    rw [List.map_cons] at h
    rw [valV_neg (fun e => h (by rw [← Sum.inr.inj e]; exact List.mem_cons_self ..))]
    exact PM_not fun m => h (List.mem_cons_of_mem _ m)
section
variable {P : Program} {w : World} {K : PySem.W.Frag} {mg : Str → Option Value} {base : Heap} (T : Tx K mg)
include T
def spPoss (K : PySem.W.Frag) : Sp := fun vs H Q _ => ∃ (a D st : Addr) (ts : List Tr) (s : PS1) (x : Str × Int), vs = [.ref a, .int s.b, .ref D, .ref st] ∧ OfAt K H a ts ∧ Fair ts ∧ nmOk ts ∧ PcAt H D ts s.f ∧ SqT K H st [.str x.1, .int x.2] ∧ ∀ H', Same H H' → Q (.bl (plPos ts s x)) H'
theorem ok_is_possible : FnR P w K mg base CX0 5 (a_is_possible K) (spPoss K) := by
  refine fnR0 (d := d_is_possible) T.F_is_possible sc_is_possible rfl (fun _ _ _ _ _ _ us hl => match us, hl with | [_, _, _, _], _ => rfl) (fun vs H Q E h => ?_) (fun cdv A outer s H vs Q E hr h => ?_)
  · obtain ⟨a, D, st, ts, s, x, rfl, _⟩ := h
    rfl
  obtain ⟨a, D, st, ts, s0, x, rfl, ho, hf, hnm, hp, hx, k⟩ := h
  obtain ⟨f, hfv, hD⟩ := hp.ex
  refine ⟨_, (pss_cons (ps_asg (pv 3) (pg_tup rfl (pgs_cons (pg_name (i := 4) sc_is_possible.nd rfl (Or.inl rfl)) (pgs_cons (pg_name (i := 5) sc_is_possible.nd rfl (Or.inl rfl)) pgs_nil)))) (pss_cons (ps_if (pt_not (pt_val (pe_cR (ok_is_number T) (hr.mono (by decide)) T.F_is_number.kp T.g_is_number pass0 (pa_cons (pv 5) (pa_cons pe_int (pa_cons (pe_cI T.c_MAX_NUMBER) pa_nil)))))) (pss_one (ps_ret pe_bl)) pss_nil) (pss_cons (ps_if (pt_cmpR op_eq (pv 4) (pe_cS T.c_DRINK) (nomark _)) (pss_one (ps_ret (pe_cmpR op_le (pv 5) (pv 1) (nomark _)))) pss_nil) (pss_one (ps_ret (pe_and (pe_cmp (pc_din (hu_of hr) (pv 4) (pv 2)) rfl) (pe_one (pe_cmpR op_le (pe_op op_mul (pv 5) (pe_ix ix_tup (pe_ixO T.m_Offer_getitem.at_ T.fi_Offer_getitem T.m_Offer_getitem.fn (ok_Offer_getitem T) (hr.mono (by decide)) pass0 (pv 0) (pv 4)) pe_int (fun _ _ => rfl))) (pe_dget (hu_of hr) (pv 2) (pv 4) (fun _ _ => rfl)) (nomark _))))))))), ?_⟩
  refine ⟨_, rfl, st, _, rfl, hx, rfl, _, _, rfl, _, _, rfl, rfl, ?_⟩
  refine ⟨_, rfl, x.2, 0, 1000000000000000000, rfl, _, rfl, ite2 (fun hc => ?_) (fun hc => ?_)⟩
  · have hc : numOk x.2 0 1000000000000000000 = false := by simpa using hc
    have e : plPos ts s0 x = false := by
      unfold plPos
      rw [hc]
      rfl
    have q := k H (Same.refl _)
    rw [e] at q
    exact q
  have hc : numOk x.2 0 1000000000000000000 = true := by simpa using hc
  refine ⟨_, rfl, rfl, _, rfl, ite2 (fun hd => ?_) (fun hd => ?_)⟩
  · have hd : x.1 = ("drink" : Str) := V.str.inj (of_decide_eq_true hd)
    have e : plPos ts s0 x = decide (x.2 ≤ s0.b) := by
      unfold plPos
      rw [if_pos hc, if_pos hd]
    have q := k H (Same.refl _)
    rw [e] at q
    exact ⟨_, rfl, _, rfl, _, _, rfl, rfl, q⟩
  have hd : ¬ x.1 = ("drink" : Str) := fun y => hd (decide_eq_true (by rw [y]))
  by_cases hm : x.1 ∈ ts.map Tr.k
  · obtain ⟨u, hu, eu⟩ := List.mem_map.mp hm
    have e : plPos ts s0 x = decide (x.2 * u.n ≤ s0.f u) := by
      unfold plPos
      rw [if_pos hc, if_neg hd, ← eu, find_kind hnm.1 hu]
    have ht := hf.g.2 u hu
    have hval : valV (PM f ts) (.inr x.1) = some (.int (s0.f u)) := by
      rw [← eu, PM_val hu, hfv u hu]
    refine ⟨_, rfl, _, rfl, D, _, rfl, .inl ⟨_, .inr x.1, .inl hD, rfl, rfl⟩, _, rfl, ?_⟩
    rw [hval]
    refine iteT ?_
    refine ⟨_, rfl, _, rfl, _, rfl, a, _, _, rfl, ho.ex.choose_spec.choose_spec.choose_spec.choose_spec.choose_spec.choose_spec.1, ⟨a, ts, u, by rw [eu], ho, hu, hnm.1, fun H1 p s1 hp => ?_⟩⟩
    have q := k H1 s1
    rw [e] at q
    exact ⟨p, _, _, _, rfl, rfl, hp, rfl, _, _, rfl, rfl, .inr ⟨by have := ht.2.2.1; omega, by have := ht.2.2.2; omega⟩, _, rfl, _, rfl, D, _, rfl, .inl ⟨_, .inr x.1, .inl (s1 _ _ hD), rfl, hval.symm⟩, _, _, rfl, rfl, q⟩
  · have e : plPos ts s0 x = false := by
      unfold plPos
      rw [if_pos hc, if_neg hd, find_none hm]
    have q := k H (Same.refl _)
    rw [e] at q
    refine ⟨_, rfl, _, rfl, D, _, rfl, .inl ⟨_, .inr x.1, .inl hD, rfl, rfl⟩, _, rfl, ?_⟩
    rw [PM_not hm]
    exact iteF q
omit T in
theorem sqT_updK {H : Hp} {a D : Addr} {xs : List V} {kvs : List (Key × V)} {o : HO} (e : H D = some (.dK kvs)) (h : SqT K H a xs) : SqT K (upd H D o) a xs := by
  rcases h with (h | ⟨u, h⟩) | h
  · exact .inl (.inl ((upd_ne (ne_of h e (by intro z; cases z))).trans h))
  · exact .inl (.inr ⟨u, (upd_ne (ne_of h e (by intro z; cases z))).trans h⟩)
  · exact .inr h
/-- the state behind so many steps -/
def plRun (b : Int) (L : List (Str × Int)) : PS1 := L.foldl pl1 ⟨0, b, fun _ => 0⟩
omit T in
theorem plRun_snoc {b : Int} {L : List (Str × Int)} {i : Nat} {x : Str × Int} (e : L[i]? = some x) : plRun b (L.take (i + 1)) = pl1 (plRun b (L.take i)) x := by
  unfold plRun
  rw [take_at e, List.foldl_append]
  rfl
def spPlay (K : PySem.W.Frag) : Sp := fun vs H Q _ => ∃ (a S : Addr) (ts : List Tr) (n : Nat) (L : List (Str × Int)), vs = [.ref a, .int (n : Nat), .ref S] ∧ OfAt K H a ts ∧ Fair ts ∧ nmOk ts ∧ n ≤ 1000000000000000000 ∧ StS K H S L ∧ L.length ≤ 100000 ∧
  (∀ (i : Nat) (x : Str × Int), L[i]? = some x → plPos ts (plRun n (L.take i)) x = true) ∧
  ∀ H' p r, Same H H' → PcAt H' r ts (plRun n L).f → H r = none → SqT K H' p [.int (plRun n L).d, .int (plRun n L).b, .ref r] → Q (.ref p) H'
theorem ok_play : FnR P w K mg base CX0 7 (a_play K) (spPlay K) := by
  refine fnR0 (d := d_play) T.F_play sc_play rfl (fun _ _ _ _ _ _ us hl => match us, hl with | [_, _, _], _ => rfl) (fun vs H Q E h => ?_) (fun cdv A outer s H vs Q E hr h => ?_)
  · obtain ⟨a, S, ts, n, L, rfl, _⟩ := h
    rfl
  obtain ⟨a, S, ts, n, L, rfl, ho, hf, hnm, hn, hS, hL, hpos, k⟩ := h
  obtain ⟨dx, t, p, o, f, g, e1, e2, e3, e4, e5, e6⟩ := ho.ex
  obtain ⟨ps, h1, h2, h3⟩ := e2.ex
  obtain ⟨qs, j1, j2, j3⟩ := hS.ex
  refine ⟨_, (pss_cons (ps_expr (pe_cR (ok_check_number T) (hr.mono (by decide)) T.F_check_number.kp T.g_check_number pass0 (pa_cons (pv 1) pa_nil))) (pss_cons (ps_set (i := 3) sc_play.nd rfl (Or.inl rfl) pe_int) (pss_cons (ps_setDc (i := 5) (own := [("kind", 4)]) rfl sc_play.nd rfl rfl (sw_trueD rfl rfl rfl (by decide +kernel)) (pi_tup (pe_prop (pv 0) T.k_Offer T.p_Offer_kinds (ok_Offer_kinds T) (hr.mono (by decide)) (b_Offer_kinds T) .nil pass0 rfl)) (blkOk_by (own := [("kind", 4)]) (N := N_play) (sc := defScope s_play) (by decide +kernel)) (fun _ _ _ _ _ => (pg_name (i := 4) sc_play.nd rfl (Or.inl rfl) (.inr rfl))) (fun _ _ _ _ _ => pts_nil) (fun _ _ _ _ _ => (pv 4)) (fun _ _ _ _ _ => pe_int)) (pss_cons (ps_for PassesOwn.never rfl (pi_enum (by rfl) T.n_enumerate (pa_cons (pv 2) pa_nil)) (pg_tup rfl (pgs_cons (pg_name (i := 6) sc_play.nd rfl (Or.inl rfl)) (pgs_cons (pg_tup rfl (pgs_cons (pg_name (i := 7) sc_play.nd rfl (Or.inl rfl)) (pgs_cons (pg_name (i := 8) sc_play.nd rfl (Or.inl rfl)) pgs_nil))) pgs_nil))) (pss_cons (ps_if (pt_not (pt_val (pe_cR (ok_is_possible T) (hr.mono (by decide)) T.F_is_possible.kp T.g_is_possible pass0 (pa_cons (pv 0) (pa_cons (pv 1) (pa_cons (pv 5) (pa_cons (pe_tup (pa_cons (pv 7) (pa_cons (pv 8) pa_nil))) pa_nil))))))) (pss_one ps_never) pss_nil) (pss_one (ps_if (pt_cmpR op_eq (pv 7) (pe_cS T.c_DRINK) (nomark _)) (pss_cons (ps_set (i := 3) sc_play.nd rfl (Or.inl rfl) (pe_op op_add (pv 3) (pv 8))) (pss_cons (ps_set (i := 1) sc_play.nd rfl (Or.inl rfl) (pe_op op_sub (pv 1) (pv 8))) (pss_one (ps_for PassesOwn.never rfl (pi_tup (pe_prop (pv 0) T.k_Offer T.p_Offer_trades (ok_Offer_trades T) (hr.mono (by decide)) (b_Offer_trades T) .nil pass0 rfl)) (pg_tup rfl (pgs_cons (pg_name (i := 4) sc_play.nd rfl (Or.inl rfl)) (pgs_cons (pg_name (i := 9) sc_play.nd rfl (Or.inl rfl)) (pgs_cons (pg_name (i := 10) sc_play.nd rfl (Or.inl rfl)) pgs_nil)))) (pss_one (ps_daug (hu_of hr) (pv 5) (pv 4) (pe_op op_mul (pv 9) (pv 8)) in_add (fun _ _ _ => rfl))))))) (pss_cons (ps_set (i := 1) sc_play.nd rfl (Or.inl rfl) (pe_op op_add (pv 1) (pv 8))) (pss_one (ps_daug (hu_of hr) (pv 5) (pv 7) (pe_op op_mul (pe_ix ix_tup (pe_ixO T.m_Offer_getitem.at_ T.fi_Offer_getitem T.m_Offer_getitem.fn (ok_Offer_getitem T) (hr.mono (by decide)) pass0 (pv 0) (pv 7)) pe_int (fun _ _ => rfl)) (pv 8)) in_sub (fun _ _ _ => rfl)))))))) (pss_one (ps_ret (pe_tup (pa_cons (pv 3) (pa_cons (pv 1) (pa_cons (pv 5) pa_nil)))))))))), ?_⟩
  refine ⟨_, rfl, n, rfl, by omega, by omega, ?_⟩
  refine ⟨_, rfl, a, dx, _, rfl, e1, ⟨a, ts, rfl, ho, hf.g.1, fun H2 kp s2 hk => ⟨kp, rfl, ⟨_, hk⟩, fun D hD => ?_⟩⟩⟩
  have hDH : H D = none := s2.free hD
  refine dc_tup (xs := (ts.map Tr.k).map V.str) (fun i H3 => Same H2 H3 ∧ H3 D = some (.dK (PM (fun _ => 0) (ts.take i)))) ⟨same_new hD, upd_same⟩ (fun i H3 _ q => Same.tup q.1 hk) ?_ ?_
  · rintro i x H3 hx ⟨s3, q1⟩
    obtain ⟨u, et, rfl⟩ : ∃ u, ts[i]? = some u ∧ x = .str u.k := by
      rw [List.getElem?_map, List.getElem?_map] at hx
      cases e : ts[i]? with
      | none =>
        rw [e] at hx
        cases hx
      | some u =>
        rw [e] at hx
        exact ⟨u, rfl, (Option.some.inj hx).symm⟩
    have hl : (PM (fun _ => 0) (ts.take i)).length ≤ 3 := by
      unfold PM
      rw [List.length_map, List.length_take]
      have := hf.g.1
      omega
    refine ⟨rfl, _, rfl, _, .inr u.k, rfl, q1, small3 (by omega), same_mut s3 hD, ?_⟩
    rw [upd_same, PM_new hnm.1 et (fun _ => 0)]
  rintro H3 ⟨s3, q1⟩
  rw [List.length_map, List.length_map, List.take_length] at q1
  have s03 : Same H H3 := s2.trans s3
  refine ⟨_, rfl, S, _, rfl, s03.seq j1, for_it (walk_enum (K := K) (a := S) (xs := qs.map V.ref)) (fun i σ' H' => Same H H' ∧ PcAt H' D ts (plRun n (L.take i)).f ∧ ∃ x4 x6 x7 x8 x9 x10, σ' = [some (.ref a), some (.int (plRun n (L.take i)).b), some (.ref S), some (.int (plRun n (L.take i)).d), x4, some (.ref D), x6, x7, x8, x9, x10])
    ⟨s03, ⟨fun _ => 0, fun _ _ => rfl, q1⟩, _, _, _, _, _, _, rfl⟩ (fun i σ' H' _ q => q.1.seq j1) ?_ ?_⟩
  · rintro i x σ' H' H5 hi ⟨s', hpc, x4, x6, x7, x8, x9, x10, rfl⟩ ⟨q, u, v, rfl, nq, rfl, eu, ev⟩
    cases eu
    rw [List.length_map] at hi
    have hiL : i < L.length := by omega
    have el : L[i]? = some L[i] := List.getElem?_eq_getElem hiL
    have eq : qs[i]? = some qs[i] := List.getElem?_eq_getElem hi
    obtain rfl : v = .ref qs[i] := by
      have ev : (qs.map V.ref)[i]? = some v := ev
      rw [List.getElem?_map, eq] at ev
      exact (Option.some.inj ev).symm
    have hst := j3 i _ _ eq el
    have hp1 := hpos i _ el
    have hrun := plRun_snoc (b := n) el
    generalize L[i] = x at el hst hp1 hrun
    generalize qs[i] = sp at eq ev hst
    have hm : ∀ {o : HO}, upd H' q o D = H' D := fun {o} => upd_ne (fun z => by
      obtain ⟨_, _, e⟩ := hpc.ex
      rw [z, nq] at e
      cases e)
    generalize plRun n (L.take i) = s0 at hpc hp1 hrun
    have s5 : Same H (upd H' q (.tup [.int (i : Nat), .ref sp])) := s'.trans (same_new nq)
    have pc5 : PcAt (upd H' q (.tup [.int (i : Nat), .ref sp])) D ts s0.f := by
      obtain ⟨f, f1, f2⟩ := hpc.ex
      exact ⟨f, f1, hm.trans f2⟩
    refine ⟨q, _, rfl, SqT.of upd_same, rfl, _, _, rfl, _, _, rfl, ⟨sp, _, rfl, Same.tup s5 hst, rfl, _, _, rfl, _, _, rfl, rfl, rfl, ?_⟩⟩
    generalize upd H' q (.tup [.int (i : Nat), .ref sp]) = H6 at s5 pc5
    refine ⟨_, rfl, _, rfl, _, rfl, _, rfl, _, rfl, by show 2 ≤ sizeLine; decide, fun y hy => ⟨a, D, y, ts, s0, x, rfl, ho.mono (s5.trans (same_new hy)), hf, hnm, ?_, SqT.of upd_same, fun H7 s7 => ⟨_, rfl, ?_⟩⟩⟩
    · obtain ⟨f, f1, f2⟩ := pc5.ex
      exact ⟨f, f1, upd_old f2 hy⟩
    rw [hp1]
    refine iteF ?_
    have s67 : Same H H7 := s5.trans ((same_new hy).trans s7)
    obtain ⟨f, f1, f2⟩ := pc5.ex
    have f7 : H7 D = some (.dK (PM f ts)) := s7 _ _ (upd_old f2 hy)
    refine ⟨_, rfl, rfl, _, rfl, ite2 (fun hd => ?_) (fun hd => ?_)⟩
    · have hd : x.1 = ("drink" : Str) := V.str.inj (of_decide_eq_true hd)
      have hr2 : pl1 s0 x = ⟨s0.d + x.2, s0.b - x.2, fun t => s0.f t + t.l * x.2⟩ := if_pos hd
      rw [hr2] at hrun
      refine ⟨_, rfl, _, rfl, _, _, rfl, rfl, _, rfl, _, rfl, _, _, rfl, rfl, ?_⟩
      refine ⟨_, rfl, a, dx, _, rfl, s67 _ _ e1, ⟨a, ts, rfl, ho.mono s67, fun tp htp => ?_⟩⟩
      obtain ⟨ps2, g1, g2, g3⟩ := htp.ex
      refine ⟨tp, rfl, ⟨_, g1⟩, for_tup (xs := ps2.map V.ref) (fun j σ' H' => ∃ (f' : Str → Int) (y4 y9 y10 : Option V), Same H H' ∧ SqT K H' tp (ps2.map V.ref) ∧ (∀ (i : Nat) (p : Addr) (t : Tr), ps2[i]? = some p → ts[i]? = some t → SqT K H' p t.vs) ∧ H' D = some (.dK (PM f' ts)) ∧
        (∀ (l : Nat) (u : Tr), ts[l]? = some u → f' u.k = if l < j then s0.f u + u.l * x.2 else s0.f u) ∧ σ' = [some (.ref a), some (.int (s0.b - x.2)), some (.ref S), some (.int (s0.d + x.2)), y4, some (.ref D), some (.int (i : Nat)), some (.str x.1), some (.int x.2), y9, y10]) ?_ ?_ ?_ ?_⟩
      · exact ⟨f, _, _, _, s67, g1, g3, f7, fun l u e => by rw [if_neg (Nat.not_lt_zero _)]; exact f1 u (List.mem_of_getElem? e), rfl⟩
      · rintro j σ' H' _ ⟨_, _, _, _, _, q, _⟩
        exact q
      · rintro j v σ' H' hv ⟨f', y4, y9, y10, s8, k1, k2, k3, k4, rfl⟩
        obtain ⟨p, u, rfl, ep, et, hm, li, hp⟩ := TrAt.at_ g2 k2 hv
        have hu := hf.g.2 _ hm
        have hval : f' u.k = s0.f u := by
          rw [k4 j u et, if_neg (Nat.lt_irrefl _)]
        have hlen : (PM f' ts).length ≤ 3 := by
          unfold PM
          rw [List.length_map]
          exact hf.g.1
        refine ⟨p, _, rfl, hp, rfl, _, _, rfl, _, _, rfl, _, _, rfl, rfl, ?_⟩
        refine ⟨_, rfl, _, rfl, D, _, rfl, .inl ⟨_, .inr u.k, .inl k3, rfl, (PM_val hm).symm⟩, _, rfl, _, rfl, _, _, rfl, rfl, .inl ⟨by have := hu.1; omega, by have := hu.2.1; omega⟩, _, _, rfl, rfl, _, .inl ⟨_, .inr u.k, k3, rfl, small3 (by omega), rfl⟩, ?_⟩
        rw [hval, PM_put hm]
        refine ⟨_, _, _, _, same_mut s8 hDH, sqT_updK k3 k1, fun i p t a b => sqT_updK k3 (k2 i p t a b), upd_same, fun l t' e => ?_, rfl⟩
        show (if t'.k = u.k then s0.f u + u.l * x.2 else f' t'.k) = _
        by_cases ek : t'.k = u.k
        · have ej : l = j := L2.nodup_ix hnm.1 (x := u.k) (by rw [List.getElem?_map, e, ← ek]; rfl) (by rw [List.getElem?_map, et]; rfl)
          subst ej
          rw [et] at e
          cases e
          rw [if_pos rfl, if_pos (Nat.lt_succ_self _)]
        · have ej : l ≠ j := fun z => by
            subst z
            rw [et] at e
            cases e
            exact ek rfl
          rw [if_neg ek, k4 l t' e]
          by_cases hj : l < j
          · rw [if_pos hj, if_pos (by omega)]
          · rw [if_neg hj, if_neg (by omega)]
      · rintro σ' H' ⟨f', y4, y9, y10, s8, k1, k2, k3, k4, rfl⟩
        rw [List.length_map, g2] at k4
        have hpc2 : PcAt H' D ts (plRun n (L.take (i + 1))).f := by
          rw [hrun]
          refine ⟨f', fun t ht => ?_, k3⟩
          obtain ⟨l, hl⟩ := List.mem_iff_getElem?.mp ht
          rw [k4 l t hl, if_pos (lt_of_at hl)]
        refine ⟨s8, hpc2, y4, some (.int (i : Nat)), some (.str x.1), some (.int x.2), y9, y10, ?_⟩
        rw [hrun]
    · have hd : ¬ x.1 = ("drink" : Str) := fun y => hd (decide_eq_true (by rw [y]))
      have hr2 : pl1 s0 x = ⟨s0.d, s0.b + x.2, fun t => if t.k = x.1 then s0.f t - t.n * x.2 else s0.f t⟩ := if_neg hd
      rw [hr2] at hrun
      obtain ⟨u, hu, eu⟩ : ∃ u ∈ ts, u.k = x.1 := by
        refine Classical.byContradiction fun z => ?_
        have hn : x.1 ∉ ts.map Tr.k := fun m => by
          obtain ⟨u, hu, eu⟩ := List.mem_map.mp m
          exact z ⟨u, hu, eu⟩
        unfold plPos at hp1
        rw [if_neg hd, find_none hn] at hp1
        simp at hp1
      have hou := hf.g.2 _ hu
      have hval : valV (PM f ts) (.inr x.1) = some (.int (s0.f u)) := by
        rw [← eu, PM_val hu, f1 u hu]
      have hlen : (PM f ts).length ≤ 3 := by
        unfold PM
        rw [List.length_map]
        exact hf.g.1
      refine ⟨_, rfl, _, rfl, _, _, rfl, rfl, ?_⟩
      refine ⟨_, rfl, _, rfl, D, _, rfl, .inl ⟨_, .inr x.1, .inl f7, rfl, hval.symm⟩, _, rfl, _, rfl, a, _, _, rfl, s67 _ _ e1, ⟨a, ts, u, by rw [eu], ho.mono s67, hu, hnm.1, fun H8 p8 s8 hp8 => ?_⟩⟩
      have f8 := s8 _ _ f7
      refine ⟨p8, _, _, _, rfl, rfl, hp8, rfl, _, rfl, _, _, rfl, rfl, .inl ⟨by have := hou.2.2.1; omega, by have := hou.2.2.2; omega⟩, _, _, rfl, rfl, _, .inl ⟨_, .inr x.1, f8, rfl, small3 (by omega), rfl⟩, ?_⟩
      rw [← eu, PM_put hu]
      have hfin : ∀ H9 : Hp, H9 D = some (.dK (PM (fun k => if k = u.k then s0.f u - u.n * x.2 else f k) ts)) → PcAt H9 D ts (plRun n (L.take (i + 1))).f := fun H9 e9 => by
        rw [hrun]
        refine ⟨_, fun t ht => ?_, e9⟩
        show (if t.k = u.k then s0.f u - u.n * x.2 else f t.k) = if t.k = x.1 then s0.f t - t.n * x.2 else s0.f t
        rw [← eu]
        by_cases ek : t.k = u.k
        · have et : t = u := by
            have q1 := find_kind hnm.1 ht
            rw [ek, find_kind hnm.1 hu] at q1
            exact (Option.some.inj q1).symm
          subst et
          rw [if_pos rfl, if_pos rfl]
        · rw [if_neg ek, if_neg ek]
          exact f1 t ht
      refine ⟨same_mut (s67.trans s8) hDH, hfin _ upd_same, x4, some (.int (i : Nat)), some (.str u.k), some (.int x.2), x9, x10, ?_⟩
      rw [hrun]
      rfl
  · rintro σ' H' ⟨s', hpc, x4, x6, x7, x8, x9, x10, rfl⟩
    rw [List.length_map, j2, List.take_length] at hpc
    rw [List.length_map, j2, List.take_length]
    refine ⟨_, rfl, _, rfl, _, rfl, by show 3 ≤ sizeLine; decide, fun r hr => k _ r D (s'.trans (same_new hr)) ?_ hDH (SqT.of upd_same)⟩
    obtain ⟨f, f1, f2⟩ := hpc.ex
    exact ⟨f, f1, upd_old f2 hr⟩
end
end EB

/-! The greedy steps are possible, and they end with all drinks. -/
namespace EB
open PySem PySem.Spec PyProof.Rows L2 EBG
/-- each step is possible -/
def plVal (ts : List Tr) : PS1 → List (Str × Int) → Prop
  | _, [] => True
  | s, x :: r => plPos ts s x = true ∧ plVal ts (pl1 s x) r
theorem plVal_at {ts : List Tr} : ∀ {L : List (Str × Int)} {s : PS1}, plVal ts s L → ∀ (i : Nat) (x : Str × Int), L[i]? = some x → plPos ts ((L.take i).foldl pl1 s) x = true
  | y :: r, s, h, 0, x, e => by
    cases Option.some.inj e
    exact h.1
  | y :: r, s, h, i + 1, x, e => plVal_at h.2 i x e
theorem plVal_append {ts : List Tr} : ∀ {A B : List (Str × Int)} {s : PS1}, plVal ts s A → plVal ts (A.foldl pl1 s) B → plVal ts s (A ++ B)
  | [], _, _, _, h => h
  | _ :: _, _, _, h1, h2 => ⟨h1.1, plVal_append h1.2 h2⟩
def gX (D d : Int) (t : Tr) : Int := t.l * D % t.n + t.l * d
theorem gCount_eq (t : Tr) (D d : Int) : gCount t D d = gX D d t / t.n := rfl
theorem gX_nonneg {t : Tr} {D d : Int} (h : t.ok) (hd : 0 ≤ d) : 0 ≤ gX D d t := Int.add_nonneg (Int.emod_nonneg _ (by have := h.2.2.1; omega)) (Int.mul_nonneg h.1 hd)
theorem gCount_nonneg {t : Tr} {D d : Int} (h : t.ok) (hd : 0 ≤ d) : 0 ≤ gCount t D d := Int.ediv_nonneg (gX_nonneg h hd) (by have := h.2.2.1; omega)
theorem gCount_le {t : Tr} {D d : Int} (h : t.ok) (hl : t.l ≤ t.n) (hd : 0 ≤ d) : gCount t D d ≤ d := by
  have hn : 0 < t.n := by have := h.2.2.1; omega
  have h1 : t.l * D % t.n < t.n := Int.emod_lt_of_pos _ hn
  have h2 : t.l * d ≤ t.n * d := Int.mul_le_mul_of_nonneg_right hl hd
  unfold gCount
  have h3 : t.l * D % t.n + t.l * d < (d + 1) * t.n := by
    rw [Int.add_mul, Int.one_mul, Int.mul_comm d]
    omega
  have := Int.ediv_lt_of_lt_mul hn h3
  omega
theorem gCount_buy {t : Tr} {D d : Int} (h : t.ok) : gCount t D d = t.l * (D + d) / t.n - t.l * D / t.n := by
  have hn : t.n ≠ 0 := by have := h.2.2.1; omega
  unfold gCount
  have e : t.l * (D + d) = (t.l * D % t.n + t.l * d) + t.l * D / t.n * t.n := by
    have := Int.mul_ediv_add_emod (t.l * D) t.n
    rw [Int.mul_add, Int.mul_comm (t.l * D / t.n)]
    omega
  rw [e, Int.add_mul_ediv_right _ _ hn]
  omega
theorem numOk_of {c : Int} (h0 : 0 ≤ c) (h1 : c ≤ 1000000000000000000) : numOk c 0 1000000000000000000 = true := numOk_iff.mpr ⟨h0, h1⟩
/-- the trades of one round -/
theorem tr_run {ts : List Tr} {D d : Int} (hn : (ts.map Tr.k).Nodup) (hk : ∀ t ∈ ts, t.k ≠ ("drink" : Str)) (hg : ∀ t ∈ ts, t.ok) (hl : ∀ t ∈ ts, t.l ≤ t.n) (hd : 0 ≤ d) (hd2 : d ≤ 1000000000000000000) :
    ∀ (us dn : List Tr) (s : PS1), ts = dn ++ us → (∀ t ∈ dn, s.f t = gX D d t % t.n) → (∀ t ∈ us, s.f t = gX D d t) →
      plVal ts s (us.flatMap (gOne D d)) ∧ ((us.flatMap (gOne D d)).foldl pl1 s).d = s.d ∧ ((us.flatMap (gOne D d)).foldl pl1 s).b = s.b + (us.map fun t => gCount t D d).sum ∧ ∀ t ∈ ts, ((us.flatMap (gOne D d)).foldl pl1 s).f t = gX D d t % t.n
  | [], dn, s, e, h1, _ => by
    rw [List.append_nil] at e
    subst e
    exact ⟨trivial, rfl, (Int.add_zero _).symm, h1⟩
  | u :: us, dn, s, e, h1, h2 => by
    have hu : u ∈ ts := by rw [e]; exact List.mem_append_right _ (List.mem_cons_self ..)
    have e' : ts = (dn ++ [u]) ++ us := by rw [List.append_assoc]; exact e
    have hok := hg u hu
    have hpos : 0 < u.n := by have := hok.2.2.1; omega
    have hsu := h2 u (List.mem_cons_self ..)
    have one : ∀ t ∈ ts, t.k = u.k → t = u := fun t ht ek => by
      have q1 := find_kind hn ht
      rw [ek, find_kind hn hu] at q1
      exact (Option.some.inj q1).symm
    have hdiv := Int.mul_ediv_add_emod (gX D d u) u.n
    have nu : ∀ t ∈ dn ++ us, t ∈ ts ∧ t.k ≠ u.k := fun t ht => by
      have hN := hn
      rw [e, List.map_append, List.map_cons, List.nodup_append] at hN
      obtain ⟨_, n2, n3⟩ := hN
      rw [List.nodup_cons] at n2
      rcases List.mem_append.mp ht with m | m
      · exact ⟨by rw [e]; exact List.mem_append_left _ m, n3 _ (List.mem_map_of_mem m) _ (List.mem_cons_self ..)⟩
      · exact ⟨by rw [e]; exact List.mem_append_right _ (List.mem_cons_of_mem _ m), fun z => n2.1 (z ▸ List.mem_map_of_mem m)⟩
    rw [List.flatMap_cons]
    by_cases hc : 0 < gCount u D d
    · have go : gOne D d u = [(u.k, gCount u D d)] := if_pos hc
      have p1 : pl1 s (u.k, gCount u D d) = ⟨s.d, s.b + gCount u D d, fun t => if t.k = u.k then s.f t - t.n * gCount u D d else s.f t⟩ := if_neg (hk u hu)
      obtain ⟨v1, v2, v3, v4⟩ := tr_run hn hk hg hl hd hd2 us (dn ++ [u]) (pl1 s (u.k, gCount u D d)) e' (fun t ht => by
        rw [p1]
        show (if t.k = u.k then s.f t - t.n * gCount u D d else s.f t) = _
        rcases List.mem_append.mp ht with m | m
        · rw [if_neg (nu t (List.mem_append_left _ m)).2]
          exact h1 t m
        · rw [List.mem_singleton.mp m, if_pos rfl, hsu, gCount_eq]
          omega) (fun t ht => by
        rw [p1]
        show (if t.k = u.k then s.f t - t.n * gCount u D d else s.f t) = _
        rw [if_neg (nu t (List.mem_append_right _ ht)).2]
        exact h2 t (List.mem_cons_of_mem _ ht))
      rw [go]
      have pp : plPos ts s (u.k, gCount u D d) = true := by
        unfold plPos
        rw [if_pos (numOk_of (Int.le_of_lt hc) (Int.le_trans (gCount_le hok (hl u hu) hd) hd2)), if_neg (hk u hu), find_kind hn hu]
        refine decide_eq_true ?_
        show gCount u D d * u.n ≤ s.f u
        rw [hsu, gCount_eq, Int.mul_comm]
        have := Int.emod_nonneg (gX D d u) (Int.ne_of_gt hpos)
        omega
      refine ⟨⟨pp, v1⟩, ?_, ?_, v4⟩
      · refine v2.trans ?_
        rw [p1]
      · refine v3.trans ?_
        rw [p1, List.map_cons, List.sum_cons]
        show s.b + gCount u D d + _ = _
        omega
    · have go : gOne D d u = [] := if_neg hc
      have c0 : gCount u D d = 0 := by
        have := gCount_nonneg (D := D) hok hd
        omega
      rw [go, List.nil_append]
      obtain ⟨v1, v2, v3, v4⟩ := tr_run hn hk hg hl hd hd2 us (dn ++ [u]) s e' (fun t ht => by
        rcases List.mem_append.mp ht with m | m
        · exact h1 t m
        · rw [List.mem_singleton.mp m, hsu]
          rw [gCount_eq] at c0
          rw [c0, Int.mul_zero] at hdiv
          omega) fun t ht => h2 t (List.mem_cons_of_mem _ ht)
      refine ⟨v1, v2, ?_, v4⟩
      rw [v3, List.map_cons, List.sum_cons, c0, Int.zero_add]
theorem count_sum {D d : Int} : ∀ {ts : List Tr}, (∀ t ∈ ts, t.ok) → (ts.map fun t => gCount t D d).sum = buys ts (D + d) - buys ts D
  | [], _ => rfl
  | t :: ts, h => by
    have ih := count_sum (D := D) (d := d) fun t ht => h t (List.mem_cons_of_mem _ ht)
    have e := gCount_buy (D := D) (d := d) (h t (List.mem_cons_self ..))
    unfold buys at ih ⊢
    rw [List.map_cons, List.sum_cons, List.map_cons, List.sum_cons, List.map_cons, List.sum_cons, ih, e]
    omega
/-- the rounds from d drinks on -/
theorem rd_run {ts : List Tr} (f : Fair ts) (hn : (ts.map Tr.k).Nodup) (hk : ∀ t ∈ ts, t.k ≠ ("drink" : Str)) (hl : ∀ t ∈ ts, t.l ≤ t.n) {n : Nat} (hN : n ≤ 1000000000000000000) :
    ∀ (m d : Nat) (s : PS1), (∀ j, j < d → cN ts j < n) → D (cN ts) n < d + m → s.d = d → s.b = n - cN ts d → (∀ t ∈ ts, s.f t = t.l * (d : Int) % t.n) →
      plVal ts s (gAll ts d (rnd (cN ts) n m d)) ∧ ((gAll ts d (rnd (cN ts) n m d)).foldl pl1 s).d = (D (cN ts) n : Nat) ∧ ((gAll ts d (rnd (cN ts) n m d)).foldl pl1 s).b = 0 ∧ ∀ t ∈ ts, ((gAll ts d (rnd (cN ts) n m d)).foldl pl1 s).f t = t.l * ((D (cN ts) n : Nat) : Int) % t.n
  | 0, d, s, q, hm, _, _, _ => by
    have := (cf f).below q
    omega
  | m + 1, d, s, q, hm, e1, e2, e3 => by
    have C := cf f
    have hcd : cN ts d ≤ n := by
      cases d with
      | zero =>
        rw [C.zero]
        omega
      | succ d =>
        have h1 := q d (Nat.lt_succ_self _)
        have h2 := C.steps d 1
        omega
    have hr2 : rnd (cN ts) n (m + 1) d = if 0 < (n : Int) - cN ts d then ((n : Int) - cN ts d) :: rnd (cN ts) n m (d + ((n : Int) - cN ts d).toNat) else [] := rfl
    rw [hr2]
    by_cases hp : 0 < (n : Int) - cN ts d
    · rw [if_pos hp]
      have q2 := C.below_next q hp
      have c0 : 0 ≤ cN ts d := by
        have h1 := ten_buys f d
        have h2 : cN ts d = (d : Int) - buys ts d := rfl
        omega
      have hle : (n : Int) - cN ts d ≤ 1000000000000000000 := by omega
      have ed : (d : Int) + ((n : Int) - cN ts d) = ((d + ((n : Int) - cN ts d).toNat : Nat) : Int) := by omega
      have p1 : pl1 s ("drink", (n : Int) - cN ts d) = ⟨s.d + ((n : Int) - cN ts d), s.b - ((n : Int) - cN ts d), fun t => s.f t + t.l * ((n : Int) - cN ts d)⟩ := if_pos rfl
      obtain ⟨v1, v2, v3, v4⟩ := tr_run (D := (d : Int)) (d := (n : Int) - cN ts d) hn hk f.g.2 hl (Int.le_of_lt hp) hle ts [] (pl1 s ("drink", (n : Int) - cN ts d)) rfl (fun t h => by cases h) fun t ht => by
        rw [p1]
        show s.f t + t.l * ((n : Int) - cN ts d) = t.l * (d : Int) % t.n + t.l * ((n : Int) - cN ts d)
        rw [e3 t ht]
      have pp : plPos ts s (("drink" : Str), (n : Int) - cN ts d) = true := by
        unfold plPos
        rw [if_pos (numOk_of (Int.le_of_lt hp) hle), if_pos rfl]
        refine decide_eq_true ?_
        show (n : Int) - cN ts d ≤ s.b
        omega
      have hs := count_sum (D := (d : Int)) (d := (n : Int) - cN ts d) f.g.2
      have hc1 : cN ts d = (d : Int) - buys ts d := rfl
      have hc2 : cN ts (d + ((n : Int) - cN ts d).toNat) = ((d + ((n : Int) - cN ts d).toNat : Nat) : Int) - buys ts ((d + ((n : Int) - cN ts d).toNat : Nat) : Int) := rfl
      have rdE : gAll ts d (((n : Int) - cN ts d) :: rnd (cN ts) n m (d + ((n : Int) - cN ts d).toNat)) = (("drink" : Str), (n : Int) - cN ts d) :: (ts.flatMap (gOne d ((n : Int) - cN ts d)) ++ gAll ts ((d + ((n : Int) - cN ts d).toNat : Nat) : Int) (rnd (cN ts) n m (d + ((n : Int) - cN ts d).toNat))) := by
        rw [← ed]
        rfl
      rw [rdE]
      obtain ⟨w1, w2, w3, w4⟩ := rd_run f hn hk hl hN m (d + ((n : Int) - cN ts d).toNat) ((ts.flatMap (gOne d ((n : Int) - cN ts d))).foldl pl1 (pl1 s ("drink", (n : Int) - cN ts d))) q2 (by omega) (by
          rw [v2, p1]
          show s.d + ((n : Int) - cN ts d) = _
          rw [e1]
          exact ed) (by
          rw [v3, p1]
          show s.b - ((n : Int) - cN ts d) + _ = _
          rw [hs, hc2, ← ed, e2]
          omega) (fun t ht => by
          rw [v4 t ht, ← ed]
          unfold gX
          rw [Int.emod_add_emod, ← Int.mul_add])
      refine ⟨⟨pp, plVal_append v1 w1⟩, ?_, ?_, fun t ht => ?_⟩
      · rw [List.foldl_cons, List.foldl_append]
        exact w2
      · rw [List.foldl_cons, List.foldl_append]
        exact w3
      · rw [List.foldl_cons, List.foldl_append]
        exact w4 t ht
    · rw [if_neg hp]
      have hD : D (cN ts) n = d := C.D_eq ⟨by omega, q⟩
      rw [hD]
      exact ⟨trivial, e1, (show s.b = 0 by omega), e3⟩
/-- all of them -/
theorem greedy_run {ts : List Tr} (f : Fair ts) (hn : (ts.map Tr.k).Nodup) (hk : ∀ t ∈ ts, t.k ≠ ("drink" : Str)) (hl : ∀ t ∈ ts, t.l ≤ t.n) {n : Nat} (hN : n ≤ 1000000000000000000) :
    (∀ (i : Nat) (x : Str × Int), (gAll ts 0 (roundsL (cN ts) n))[i]? = some x → plPos ts (plRun n ((gAll ts 0 (roundsL (cN ts) n)).take i)) x = true) ∧ (plRun n (gAll ts 0 (roundsL (cN ts) n))).d = (D (cN ts) n : Nat) ∧ (plRun n (gAll ts 0 (roundsL (cN ts) n))).b = 0 ∧
      ∀ t ∈ ts, (plRun n (gAll ts 0 (roundsL (cN ts) n))).f t = t.l * ((D (cN ts) n : Nat) : Int) % t.n := by
  have C := cf f
  obtain ⟨h1, h2, h3, h4⟩ := rd_run f hn hk hl hN (10 * n + 1) 0 ⟨0, n, fun _ => 0⟩ (fun j q => absurd q (Nat.not_lt_zero _)) (by have := C.D_le_ten n; omega) rfl (by
    show (n : Int) = n - cN ts 0
    rw [C.zero, Int.sub_zero]) fun t _ => by
      show (0 : Int) = t.l * ((0 : Nat) : Int) % t.n
      rw [Int.natCast_zero, Int.mul_zero, Int.zero_emod]
  exact ⟨plVal_at h1, h2, h3, h4⟩
end EB

/-! What a law wants of the greedy steps. -/
namespace EB
open PySem PySem.Spec PyProof.Rows L2 EBG
theorem worth_mem {t : Tr} : ∀ {ts : List Tr}, (∀ u ∈ ts, u.ok) → t ∈ ts → 27720 / t.n * t.l ≤ worth ts ∧ 0 ≤ worth ts
  | [], _, h => by cases h
  | u :: ts, ho, h => by
    have hu := ho u (List.mem_cons_self ..)
    have e : worth (u :: ts) = 27720 / u.n * u.l + worth ts := by
      unfold worth
      rw [List.map_cons, List.sum_cons]
    have hu0 : 0 ≤ 27720 / u.n * u.l := Int.mul_nonneg (Int.ediv_nonneg (by decide) (by have := hu.2.2.1; omega)) hu.1
    have h0 : 0 ≤ worth ts := by
      have : ∀ l : List Tr, (∀ v ∈ l, v.ok) → 0 ≤ worth l := fun l => by
        induction l with
        | nil => exact fun _ => Int.le_refl _
        | cons v r ih =>
          intro hv
          have h1 := hv v (List.mem_cons_self ..)
          have h2 := ih fun x m => hv x (List.mem_cons_of_mem _ m)
          have h3 : 0 ≤ 27720 / v.n * v.l := Int.mul_nonneg (Int.ediv_nonneg (by decide) (by have := h1.2.2.1; omega)) h1.1
          have h4 : worth (v :: r) = 27720 / v.n * v.l + worth r := by
            unfold worth
            rw [List.map_cons, List.sum_cons]
          omega
      exact this ts fun v m => ho v (List.mem_cons_of_mem _ m)
    rcases List.mem_cons.mp h with rfl | m
    · omega
    · have := (worth_mem (fun v m => ho v (List.mem_cons_of_mem _ m)) m).1
      omega
theorem Fair.le {ts : List Tr} (f : Fair ts) : ∀ t ∈ ts, t.l ≤ t.n := fun t ht => by
  have ho := f.g.2 t ht
  have hw := (worth_mem f.g.2 ht).1
  have h1 := f.w
  obtain ⟨_, _, n1, n2⟩ := ho
  have hd := Int.ediv_mul_cancel (dvd_big n1 n2)
  refine Int.not_lt.mp fun z => ?_
  have hq : 0 < 27720 / t.n := by
    refine Int.not_le.mp fun y => ?_
    have h5 : 27720 / t.n * t.n ≤ 0 := Int.mul_nonpos_of_nonpos_of_nonneg y (by omega)
    omega
  have h2 : 27720 / t.n * t.n ≤ 27720 / t.n * t.l := Int.mul_le_mul_of_nonneg_left (by omega) (Int.le_of_lt hq)
  omega
theorem nmOk.drink {ts : List Tr} (h : nmOk ts) : ∀ t ∈ ts, t.k ≠ ("drink" : Str) := fun t ht e => by
  have := (h.2 t ht).1
  rw [e] at this
  exact absurd this (by decide +kernel)
theorem StA.st {K : PySem.W.Frag} {H : Hp} {S : Addr} {L : List (Str × Int)} (h : StA H S L) : StS K H S L := by
  obtain ⟨ps, h1, h2⟩ := h.ex
  refine ⟨ps, SqL.of h1, Paired.length h2, ?_⟩
  clear h1 h
  induction h2 with
  | nil => intro i p x a _; cases a
  | cons r _ ih =>
    intro i p x a b
    cases i with
    | zero =>
      cases a
      cases b
      exact SqT.of r
    | succ i => exact ih i p x a b
/-- the greedy steps of an offer, as play takes them -/
theorem greedy_all {ts : List Tr} (f : Fair ts) (h : nmOk ts) {n : Nat} (hN : n ≤ 1000000000000000000) :
    (∀ (i : Nat) (x : Str × Int), (gAll ts 0 (roundsL (cN ts) n))[i]? = some x → plPos ts (plRun n ((gAll ts 0 (roundsL (cN ts) n)).take i)) x = true) ∧ (plRun n (gAll ts 0 (roundsL (cN ts) n))).d = (D (cN ts) n : Nat) ∧ (plRun n (gAll ts 0 (roundsL (cN ts) n))).b = 0 ∧
      (∀ t ∈ ts, (plRun n (gAll ts 0 (roundsL (cN ts) n))).f t = t.l * ((D (cN ts) n : Nat) : Int) % t.n) ∧ (gAll ts 0 (roundsL (cN ts) n)).length ≤ 100000 := by
  obtain ⟨h1, h2, h3, h4⟩ := greedy_run f h.1 h.drink f.le hN
  refine ⟨h1, h2, h3, h4, ?_⟩
  have a := gAll_len f.g.1 (roundsL (cN ts) n) 0
  have b := roundsL_len f hN
  omega
/-- no step of them is empty -/
theorem gAll_pos {ts : List Tr} {n : Nat} : ∀ (r : List Int) (D : Int), (∀ d ∈ r, (0 : Int) < d) → ∀ x ∈ gAll ts D r, 0 < x.2
  | [], _, _, x, h => by cases h
  | d :: r, D, hp, x, h => by
    rcases List.mem_append.mp (show x ∈ gRound ts D d ++ gAll ts (D + d) r from h) with m | m
    · rcases List.mem_cons.mp m with rfl | m
      · exact hp d (List.mem_cons_self ..)
      · obtain ⟨t, _, q⟩ := List.mem_flatMap.mp m
        unfold gOne at q
        split at q
        · rename_i hc
          rw [List.mem_singleton.mp q]
          exact hc
        · cases q
    · exact gAll_pos (n := n) r (D + d) (fun e m => hp e (List.mem_cons_of_mem _ m)) x m
theorem rnd_pos {c : Nat → Int} {n : Nat} : ∀ (m d : Nat), ∀ e ∈ rnd c n m d, (0 : Int) < e
  | 0, _, _, h => by cases h
  | m + 1, d, e, h => by
    have h : e ∈ (if 0 < (n : Int) - c d then ((n : Int) - c d) :: rnd c n m (d + ((n : Int) - c d).toNat) else []) := h
    split at h
    · rename_i hc
      rcases List.mem_cons.mp h with rfl | q
      · exact hc
      · exact rnd_pos m _ e q
    · cases h
end EB

/-! Runs of possible steps: what stays true of them. -/
namespace EB
open PySem PySem.Spec PyProof.Rows L2 EBG
/-- what is known of a run of possible steps: m counts the trades of each kind -/
structure Ran (ts : List Tr) (n : Nat) (L : List (Str × Int)) : Prop where
  val : ∀ (i : Nat) (x : Str × Int), L[i]? = some x → plPos ts (plRun n (L.take i)) x = true
  b0 : 0 ≤ (plRun n L).b
  d0 : 0 ≤ (plRun n L).d
  f0 : ∀ t ∈ ts, 0 ≤ (plRun n L).f t
  cnt : ∃ m : Tr → Int, (∀ t ∈ ts, (plRun n L).f t = t.l * (plRun n L).d - t.n * m t) ∧ (plRun n L).b = n - (plRun n L).d + (ts.map m).sum
theorem Ran.nil (ts : List Tr) (n : Nat) : Ran ts n [] := by
  refine ⟨fun i x e => by simp at e, Int.natCast_nonneg n, Int.le_refl _, fun _ _ => Int.le_refl _, fun _ => 0, fun t _ => ?_, ?_⟩
  · show (0 : Int) = t.l * 0 - t.n * 0
    rw [Int.mul_zero, Int.mul_zero]
    rfl
  · show (n : Int) = n - 0 + (ts.map fun _ => (0 : Int)).sum
    have e : (ts.map fun _ => (0 : Int)).sum = 0 := by
      induction ts with
      | nil => rfl
      | cons _ _ ih => rw [List.map_cons, List.sum_cons, ih]; rfl
    rw [e]
    omega
theorem sum_le {f g : Tr → Int} : ∀ {ts : List Tr}, (∀ t ∈ ts, f t ≤ g t) → (ts.map f).sum ≤ (ts.map g).sum
  | [], _ => Int.le_refl _
  | t :: ts, h => by
    rw [List.map_cons, List.map_cons, List.sum_cons, List.sum_cons]
    have h1 := h t (List.mem_cons_self ..)
    have h2 := sum_le fun u m => h u (List.mem_cons_of_mem _ m)
    omega
/-- no more bottles than at first -/
theorem Ran.bn {ts : List Tr} {n : Nat} {L : List (Str × Int)} (f : Fair ts) (r : Ran ts n L) : (plRun n L).b ≤ n := by
  obtain ⟨m, h1, h2⟩ := r.cnt
  have hm : (ts.map m).sum ≤ buys ts (plRun n L).d := by
    refine sum_le fun t ht => ?_
    have ho := f.g.2 t ht
    have hf := r.f0 t ht
    rw [h1 t ht] at hf
    refine (Int.le_ediv_iff_mul_le (by have := ho.2.2.1; omega)).mpr ?_
    rw [Int.mul_comm]
    omega
  obtain ⟨d, hd⟩ := Int.eq_ofNat_of_zero_le r.d0
  have ht := ten_buys f d
  rw [hd] at hm h2
  rw [h2]
  omega
theorem plRun_app {b : Int} {L : List (Str × Int)} {x : Str × Int} : plRun b (L ++ [x]) = pl1 (plRun b L) x := by
  unfold plRun
  rw [List.foldl_append]
  rfl
theorem val_snoc {ts : List Tr} {n : Nat} {L : List (Str × Int)} {x : Str × Int} (h : ∀ (i : Nat) (y : Str × Int), L[i]? = some y → plPos ts (plRun n (L.take i)) y = true) (hx : plPos ts (plRun n L) x = true) :
    ∀ (i : Nat) (y : Str × Int), (L ++ [x])[i]? = some y → plPos ts (plRun n ((L ++ [x]).take i)) y = true := fun i y e => by
  rcases Nat.lt_or_ge i L.length with z | z
  · rw [List.getElem?_append_left z] at e
    rw [List.take_append_of_le_length (Nat.le_of_lt z)]
    exact h i y e
  · rw [List.getElem?_append_right z] at e
    have ei : i = L.length := by
      have := lt_of_at e
      rw [List.length_singleton] at this
      omega
    subst ei
    rw [Nat.sub_self] at e
    cases Option.some.inj e
    rw [List.take_left']
    · exact hx
    · rfl
/-- a drink more -/
theorem Ran.drink {ts : List Tr} {n : Nat} {L : List (Str × Int)} {c : Int} (f : Fair ts) (hn : n ≤ 1000000000000000000) (r : Ran ts n L) (c0 : 0 ≤ c) (c1 : c ≤ (plRun n L).b) : Ran ts n (L ++ [(("drink" : Str), c)]) := by
  have p1 : pl1 (plRun n L) (("drink" : Str), c) = ⟨(plRun n L).d + c, (plRun n L).b - c, fun t => (plRun n L).f t + t.l * c⟩ := if_pos rfl
  have hb := r.bn f
  refine ⟨val_snoc r.val ?_, ?_, ?_, fun t ht => ?_, ?_⟩
  · unfold plPos
    rw [if_pos (numOk_of c0 (by show c ≤ _; omega)), if_pos rfl]
    exact decide_eq_true c1
  · rw [plRun_app, p1]
    show 0 ≤ (plRun n L).b - c
    omega
  · rw [plRun_app, p1]
    have := r.d0
    show 0 ≤ (plRun n L).d + c
    omega
  · rw [plRun_app, p1]
    have h1 := r.f0 t ht
    have h2 := Int.mul_nonneg (f.g.2 t ht).1 c0
    show 0 ≤ (plRun n L).f t + t.l * c
    omega
  · obtain ⟨m, h1, h2⟩ := r.cnt
    refine ⟨m, fun t ht => ?_, ?_⟩
    · rw [plRun_app, p1]
      show (plRun n L).f t + t.l * c = t.l * ((plRun n L).d + c) - t.n * m t
      rw [h1 t ht, Int.mul_add]
      omega
    · rw [plRun_app, p1]
      show (plRun n L).b - c = n - ((plRun n L).d + c) + (ts.map m).sum
      omega
theorem sum_upd {m : Tr → Int} {u : Tr} {c : Int} : ∀ {ts : List Tr}, (ts.map Tr.k).Nodup → u ∈ ts → (ts.map fun t => if t.k = u.k then m t + c else m t).sum = (ts.map m).sum + c
  | t :: ts, hn, hu => by
    rw [List.map_cons, List.nodup_cons] at hn
    rw [List.map_cons, List.map_cons, List.sum_cons, List.sum_cons]
    by_cases e : t.k = u.k
    · have hno : (ts.map fun t => if t.k = u.k then m t + c else m t) = ts.map m := List.map_congr_left fun v mv => if_neg fun z => hn.1 (List.mem_map.mpr ⟨v, mv, z.trans e.symm⟩)
      rw [if_pos e, hno]
      omega
    · rcases List.mem_cons.mp hu with rfl | mu
      · exact absurd rfl e
      · rw [if_neg e, sum_upd hn.2 mu]
        omega
/-- a trade more -/
theorem Ran.trade {ts : List Tr} {n : Nat} {L : List (Str × Int)} {u : Tr} {c : Int} (f : Fair ts) (hnm : nmOk ts) (r : Ran ts n L) (hu : u ∈ ts) (c0 : 0 ≤ c) (c2 : c ≤ 1000000000000000000) (c1 : c ≤ (plRun n L).f u / u.n) : Ran ts n (L ++ [(u.k, c)]) := by
  have hd := hnm.drink u hu
  have p1 : pl1 (plRun n L) (u.k, c) = ⟨(plRun n L).d, (plRun n L).b + c, fun t => if t.k = u.k then (plRun n L).f t - t.n * c else (plRun n L).f t⟩ := if_neg hd
  have hpos : 0 < u.n := by
    have := (f.g.2 u hu).2.2.1
    omega
  have hcu : c * u.n ≤ (plRun n L).f u := (Int.le_ediv_iff_mul_le hpos).mp c1
  have one : ∀ t ∈ ts, t.k = u.k → t = u := fun t ht ek => by
    have q1 := find_kind hnm.1 ht
    rw [ek, find_kind hnm.1 hu] at q1
    exact (Option.some.inj q1).symm
  refine ⟨val_snoc r.val ?_, ?_, ?_, fun t ht => ?_, ?_⟩
  · unfold plPos
    rw [if_pos (numOk_of c0 c2), if_neg hd, find_kind hnm.1 hu]
    exact decide_eq_true hcu
  · rw [plRun_app, p1]
    have := r.b0
    show 0 ≤ (plRun n L).b + c
    omega
  · rw [plRun_app, p1]
    exact r.d0
  · rw [plRun_app, p1]
    show 0 ≤ if t.k = u.k then (plRun n L).f t - t.n * c else (plRun n L).f t
    by_cases e : t.k = u.k
    · rw [if_pos e, one t ht e, Int.mul_comm]
      omega
    · rw [if_neg e]
      exact r.f0 t ht
  · obtain ⟨m, h1, h2⟩ := r.cnt
    refine ⟨fun t => if t.k = u.k then m t + c else m t, fun t ht => ?_, ?_⟩
    · rw [plRun_app, p1]
      show (if t.k = u.k then (plRun n L).f t - t.n * c else (plRun n L).f t) = t.l * (plRun n L).d - t.n * (if t.k = u.k then m t + c else m t)
      by_cases e : t.k = u.k
      · rw [if_pos e, if_pos e, h1 t ht, Int.mul_add]
        omega
      · rw [if_neg e, if_neg e]
        exact h1 t ht
    · rw [plRun_app, p1, sum_upd hnm.1 hu]
      show (plRun n L).b + c = n - (plRun n L).d + ((ts.map m).sum + c)
      omega
end EB

namespace EB
open PySem PySem.Spec PyProof.Rows L2
/-! ### data of some depth -/
inductive Lev : Nat → PyData → Prop
  | non {n : Nat} : Lev n .none
  | bl {n : Nat} (b : Bool) : Lev n (.bool b)
  | int {n : Nat} (i : Int) : Lev n (.int i)
  | str {n : Nat} (z : Str) : Lev n (.str z)
  | lst {n : Nat} {ds : List PyData} (h : ∀ d ∈ ds, Lev n d) (hl : ds.length ≤ 10000) : Lev (n + 1) (.list ds)
  | tup {n : Nat} {ds : List PyData} (h : ∀ d ∈ ds, Lev n d) (hl : ds.length ≤ 10000) : Lev (n + 1) (.tuple ds)
mutual
theorem dp_mono {K : PySem.W.Frag} {H H' : Hp} (s : Same H H') : ∀ {v : V} {d : PyData}, Dp K H v d → Dp K H' v d
  | _, _, .non => .non
  | _, _, .bl b => .bl b
  | _, _, .int i => .int i
  | _, _, .str z => .str z
  | _, _, .lst h a => .lst (s.seq h) (dps_mono s a)
  | _, _, .tup h a => .tup (Same.tup s h) (dps_mono s a)
theorem dps_mono {K : PySem.W.Frag} {H H' : Hp} (s : Same H H') : ∀ {vs : List V} {ds : List PyData}, DpAll K H vs ds → DpAll K H' vs ds
  | _, _, .nil => .nil
  | _, _, .cons a b => .cons (dp_mono s a) (dps_mono s b)
end
theorem dps_len {K : PySem.W.Frag} {H : Hp} : ∀ {vs : List V} {ds : List PyData}, DpAll K H vs ds → vs.length = ds.length
  | _, _, .nil => rfl
  | _, _, .cons _ b => congrArg Nat.succ (dps_len b)
theorem dps_at {K : PySem.W.Frag} {H : Hp} : ∀ {vs : List V} {ds : List PyData} {i : Nat}, DpAll K H vs ds → i < ds.length → ∃ v d, vs[i]? = some v ∧ d ∈ ds ∧ Dp K H v d ∧ ds[i]? = some d
  | _, _, 0, .cons a b, _ => ⟨_, _, rfl, List.mem_cons_self .., a, rfl⟩
  | _, _, i + 1, .cons a b, h => by
    obtain ⟨v, d, e1, e2, e3, e4⟩ := dps_at (i := i) b (Nat.lt_of_succ_lt_succ h)
    exact ⟨v, d, e1, List.mem_cons_of_mem _ e2, e3, e4⟩
theorem dps_ints {K : PySem.W.Frag} {H : Hp} : ∀ (ns : List Int), DpAll K H (ns.map V.int) (ns.map PyData.int)
  | [] => .nil
  | n :: ns => .cons (.int n) (dps_ints ns)
theorem tyL {K : PySem.W.Frag} {H : Hp} {a : Addr} {xs : List V} (h : SqL K H a xs) : TyX K H (.ref a) (.type "list") := by
  rcases h with (h | ⟨o, h⟩) | ⟨o, its, n, h1, h2, _⟩
  · exact .base (.lst h)
  · exact .base (.frz h)
  · exact .kList h1 h2
theorem tyT {K : PySem.W.Frag} {H : Hp} {a : Addr} {xs : List V} (h : SqT K H a xs) : TyX K H (.ref a) (.type "tuple") := by
  rcases h with (h | ⟨o, h⟩) | ⟨o, its, n, h1, h2, _⟩
  · exact .base (.tup h)
  · exact .fTuple h
  · exact .kTuple h1 h2
theorem isTL {K : PySem.W.Frag} (q : Bool) : PySem.W.kitAny K (.type (if q then "list" else "tuple")) [.type "tuple", .type "list"] = some true := by
  cases q with
  | true => exact kitAny_cons (b := false) (kit_ty (by decide +kernel)) (fun _ => kitAny_cons (b := true) (kit_ty (by decide +kernel)) (fun z => nomatch z) (fun _ => rfl)) (fun z => nomatch z)
  | false => exact kitAny_cons (b := true) (kit_ty (by decide +kernel)) (fun z => nomatch z) (fun _ => rfl)
/-- a list (q) or a tuple -/
def SqQ (K : PySem.W.Frag) (H : Hp) (q : Bool) (a : Addr) (xs : List V) : Prop := if q = true then SqL K H a xs else SqT K H a xs
theorem SqQ.ty {K : PySem.W.Frag} {H : Hp} {q : Bool} {a : Addr} {xs : List V} (h : SqQ K H q a xs) : TyX K H (.ref a) (.type (if q then "list" else "tuple")) := by
  cases q with
  | true => exact tyL h
  | false => exact tyT h
theorem SqQ.or {K : PySem.W.Frag} {H : Hp} {q : Bool} {a : Addr} {xs : List V} (h : SqQ K H q a xs) : SqL K H a xs ∨ SqT K H a xs := by
  cases q with
  | true => exact .inl h
  | false => exact .inr h
theorem SqQ.mono {K : PySem.W.Frag} {H H' : Hp} {q : Bool} {a : Addr} {xs : List V} (s : Same H H') (h : SqQ K H q a xs) : SqQ K H' q a xs := by
  cases q with
  | true => exact s.seq h
  | false => exact Same.tup s h
theorem SqQ.ix {K : PySem.W.Frag} {H : Hp} {q : Bool} {a : Addr} {xs : List V} {i : Int} {v : V} {Q : VK} (h : SqQ K H q a xs) (e : atI xs i = some v) (k : Q v H) : rIx K (.ref a) (.int i) H Q := by
  cases q with
  | true => exact .inl ⟨a, xs, i, v, rfl, rfl, h, e, k⟩
  | false => exact .inr (.inl ⟨a, xs, i, v, rfl, rfl, h, e, k⟩)
theorem kitD (q : Bool) {K : PySem.W.Frag} : PySem.W.kitOne K (.type (if q then "list" else "tuple")) (.type "dict") = some false := by
  cases q with
  | true => exact kit_ty (by decide +kernel)
  | false => exact kit_ty (by decide +kernel)
theorem kitL (q : Bool) {K : PySem.W.Frag} : PySem.W.kitOne K (.type (if q then "list" else "tuple")) (.type "list") = some q := by
  cases q with
  | true => exact kit_ty (by decide +kernel)
  | false => exact kit_ty (by decide +kernel)
theorem shapedN : SeqAt.shaped (PyData.list []) = true := by decide +kernel
theorem alike_low {n : Nat} {d : PyData} (h : Lev n d) : Lev 0 d ∨ ∃ (q : Bool) (ds : List PyData) (m : Nat), n = m + 1 ∧ d = (if q then .list ds else .tuple ds) ∧ (∀ e ∈ ds, Lev m e) ∧ ds.length ≤ 10000 := by
  cases h with
  | non => exact .inl .non
  | bl b => exact .inl (.bl b)
  | int i => exact .inl (.int i)
  | str z => exact .inl (.str z)
  | lst h hl => exact .inr ⟨true, _, _, rfl, rfl, h, hl⟩
  | tup h hl => exact .inr ⟨false, _, _, rfl, rfl, h, hl⟩
theorem dp_seq {K : PySem.W.Frag} {H : Hp} {v : V} {q : Bool} {ds : List PyData} (h : Dp K H v (if q then .list ds else .tuple ds)) : ∃ a xs, v = .ref a ∧ SqQ K H q a xs ∧ DpAll K H xs ds := by
  cases q with
  | true =>
    cases h with
    | lst h a => exact ⟨_, _, rfl, h, a⟩
  | false =>
    cases h with
    | tup h a => exact ⟨_, _, rfl, h, a⟩
section
variable {P : Program} {w : World} {K : PySem.W.Frag} {mg : Str → Option Value} {base : Heap} (T : Tx K mg)
include T
def spAlike (K : PySem.W.Frag) (n : Nat) : Sp := fun vs H Q _ => ∃ (v u : V) (d : PyData), vs = [v, u] ∧ Dp K H v d ∧ Dp K H u d ∧ Lev n d ∧ ∀ H', Same H H' → Q (.bl true) H'
theorem ok_alike0 : FnR P w K mg base CX0 1 (a_law_alike K) (spAlike K 0) := by
  refine fnR0 (d := d_law_alike) T.F_law_alike sc_law_alike rfl (fun _ _ _ _ _ _ us hl => match us, hl with | [_, _], _ => rfl) (fun vs H Q E h => ?_) (fun cdv A outer s H vs Q E hr h => ?_)
  · obtain ⟨i, j, _, rfl, _⟩ := h
    rfl
  obtain ⟨v, u, d, rfl, hv, hu, hd, k⟩ := h
  refine ⟨_, pss_cons (ps_if (pt_val (pe_callB call_isi (by rfl) T.n_isinstance (by decide +kernel) (pa_cons (pv 1) (pa_cons (pe_bltn (v := .ty "dict") (u := .type "dict") rfl T.n_dict (by decide +kernel) rfl) pa_nil)))) pss_never pss_nil) (pss_cons (ps_if (pt_val (pe_callB call_isiT (by rfl) T.n_isinstance (by decide +kernel) (pa_cons (pv 1) (pa_cons (pe_tup (pa_cons (pe_bltn (v := .ty "tuple") (u := .type "tuple") rfl T.n_tuple (by decide +kernel) rfl) (pa_cons (pe_bltn (v := .ty "list") (u := .type "list") rfl T.n_list (by decide +kernel) rfl) pa_nil))) pa_nil)))) pss_never pss_nil) (pss_cons (ps_if (PW.pt (pw_or (pt_cmpR op_isN (pv 1) pe_non (nomark _)) (pw_or1 (pt_val (pe_callB call_isi (by rfl) T.n_isinstance (by decide +kernel) (pa_cons (pv 1) (pa_cons (pe_bltn (v := .ty "str") (u := .type "str") rfl T.n_str (by decide +kernel) rfl) pa_nil))))))) (pss_one (ps_ret (pe_and (pe_cmpR op_eq (pv 0) (pv 1) (nomark _)) (pe_one (pe_cmpR op_eq (pe_callB call_isi (by rfl) T.n_isinstance (by decide +kernel) (pa_cons (pv 0) (pa_cons (pe_bltn (v := .ty "str") (u := .type "str") rfl T.n_str (by decide +kernel) rfl) pa_nil))) (pe_callB call_isi (by rfl) T.n_isinstance (by decide +kernel) (pa_cons (pv 1) (pa_cons (pe_bltn (v := .ty "str") (u := .type "str") rfl T.n_str (by decide +kernel) rfl) pa_nil))) (nomark _)))))) pss_nil) (pss_one (ps_ret (pe_and (pe_callB call_isi (by rfl) T.n_isinstance (by decide +kernel) (pa_cons (pv 0) (pa_cons (pe_bltn (v := .ty "int") (u := .type "int") rfl T.n_int (by decide +kernel) rfl) pa_nil))) (pe_and (pe_cmpR op_eq (pe_callB call_isi (by rfl) T.n_isinstance (by decide +kernel) (pa_cons (pv 0) (pa_cons (pe_bltn (v := .ty "bool") (u := .type "bool") rfl T.n_bool (by decide +kernel) rfl) pa_nil))) (pe_callB call_isi (by rfl) T.n_isinstance (by decide +kernel) (pa_cons (pv 1) (pa_cons (pe_bltn (v := .ty "bool") (u := .type "bool") rfl T.n_bool (by decide +kernel) rfl) pa_nil))) (nomark _)) (pe_one (pe_cmpR op_eq (pv 0) (pv 1) (nomark _))))))))), ?_⟩
  cases hd with
  | non =>
    cases hv
    cases hu
    refine ⟨_, rfl, .non, .ty "dict", _, _, false, rfl, ClsV.ty "dict", .base .non, kit_ty (by decide +kernel), false, rfl, iteF ?_⟩
    refine ⟨_, rfl, by show 2 ≤ sizeLine; decide, fun tp htp => ⟨.non, tp, _, _, _, false, rfl, upd_same, .cons (ClsV.ty "tuple") (.cons (ClsV.ty "list") .nil), .base .non, kitAny_cons (b := false) (kit_ty (by decide +kernel)) (fun _ => kitAny_cons (b := false) (kit_ty (by decide +kernel)) (fun _ => kitAny_nil) (fun z => nomatch z)) (fun z => nomatch z), false, rfl, iteF ?_⟩⟩
    refine ⟨_, rfl, rfl, _, rfl, iteT (iteT ?_)⟩
    refine ⟨_, rfl, _, rfl, rfl, _, rfl, iteT ?_⟩
    exact ⟨_, rfl, .non, .ty "str", _, _, false, rfl, ClsV.ty "str", .base .non, kit_ty (by decide +kernel), _, rfl, .non, .ty "str", _, _, false, rfl, ClsV.ty "str", .base .non, kit_ty (by decide +kernel), rfl, k _ (same_new htp)⟩
  | str z =>
    cases hv
    cases hu
    refine ⟨_, rfl, .str z, .ty "dict", _, _, false, rfl, ClsV.ty "dict", .base (.str z), kit_ty (by decide +kernel), false, rfl, iteF ?_⟩
    refine ⟨_, rfl, by show 2 ≤ sizeLine; decide, fun tp htp => ⟨.str z, tp, _, _, _, false, rfl, upd_same, .cons (ClsV.ty "tuple") (.cons (ClsV.ty "list") .nil), .base (.str z), kitAny_cons (b := false) (kit_ty (by decide +kernel)) (fun _ => kitAny_cons (b := false) (kit_ty (by decide +kernel)) (fun _ => kitAny_nil) (fun z => nomatch z)) (fun z => nomatch z), false, rfl, iteF ?_⟩⟩
    refine ⟨_, rfl, rfl, _, rfl, iteF ?_⟩
    refine ⟨_, rfl, .str z, .ty "str", _, _, true, rfl, ClsV.ty "str", .base (.str z), kit_ty (by decide +kernel), true, rfl, iteT ?_⟩
    refine ⟨_, rfl, _, rfl, rfl, _, rfl, ?_⟩
    rw [decide_eq_true rfl]
    refine iteT ?_
    exact ⟨_, rfl, .str z, .ty "str", _, _, true, rfl, ClsV.ty "str", .base (.str z), kit_ty (by decide +kernel), _, rfl, .str z, .ty "str", _, _, true, rfl, ClsV.ty "str", .base (.str z), kit_ty (by decide +kernel), rfl, k _ (same_new htp)⟩
  | bl z =>
    cases hv
    cases hu
    refine ⟨_, rfl, .bl z, .ty "dict", _, _, false, rfl, ClsV.ty "dict", .base (.bl z), kit_ty (by decide +kernel), false, rfl, iteF ?_⟩
    refine ⟨_, rfl, by show 2 ≤ sizeLine; decide, fun tp htp => ⟨.bl z, tp, _, _, _, false, rfl, upd_same, .cons (ClsV.ty "tuple") (.cons (ClsV.ty "list") .nil), .base (.bl z), kitAny_cons (b := false) (kit_ty (by decide +kernel)) (fun _ => kitAny_cons (b := false) (kit_ty (by decide +kernel)) (fun _ => kitAny_nil) (fun z => nomatch z)) (fun z => nomatch z), false, rfl, iteF ?_⟩⟩
    refine ⟨_, rfl, rfl, _, rfl, iteF ?_⟩
    refine ⟨_, rfl, .bl z, .ty "str", _, _, false, rfl, ClsV.ty "str", .base (.bl z), kit_ty (by decide +kernel), false, rfl, iteF ?_⟩
    refine ⟨_, rfl, .bl z, .ty "int", _, _, true, rfl, ClsV.ty "int", .base (.bl z), kit_ty (by decide +kernel), true, rfl, iteT ?_⟩
    refine ⟨_, rfl, .bl z, .ty "bool", _, _, true, rfl, ClsV.ty "bool", .base (.bl z), kit_ty (by decide +kernel), _, rfl, .bl z, .ty "bool", _, _, true, rfl, ClsV.ty "bool", .base (.bl z), kit_ty (by decide +kernel), rfl, true, rfl, iteT ?_⟩
    refine ⟨_, rfl, _, rfl, rfl, ?_⟩
    rw [decide_eq_true rfl]
    exact k _ (same_new htp)
  | int z =>
    cases hv
    cases hu
    refine ⟨_, rfl, .int z, .ty "dict", _, _, false, rfl, ClsV.ty "dict", .base (.int z), kit_ty (by decide +kernel), false, rfl, iteF ?_⟩
    refine ⟨_, rfl, by show 2 ≤ sizeLine; decide, fun tp htp => ⟨.int z, tp, _, _, _, false, rfl, upd_same, .cons (ClsV.ty "tuple") (.cons (ClsV.ty "list") .nil), .base (.int z), kitAny_cons (b := false) (kit_ty (by decide +kernel)) (fun _ => kitAny_cons (b := false) (kit_ty (by decide +kernel)) (fun _ => kitAny_nil) (fun z => nomatch z)) (fun z => nomatch z), false, rfl, iteF ?_⟩⟩
    refine ⟨_, rfl, rfl, _, rfl, iteF ?_⟩
    refine ⟨_, rfl, .int z, .ty "str", _, _, false, rfl, ClsV.ty "str", .base (.int z), kit_ty (by decide +kernel), false, rfl, iteF ?_⟩
    refine ⟨_, rfl, .int z, .ty "int", _, _, true, rfl, ClsV.ty "int", .base (.int z), kit_ty (by decide +kernel), true, rfl, iteT ?_⟩
    refine ⟨_, rfl, .int z, .ty "bool", _, _, false, rfl, ClsV.ty "bool", .base (.int z), kit_ty (by decide +kernel), _, rfl, .int z, .ty "bool", _, _, false, rfl, ClsV.ty "bool", .base (.int z), kit_ty (by decide +kernel), rfl, true, rfl, iteT ?_⟩
    refine ⟨_, rfl, _, rfl, rfl, ?_⟩
    rw [decide_eq_true rfl]
    exact k _ (same_new htp)
theorem ok_alikeS (n : Nat) (IH : FnR P w K mg base CX0 (n + 1) (a_law_alike K) (spAlike K n)) : FnR P w K mg base CX0 (n + 2) (a_law_alike K) (spAlike K (n + 1)) := by
  have Z := ok_alike0 (P := P) (w := w) (base := base) T
  intro A outer s H us vs Q E hr e0 rv hsp
  obtain ⟨v, u, d, rfl, hv, hu, hd, k⟩ := hsp
  rcases alike_low hd with hd0 | ⟨q, ds, m, en, rfl, hds, hl⟩
  · exact Z A outer s H us _ Q E (hr.mono (by omega)) e0 rv ⟨v, u, d, rfl, hv, hu, hd0, k⟩
  cases en
  obtain ⟨a, xs, rfl, hsa, hda⟩ := dp_seq hv
  obtain ⟨b, ys, rfl, hsb, hdb⟩ := dp_seq hu
  refine (fnR0 (sp := fun vs H Q _ => ∃ (a b : Addr) (xs ys : List V), vs = [.ref a, .ref b] ∧ SqQ K H q a xs ∧ DpAll K H xs ds ∧ SqQ K H q b ys ∧ DpAll K H ys ds ∧ ∀ H', Same H H' → Q (.bl true) H') (d := d_law_alike) T.F_law_alike sc_law_alike rfl (fun _ _ _ _ _ _ us hl => match us, hl with | [_, _], _ => rfl) (fun vs H Q E h => ?_) (fun cdv A outer s H vs Q E hr h => ?_)) A outer s H us _ Q E hr e0 rv ⟨a, b, xs, ys, rfl, hsa, hda, hsb, hdb, k⟩
  · obtain ⟨_, _, _, _, rfl, _⟩ := h
    rfl
  obtain ⟨a, b, xs, ys, rfl, hsa, hda, hsb, hdb, k⟩ := h
  refine ⟨_, pss_cons (ps_if (pt_val (pe_callB call_isi (by rfl) T.n_isinstance (by decide +kernel) (pa_cons (pv 1) (pa_cons (pe_bltn (v := .ty "dict") (u := .type "dict") rfl T.n_dict (by decide +kernel) rfl) pa_nil)))) pss_never pss_nil) (pss_cons (ps_if (pt_val (pe_callB call_isiT (by rfl) T.n_isinstance (by decide +kernel) (pa_cons (pv 1) (pa_cons (pe_tup (pa_cons (pe_bltn (v := .ty "tuple") (u := .type "tuple") rfl T.n_tuple (by decide +kernel) rfl) (pa_cons (pe_bltn (v := .ty "list") (u := .type "list") rfl T.n_list (by decide +kernel) rfl) pa_nil))) pa_nil)))) (pss_cons (ps_if (PW.pt (pw_or (pt_not (pt_val (pe_callB call_isiT (by rfl) T.n_isinstance (by decide +kernel) (pa_cons (pv 0) (pa_cons (pe_tup (pa_cons (pe_bltn (v := .ty "tuple") (u := .type "tuple") rfl T.n_tuple (by decide +kernel) rfl) (pa_cons (pe_bltn (v := .ty "list") (u := .type "list") rfl T.n_list (by decide +kernel) rfl) pa_nil))) pa_nil))))) (pw_or1 (pt_cmpR op_ne (pe_callB call_isi (by rfl) T.n_isinstance (by decide +kernel) (pa_cons (pv 0) (pa_cons (pe_bltn (v := .ty "list") (u := .type "list") rfl T.n_list (by decide +kernel) rfl) pa_nil))) (pe_callB call_isi (by rfl) T.n_isinstance (by decide +kernel) (pa_cons (pv 1) (pa_cons (pe_bltn (v := .ty "list") (u := .type "list") rfl T.n_list (by decide +kernel) rfl) pa_nil))) (nomark _))))) (pss_one (ps_ret pe_bl)) pss_nil) (pss_cons (ps_if (pt_cmpR op_ne (pe_callB call_len_seq (by rfl) T.n_len PySem.boot_len (pa_cons (pv 0) pa_nil)) (pe_callB call_len_seq (by rfl) T.n_len PySem.boot_len (pa_cons (pv 1) pa_nil)) (nomark _)) (pss_one (ps_ret pe_bl)) pss_nil) (pss_one (ps_ret (pe_cmpR (op_eqD hr.units) (pe_lc (own := [("_law_k", 2)]) rfl sc_law_alike.nd (pi_range1 rfl T.n_range (pa_cons (pe_callB call_len_seq (by rfl) T.n_len PySem.boot_len (pa_cons (pv 1) pa_nil)) pa_nil)) (blkOk_by (own := [("_law_k", 2)]) (N := N_law_alike) (sc := defScope s_law_alike) (by decide +kernel)) (fun _ _ _ _ _ => (pg_name (i := 2) sc_law_alike.nd rfl (Or.inl rfl) (.inr rfl))) (fun _ _ _ _ _ => (pts_one (pt_not (pt_val (pe_cR IH hr T.F_law_alike.kp T.g_law_alike pass0 (pa_cons (pe_ix (ix_seqK (K := K) rfl) (pv 0) (pv 2) (fun _ _ => rfl)) (pa_cons (pe_ix (ix_seqK (K := K) rfl) (pv 1) (pv 2) (fun _ _ => rfl)) pa_nil))))))) (fun _ _ _ _ _ => (pv 2))) (pe_lst pa_nil) (nomark _)))))) pss_nil) pss_never), ?_⟩
  have la := dps_len hda
  have lb := dps_len hdb
  refine ⟨_, rfl, .ref b, .ty "dict", _, _, false, rfl, ClsV.ty "dict", hsb.ty, kitD q, false, rfl, iteF ?_⟩
  refine ⟨_, rfl, by show 2 ≤ sizeLine; decide, fun t1 h1 => ⟨.ref b, t1, _, _, _, true, rfl, upd_same, .cons (ClsV.ty "tuple") (.cons (ClsV.ty "list") .nil), (hsb.mono (same_new h1)).ty, isTL q, true, rfl, iteT ?_⟩⟩
  have s1 : Same H (upd H t1 (.tup [.ty "tuple", .ty "list"])) := same_new h1
  generalize upd H t1 (.tup [.ty "tuple", .ty "list"]) = H1 at s1
  refine ⟨_, rfl, by show 2 ≤ sizeLine; decide, fun t2 h2 => ⟨.ref a, t2, _, _, _, true, rfl, upd_same, .cons (ClsV.ty "tuple") (.cons (ClsV.ty "list") .nil), (hsa.mono (s1.trans (same_new h2))).ty, isTL q, true, rfl, iteF ?_⟩⟩
  have s2 : Same H (upd H1 t2 (.tup [.ty "tuple", .ty "list"])) := s1.trans (same_new h2)
  generalize upd H1 t2 (.tup [.ty "tuple", .ty "list"]) = H2 at s2
  refine ⟨_, rfl, .ref a, .ty "list", _, _, q, rfl, ClsV.ty "list", (hsa.mono s2).ty, kitL q, _, rfl, .ref b, .ty "list", _, _, q, rfl, ClsV.ty "list", (hsb.mono s2).ty, kitL q, rfl, _, rfl, ?_⟩
  rw [decide_eq_true rfl]
  refine iteF ?_
  refine ⟨_, rfl, a, _, rfl, (hsa.mono s2).or, _, rfl, b, _, rfl, (hsb.mono s2).or, rfl, _, rfl, ?_⟩
  rw [la, lb, decide_eq_true rfl]
  refine iteF ?_
  -- the items
  refine ⟨_, rfl, b, _, rfl, (hsb.mono s2).or, _, rfl, ?_, ?_, fun D hD => ?_⟩
  · have h62 : (10000 : Int) < 2 ^ 62 := by decide
    rw [lb]
    omega
  · have h62 : (10000 : Int) < 2 ^ 62 := by decide
    rw [lb]
    omega
  refine lc_range (lo := 0) (n := ((ys.length : Nat) : Int).toNat) (fun i H3 => Same H2 H3 ∧ H3 D = some (.lst [])) ⟨same_new hD, upd_same⟩ ?_ ?_
  · rintro i H3 hi ⟨s3, e3⟩
    have hi2 : i < ds.length := by omega
    obtain ⟨v1, d1, ev, _, dv, ed⟩ := dps_at hda hi2
    obtain ⟨v2, d2, eu, hm, du, ed2⟩ := dps_at hdb hi2
    rw [ed] at ed2
    cases ed2
    have s23 := s2.trans s3
    refine ⟨rfl, _, rfl, _, rfl, (hsa.mono s23).ix (at_of (Int.zero_add _) ev) ?_⟩
    refine ⟨_, rfl, _, rfl, (hsb.mono s23).ix (at_of (Int.zero_add _) eu) ?_⟩
    exact ⟨v1, v2, d1, rfl, dp_mono s23 dv, dp_mono s23 du, hds _ hm, fun H4 s4 => ⟨true, rfl, iteF ⟨s3.trans s4, s4 _ _ e3⟩⟩⟩
  rintro H3 ⟨s3, e3⟩
  refine ⟨Nat.zero_le _, fun E2 hE2 => ?_⟩
  exact ⟨.list [], .list [], Dp.lst (SqL.of (upd_old e3 hE2)) .nil, Dp.lst (SqL.of upd_same) .nil, shapedN, shapedN, k _ (s2.trans (s3.trans (same_new hE2)))⟩
theorem ok_law_alike : FnR P w K mg base CX0 5 (a_law_alike K) (spAlike K 4) := ok_alikeS T 3 (ok_alikeS T 2 (ok_alikeS T 1 (ok_alikeS T 0 (ok_alike0 T))))
end
end EB

namespace EB
open PySem PySem.Spec PyProof.Rows L2
theorem OfAt.ins {K : PySem.W.Frag} {H : Hp} {a : Addr} {ts : List Tr} (o : OfAt K H a ts) : ∃ dx fs, H a = some (.ins (He.ga K "Offer") dx fs) ∧ ∀ m : Str, ((m == "_trades") || ((m == "_period") || ((m == "_tops") || ((m == "_firsts") || (m == "_gaps"))))) = false → fs.lookup m = none := by
  obtain ⟨dx, t, p, q, f, g, e1, _⟩ := o.ex
  exact ⟨dx, _, e1, fun m h => lk_no h⟩
theorem dps_snoc {K : PySem.W.Frag} {H : Hp} {v : V} {d : PyData} (h : Dp K H v d) : ∀ {vs : List V} {ds : List PyData}, DpAll K H vs ds → DpAll K H (vs ++ [v]) (ds ++ [d])
  | _, _, .nil => .cons h .nil
  | _, _, .cons a b => .cons a (dps_snoc h b)
theorem hid_mono {H H' : Hp} {x : Addr} (s : Same H H') : Same (hid H x) (hid H' x) := fun b o e => by
  by_cases h : b = x
  · rw [h, hid_x] at e
    cases e
  · rw [hid_ne h] at e ⊢
    exact s b o e
/-- one trade, read off the tuple of the trades -/
theorem TrAt.ix {K : PySem.W.Frag} {H : Hp} {a : Addr} {ts : List Tr} {i : Nat} {t : Tr} (h : TrAt K H a ts) (e : ts[i]? = some t) : ∃ xs p, SqT K H a xs ∧ xs.length = ts.length ∧ atI xs (0 + (i : Int)) = some (.ref p) ∧ SqT K H p t.vs := by
  obtain ⟨ps, h1, h2, h3⟩ := h.ex
  have hi : i < ps.length := by
    rw [h2]
    exact lt_of_at e
  refine ⟨_, ps[i], h1, by rw [List.length_map, h2], at_of (j := i) (Int.zero_add _) ?_, h3 i _ t (List.getElem?_eq_getElem hi) e⟩
  rw [List.getElem?_map, List.getElem?_eq_getElem hi]
  rfl
theorem TrAt.seq {K : PySem.W.Frag} {H : Hp} {a : Addr} {ts : List Tr} (h : TrAt K H a ts) : ∃ xs, SqT K H a xs ∧ xs.length = ts.length := by
  obtain ⟨ps, h1, h2, _⟩ := h.ex
  exact ⟨_, h1, by rw [List.length_map, h2]⟩
theorem ints_lay : ∀ ns : List Int, PyData.canLayAll0 (ns.map .int) = true ∧ PyData.depthAll (ns.map .int) ≤ 1
  | [] => ⟨rfl, by simp [PyData.depthAll]⟩
  | n :: ns => by
    have h := ints_lay ns
    rw [List.map_cons]
    refine ⟨by rw [PyData.canLayAll0, h.1, PyData.canLay0]; rfl, ?_⟩
    simp only [PyData.depthAll, PyData.depth]
    omega
theorem ints_shaped (ns : List Int) : SeqAt.shaped (PyData.list (ns.map .int)) = true := by
  have h := ints_lay ns
  unfold SeqAt.shaped
  rw [Bool.and_eq_true, decide_eq_true_eq]
  refine ⟨by rw [PyData.canLay0]; exact h.1, ?_⟩
  rw [PyData.depth]
  omega
theorem ints_eqv (ns : List Int) : PyData.eqv (PyData.list (ns.map .int)) (.list []) = decide (ns = []) := by
  cases ns with
  | nil => rfl
  | cons k ks =>
    rw [decide_eq_false (by simp)]
    simp [PyData.eqv, PyData.eqvAll]
theorem iteJ {c : Bool} {p : Prop} {R : Hp → Prop} {H : Hp} (Pv : Hp → Prop) (h : ∀ H3, Pv H3 → R H3) (h1 : c = true → (∀ H3, Pv H3 → R H3) → p) (h2 : ¬ c = true → Pv H) : if c = true then p else R H := by
  by_cases q : c = true
  · rw [if_pos q]
    exact h1 q h
  · rw [if_neg q]
    exact h H (h2 q)
/-- two ways on, both to a test that fails -/
theorem capF {a b : TT} {σ : L2.St} {H : Hp} {Q : Bool → Hp → Prop} (Pv : Hp → Prop) (h : ∀ H3, Pv H3 → Q false H3) (k : (∀ H3, Pv H3 → Q false H3) → tAnd a b σ H Q) : tAnd a b σ H Q := k h
/-- a statement whose ways meet again: what is asked of all of them -/
theorem capI {c : TT} {A B X : TS} {D : Ends} {σ : L2.St} {H : Hp} (Pv : L2.St → Hp → Prop) (h : ∀ σ' H', Pv σ' H' → X D σ' H') (k : (∀ σ' H', Pv σ' H' → X D σ' H') → tSeq (tIfS c A B) X D σ H) : tSeq (tIfS c A B) X D σ H := k h
theorem capA {e : TE} {g : TG} {X : TS} {D : Ends} {σ : L2.St} {H : Hp} (Pv : L2.St → Hp → Prop) (h : ∀ σ' H', Pv σ' H' → X D σ' H') (k : (∀ σ' H', Pv σ' H' → X D σ' H') → tSeq (tAsg e g) X D σ H) : tSeq (tAsg e g) X D σ H := k h
theorem hid2_mono {H H' : Hp} {h l : Addr} (s : Same H H') : Same (hid2 H h l) (hid2 H' h l) := fun b o e => by
  by_cases q : b = h ∨ b = l
  · unfold hid2 at e
    rw [if_pos q] at e
    cases e
  · have n1 : b ≠ h := fun z => q (.inl z)
    have n2 : b ≠ l := fun z => q (.inr z)
    rw [hid2_ne n1 n2] at e ⊢
    exact s b o e
theorem HS.trs {K : PySem.W.Frag} {H0 H H' : Hp} {h l a : Addr} {ts : List Tr} (x : HS H0 H h l) (t : TrAt K H a ts) (y : HS (hid2 H h l) H' h l) : TrAt K H' a ts := (x.tr t).mono y.same
theorem tr_snoc {K : PySem.W.Frag} {H : Hp} {a : Addr} {ts : List Tr} {ps : List Addr} {q : Addr} {t : Tr} (h1 : SqT K H a ((ps ++ [q]).map V.ref)) (h2 : ps.length = ts.length) (h3 : ∀ (i : Nat) (p : Addr) (t : Tr), ps[i]? = some p → ts[i]? = some t → SqT K H p t.vs) (hq : SqT K H q t.vs) : TrAt K H a (ts ++ [t]) := by
  refine ⟨ps ++ [q], h1, by rw [List.length_append, List.length_append, h2]; rfl, fun i p u e1 e2 => ?_⟩
  rcases Nat.lt_or_ge i ps.length with z | z
  · rw [List.getElem?_append_left z] at e1
    rw [List.getElem?_append_left (by omega)] at e2
    exact h3 i p u e1 e2
  · rw [List.getElem?_append_right z] at e1
    rw [List.getElem?_append_right (by omega)] at e2
    have hi : i - ps.length = 0 := by
      have := lt_of_at e1
      simp only [List.length_singleton] at this
      omega
    rw [hi] at e1
    rw [← h2, hi] at e2
    cases e1
    cases e2
    exact hq
theorem concat_of {α : Type} {l : List α} (h : l ≠ []) : ∃ i x, l = i ++ [x] := ⟨l.dropLast, l.getLast h, (List.dropLast_concat_getLast h).symm⟩
theorem last_at {xs : List V} {v : V} : atI (xs ++ [v]) (-1) = some v := atI_last xs v
theorem cut_last {xs : List V} {v : V} : cutV (xs ++ [v]) none (some (-1)) = xs ∧ ¬ (HT.sIx (xs ++ [v]).length 0 none = 0 ∧ HT.sIx (xs ++ [v]).length (xs ++ [v]).length (some (-1)) = (xs ++ [v]).length) := by
  have e : HT.sIx (xs ++ [v]).length (xs ++ [v]).length (some (-1)) = xs.length := by
    show (-1 + ((xs ++ [v]).length : Int)).toNat = _
    rw [List.length_append]
    simp only [List.length_singleton]
    omega
  constructor
  · unfold cutV
    rw [e, HT.sIx_none, Nat.sub_zero, List.drop_zero, List.take_left]
  · rw [e]
    intro z
    rw [List.length_append] at z
    simp only [List.length_singleton] at z
    omega
theorem tc_intro {ta : TE} {tr : TA} {σ : L2.St} {H : Hp} {Q : List V → Hp → Prop} (h : ta σ H fun x H1 => tr σ H1 fun xs H2 => Q (x :: xs) H2) : tCons ta tr σ H Q := h
theorem hid_sqt {K : PySem.W.Frag} {H : Hp} {O a : Addr} {zs xs : List V} (e : H O = some (.lst zs)) (t : SqT K H a xs) : SqT K (hid H O) a xs := by
  rcases t with (t | ⟨o, t⟩) | t
  · exact .inl (.inl (by rw [hid_ne (ne_of t e (by intro z; cases z))]; exact t))
  · exact .inl (.inr ⟨o, by rw [hid_ne (ne_of t e (by intro z; cases z))]; exact t⟩)
  · exact .inr t
theorem hid_sql {K : PySem.W.Frag} {H : Hp} {O a : Addr} {xs : List V} (n : a ≠ O) (t : SqL K H a xs) : SqL K (hid H O) a xs := by
  rcases t with (t | ⟨o, t⟩) | t
  · exact .inl (.inl (by rw [hid_ne n]; exact t))
  · exact .inl (.inr ⟨o, by rw [hid_ne n]; exact t⟩)
  · exact .inr t
theorem hid_tr {K : PySem.W.Frag} {H : Hp} {O a : Addr} {zs : List V} {ts : List Tr} (e : H O = some (.lst zs)) (t : TrAt K H a ts) : TrAt K (hid H O) a ts := by
  obtain ⟨ps, h1, h2, h3⟩ := t.ex
  exact ⟨ps, hid_sqt e h1, h2, fun i p t a b => hid_sqt e (h3 i p t a b)⟩
/-- a new offer, looked at without the draws and without a list that was there -/
theorem HS.of3 {K : PySem.W.Frag} {H0 H H1 : Hp} {h l a O : Addr} {ts : List Tr} {zs : List V} (x : HS H0 H h l) (s : Same H H1) (t : OfNew K H H1 a ts) (eO : H O = some (.lst zs)) (m1 : O ≠ h) (m2 : O ≠ l) : OfAt K (hid (hid2 H1 h l) O) a ts := by
  obtain ⟨dx, t, p, o, f, g, h1, h2, h3, h4, h5, h6, n1, n2, n3⟩ := t.ex
  have y := x.grow s
  obtain ⟨m, i, ns, e1, e2, _⟩ := x.ex
  have q : ∀ b, H b = none → b ≠ h ∧ b ≠ l := fun b n => ⟨(ne_of_none e1 n).symm, (ne_of_none e2 n).symm⟩
  have r : ∀ b, H b = none → b ≠ O := fun b n => (ne_of_none eO n).symm
  have eO2 : hid2 H1 h l O = some (.lst zs) := HS.keep (H0 := H0) (s _ _ eO) m1 m2
  have e : hid2 H1 h l a = some (.ins (He.ga K "Offer") dx (ofs t p o f g)) := by
    rw [hid2_ne (ne_of h1 (s _ _ e1) (by intro z; cases z)) (ne_of h1 (s _ _ e2) (by intro z; cases z))]
    exact h1
  refine ⟨dx, t, p, o, f, g, ?_, hid_tr eO2 (y.tr h2), hid_sqt eO2 (y.tup h3), hid_sql (r o n1) (y.lst h4 (q o n1).1 (q o n1).2), hid_sql (r f n2) (y.lst h5 (q f n2).1 (q f n2).2), hid_sql (r g n3) (y.lst h6 (q g n3).1 (q g n3).2)⟩
  rw [hid_ne (ne_of e eO2 (by intro z; cases z))]
  exact e
theorem hid3_upd {H : Hp} {h l O : Addr} {v : HO} (n1 : O ≠ h) (n2 : O ≠ l) : hid (hid2 (upd H O v) h l) O = hid (hid2 H h l) O := funext fun b => by
  by_cases q : b = O
  · rw [q, hid_x, hid_x]
  · rw [hid_ne q, hid_ne q]
    unfold hid2
    rw [upd_ne q]
theorem tr_rev {K : PySem.W.Frag} {H : Hp} {a : Addr} {ts : List Tr} (t : TrAt K H a ts) : ∃ xs, SqT K H a xs ∧ ∀ H' q, Same H H' → SqT K H' q xs.reverse → TrAt K H' q ts.reverse := by
  obtain ⟨ps, h1, h2, h3⟩ := t.ex
  refine ⟨_, h1, fun H' q s e => ⟨ps.reverse, by rw [List.map_reverse]; exact e, by rw [List.length_reverse, List.length_reverse, h2], fun i p2 t2 e1 e2 => ?_⟩⟩
  have hi := lt_of_at e1
  rw [List.length_reverse] at hi
  rw [List.getElem?_reverse hi] at e1
  rw [List.getElem?_reverse (by omega), ← h2] at e2
  exact Same.tup s (h3 _ p2 t2 e1 e2)
theorem catA_any {K : PySem.W.Frag} {H : Hp} {a b : Addr} {xs ys : List V} {Q : VK} (h1 : SqT K H a xs) (h2 : SqT K H b ys) (hl : xs.length + ys.length ≤ 1000) (k : ∀ q H', Same H H' → SqT K H' q (xs ++ ys) → Q (.ref q) H') : rCatA K (.ref a) (.ref b) H Q := by
  have h1000 : 1000 ≤ sizeLine := by decide
  refine ⟨a, b, xs, ys, rfl, rfl, h1, h2, by omega, fun z => k b H (Same.refl _) ?_, fun _ z => k a H (Same.refl _) ?_, fun _ _ p hp => k p _ (same_new hp) (SqT.of upd_same)⟩
  · rw [z, List.nil_append]
    exact h2
  · rw [z, List.append_nil]
    exact h1
theorem slA_any {K : PySem.W.Frag} {H : Hp} {a : Addr} {xs : List V} {lo hi : Option Int} {Q : VK} (h1 : SqT K H a xs) (k : ∀ q H', Same H H' → SqT K H' q (cutV xs lo hi) → Q (.ref q) H') : rSlA K (.ref a) lo hi H Q := by
  refine ⟨a, xs, rfl, h1, fun z => k a H (Same.refl _) ?_, fun _ p hp => k p _ (same_new hp) (SqT.of upd_same)⟩
  unfold cutV
  rw [z.1, z.2, Nat.sub_zero, List.drop_zero, List.take_length]
  exact h1
theorem cut_to {xs : List V} {k : Nat} (h : k ≤ xs.length) : cutV xs none (some (k : Int)) = xs.take k := by
  unfold cutV
  rw [HT.sIx_none, HT.sIx_nat, Nat.min_eq_left h, Nat.sub_zero, List.drop_zero]
theorem cut_from {xs : List V} {k : Nat} (h : k ≤ xs.length) : cutV xs (some (k : Int)) none = xs.drop k := by
  unfold cutV
  rw [HT.sIx_none, HT.sIx_nat, Nat.min_eq_left h, List.take_of_length_le]
  rw [List.length_drop]
  omega
theorem tr_mid {K : PySem.W.Frag} {H : Hp} {b q : Addr} {ps1 ps2 : List Addr} {ts1 ts2 : List Tr} {t : Tr} (h : SqT K H b ((ps1 ++ q :: ps2).map V.ref)) (l1 : ps1.length = ts1.length) (l2 : ps2.length = ts2.length)
    (h1 : ∀ (i : Nat) (p : Addr) (t : Tr), ps1[i]? = some p → ts1[i]? = some t → SqT K H p t.vs) (h2 : ∀ (i : Nat) (p : Addr) (t : Tr), ps2[i]? = some p → ts2[i]? = some t → SqT K H p t.vs) (hq : SqT K H q t.vs) : TrAt K H b (ts1 ++ t :: ts2) := by
  refine ⟨_, h, by rw [List.length_append, List.length_append, List.length_cons, List.length_cons, l1, l2], fun i p u e1 e2 => ?_⟩
  rcases Nat.lt_or_ge i ps1.length with z | z
  · rw [List.getElem?_append_left z] at e1
    rw [List.getElem?_append_left (by omega)] at e2
    exact h1 i p u e1 e2
  · rw [List.getElem?_append_right z] at e1
    rw [List.getElem?_append_right (by omega), ← l1] at e2
    generalize i - ps1.length = j at e1 e2
    cases j with
    | zero =>
      cases e1
      cases e2
      exact hq
    | succ j => exact h2 j p u e1 e2
theorem mid_of {α : Type} {l : List α} {r : Nat} (h : r < l.length) : ∃ a x b, l = a ++ x :: b ∧ a.length = r :=
  ⟨l.take r, l[r], l.drop (r + 1), by rw [← List.drop_eq_getElem_cons h, List.take_append_drop], by rw [List.length_take]; omega⟩
theorem get_of {α β : Type} {xs : List α} {ys : List β} (h : xs.length = ys.length) {i : Nat} {x : α} (e : xs[i]? = some x) : ∃ y, ys[i]? = some y := by
  have hi : i < ys.length := by
    rw [← h]
    exact lt_of_at e
  exact ⟨_, List.getElem?_eq_getElem hi⟩
end EB

/-! _law_steps: steps that are possible, as they are drawn. -/
namespace EB
open PySem PySem.Spec PyProof.Rows L2 EBG
theorem at_nat {α : Type} {xs : List α} {i : Nat} {v : α} (e : xs[i]? = some v) : atI xs (i : Int) = some v := by
  have hl := lt_of_at e
  unfold atI ixN
  rw [if_pos (Int.natCast_nonneg i), Int.toNat_natCast, if_pos (Int.ofNat_lt.mpr hl)]
  exact e
theorem count_at {ab r3 r4 : Int} (h0 : 0 ≤ r3) (h1 : r3 < ab + 1) (h2 : 0 ≤ r4) (h3 : r4 < 2) : ∃ c : Int, 0 ≤ c ∧ c ≤ ab ∧ atI [V.int ab, V.int r3] r4 = some (.int c) := by
  rcases (show r4 = 0 ∨ r4 = 1 by omega) with rfl | rfl
  · exact ⟨ab, by omega, Int.le_refl _, rfl⟩
  · exact ⟨r3, h0, by omega, rfl⟩
theorem StA.down {H0 H H' : Hp} {h l S : Addr} {L : List (Str × Int)} (st : StA H S L) (g : HS H0 H h l) (g' : HS (hid2 H h l) H' h l) (n1 : S ≠ h) (n2 : S ≠ l) : StA H' S L := by
  obtain ⟨ps, e1, e2⟩ := st.ex
  exact ⟨ps, g'.same _ _ (HS.keep (H0 := H0) e1 n1 n2), e2.mono fun q xs e => g'.same _ _ (g.keepT e)⟩
theorem ap_st {Hm : Hp} {S q : Addr} {ps : List Addr} {L : List (Str × Int)} {z : Str} {c : Int} (h1 : Hm S = some (.lst (ps.map V.ref))) (h2 : StP Hm ps L) (hq : Hm q = none) : StA (upd (upd Hm q (.tup [.str z, .int c])) S (.lst (ps.map V.ref ++ [V.ref q]))) S (L ++ [(z, c)]) := by
  have nqS : q ≠ S := fun e => by
    rw [e, h1] at hq
    cases hq
  refine ⟨ps ++ [q], ?_, StP.snoc ?_ (h2.mono fun r xs e => ?_)⟩
  · rw [upd_same, List.map_append]
    rfl
  · rw [upd_ne nqS, upd_same]
  · rw [upd_ne (ne_of e h1 (by intro z; cases z))]
    exact upd_old e hq
theorem Ran.able {ts : List Tr} {n : Nat} {L : List (Str × Int)} {u : Tr} (f : Fair ts) (hnm : nmOk ts) (r : Ran ts n L) (hu : u ∈ ts) : (plRun n L).f u / u.n ≤ n := by
  obtain ⟨m, h1, h2⟩ := r.cnt
  have one : ∀ t ∈ ts, t.k = u.k → t = u := fun t ht ek => by
    have q1 := find_kind hnm.1 ht
    rw [ek, find_kind hnm.1 hu] at q1
    exact (Option.some.inj q1).symm
  have hs := sum_upd (m := m) (c := (plRun n L).f u / u.n) hnm.1 hu
  have hm : (ts.map fun t => if t.k = u.k then m t + (plRun n L).f u / u.n else m t).sum ≤ buys ts (plRun n L).d := by
    refine sum_le fun t ht => ?_
    have ho := f.g.2 t ht
    have hp : 0 < t.n := by have := ho.2.2.1; omega
    have hf := r.f0 t ht
    refine (Int.le_ediv_iff_mul_le hp).mpr ?_
    by_cases e : t.k = u.k
    · have et := one t ht e
      subst et
      rw [if_pos rfl, Int.add_mul]
      have h3 := Int.ediv_mul_le ((plRun n L).f t) (Int.ne_of_gt hp)
      have h4 := h1 t ht
      have h5 : t.n * m t = m t * t.n := Int.mul_comm _ _
      omega
    · rw [if_neg e]
      rw [h1 t ht] at hf
      have h5 : t.n * m t = m t * t.n := Int.mul_comm _ _
      omega
  obtain ⟨d, hd⟩ := Int.eq_ofNat_of_zero_le r.d0
  have ht := ten_buys f d
  have hb := r.b0
  have hS : 0 ≤ (plRun n L).d := r.d0
  rw [hd] at hm h2
  rw [hs] at hm
  omega
theorem ixN_nat {n j : Nat} (h : j < n) : ixN n (j : Int) = some j := by
  unfold ixN
  rw [if_pos (Int.natCast_nonneg j), if_pos (Int.ofNat_lt.mpr h), Int.toNat_natCast]
theorem set_map {ts : List Tr} {f g : Tr → Int} {j : Nat} {u : Tr} (hn : (ts.map Tr.k).Nodup) (e : ts[j]? = some u) : (ts.map fun t => V.int (f t)).set j (V.int (g u)) = ts.map fun t => V.int (if t.k = u.k then g t else f t) := by
  refine List.ext_getElem? fun i => ?_
  rw [List.getElem?_map]
  by_cases hi : j = i
  · subst hi
    rw [List.getElem?_set_self (by rw [List.length_map]; exact lt_of_at e), e]
    show _ = some (V.int (if u.k = u.k then g u else f u))
    rw [if_pos rfl]
  · rw [List.getElem?_set_ne hi, List.getElem?_map]
    cases e2 : ts[i]? with
    | none => rfl
    | some t =>
      have nk : t.k ≠ u.k := fun z => hi (L2.nodup_ix hn (x := u.k) (by rw [List.getElem?_map, e]; rfl) (by rw [List.getElem?_map, e2, ← z]; rfl))
      show some (V.int (f t)) = some (V.int (if t.k = u.k then g t else f t))
      rw [if_neg nk]
theorem rep_flat {v : V} : ∀ ts : List Tr, (List.replicate ts.length [v]).flatten = ts.map fun _ => v
  | [] => rfl
  | t :: ts => by
    rw [List.length_cons, List.replicate_succ, List.flatten_cons, rep_flat ts]
    rfl
section
variable {P : Program} {w : World} {K : PySem.W.Frag} {mg : Str → Option Value} {base : Heap} (T : Tx K mg)
include T
def spSteps (K : PySem.W.Frag) : Sp := fun vs H Q _ => ∃ (h l p : Addr) (ts : List Tr) (n : Nat) (H0 : Hp), vs = [.ref h, .ref p, .int (n : Nat)] ∧ n ≤ 1000000000000000000 ∧ HS H0 H h l ∧ TrAt K H0 p ts ∧ Fair ts ∧ nmOk ts ∧ ts ≠ [] ∧
  ∀ H' q S A L, HS H0 H' h l → L.length ≤ 8 → Ran ts n L → StA H' S L → S ≠ h → S ≠ l → H0 S = none → H' A = some (.lst (ts.map fun t => V.int ((plRun n L).f t))) → A ≠ h → A ≠ l → SqT K H' q [.ref S, .int (plRun n L).d, .int (plRun n L).b, .ref A] → Q (.ref q) H'
theorem ok_law_steps : FnR P w K mg base CX0 2 (a_law_steps K) (spSteps K) := by
  refine fnR0 (d := d_law_steps) T.F_law_steps sc_law_steps rfl (fun _ _ _ _ _ _ us hl => match us, hl with | [_, _, _], _ => rfl) (fun vs H Q E h => ?_) (fun cdv A outer s H vs Q E hr h => ?_)
  · obtain ⟨h, l, p, ts, n, H0, rfl, _⟩ := h
    rfl
  obtain ⟨h, l, p, ts, n, H0, rfl, hn, hs, ht, hf, hnm, hne, k⟩ := h
  refine ⟨_, (pss_cons (ps_asg (pe_tup (pa_cons (pv 2) (pa_cons pe_int (pa_cons (pe_op op_rep (pe_lst (pa_cons pe_int pa_nil)) (pe_callB call_len_seq (by rfl) T.n_len PySem.boot_len (pa_cons (pv 1) pa_nil))) (pa_cons (pe_lst pa_nil) pa_nil))))) (pg_tup rfl (pgs_cons (pg_name (i := 3) sc_law_steps.nd rfl (Or.inl rfl)) (pgs_cons (pg_name (i := 4) sc_law_steps.nd rfl (Or.inl rfl)) (pgs_cons (pg_name (i := 5) sc_law_steps.nd rfl (Or.inr rfl)) (pgs_cons (pg_name (i := 6) sc_law_steps.nd rfl (Or.inl rfl)) pgs_nil)))))) (pss_cons (ps_for PassesOwn.never rfl (pi_range1 rfl T.n_range (pa_cons (pe_cR (ok_law_next T) (hr.mono (by decide)) T.F_law_next.kp T.g_law_next pass0 (pa_cons (pv 0) (pa_cons pe_int pa_nil))) pa_nil)) (pg_name (i := 7) sc_law_steps.nd rfl (Or.inl rfl)) (pss_cons (ps_set (i := 8) sc_law_steps.nd rfl (Or.inl rfl) (pe_cR (ok_law_next T) (hr.mono (by decide)) T.F_law_next.kp T.g_law_next pass0 (pa_cons (pv 0) (pa_cons (pe_op op_add (pe_callB call_len_seq (by rfl) T.n_len PySem.boot_len (pa_cons (pv 1) pa_nil)) pe_int) pa_nil)))) (pss_cons (ps_set (i := 9) sc_law_steps.nd rfl (Or.inl rfl) (pe_ifExp (pt_cmpR op_eq (pv 8) (pe_callB call_len_seq (by rfl) T.n_len PySem.boot_len (pa_cons (pv 1) pa_nil)) (nomark _)) (pv 3) (pe_op op_fdiv (pe_ix ix_list (pv 5) (pv 8) (fun _ _ => rfl)) (pe_ix ix_tup (pe_ix ix_tup (pv 1) (pv 8) (fun _ _ => rfl)) pe_int (fun _ _ => rfl))))) (pss_cons (ps_set (i := 10) sc_law_steps.nd rfl (Or.inr rfl) (pe_ix ix_list (pe_lst (pa_cons (pv 9) (pa_cons (pe_cR (ok_law_next T) (hr.mono (by decide)) T.F_law_next.kp T.g_law_next pass0 (pa_cons (pv 0) (pa_cons (pe_op op_add (pv 9) pe_int) pa_nil))) pa_nil))) (pe_cR (ok_law_next T) (hr.mono (by decide)) T.F_law_next.kp T.g_law_next pass0 (pa_cons (pv 0) (pa_cons pe_int pa_nil))) (fun _ _ => rfl))) (pss_one (ps_if (pt_cmpR op_eq (pv 8) (pe_callB call_len_seq (by rfl) T.n_len PySem.boot_len (pa_cons (pv 1) pa_nil)) (nomark _)) (pss_cons (ps_par (i := 3) (j := 4) (by rfl) sc_law_steps.nd rfl rfl (by decide) rfl rfl (pa_cons (pe_op op_sub (pv 3) (pv 10)) (pa_cons (pe_op op_add (pv 4) (pv 10)) pa_nil)) (by rfl)) (pss_cons (ps_set (i := 5) sc_law_steps.nd rfl (Or.inr rfl) (pe_lc (own := [("_law_j", 11)]) rfl sc_law_steps.nd (pi_range1 rfl T.n_range (pa_cons (pe_callB call_len_seq (by rfl) T.n_len PySem.boot_len (pa_cons (pv 1) pa_nil)) pa_nil)) (blkOk_by (own := [("_law_j", 11)]) (N := N_law_steps) (sc := defScope s_law_steps) (by decide +kernel)) (fun _ _ _ _ _ => (pg_name (i := 11) sc_law_steps.nd rfl (Or.inl rfl) (.inr rfl))) (fun _ _ _ _ _ => pts_nil) (fun _ _ _ _ _ => (pe_op op_add (pe_ix (ix_listK (K := K) rfl) (pv 5) (pv 11) (fun _ _ => rfl)) (pe_op op_mul (pe_ix (ix_tupK (K := K) rfl) (pe_ix (ix_tupK (K := K) rfl) (pv 1) (pv 11) (fun _ _ => rfl)) pe_int (fun _ _ => rfl)) (pv 10)))))) (pss_one (ps_expr (pe_bm PySem.F.plainAttrs_list PySem.F.slot_list_append PySem.F.type_list_append mt_append (pv 6) (pa_cons (pe_tup (pa_cons pe_str (pa_cons (pv 10) pa_nil))) pa_nil)))))) (pss_cons (ps_set (i := 3) sc_law_steps.nd rfl (Or.inl rfl) (pe_op op_add (pv 3) (pv 10))) (pss_cons (ps_asg (pe_op op_sub (pe_ix ix_list (pv 5) (pv 8) (fun _ _ => rfl)) (pe_op op_mul (pe_ix ix_tup (pe_ix ix_tup (pv 1) (pv 8) (fun _ _ => rfl)) pe_int (fun _ _ => rfl)) (pv 10))) (pg_sub (pv 5) (pv 8) set_list)) (pss_one (ps_expr (pe_bm PySem.F.plainAttrs_list PySem.F.slot_list_append PySem.F.type_list_append mt_append (pv 6) (pa_cons (pe_tup (pa_cons (pe_ix ix_tup (pe_ix ix_tup (pv 1) (pv 8) (fun _ _ => rfl)) pe_int (fun _ _ => rfl)) (pa_cons (pv 10) pa_nil))) pa_nil)))))))))))) (pss_one (ps_ret (pe_tup (pa_cons (pv 6) (pa_cons (pv 4) (pa_cons (pv 3) (pa_cons (pv 5) pa_nil))))))))), ?_⟩
  obtain ⟨ps, h1, h2, h3⟩ := ht.ex
  have hlen := hf.g.1
  have lps : (ps.map V.ref).length = ts.length := by rw [List.length_map, h2]
  refine ⟨_, rfl, by show 1 ≤ sizeLine; decide, fun A0 hA0 => ⟨_, rfl, p, ps.map V.ref, rfl, .inr (Same.tup (hs.same.trans (same_new hA0)) h1), ?_⟩⟩
  have g0 := hs.grow (same_new (u := .lst [.int 0]) hA0)
  have eA0 : upd H A0 (.lst [.int 0]) A0 = some (.lst [.int 0]) := upd_same
  generalize upd H A0 (.lst [.int 0]) = HA at g0 eA0
  rw [lps]
  refine ⟨A0, _, _, rfl, rfl, eA0, by omega, by omega, by rw [Int.toNat_natCast]; show 1 * ts.length ≤ sizeLine; exact Nat.le_of_lt (small3 (by omega)), fun A hA => ?_⟩
  rw [Int.toNat_natCast, rep_flat]
  have nA := g0.new hA
  have n0A : H0 A = none := g0.same.free hA
  have g1 := g0.grow (same_new (u := .lst (ts.map fun _ => V.int 0)) hA)
  have eA : upd HA A (.lst (ts.map fun _ => V.int 0)) A = some (.lst (ts.map fun _ => V.int 0)) := upd_same
  generalize upd HA A (.lst (ts.map fun _ => V.int 0)) = HB at g1 eA
  refine ⟨Nat.zero_le _, fun S hS => ?_⟩
  have nS := g1.new hS
  have n0S : H0 S = none := g1.same.free hS
  have g2 := g1.grow (same_new (u := .lst []) hS)
  have eS : upd HB S (.lst []) S = some (.lst []) := upd_same
  have eA2 := upd_old (u := .lst []) eA hS
  generalize upd HB S (.lst []) = HC at g2 eS eA2
  refine ⟨by show 4 ≤ sizeLine; decide, fun q hq => ?_⟩
  have g3 := g2.grow (same_new (u := .tup [.int (n : Nat), .int 0, .ref A, .ref S]) hq)
  have eS3 := upd_old (u := .tup [.int (n : Nat), .int 0, .ref A, .ref S]) eS hq
  have eA3 := upd_old (u := .tup [.int (n : Nat), .int 0, .ref A, .ref S]) eA2 hq
  refine ⟨q, _, rfl, SqT.of upd_same, rfl, _, _, rfl, _, _, rfl, _, _, rfl, _, _, rfl, rfl, ?_⟩
  generalize upd HC q (.tup [.int (n : Nat), .int 0, .ref A, .ref S]) = HD at g3 eS3 eA3
  refine ⟨_, rfl, h, l, 9, hid2 HD h l, rfl, by omega, by omega, g3.re, fun HE r hsE r0 r1 => ⟨r, rfl, by omega, by omega, ?_⟩⟩
  have gE := g3.down hsE
  have eSE := hsE.same _ _ (HS.keep (H0 := H0) eS3 nS.1 nS.2)
  have eAE := hsE.same _ _ (HS.keep (H0 := H0) eA3 nA.1 nA.2)
  refine for_range (n := r.toNat) (fun i σ H1 => ∃ (L : List (Str × Int)) (B : Addr) (x7 x8 x9 x10 x11 : Option V), L.length = i ∧ Ran ts n L ∧ HS H0 H1 h l ∧ StA H1 S L ∧ H1 B = some (.lst (ts.map fun t => V.int ((plRun n L).f t))) ∧ B ≠ h ∧ B ≠ l ∧ H0 B = none ∧
    σ = [some (.ref h), some (.ref p), some (.int (n : Nat)), some (.int (plRun n L).b), some (.int (plRun n L).d), some (.ref B), some (.ref S), x7, x8, x9, x10, x11]) ?_ ?_ ?_
  · exact ⟨[], A, none, none, none, none, none, rfl, Ran.nil ts n, gE, ⟨[], eSE, .nil⟩, eAE, nA.1, nA.2, n0A, rfl⟩
  · rintro i σ H1 hi ⟨L, B, x7, x8, x9, x10, x11, hL, hR, g4, st, eB, b1, b2, b3, rfl⟩
    have hb := hR.bn hf
    refine ⟨_, rfl, _, rfl, p, ps.map V.ref, rfl, .inr (Same.tup g4.same h1), _, _, rfl, rfl, h, l, _, hid2 H1 h l, rfl, by rw [lps]; omega, by rw [lps]; omega, g4.re, fun H2 kk hs2 k0 k1 => ?_⟩
    rw [lps] at k1
    have g5 := g4.down hs2
    have st2 := st.down g4 hs2 nS.1 nS.2
    have eB2 := hs2.same _ _ (HS.keep (H0 := H0) eB b1 b2)
    by_cases hk : kk = (ts.length : Int)
    · refine ⟨_, rfl, _, rfl, p, _, rfl, .inr (Same.tup g5.same h1), rfl, _, rfl, ite2 (fun _ => ?_) (fun z => absurd (by rw [lps, hk]; exact decide_eq_true rfl) z)⟩
      have hb0 := hR.b0
      refine ⟨_, rfl, ?_⟩
      refine ⟨_, rfl, _, rfl, _, rfl, _, _, rfl, rfl, h, l, _, hid2 H2 h l, rfl, by omega, by omega, g5.re, fun H3 r3 hs3 q0 q1 => ⟨by show 2 ≤ sizeLine; decide, fun Z hZ => ?_⟩⟩
      have g6 := g5.down hs3
      have nZ := g6.new hZ
      have st3 := (st2.down g5 hs3 nS.1 nS.2).mono (same_new (u := .lst [.int (plRun n L).b, .int r3]) hZ)
      have eB3 := upd_old (u := .lst [.int (plRun n L).b, .int r3]) (hs3.same _ _ (HS.keep (H0 := H0) eB2 b1 b2)) hZ
      have g7 := g6.grow (same_new (u := .lst [.int (plRun n L).b, .int r3]) hZ)
      have eZ : upd H3 Z (.lst [.int (plRun n L).b, .int r3]) Z = some (.lst [.int (plRun n L).b, .int r3]) := upd_same
      generalize upd H3 Z (.lst [.int (plRun n L).b, .int r3]) = H3b at g7 eZ eB3 st3
      refine ⟨_, rfl, h, l, 2, hid2 H3b h l, rfl, by omega, by omega, g7.re, fun H4 r4 hs4 s0 s1 => ?_⟩
      obtain ⟨c, c0, c1, hat⟩ := count_at q0 q1 s0 s1
      have g8 := g7.down hs4
      have st4 := st3.down g7 hs4 nS.1 nS.2
      have eB4 := hs4.same _ _ (HS.keep (H0 := H0) eB3 b1 b2)
      have eZ4 := hs4.same _ _ (HS.keep (H0 := H0) eZ nZ.1 nZ.2)
      refine ⟨Z, _, r4, _, rfl, rfl, SqL.of eZ4, hat, ?_⟩
      have hD := hR.drink hf hn c0 c1
      have p1 : plRun n (L ++ [(("drink" : Str), c)]) = ⟨(plRun n L).d + c, (plRun n L).b - c, fun t => (plRun n L).f t + t.l * c⟩ := plRun_app.trans (if_pos rfl)
      refine ⟨_, rfl, _, rfl, p, _, rfl, .inr (Same.tup g8.same h1), rfl, _, rfl, ite2 (fun _ => ?_) (fun z => absurd (by rw [lps, hk]; exact decide_eq_true rfl) z)⟩
      refine ⟨_, rfl, _, rfl, _, _, rfl, rfl, _, rfl, _, rfl, _, _, rfl, rfl, _, _, rfl, ?_⟩
      refine ⟨_, rfl, p, _, rfl, .inr (Same.tup g8.same h1), _, rfl, by rw [lps]; omega, by rw [lps]; omega, fun W hW => ?_⟩
      have nW := g8.new hW
      refine lc_range (fun j H5 => Same H4 H5 ∧ H5 W = some (.lst ((ts.take j).map fun t => V.int ((plRun n L).f t + t.l * c)))) ⟨same_new hW, upd_same⟩ ?_ ?_
      · rintro j H5 hj ⟨s5, w5⟩
        rw [lps, Int.toNat_natCast] at hj
        have et : ts[j]? = some ts[j] := List.getElem?_eq_getElem hj
        have ep : ps[j]? = some ps[j] := List.getElem?_eq_getElem (by omega)
        have h5 := h3 j _ _ ep et
        have ho := hf.g.2 _ (List.mem_of_getElem? et)
        generalize ts[j] = u at et h5 ho
        generalize ps[j] = up at ep h5
        have l5 : ((ts.take j).map fun t => V.int ((plRun n L).f t + t.l * c)).length ≤ 3 := by
          rw [List.length_map, List.length_take]
          omega
        rw [Int.zero_add]
        refine ⟨rfl, _, rfl, _, rfl, B, _, _, _, rfl, rfl, SqL.of (s5 _ _ eB4), at_nat (by rw [List.getElem?_map, et]; rfl), _, rfl, _, rfl, p, _, _, _, rfl, rfl, Same.tup (g8.same.trans s5) h1, at_nat (by rw [List.getElem?_map, ep]; rfl), up, _, _, _, rfl, rfl, Same.tup (g8.same.trans s5) h5, rfl, _, rfl, _, _, rfl, rfl, .inl ⟨by have := ho.1; omega, by have := ho.2.1; omega⟩, _, _, rfl, rfl, _, w5, small3 (by omega), same_mut s5 hW, ?_⟩
        rw [upd_same, take_at et, List.map_append]
        rfl
      · rintro H5 ⟨s5, w5⟩
        rw [lps, Int.toNat_natCast, List.take_length] at w5
        have st5 := st4.mono s5
        obtain ⟨qs, v1, v2⟩ := st5.ex
        have lqs := Paired.length v2
        have s4e : ∃ o, H4 S = some o := let ⟨_, e, _⟩ := st4.ex; ⟨_, e⟩
        obtain ⟨o4, s4e⟩ := s4e
        have nSW : S ≠ W := ne_of_none s4e hW
        refine ⟨_, rfl, .inl ⟨rfl, _, SqL.of v1⟩, _, rfl, by show 2 ≤ sizeLine; decide, fun q2 hq2 => ⟨S, _, _, rfl, rfl, upd_old v1 hq2, by rw [List.length_map]; exact small3 (by omega), ?_⟩⟩
        refine ⟨L ++ [(("drink" : Str), c)], W, some (.int (0 + (i : Nat))), some (.int kk), some (.int (plRun n L).b), some (.int c), x11, by rw [List.length_append, hL]; rfl, hD, ((g8.grow s5).grow (same_new hq2)).mut n0S nS.1 nS.2, ap_st v1 v2 hq2, ?_, nW.1, nW.2, g8.same.free hW, ?_⟩
        · rw [upd_ne nSW.symm, p1]
          exact upd_old w5 hq2
        · rw [p1]
          rfl
    · obtain ⟨j, rfl⟩ := Int.eq_ofNat_of_zero_le k0
      have hj : j < ts.length := by omega
      have et : ts[j]? = some ts[j] := List.getElem?_eq_getElem hj
      have ep : ps[j]? = some ps[j] := List.getElem?_eq_getElem (by omega)
      have h5 := h3 j _ _ ep et
      generalize ts[j] = u at et h5
      generalize ps[j] = up at ep h5
      have hu : u ∈ ts := List.mem_of_getElem? et
      have ho := hf.g.2 _ hu
      have hab := hR.able hf hnm hu
      have hab0 : 0 ≤ (plRun n L).f u / u.n := Int.ediv_nonneg (hR.f0 u hu) (by have := ho.2.2.1; omega)
      have hkk : ¬ (decide (V.int (j : Nat) = V.int ((ps.map V.ref).length : Nat)) = true) := fun z => by
        have z := V.int.inj (of_decide_eq_true z)
        omega
      refine ⟨_, rfl, _, rfl, p, _, rfl, .inr (Same.tup g5.same h1), rfl, _, rfl, ite2 (fun z => absurd z hkk) (fun _ => ?_)⟩
      refine ⟨_, rfl, _, rfl, B, _, _, _, rfl, rfl, SqL.of eB2, at_nat (by rw [List.getElem?_map, et]; rfl), _, rfl, _, rfl, p, _, _, _, rfl, rfl, Same.tup g5.same h1, at_nat (by rw [List.getElem?_map, ep]; rfl), up, _, _, _, rfl, rfl, Same.tup g5.same h5, rfl, _, _, rfl, rfl, ⟨by have := ho.2.2.1; omega, by have := ho.2.2.2; omega⟩, ?_⟩
      refine ⟨_, rfl, _, rfl, _, rfl, _, _, rfl, rfl, h, l, _, hid2 H2 h l, rfl, by omega, by omega, g5.re, fun H3 r3 hs3 q0 q1 => ⟨by show 2 ≤ sizeLine; decide, fun Z hZ => ?_⟩⟩
      have g6 := g5.down hs3
      have nZ := g6.new hZ
      have st3 := (st2.down g5 hs3 nS.1 nS.2).mono (same_new (u := .lst [.int ((plRun n L).f u / u.n), .int r3]) hZ)
      have eB3 := upd_old (u := .lst [.int ((plRun n L).f u / u.n), .int r3]) (hs3.same _ _ (HS.keep (H0 := H0) eB2 b1 b2)) hZ
      have g7 := g6.grow (same_new (u := .lst [.int ((plRun n L).f u / u.n), .int r3]) hZ)
      have eZ : upd H3 Z (.lst [.int ((plRun n L).f u / u.n), .int r3]) Z = some (.lst [.int ((plRun n L).f u / u.n), .int r3]) := upd_same
      generalize upd H3 Z (.lst [.int ((plRun n L).f u / u.n), .int r3]) = H3b at g7 eZ eB3 st3
      refine ⟨_, rfl, h, l, 2, hid2 H3b h l, rfl, by omega, by omega, g7.re, fun H4 r4 hs4 s0 s1 => ?_⟩
      obtain ⟨c, c0, c1, hat⟩ := count_at q0 q1 s0 s1
      have g8 := g7.down hs4
      have st4 := st3.down g7 hs4 nS.1 nS.2
      have eB4 := hs4.same _ _ (HS.keep (H0 := H0) eB3 b1 b2)
      have eZ4 := hs4.same _ _ (HS.keep (H0 := H0) eZ nZ.1 nZ.2)
      refine ⟨Z, _, r4, _, rfl, rfl, SqL.of eZ4, hat, ?_⟩
      have hD := hR.trade hf hnm hu c0 (by omega) c1
      have p1 : plRun n (L ++ [(u.k, c)]) = ⟨(plRun n L).d, (plRun n L).b + c, fun t => if t.k = u.k then (plRun n L).f t - t.n * c else (plRun n L).f t⟩ := plRun_app.trans (if_neg (hnm.drink u hu))
      refine ⟨_, rfl, _, rfl, p, _, rfl, .inr (Same.tup g8.same h1), rfl, _, rfl, ite2 (fun z => absurd z hkk) (fun _ => ?_)⟩
      refine ⟨_, rfl, _, rfl, _, _, rfl, rfl, ?_⟩
      refine ⟨_, rfl, _, rfl, B, _, _, _, rfl, rfl, SqL.of eB4, at_nat (by rw [List.getElem?_map, et]; rfl), _, rfl, _, rfl, p, _, _, _, rfl, rfl, Same.tup g8.same h1, at_nat (by rw [List.getElem?_map, ep]; rfl), up, _, _, _, rfl, rfl, Same.tup g8.same h5, rfl, _, rfl, _, _, rfl, rfl, .inl ⟨by have := ho.2.2.1; omega, by have := ho.2.2.2; omega⟩, _, _, rfl, rfl, ?_⟩
      obtain ⟨qs, v1, v2⟩ := st4.ex
      have lqs := Paired.length v2
      have nSB : S ≠ B := fun e => by
        rw [e, eB4] at v1
        have v1 := HO.lst.inj (Option.some.inj v1)
        have v3 := congrArg (fun xs : List V => xs[j]?) v1
        have v3 : (ts.map fun t => V.int ((plRun n L).f t))[j]? = (qs.map V.ref)[j]? := v3
        rw [List.getElem?_map, et, List.getElem?_map] at v3
        cases hq : qs[j]? with
        | none =>
          rw [hq] at v3
          cases v3
        | some _ =>
          rw [hq] at v3
          cases v3
      refine ⟨_, rfl, _, rfl, B, _, _, j, rfl, rfl, eB4, ixN_nat (by rw [List.length_map]; exact hj), ?_⟩
      have em := set_map (f := fun t => (plRun n L).f t) (g := fun t => (plRun n L).f t - t.n * c) hnm.1 et
      rw [em]
      have g9 := g8.mut (o := .lst (ts.map fun t => V.int (if t.k = u.k then (plRun n L).f t - t.n * c else (plRun n L).f t))) b3 b1 b2
      have vS : (upd H4 B (.lst (ts.map fun t => V.int (if t.k = u.k then (plRun n L).f t - t.n * c else (plRun n L).f t)))) S = some (.lst (qs.map V.ref)) := by
        rw [upd_ne nSB]
        exact v1
      have vB : (upd H4 B (.lst (ts.map fun t => V.int (if t.k = u.k then (plRun n L).f t - t.n * c else (plRun n L).f t)))) B = some (.lst (ts.map fun t => V.int (if t.k = u.k then (plRun n L).f t - t.n * c else (plRun n L).f t))) := upd_same
      have vP : StP (upd H4 B (.lst (ts.map fun t => V.int (if t.k = u.k then (plRun n L).f t - t.n * c else (plRun n L).f t)))) qs L := v2.mono fun r xs e => by
        rw [upd_ne (ne_of e eB4 (by intro z; cases z))]
        exact e
      generalize upd H4 B (.lst (ts.map fun t => V.int (if t.k = u.k then (plRun n L).f t - t.n * c else (plRun n L).f t))) = H5 at g9 vS vB vP
      refine ⟨_, rfl, .inl ⟨rfl, _, SqL.of vS⟩, _, rfl, _, rfl, p, _, _, _, rfl, rfl, Same.tup g9.same h1, at_nat (by rw [List.getElem?_map, ep]; rfl), up, _, _, _, rfl, rfl, Same.tup g9.same h5, rfl, _, rfl, by show 2 ≤ sizeLine; decide, fun q2 hq2 => ⟨S, _, _, rfl, rfl, upd_old vS hq2, by rw [List.length_map]; exact small3 (by omega), ?_⟩⟩
      refine ⟨L ++ [(u.k, c)], B, some (.int (0 + (i : Nat))), some (.int (j : Nat)), some (.int ((plRun n L).f u / u.n)), some (.int c), x11, by rw [List.length_append, hL]; rfl, hD, (g9.grow (same_new hq2)).mut n0S nS.1 nS.2, ap_st vS vP hq2, ?_, b1, b2, b3, ?_⟩
      · rw [upd_ne nSB.symm, p1]
        exact upd_old vB hq2
      · rw [p1]
        rfl
  · rintro σ H1 ⟨L, B, x7, x8, x9, x10, x11, hL, hR, g4, st, eB, b1, b2, b3, rfl⟩
    refine ⟨_, rfl, _, rfl, _, rfl, _, rfl, by show 4 ≤ sizeLine; decide, fun z hz => ?_⟩
    refine k _ z S B L (g4.grow (same_new hz)) (by omega) hR (st.mono (same_new hz)) nS.1 nS.2 n0S (upd_old eB hz) b1 b2 (SqT.of upd_same)
end
end EB

namespace EB
open PySem PySem.Spec PyProof.Rows L2 EBG
/-- the drinks among the steps -/
def drinksOf (L : List (Str × Int)) : List Int := (L.filter fun x => decide (x.1 = ("drink" : Str))).map (·.2)
theorem drinksOf_append (a b : List (Str × Int)) : drinksOf (a ++ b) = drinksOf a ++ drinksOf b := by
  unfold drinksOf
  rw [List.filter_append, List.map_append]
theorem drinksOf_trades {D d : Int} : ∀ {us : List Tr}, (∀ t ∈ us, t.k ≠ ("drink" : Str)) → drinksOf (us.flatMap (gOne D d)) = []
  | [], _ => rfl
  | u :: us, h => by
    rw [List.flatMap_cons, drinksOf_append, drinksOf_trades fun t m => h t (List.mem_cons_of_mem _ m), List.append_nil]
    unfold gOne
    split
    · unfold drinksOf
      rw [List.filter_cons_of_neg (by rw [decide_eq_false (h u (List.mem_cons_self ..))]; exact Bool.false_ne_true), List.filter_nil]
      rfl
    · rfl
/-- they are the rounds -/
theorem drinksOf_all {ts : List Tr} (h : ∀ t ∈ ts, t.k ≠ ("drink" : Str)) : ∀ (r : List Int) (D : Int), drinksOf (gAll ts D r) = r
  | [], _ => rfl
  | d :: r, D => by
    show drinksOf (gRound ts D d ++ gAll ts (D + d) r) = d :: r
    rw [drinksOf_append, drinksOf_all h r (D + d)]
    have e : drinksOf (gRound ts D d) = [d] := by
      unfold gRound
      rw [show (("drink" : Str), d) :: ts.flatMap (gOne D d) = [(("drink" : Str), d)] ++ ts.flatMap (gOne D d) from rfl, drinksOf_append, drinksOf_trades h, List.append_nil]
      unfold drinksOf
      rw [List.filter_cons_of_pos (by exact decide_eq_true rfl), List.filter_nil]
      rfl
    rw [e]
    rfl
end EB

namespace EB
open PySem PySem.Spec PyProof.Rows L2
section
variable {w : World} {K : PySem.W.Frag} {mg : Str → Option Value} {base : Heap} (T : Tx K mg)
include T
end
section
variable {w : World} {K : PySem.W.Frag} {mg : Str → Option Value} {base : Heap} {P : Program}
theorem fnRX {d : DD} {fd : FuncData} {N ps : List Str} {k : Nat} {sp : Sp} (F : FnP K d fd) (S : FnScope N ps (defScope d.st)) (e : d.df = [])
    (b : ∀ (kV doc pm : Value) (an : Option Addr) (cdv ct : Value) (us : List Value), us.length = ps.length → bindArgs (PySem.W.fnOf d.nm d.ql (defArgs d.st) (defBody d.st) (defScope d.st) .none kV doc pm an cdv ct) ⟨us, []⟩ = pure (ps.zip us))
    (len : ∀ vs H Q E, sp vs H Q E → vs.length = ps.length)
    (hbody : ∀ (cdv : Value) (A : Around) (outer : List Env) (s : Shared) (H : Hp) (vs : List V) (Q : VK) (E : XK), Room k (A.deeper (envOfC d.ql (defScope d.st) s.heap.objs.size (d.adr K) cdv)) → sp vs H Q E →
      ∃ t, PSs (cxOf (L2.CX P w) P w K mg base N d.ql (defScope d.st) (d.adr K) cdv A outer s H E) (defBody d.st) t ∧ t { nx := fun _ H' => Q .non H', rt := Q } (start N vs) H) :
    FnR P w K mg base (L2.CX P w) (k + 1) (d.adr K) sp := by
  have F1 : FnOk P w K mg base (L2.CX P w) (k + 1) (d.adr K) fd ps sp := FunD.ok F S len fun cdv A outer s H vs Q E hr h => hbody cdv A outer s H vs Q E hr h
  have F2 : FunD K d.nm d.ql (defArgs d.st) (defBody d.st) (defScope d.st) [] [] (d.adr K) fd := by
    have z : FnP K d fd := F
    unfold FnP at z
    rw [e] at z
    exact z
  refine (F1.raw (F2.bindsN b) .nil).imp fun vs H Q E h => ?_
  rw [List.append_nil]
  exact h
end
theorem inV_mem {z : Str} {l : List Str} (h : z ∈ l) : inV (.str z) (l.map V.str) = true := by
  unfold inV
  refine List.any_eq_true.mpr ⟨.str z, List.mem_map_of_mem h, ?_⟩
  show (z == z) = true
  exact beq_self_eq_true _
/-- the first trade that is not allowed -/
def badTr (seen : List Str) : Nat → List Tr → Option Nat
  | _, [] => none
  | i, t :: ts => if i = 3 ∨ t.k ∈ seen ∨ trOk t = false then some i else badTr (seen ++ [t.k]) (i + 1) ts
def badOf (ts : List Tr) : Option Nat := if ts = [] then some 0 else badTr [] 0 ts
section
variable {w : World} {K : PySem.W.Frag} {mg : Str → Option Value} {base : Heap} {P : Program}
theorem fnRSX {d : DD} {fd : FuncData} {N ps : List Str} {pv : Str} {k : Nat} {sp : Sp} (F : FnP K d fd) (S : FnScope N (ps ++ [pv]) (defScope d.st)) (e : d.df = [])
    (b : ∀ (kV doc pm : Value) (an : Option Addr) (cdv ct : Value) (us rest : List Value), us.length = ps.length → bindArgs (PySem.W.fnOf d.nm d.ql (defArgs d.st) (defBody d.st) (defScope d.st) .none kV doc pm an cdv ct) ⟨us ++ rest, []⟩ = (newTuple rest >>= fun t => pure (ps.zip us ++ [(pv, t)])))
    (hbody : ∀ (cdv : Value) (A : Around) (outer : List Env) (s : Shared) (H : Hp) (vs : List V) (Q : VK) (E : XK), Room k (A.deeper (envOfC d.ql (defScope d.st) s.heap.objs.size (d.adr K) cdv)) → sp vs H Q E →
      ∃ t, PSs (cxOf (L2.CX P w) P w K mg base N d.ql (defScope d.st) (d.adr K) cdv A outer s H E) (defBody d.st) t ∧ t { nx := fun _ H' => Q .non H', rt := Q } (start N vs) H) :
    FnR P w K mg base (L2.CX P w) (k + 1) (d.adr K) (fun vs H Q E => ∃ ws rest, vs = ws ++ rest ∧ ws.length = ps.length ∧ rest.length ≤ sizeLine ∧ ∀ p, H p = none → sp (ws ++ [V.ref p]) (upd H p (.tup rest)) Q E) := by
  have z : FnP K d fd := F
  unfold FnP at z
  rw [e] at z
  obtain ⟨oc, od, dV, kV, doc, pm, an, cdv, ct, osl, rfl, lk, hcd, hD, hK⟩ := z.ex
  have hdV : dV = .none := by
    rcases hD with ⟨_, h⟩ | ⟨h, _⟩
    · exact h
    · exact absurd rfl h
  subst hdV
  exact StX.fn_star lk hcd S StX.cxUp (fun us rest hl => b kV doc pm an cdv ct us rest hl) fun A outer s H vs Q E hr h => hbody cdv A outer s H vs Q E hr h
end
end EB


namespace EB
open PySem PySem.Spec PyProof.Rows L2
section
variable {X : Cx} {CX : CXT} {k : Nat} {C f : Addr} {sp : Sp} {E : XK} {x : PySem.Str} {p pos : Pos}
/-- C(), all that is asked of no argument -/
theorem pe_makeR0 (M : Mk X.K C f) (F : FnR X.prog X.w X.K X.mg X.base CX k f sp) (hr : Room (k + 1) X.A) (hg : Gl X x) (hm : X.mg x = some (.ref C)) (hx : Passes CX X E) (hdb : (x == ("__debug__" : Str)) = false := by decide) :
    PE X (.Call (.Name x p) [] [] pos) (StX.tMakeR C sp E tNil) := by
  refine ⟨fun pins s σ H Q I h => ?_⟩
  refine wpAny_Call_Name_kw (ld_glob I hg hm ?_ hdb)
  exact PySem.W.callWith_K0 I.kIn M.kp (StX.run_makeR (us := []) M F hr hx I .nil h)
end
section
variable {P : Program} {w : World} {K : PySem.W.Frag} {mg : Str → Option Value} {base : Heap} {j k : Nat} {f : Addr} {sp sp' : Sp}
theorem fnR_up (F : FnR P w K mg base CX0 k f sp) : FnR P w K mg base (L2.CX P w) k f sp := fun A outer s H us vs Q E hr e0 rv hs => codeAny_mono (F A outer s H us vs Q E hr e0 rv hs) fun r s' h => by
  cases r with
  | error e => exact False.elim h
  | ok fl => cases fl <;> exact h
theorem fnR_or {CX : CXT} (F : FnR P w K mg base CX j f sp) (G : FnR P w K mg base CX k f sp') : FnR P w K mg base CX (max j k) f (fun vs H Q E => sp vs H Q E ∨ sp' vs H Q E) := fun A outer s H us vs Q E hr e0 rv hs => by
  rcases hs with h | h
  · exact F A outer s H us vs Q E (hr.mono (Nat.le_max_left ..)) e0 rv h
  · exact G A outer s H us vs Q E (hr.mono (Nat.le_max_right ..)) e0 rv h
end
section
variable {w : World} {K : PySem.W.Frag} {mg : Str → Option Value} {base : Heap} (T : Tx K mg)
include T
end
end EB

namespace EB
open PySem PySem.Spec PyProof.Rows L2
section
variable {X : Cx} {C : Addr} {bmB : List Value} {B newId initId : String}
/-- X(e), a class of errors without an __init__ of its own -/
theorem pmk_ownE {x : Str} {e : Expr} {te : TE} {p pos : Pos} (F : ExcBaseFacts B newId initId bmB) (q : PySem.W.excIn X.K C bmB newId = true) (gC : X.mg x = some (.ref C)) (kC : PySem.W.keepIn X.K (.ref C) = true) (r : Raises X (.ref C)) (hg : Gl X x) (he : PE X e te)
    (na : starEach [e] X.env = (false, eval e X.env) :: starEach [] X.env := by rfl) (hdb : (x == ("__debug__" : Str)) = false := by decide) : PMk X (.Call (.Name x p) [e] [] pos) (fun σ H Q => te σ H fun v H1 => [v].length = 1 ∧ Q (.ref C) none H1) := by
  intro pins s σ H Q I h
  refine wpAny_Call_Name_kw (ld_glob I hg gC ?_ hdb)
  have ha : PA X [e] (tCons te tNil) := pa_cons he pa_nil na
  refine PySem.W.callWith_K (h₀ := X.base) (he := na) I.ok.mod.kin kC (thn (ha.run pos pins s σ H (fun vs H1 => vs.length = 1 ∧ Q (.ref C) none H1) I h) fun us s1 hh => ?_)
  obtain ⟨vs, H1, I1, r1, ev, h1⟩ := hh
  refine ⟨I1.kIn, ?_⟩
  match vs, us, r1, ev with
  | [v], [u], .cons ru rn, _ =>
    show wpAny _ _ (call (.ref C) [u]) _ _ _
    obtain ⟨bm, N, nm, qn, bs, hdct, sn, sub, ab, col, dd, k0, k1, k2, k3, k5, mN, hC, hN, hni, T⟩ := exc_obj I1.kIn q
    refine wpAny_call_exc_subT F T hC hN hni (fun h' e hm => ?_) (by show 1 ≤ sizeLine; rw [sizeLine_eq]; omega)
    exact mk_of I1 hm r h1 (I1.hok.gone hm.new)
end
section
variable {w : World} {K : PySem.W.Frag} {mg : Str → Option Value} {base : Heap} {P : Program}
theorem gss_never {X : Cx} {sts : List Stmt} : GSs X sts (fun _ _ _ _ => False) := ⟨fun _ _ _ _ _ _ _ _ _ _ _ _ _ _ _ _ _ _ _ _ _ h => h.elim⟩
/-- a def that may raise, called with its first values, the others filled up by its defaults -/
theorem fnRDX {d : DD} {fd : FuncData} {N ps : List Str} {k : Nat} {sp : Sp} (F : FnP K d fd) (S : FnScope N ps (defScope d.st)) (n j : Nat) (hd : d.df.map (He.Dv.v K) ≠ []) (hn : n + ((d.df.map (He.Dv.v K)).length - j) = ps.length)
    (b : ∀ (Tt : Addr) (kV doc pm : Value) (an : Option Addr) (cdv ct : Value) (us its : List Value), us.length = n → its.length = (d.df.map (He.Dv.v K)).length →
      ∃ k, bindArgs (PySem.W.fnOf d.nm d.ql (defArgs d.st) (defBody d.st) (defScope d.st) (.ref Tt) kV doc pm an cdv ct) ⟨us, []⟩ = seqItems? (.ref Tt) >>= k ∧ k (some its.toArray) = pure (ps.zip (us ++ its.drop j)))
    (len : ∀ vs H Q E, sp vs H Q E → vs.length = ps.length)
    (hbody : ∀ (cdv : Value) (A : Around) (outer : List Env) (s : Shared) (H : Hp) (vs : List V) (Q : VK) (E : XK), Room k (A.deeper (envOfC d.ql (defScope d.st) s.heap.objs.size (d.adr K) cdv)) → sp vs H Q E →
      ∃ t, PSs (cxOf (L2.CX P w) P w K mg base N d.ql (defScope d.st) (d.adr K) cdv A outer s H E) (defBody d.st) t ∧ t { nx := fun _ H' => Q .non H', rt := Q } (start N vs) H) :
    FnR P w K mg base (L2.CX P w) (k + 1) (d.adr K) (fun vs H Q E => sp (vs ++ (d.df.map (He.Dv.v K)).drop j) H Q E) := by
  have F1 : FnOk P w K mg base (L2.CX P w) (k + 1) (d.adr K) fd ps sp := FunD.ok F S len fun cdv A outer s H vs Q E hr h => hbody cdv A outer s H vs Q E hr h
  obtain ⟨ds, h1, h2⟩ := FunD.binds1 F n j hd hn b
  exact F1.raw h2 h1
end
section
variable {w : World} {K : PySem.W.Frag} {mg : Str → Option Value} {base : Heap} (T : Tx K mg)
include T
/-- the bounds that the program asks for -/
def bnds : List (Int × Int) := [(0, 1000000000000000000), (1, 1000000000000000000), (1, 2), (0, 1), (1, 1000000000000000001)]
def spChkX (K : PySem.W.Frag) : Sp := fun vs H Q E => ∃ i lo hi : Int, vs = [.int i, .int lo, .int hi] ∧ (lo, hi) ∈ bnds ∧ (numOk i lo hi = true → Q .non H) ∧ (numOk i lo hi = false → E (.ref (He.ga K "InvalidNumber")) none H)
theorem chk_body (hK : K.In base) (cdv : Value) (A : Around) (outer : List Env) (s : Shared) (H : Hp) (vs : List V) (Q : VK) (E : XK) (hr : Room 2 (A.deeper (envOfC d_check_number.ql (defScope d_check_number.st) s.heap.objs.size (d_check_number.adr K) cdv))) (h : spChkX K vs H Q E) :
    ∃ t, PSs (cxOf (L2.CX PX w) PX w K mg base N_check_number d_check_number.ql (defScope d_check_number.st) (d_check_number.adr K) cdv A outer s H E) (defBody d_check_number.st) t ∧ t { nx := fun _ H' => Q .non H', rt := Q } (start N_check_number vs) H := by
  obtain ⟨i, lo, hi, rfl, hm, h1, h2⟩ := h
  refine ⟨_, (pss_one (ps_if (pt_not (pt_val (pe_cR (ok_is_number T) (hr.mono (by decide)) T.F_is_number.kp T.g_is_number pass0 (pa_cons (pv 0) (pa_cons (pv 1) (pa_cons (pv 2) pa_nil)))))) (pss_one (ps_raise rfl (takes_of rfl rfl rfl rfl) (pmk_ownE PySem.F.excBase_ValueError T.x_InvalidNumber.own T.g_InvalidNumber T.x_InvalidNumber.keep (raises_own T.x_InvalidNumber.base T.x_InvalidNumber.ty) (by rfl) (pe_joined (.cons pe_str (.cons (pe_fmt (pv 1)) (.cons pe_str (.cons (pe_fmt (pv 2)) .nil)))))))) pss_nil)), ?_⟩
  refine ⟨_, rfl, _, rfl, _, rfl, i, lo, hi, rfl, _, rfl, ?_⟩
  cases hz : numOk i lo hi with
  | true => exact iteF (h1 hz)
  | false =>
    refine iteT ?_
    have h3 := h2 hz
    simp only [bnds, List.mem_cons, Prod.mk.injEq, List.not_mem_nil, or_false] at hm
    rcases hm with ⟨rfl, rfl⟩ | ⟨rfl, rfl⟩ | ⟨rfl, rfl⟩ | ⟨rfl, rfl⟩ | ⟨rfl, rfl⟩
    all_goals exact ⟨_, rfl, by decide +kernel, _, rfl, .inr ⟨_, rfl, by decide +kernel, _, rfl, by decide +kernel, _, rfl, by decide +kernel, _, rfl, .inr ⟨_, rfl, by decide +kernel, _, rfl, by decide +kernel, rfl, h3⟩⟩⟩
/-- check_number, with one, two or three arguments -/
def spChkA (K : PySem.W.Frag) : Sp := fun vs H Q E => ∃ i lo hi : Int, ((vs = [.int i] ∧ lo = 0 ∧ hi = 1000000000000000000) ∨ (vs = [.int i, .int lo] ∧ hi = 1000000000000000000) ∨ vs = [.int i, .int lo, .int hi]) ∧ (lo, hi) ∈ bnds ∧
  (numOk i lo hi = true → Q .non H) ∧ (numOk i lo hi = false → E (.ref (He.ga K "InvalidNumber")) none H)
theorem okX_check_number (hK : K.In base) : FnR PX w K mg base (L2.CX PX w) 3 (a_check_number K) (spChkA K) := by
  have len : ∀ vs H Q E, spChkX K vs H Q E → vs.length = ["value", "least", "most"].length := fun vs H Q E h => by
    obtain ⟨i, lo, hi, rfl, _⟩ := h
    rfl
  have F1 := fnRDX (w := w) (base := base) (d := d_check_number) (sp := spChkX K) (k := 2) (ps := ["value", "least", "most"]) T.F_check_number sc_check_number 1 0 (fun z => nomatch z) rfl (fun _ _ _ _ _ _ _ us its hl hi => match us, its, hl, hi with | [_], [_, _], _, _ => ⟨_, rfl, rfl⟩) len (chk_body T hK)
  have F2 := fnRDX (w := w) (base := base) (d := d_check_number) (sp := spChkX K) (k := 2) (ps := ["value", "least", "most"]) T.F_check_number sc_check_number 2 1 (fun z => nomatch z) rfl (fun _ _ _ _ _ _ _ us its hl hi => match us, its, hl, hi with | [_, _], [_, _], _, _ => ⟨_, rfl, rfl⟩) len (chk_body T hK)
  have F3 := fnRDX (w := w) (base := base) (d := d_check_number) (sp := spChkX K) (k := 2) (ps := ["value", "least", "most"]) T.F_check_number sc_check_number 3 2 (fun z => nomatch z) rfl (fun _ _ _ _ _ _ _ us its hl hi => match us, its, hl, hi with | [_, _, _], [_, _], _, _ => ⟨_, rfl, rfl⟩) len (chk_body T hK)
  refine (fnR_or (fnR_or F1 F2) F3).imp fun vs H Q E h => ?_
  obtain ⟨i, lo, hi, hv, hm, h1, h2⟩ := h
  rcases hv with ⟨rfl, rfl, rfl⟩ | ⟨rfl, rfl⟩ | rfl
  · exact .inl (.inl ⟨i, 0, 1000000000000000000, rfl, hm, h1, h2⟩)
  · exact .inl (.inr ⟨i, lo, 1000000000000000000, rfl, hm, h1, h2⟩)
  · exact .inr ⟨i, lo, hi, rfl, hm, h1, h2⟩
omit T in
theorem chk1 {K : PySem.W.Frag} {i : Int} {H : Hp} {Q : VK} {E : XK} (h1 : 0 ≤ i → i ≤ 1000000000000000000 → Q .non H) (h2 : ¬ (0 ≤ i ∧ i ≤ 1000000000000000000) → E (.ref (He.ga K "InvalidNumber")) none H) : spChkA K [.int i] H Q E :=
  ⟨i, 0, 1000000000000000000, .inl ⟨rfl, rfl, rfl⟩, by simp [bnds], fun z => h1 (numOk_iff.mp z).1 (numOk_iff.mp z).2, fun z => h2 fun y => by rw [numOk_iff.mpr y] at z; cases z⟩
omit T in
theorem chk2 {K : PySem.W.Frag} {i : Int} {H : Hp} {Q : VK} {E : XK} (h1 : 1 ≤ i → i ≤ 1000000000000000000 → Q .non H) (h2 : ¬ (1 ≤ i ∧ i ≤ 1000000000000000000) → E (.ref (He.ga K "InvalidNumber")) none H) : spChkA K [.int i, .int 1] H Q E :=
  ⟨i, 1, 1000000000000000000, .inr (.inl ⟨rfl, rfl⟩), by simp [bnds], fun z => h1 (numOk_iff.mp z).1 (numOk_iff.mp z).2, fun z => h2 fun y => by rw [numOk_iff.mpr y] at z; cases z⟩
omit T in
theorem chk3 {K : PySem.W.Frag} {i lo hi : Int} {H : Hp} {Q : VK} {E : XK} (hm : (lo, hi) ∈ bnds) (h1 : lo ≤ i → i ≤ hi → Q .non H) (h2 : ¬ (lo ≤ i ∧ i ≤ hi) → E (.ref (He.ga K "InvalidNumber")) none H) : spChkA K [.int i, .int lo, .int hi] H Q E :=
  ⟨i, lo, hi, .inr (.inr rfl), hm, fun z => h1 (numOk_iff.mp z).1 (numOk_iff.mp z).2, fun z => h2 fun y => by rw [numOk_iff.mpr y] at z; cases z⟩
/-- a number out of range, told by the first statement -/
def spFarX (K : PySem.W.Frag) : Sp := fun vs H _ E => ∃ (v : V) (n : Int), vs = [v, .int n] ∧ ¬ (0 ≤ n ∧ n ≤ 1000000000000000000) ∧ E (.ref (He.ga K "InvalidNumber")) none H
theorem okX_Offer_call (hK : K.In base) : FnR PX w K mg base (L2.CX PX w) 4 (a_Offer_call K) (spFarX K) := by
  refine fnRX (d := d_Offer_call) T.F_Offer_call sc_Offer_call rfl (fun _ _ _ _ _ _ us hl => match us, hl with | [_, _], _ => rfl) (fun vs H Q E h => ?_) (fun cdv A outer s H vs Q E hr h => ?_)
  · obtain ⟨v, n, rfl, _⟩ := h
    rfl
  obtain ⟨v, n, rfl, hn, k⟩ := h
  refine ⟨_, (pss_cons (ps_expr (pe_cR (okX_check_number T hK) (hr.mono (by decide)) T.F_check_number.kp T.g_check_number (passes_call (takes_of rfl rfl rfl rfl) (fun _ _ _ _ h => h)) (pa_cons (pv 1) pa_nil))) pss_never), ?_⟩
  refine ⟨_, rfl, ?_⟩
  dsimp only [tNil, tCons, tC]
  exact chk1 (fun a b => absurd ⟨a, b⟩ hn) fun _ => k
theorem okX_Offer_left_over (hK : K.In base) : FnR PX w K mg base (L2.CX PX w) 4 (a_Offer_left_over K) (spFarX K) := by
  refine fnRX (d := d_Offer_left_over) T.F_Offer_left_over sc_Offer_left_over rfl (fun _ _ _ _ _ _ us hl => match us, hl with | [_, _], _ => rfl) (fun vs H Q E h => ?_) (fun cdv A outer s H vs Q E hr h => ?_)
  · obtain ⟨v, n, rfl, _⟩ := h
    rfl
  obtain ⟨v, n, rfl, hn, k⟩ := h
  refine ⟨_, (pss_cons (ps_expr (pe_cR (okX_check_number T hK) (hr.mono (by decide)) T.F_check_number.kp T.g_check_number (passes_call (takes_of rfl rfl rfl rfl) (fun _ _ _ _ h => h)) (pa_cons (pv 1) pa_nil))) pss_never), ?_⟩
  refine ⟨_, rfl, ?_⟩
  dsimp only [tNil, tCons, tC]
  exact chk1 (fun a b => absurd ⟨a, b⟩ hn) fun _ => k
end
end EB

/-! rounds and greedy_steps that raise. -/
namespace EB
open PySem PySem.Spec PyProof.Rows L2 EBG
theorem yss_never {X0 : Cx} {xe : XeF} {T : Told} {sts : List Stmt} : YSs X0 xe T sts (fun _ _ _ _ _ => False) := ⟨fun _ _ => rfl, fun _ _ _ _ _ _ _ _ _ _ _ _ _ _ _ _ _ _ _ h => h.elim⟩
section
variable {w : World} {K : PySem.W.Frag} {mg : Str → Option Value} {base : Heap} (T : Tx K mg)
include T
def pcNum (K : PySem.W.Frag) : Value → Option Addr → Prop := fun cls d => cls = .ref (He.ga K "InvalidNumber") ∧ d = none
theorem nsNumX : ∀ cls d, pcNum K cls d → PySem.W.subIn K cls (.type "StopIteration") = some false := fun cls d h => by
  rw [h.1]
  exact T.ns_InvalidNumber
def sp1RoundsX (K : PySem.W.Frag) : SP1 := fun vs F _ _ E => ∃ (v : V) (n : Int), vs = [v, .int n] ∧ ¬ (0 ≤ n ∧ n ≤ 1000000000000000000) ∧ E (.ref (He.ga K "InvalidNumber")) none F
theorem okX1_Offer_rounds (hK : K.In base) : GFn1 PX w K mg base 4 (a_Offer_rounds K) T.fd_Offer_rounds ["self", "bottles"] (sp1RoundsX K) := by
  refine gfn1G (d := d_Offer_rounds) T.F_Offer_rounds sc_Offer_rounds (fun _ => rfl) (fun vs F Yp Fin E h => ?_) (fun cdv A outer s F vs Yp Fin E pn hr h => ?_)
  · obtain ⟨v, n, rfl, _⟩ := h
    rfl
  obtain ⟨v, n, rfl, hn, k⟩ := h
  refine ⟨_, yss_cons (ys_ps fun a => ps_expr (pe_cR (okX_check_number T hK) (hr.mono (by decide)) T.F_check_number.kp T.g_check_number (passes_call (takesG rfl rfl rfl) (fun _ _ _ _ h => h)) (pa_cons (pv 1) pa_nil))) yss_never, ?_⟩
  refine ⟨_, rfl, ?_⟩
  dsimp only [tNil, tCons, tC]
  exact chk1 (fun a b => absurd ⟨a, b⟩ hn) fun _ => k
def spGreedyX (K : PySem.W.Frag) : Sp := fun vs H _ E => ∃ (a : Addr) (ts : List Tr) (n : Int), vs = [.ref a, .int n] ∧ OfAt K H a ts ∧ Fair ts ∧ nmOk ts ∧ ¬ (0 ≤ n ∧ n ≤ 1000000000000000000) ∧ ∀ H', Same H H' → E (.ref (He.ga K "InvalidNumber")) none H'
theorem okX_greedy_steps (hK : K.In base) : FnR PX w K mg base (L2.CX PX w) 7 (a_greedy_steps K) (spGreedyX K) := by
  refine fnRX (d := d_greedy_steps) T.F_greedy_steps sc_greedy_steps rfl (fun _ _ _ _ _ _ us hl => match us, hl with | [_, _], _ => rfl) (fun vs H Q E h => ?_) (fun cdv A outer s H vs Q E hr h => ?_)
  · obtain ⟨a, ts, n, rfl, _⟩ := h
    rfl
  obtain ⟨a, ts, n, rfl, ho, hf, hnm, hn, k⟩ := h
  obtain ⟨dx, t, p, o, f, g, e1, e2, e3, e4, e5, e6⟩ := ho.ex
  refine ⟨_, pss_cons (ps_set (i := 2) sc_greedy_steps.nd rfl (Or.inl rfl) (pe_lst pa_nil)) (pss_cons (ps_setDc (i := 4) (own := [("kind", 3)]) rfl sc_greedy_steps.nd rfl rfl (sw_trueD rfl rfl rfl (by decide +kernel)) (pi_tup (pe_prop (pv 0) T.k_Offer T.p_Offer_kinds (ok_Offer_kinds T) (hr.mono (by decide)) (b_Offer_kinds T) .nil pass0 rfl)) (blkOk_by (own := [("kind", 3)]) (N := N_greedy_steps) (sc := defScope s_greedy_steps) (by decide +kernel)) (fun _ _ _ _ _ => (pg_name (i := 3) sc_greedy_steps.nd rfl (Or.inl rfl) (.inr rfl))) (fun _ _ _ _ _ => pts_nil) (fun _ _ _ _ _ => (pv 3)) (fun _ _ _ _ _ => pe_int)) (pss_cons (ps_forGX (passes_of rfl) rfl (hr.mono (by decide)) (passes_call (takes_of rfl rfl rfl rfl) (fun _ _ _ _ h => h)) (nsNumX T) (pgenX_meth (pv 0) T.k_Offer T.m_Offer_rounds (okX1_Offer_rounds T hK) (hr.mono (by decide)) (b_Offer_rounds T) .nil (pa_cons (pv 1) pa_nil))) pss_never)), ?_⟩
  refine ⟨Nat.zero_le _, fun S hS => ?_⟩
  have sS : Same H (upd H S (.lst [])) := same_new hS
  refine ⟨_, rfl, a, dx, _, rfl, sS _ _ e1, ⟨a, ts, rfl, ho.mono sS, hf.g.1, fun H2 kp s2 hk => ⟨kp, rfl, ⟨_, hk⟩, fun D hD => ?_⟩⟩⟩
  have sH2 : Same H H2 := sS.trans s2
  refine dc_tup (xs := (ts.map Tr.k).map V.str) (fun i H3 => Same H2 H3 ∧ H3 D = some (.dK (PM (fun _ => 0) (ts.take i)))) ⟨same_new hD, upd_same⟩ (fun i H3 _ q => Same.tup q.1 hk) ?_ ?_
  · rintro i x H3 hx ⟨s3, q1⟩
    obtain ⟨u, et, rfl⟩ : ∃ u, ts[i]? = some u ∧ x = .str u.k := by
      rw [List.getElem?_map, List.getElem?_map] at hx
      cases e : ts[i]? with
      | none =>
        rw [e] at hx
        cases hx
      | some u =>
        rw [e] at hx
        exact ⟨u, rfl, (Option.some.inj hx).symm⟩
    have hl : (PM (fun _ => 0) (ts.take i)).length ≤ 3 := by
      unfold PM
      rw [List.length_map, List.length_take]
      have := hf.g.1
      omega
    refine ⟨rfl, _, rfl, _, .inr u.k, rfl, q1, small3 (by omega), same_mut s3 hD, ?_⟩
    rw [upd_same, PM_new hnm.1 et (fun _ => 0)]
  rintro H3 ⟨s3, q1⟩
  have s03 : Same H H3 := sH2.trans s3
  refine ⟨_, rfl, a, dx, _, rfl, s03 _ _ e1, lk_no (by decide +kernel), _, rfl, ⟨_, n, rfl, hn, ⟨rfl, rfl⟩, Same.refl _⟩, ?_⟩
  rintro H' s' cls d ⟨rfl, rfl⟩
  exact k H' (s03.trans s')
end
end EB

/-! InvalidStep; play that raises. -/
namespace EB
open PySem PySem.Spec PyProof.Rows L2 EBG
section
variable {w : World} {K : PySem.W.Frag} {mg : Str → Option Value} {base : Heap} (T : Tx K mg)
include T
/-- InvalidStep(i), its own __init__ -/
def spXS (K : PySem.W.Frag) : Sp := fun vs H Q _ => ∃ (a : Addr) (i : Int), vs = [.ref a, .int i] ∧ 0 ≤ i ∧ i < 10 ∧ H a = some (exo a (He.ga K "InvalidStep") none) ∧
  ∀ dx, H dx = none → dx ≠ a → Q .non (upd (upd H dx (exd dx [("index", .int i)])) a (exo a (He.ga K "InvalidStep") (some dx)))
theorem okX_InvalidStep_init (hK : K.In base) : ∃ fd, FnOk PX w K mg base CX0 1 (a_InvalidStep_init K) fd ["self", "index"] (spXS K) ∧ Binds K fd ["self", "index"] [] := by
  obtain ⟨fd, F⟩ := T.S_InvalidStep_init
  refine ⟨fd, ?_, ?_⟩
  · refine FnOk.imp (sup_of (CX := CX0) (P := PX) (w := w) (base := base) (k := 0) (tA := ?tA) (tB := tOst K "index" (tVar 0) (tVar 1)) sc_InvalidStep_init F ?hc ?hA ?hS) ?im
    case hc =>
      obtain ⟨cl, cld, csl, hc⟩ := F.cell
      exact ⟨_, _, hK _ _ hc, rfl⟩
    case hA =>
      intro A outer s H E
      exact pa_cons (X := supCx CX0 PX w K mg base "index" "InvalidStep.__init__" (defScope s_InvalidStep_init) (a_InvalidStep_init K) (.ref (codeA K (a_InvalidStep_init K))) (cellA K (a_InvalidStep_init K)) A outer s H E) (pe_joined (.cons pe_str (.cons (pe_fmt (pv (X := supCx CX0 PX w K mg base "index" "InvalidStep.__init__" (defScope s_InvalidStep_init) (a_InvalidStep_init K) (.ref (codeA K (a_InvalidStep_init K))) (cellA K (a_InvalidStep_init K)) A outer s H E) 1)) (.cons pe_str .nil)))) pa_nil
    case hS =>
      intro A outer s H E
      exact pss_one (X := supCx CX0 PX w K mg base "index" "InvalidStep.__init__" (defScope s_InvalidStep_init) (a_InvalidStep_init K) (.ref (codeA K (a_InvalidStep_init K))) (cellA K (a_InvalidStep_init K)) A outer s H E) (ps_ost (pv (X := supCx CX0 PX w K mg base "index" "InvalidStep.__init__" (defScope s_InvalidStep_init) (a_InvalidStep_init K) (.ref (codeA K (a_InvalidStep_init K))) (cellA K (a_InvalidStep_init K)) A outer s H E) 0) (pv (X := supCx CX0 PX w K mg base "index" "InvalidStep.__init__" (defScope s_InvalidStep_init) (a_InvalidStep_init K) (.ref (codeA K (a_InvalidStep_init K))) (cellA K (a_InvalidStep_init K)) A outer s H E) 1))
    case im =>
      rintro vs H Q E ⟨a, i, rfl, i0, i1, ea, k⟩
      refine ⟨a, .int i, rfl, ea, ?_⟩
      have X := T.x_InvalidStep
      refine ⟨_, rfl, by decide +kernel, _, rfl, .inr ⟨i, rfl, ?_, _, rfl, ?_, _, rfl, ?_, by show 1 ≤ 1000; decide, ea, _, rfl, _, rfl, a, _, rfl, F.oex, X.idx, .inl ⟨ea, k⟩⟩⟩
      all_goals rcases (show i = 0 ∨ i = 1 ∨ i = 2 ∨ i = 3 ∨ i = 4 ∨ i = 5 ∨ i = 6 ∨ i = 7 ∨ i = 8 ∨ i = 9 by omega) with rfl | rfl | rfl | rfl | rfl | rfl | rfl | rfl | rfl | rfl <;> decide +kernel
  · obtain ⟨oc, od, kV, doc, pm, an, ct, osl, rfl, lk⟩ := F.fn
    exact Binds.all fun us hl => match us, hl with | [_, _], _ => rfl
end
/-- InvalidStep(i) raised: its dict is new, nothing else changes -/
theorem mkS {K : PySem.W.Frag} {H : Hp} {i : Nat} {Q : XK} {E : XK} (hi : i < 10) (k : ∀ H' d, Same H H' → H d = none → H' d = some (.xd [("index", .int i)]) → Q (.ref (He.ga K "InvalidStep")) (some d) H') :
    [V.int (i : Nat)].length ≤ 1000 ∧ ∀ a, H a = none → spXS K (.ref a :: ([V.int (i : Nat)] ++ [])) (upd H a (exo a (He.ga K "InvalidStep") none))
      (fun v H2 => v = .non ∧ ∃ (d : Addr) (fs : List (Str × V)), H2 a = some (exo a (He.ga K "InvalidStep") (some d)) ∧ H2 d = some (exd d fs) ∧ H d = none ∧ Q (.ref (He.ga K "InvalidStep")) (some d) (upd (del H2 a) d (.xd fs))) E := by
  refine ⟨by show 1 ≤ 1000; decide, fun a ha => ⟨a, i, rfl, by omega, by omega, upd_same, fun dx hdx hne => ⟨rfl, dx, [("index", .int i)], upd_same, ?_, (upd_none hdx).2, k _ dx (fun b o e => ?_) (upd_none hdx).2 upd_same⟩⟩⟩
  · rw [upd_ne hne]
    exact upd_same
  · have n1 : b ≠ a := ne_of_none e ha
    have n2 : b ≠ dx := ne_of_none e (upd_none hdx).2
    rw [upd_ne n2, del_ne n1, upd_ne n1, upd_ne n2, upd_ne n1]
    exact e
end EB

/-! play, where a step is not possible, or the bottles are out of range. -/
namespace EB
open PySem PySem.Spec PyProof.Rows L2 EBG
section
variable {w : World} {K : PySem.W.Frag} {mg : Str → Option Value} {base : Heap} (T : Tx K mg)
include T
def spPlayS (K : PySem.W.Frag) : Sp := fun vs H _ E => ∃ (a S : Addr) (ts : List Tr) (n : Nat) (L : List (Str × Int)) (jj : Nat), vs = [.ref a, .int (n : Nat), .ref S] ∧ OfAt K H a ts ∧ Fair ts ∧ nmOk ts ∧ n ≤ 1000000000000000000 ∧ StS K H S L ∧ L.length ≤ 100000 ∧ jj < 10 ∧ jj < L.length ∧
  (∀ (i : Nat), i < jj → ∀ x : Str × Int, L[i]? = some x → plPos ts (plRun n (L.take i)) x = true) ∧ (∀ x : Str × Int, L[jj]? = some x → plPos ts (plRun n (L.take jj)) x = false) ∧
  ∀ H' d, Same H H' → H d = none → H' d = some (.xd [("index", .int (jj : Nat))]) → E (.ref (He.ga K "InvalidStep")) (some d) H'
theorem okX_play (hK : K.In base) : FnR PX w K mg base (L2.CX PX w) 7 (a_play K) (spPlayS K) := by
  obtain ⟨fdI, F_InvalidStep, B_InvalidStep⟩ := okX_InvalidStep_init (w := w) T hK
  have O_InvalidStep : OexC K (He.ga K "InvalidStep") := T.S_InvalidStep_init.elim fun _ F => F.oex
  refine fnRX (d := d_play) T.F_play sc_play rfl (fun _ _ _ _ _ _ us hl => match us, hl with | [_, _, _], _ => rfl) (fun vs H Q E h => ?_) (fun cdv A outer s H vs Q E hr h => ?_)
  · obtain ⟨a, S, ts, n, L, jj, rfl, _⟩ := h
    rfl
  obtain ⟨a, S, ts, n, L, jj, rfl, ho, hf, hnm, hn, hS, hL, hj10, hjL, hpos, hbad, k⟩ := h
  obtain ⟨dx, t, p, o, f, g, e1, e2, e3, e4, e5, e6⟩ := ho.ex
  obtain ⟨ps, h1, h2, h3⟩ := e2.ex
  obtain ⟨qs, j1, j2, j3⟩ := hS.ex
  refine ⟨_, (pss_cons (ps_expr (pe_cR (ok_check_number T) (hr.mono (by decide)) T.F_check_number.kp T.g_check_number pass0 (pa_cons (pv 1) pa_nil))) (pss_cons (ps_set (i := 3) sc_play.nd rfl (Or.inl rfl) pe_int) (pss_cons (ps_setDc (i := 5) (own := [("kind", 4)]) rfl sc_play.nd rfl rfl (sw_trueD rfl rfl rfl (by decide +kernel)) (pi_tup (pe_prop (pv 0) T.k_Offer T.p_Offer_kinds (ok_Offer_kinds T) (hr.mono (by decide)) (b_Offer_kinds T) .nil pass0 rfl)) (blkOk_by (own := [("kind", 4)]) (N := N_play) (sc := defScope s_play) (by decide +kernel)) (fun _ _ _ _ _ => (pg_name (i := 4) sc_play.nd rfl (Or.inl rfl) (.inr rfl))) (fun _ _ _ _ _ => pts_nil) (fun _ _ _ _ _ => (pv 4)) (fun _ _ _ _ _ => pe_int)) (pss_cons (ps_for (passes_of rfl) rfl (pi_enum (by rfl) T.n_enumerate (pa_cons (pv 2) pa_nil)) (pg_tup rfl (pgs_cons (pg_name (i := 6) sc_play.nd rfl (Or.inl rfl)) (pgs_cons (pg_tup rfl (pgs_cons (pg_name (i := 7) sc_play.nd rfl (Or.inl rfl)) (pgs_cons (pg_name (i := 8) sc_play.nd rfl (Or.inl rfl)) pgs_nil))) pgs_nil))) (pss_cons (ps_if (pt_not (pt_val (pe_cR (ok_is_possible T) (hr.mono (by decide)) T.F_is_possible.kp T.g_is_possible pass0 (pa_cons (pv 0) (pa_cons (pv 1) (pa_cons (pv 5) (pa_cons (pe_tup (pa_cons (pv 7) (pa_cons (pv 8) pa_nil))) pa_nil))))))) (pss_one (ps_raise rfl (takes_of rfl rfl rfl rfl) (pmk_oex O_InvalidStep T.x_InvalidStep.ini T.x_InvalidStep.tyi F_InvalidStep (hr.mono (by decide)) B_InvalidStep .nil pass0 (by rfl) T.g_InvalidStep (pa_cons (pv 6) pa_nil)))) pss_nil) (pss_one (ps_if (pt_cmpR op_eq (pv 7) (pe_cS T.c_DRINK) (nomark _)) (pss_cons (ps_set (i := 3) sc_play.nd rfl (Or.inl rfl) (pe_op op_add (pv 3) (pv 8))) (pss_cons (ps_set (i := 1) sc_play.nd rfl (Or.inl rfl) (pe_op op_sub (pv 1) (pv 8))) (pss_one (ps_for (passes_of rfl) rfl (pi_tup (pe_prop (pv 0) T.k_Offer T.p_Offer_trades (ok_Offer_trades T) (hr.mono (by decide)) (b_Offer_trades T) .nil pass0 rfl)) (pg_tup rfl (pgs_cons (pg_name (i := 4) sc_play.nd rfl (Or.inl rfl)) (pgs_cons (pg_name (i := 9) sc_play.nd rfl (Or.inl rfl)) (pgs_cons (pg_name (i := 10) sc_play.nd rfl (Or.inl rfl)) pgs_nil)))) (pss_one (ps_daug (hu_of hr) (pv 5) (pv 4) (pe_op op_mul (pv 9) (pv 8)) in_add (fun _ _ _ => rfl))))))) (pss_cons (ps_set (i := 1) sc_play.nd rfl (Or.inl rfl) (pe_op op_add (pv 1) (pv 8))) (pss_one (ps_daug (hu_of hr) (pv 5) (pv 7) (pe_op op_mul (pe_ix ix_tup (pe_ixO T.m_Offer_getitem.at_ T.fi_Offer_getitem T.m_Offer_getitem.fn (ok_Offer_getitem T) (hr.mono (by decide)) pass0 (pv 0) (pv 7)) pe_int (fun _ _ => rfl)) (pv 8)) in_sub (fun _ _ _ => rfl)))))))) (pss_one (ps_ret (pe_tup (pa_cons (pv 3) (pa_cons (pv 1) (pa_cons (pv 5) pa_nil)))))))))), ?_⟩
  refine ⟨_, rfl, n, rfl, by omega, by omega, ?_⟩
  refine ⟨_, rfl, a, dx, _, rfl, e1, ⟨a, ts, rfl, ho, hf.g.1, fun H2 kp s2 hk => ⟨kp, rfl, ⟨_, hk⟩, fun D hD => ?_⟩⟩⟩
  have hDH : H D = none := s2.free hD
  refine dc_tup (xs := (ts.map Tr.k).map V.str) (fun i H3 => Same H2 H3 ∧ H3 D = some (.dK (PM (fun _ => 0) (ts.take i)))) ⟨same_new hD, upd_same⟩ (fun i H3 _ q => Same.tup q.1 hk) ?_ ?_
  · rintro i x H3 hx ⟨s3, q1⟩
    obtain ⟨u, et, rfl⟩ : ∃ u, ts[i]? = some u ∧ x = .str u.k := by
      rw [List.getElem?_map, List.getElem?_map] at hx
      cases e : ts[i]? with
      | none =>
        rw [e] at hx
        cases hx
      | some u =>
        rw [e] at hx
        exact ⟨u, rfl, (Option.some.inj hx).symm⟩
    have hl : (PM (fun _ => 0) (ts.take i)).length ≤ 3 := by
      unfold PM
      rw [List.length_map, List.length_take]
      have := hf.g.1
      omega
    refine ⟨rfl, _, rfl, _, .inr u.k, rfl, q1, small3 (by omega), same_mut s3 hD, ?_⟩
    rw [upd_same, PM_new hnm.1 et (fun _ => 0)]
  rintro H3 ⟨s3, q1⟩
  rw [List.length_map, List.length_map, List.take_length] at q1
  have s03 : Same H H3 := s2.trans s3
  refine ⟨_, rfl, S, _, rfl, s03.seq j1, for_it (walk_enum (K := K) (a := S) (xs := qs.map V.ref)) (fun i σ' H' => i ≤ jj ∧ Same H H' ∧ PcAt H' D ts (plRun n (L.take i)).f ∧ ∃ x4 x6 x7 x8 x9 x10, σ' = [some (.ref a), some (.int (plRun n (L.take i)).b), some (.ref S), some (.int (plRun n (L.take i)).d), x4, some (.ref D), x6, x7, x8, x9, x10])
    ⟨Nat.zero_le _, s03, ⟨fun _ => 0, fun _ _ => rfl, q1⟩, _, _, _, _, _, _, rfl⟩ (fun i σ' H' _ q => q.2.1.seq j1) ?_ ?_⟩
  · rintro i x σ' H' H5 hi ⟨hij, s', hpc, x4, x6, x7, x8, x9, x10, rfl⟩ ⟨q, u, v, rfl, nq, rfl, eu, ev⟩
    cases eu
    rw [List.length_map] at hi
    have hiL : i < L.length := by omega
    have el : L[i]? = some L[i] := List.getElem?_eq_getElem hiL
    have eq : qs[i]? = some qs[i] := List.getElem?_eq_getElem hi
    obtain rfl : v = .ref qs[i] := by
      have ev : (qs.map V.ref)[i]? = some v := ev
      rw [List.getElem?_map, eq] at ev
      exact (Option.some.inj ev).symm
    have hst := j3 i _ _ eq el
    have hp1 : i < jj → plPos ts (plRun n (L.take i)) L[i] = true := fun z => hpos i z _ el
    have hp0 : i = jj → plPos ts (plRun n (L.take i)) L[i] = false := fun z => by
      subst z
      exact hbad _ el
    have hrun := plRun_snoc (b := n) el
    generalize L[i] = x at el hst hp1 hp0 hrun
    generalize qs[i] = sp at eq ev hst
    have hm : ∀ {o : HO}, upd H' q o D = H' D := fun {o} => upd_ne (fun z => by
      obtain ⟨_, _, e⟩ := hpc.ex
      rw [z, nq] at e
      cases e)
    generalize plRun n (L.take i) = s0 at hpc hp1 hp0 hrun
    have s5 : Same H (upd H' q (.tup [.int (i : Nat), .ref sp])) := s'.trans (same_new nq)
    have pc5 : PcAt (upd H' q (.tup [.int (i : Nat), .ref sp])) D ts s0.f := by
      obtain ⟨f, f1, f2⟩ := hpc.ex
      exact ⟨f, f1, hm.trans f2⟩
    refine ⟨q, _, rfl, SqT.of upd_same, rfl, _, _, rfl, _, _, rfl, ⟨sp, _, rfl, Same.tup s5 hst, rfl, _, _, rfl, _, _, rfl, rfl, rfl, ?_⟩⟩
    generalize upd H' q (.tup [.int (i : Nat), .ref sp]) = H6 at s5 pc5
    refine ⟨_, rfl, _, rfl, _, rfl, _, rfl, _, rfl, by show 2 ≤ sizeLine; decide, fun y hy => ⟨a, D, y, ts, s0, x, rfl, ho.mono (s5.trans (same_new hy)), hf, hnm, ?_, SqT.of upd_same, fun H7 s7 => ⟨_, rfl, ?_⟩⟩⟩
    · obtain ⟨f, f1, f2⟩ := pc5.ex
      exact ⟨f, f1, upd_old f2 hy⟩
    have s67 : Same H H7 := s5.trans ((same_new hy).trans s7)
    obtain ⟨f, f1, f2⟩ := pc5.ex
    have f7 : H7 D = some (.dK (PM f ts)) := s7 _ _ (upd_old f2 hy)
    rcases Nat.lt_or_ge i jj with hlt | hge
    rotate_left
    · have ej : i = jj := by omega
      rw [hp0 ej]
      refine iteT ⟨_, rfl, ?_⟩
      exact mkS (i := i) (by omega) fun H8 d s8 nd ed => k H8 d (s67.trans s8) (s67.free nd) (by rw [← ej]; exact ed)
    have hp1 := hp1 hlt
    rw [hp1]
    refine iteF ?_
    refine ⟨_, rfl, rfl, _, rfl, ite2 (fun hd => ?_) (fun hd => ?_)⟩
    · have hd : x.1 = ("drink" : Str) := V.str.inj (of_decide_eq_true hd)
      have hr2 : pl1 s0 x = ⟨s0.d + x.2, s0.b - x.2, fun t => s0.f t + t.l * x.2⟩ := if_pos hd
      rw [hr2] at hrun
      refine ⟨_, rfl, _, rfl, _, _, rfl, rfl, _, rfl, _, rfl, _, _, rfl, rfl, ?_⟩
      refine ⟨_, rfl, a, dx, _, rfl, s67 _ _ e1, ⟨a, ts, rfl, ho.mono s67, fun tp htp => ?_⟩⟩
      obtain ⟨ps2, g1, g2, g3⟩ := htp.ex
      refine ⟨tp, rfl, ⟨_, g1⟩, for_tup (xs := ps2.map V.ref) (fun j σ' H' => ∃ (f' : Str → Int) (y4 y9 y10 : Option V), Same H H' ∧ SqT K H' tp (ps2.map V.ref) ∧ (∀ (i : Nat) (p : Addr) (t : Tr), ps2[i]? = some p → ts[i]? = some t → SqT K H' p t.vs) ∧ H' D = some (.dK (PM f' ts)) ∧
        (∀ (l : Nat) (u : Tr), ts[l]? = some u → f' u.k = if l < j then s0.f u + u.l * x.2 else s0.f u) ∧ σ' = [some (.ref a), some (.int (s0.b - x.2)), some (.ref S), some (.int (s0.d + x.2)), y4, some (.ref D), some (.int (i : Nat)), some (.str x.1), some (.int x.2), y9, y10]) ?_ ?_ ?_ ?_⟩
      · exact ⟨f, _, _, _, s67, g1, g3, f7, fun l u e => by rw [if_neg (Nat.not_lt_zero _)]; exact f1 u (List.mem_of_getElem? e), rfl⟩
      · rintro j σ' H' _ ⟨_, _, _, _, _, q, _⟩
        exact q
      · rintro j v σ' H' hv ⟨f', y4, y9, y10, s8, k1, k2, k3, k4, rfl⟩
        obtain ⟨p, u, rfl, ep, et, hm, li, hp⟩ := TrAt.at_ g2 k2 hv
        have hu := hf.g.2 _ hm
        have hval : f' u.k = s0.f u := by
          rw [k4 j u et, if_neg (Nat.lt_irrefl _)]
        have hlen : (PM f' ts).length ≤ 3 := by
          unfold PM
          rw [List.length_map]
          exact hf.g.1
        refine ⟨p, _, rfl, hp, rfl, _, _, rfl, _, _, rfl, _, _, rfl, rfl, ?_⟩
        refine ⟨_, rfl, _, rfl, D, _, rfl, .inl ⟨_, .inr u.k, .inl k3, rfl, (PM_val hm).symm⟩, _, rfl, _, rfl, _, _, rfl, rfl, .inl ⟨by have := hu.1; omega, by have := hu.2.1; omega⟩, _, _, rfl, rfl, _, .inl ⟨_, .inr u.k, k3, rfl, small3 (by omega), rfl⟩, ?_⟩
        rw [hval, PM_put hm]
        refine ⟨_, _, _, _, same_mut s8 hDH, sqT_updK k3 k1, fun i p t a b => sqT_updK k3 (k2 i p t a b), upd_same, fun l t' e => ?_, rfl⟩
        show (if t'.k = u.k then s0.f u + u.l * x.2 else f' t'.k) = _
        by_cases ek : t'.k = u.k
        · have ej : l = j := L2.nodup_ix hnm.1 (x := u.k) (by rw [List.getElem?_map, e, ← ek]; rfl) (by rw [List.getElem?_map, et]; rfl)
          subst ej
          rw [et] at e
          cases e
          rw [if_pos rfl, if_pos (Nat.lt_succ_self _)]
        · have ej : l ≠ j := fun z => by
            subst z
            rw [et] at e
            cases e
            exact ek rfl
          rw [if_neg ek, k4 l t' e]
          by_cases hj : l < j
          · rw [if_pos hj, if_pos (by omega)]
          · rw [if_neg hj, if_neg (by omega)]
      · rintro σ' H' ⟨f', y4, y9, y10, s8, k1, k2, k3, k4, rfl⟩
        rw [List.length_map, g2] at k4
        have hpc2 : PcAt H' D ts (plRun n (L.take (i + 1))).f := by
          rw [hrun]
          refine ⟨f', fun t ht => ?_, k3⟩
          obtain ⟨l, hl⟩ := List.mem_iff_getElem?.mp ht
          rw [k4 l t hl, if_pos (lt_of_at hl)]
        refine ⟨hlt, s8, hpc2, y4, some (.int (i : Nat)), some (.str x.1), some (.int x.2), y9, y10, ?_⟩
        rw [hrun]
    · have hd : ¬ x.1 = ("drink" : Str) := fun y => hd (decide_eq_true (by rw [y]))
      have hr2 : pl1 s0 x = ⟨s0.d, s0.b + x.2, fun t => if t.k = x.1 then s0.f t - t.n * x.2 else s0.f t⟩ := if_neg hd
      rw [hr2] at hrun
      obtain ⟨u, hu, eu⟩ : ∃ u ∈ ts, u.k = x.1 := by
        refine Classical.byContradiction fun z => ?_
        have hn : x.1 ∉ ts.map Tr.k := fun m => by
          obtain ⟨u, hu, eu⟩ := List.mem_map.mp m
          exact z ⟨u, hu, eu⟩
        unfold plPos at hp1
        rw [if_neg hd, find_none hn] at hp1
        simp at hp1
      have hou := hf.g.2 _ hu
      have hval : valV (PM f ts) (.inr x.1) = some (.int (s0.f u)) := by
        rw [← eu, PM_val hu, f1 u hu]
      have hlen : (PM f ts).length ≤ 3 := by
        unfold PM
        rw [List.length_map]
        exact hf.g.1
      refine ⟨_, rfl, _, rfl, _, _, rfl, rfl, ?_⟩
      refine ⟨_, rfl, _, rfl, D, _, rfl, .inl ⟨_, .inr x.1, .inl f7, rfl, hval.symm⟩, _, rfl, _, rfl, a, _, _, rfl, s67 _ _ e1, ⟨a, ts, u, by rw [eu], ho.mono s67, hu, hnm.1, fun H8 p8 s8 hp8 => ?_⟩⟩
      have f8 := s8 _ _ f7
      refine ⟨p8, _, _, _, rfl, rfl, hp8, rfl, _, rfl, _, _, rfl, rfl, .inl ⟨by have := hou.2.2.1; omega, by have := hou.2.2.2; omega⟩, _, _, rfl, rfl, _, .inl ⟨_, .inr x.1, f8, rfl, small3 (by omega), rfl⟩, ?_⟩
      rw [← eu, PM_put hu]
      have hfin : ∀ H9 : Hp, H9 D = some (.dK (PM (fun k => if k = u.k then s0.f u - u.n * x.2 else f k) ts)) → PcAt H9 D ts (plRun n (L.take (i + 1))).f := fun H9 e9 => by
        rw [hrun]
        refine ⟨_, fun t ht => ?_, e9⟩
        show (if t.k = u.k then s0.f u - u.n * x.2 else f t.k) = if t.k = x.1 then s0.f t - t.n * x.2 else s0.f t
        rw [← eu]
        by_cases ek : t.k = u.k
        · have et : t = u := by
            have q1 := find_kind hnm.1 ht
            rw [ek, find_kind hnm.1 hu] at q1
            exact (Option.some.inj q1).symm
          subst et
          rw [if_pos rfl, if_pos rfl]
        · rw [if_neg ek, if_neg ek]
          exact f1 t ht
      refine ⟨hlt, same_mut (s67.trans s8) hDH, hfin _ upd_same, x4, some (.int (i : Nat)), some (.str u.k), some (.int x.2), x9, x10, ?_⟩
      rw [hrun]
      rfl
  · rintro σ' H' ⟨hij, _⟩
    rw [List.length_map, j2] at hij
    omega
/-- bottles out of range -/
def spPlayN (K : PySem.W.Frag) : Sp := fun vs H _ E => ∃ (v u : V) (n : Int), vs = [v, .int n, u] ∧ ¬ (0 ≤ n ∧ n ≤ 1000000000000000000) ∧ E (.ref (He.ga K "InvalidNumber")) none H
theorem okN_play (hK : K.In base) : FnR PX w K mg base (L2.CX PX w) 4 (a_play K) (spPlayN K) := by
  refine fnRX (d := d_play) T.F_play sc_play rfl (fun _ _ _ _ _ _ us hl => match us, hl with | [_, _, _], _ => rfl) (fun vs H Q E h => ?_) (fun cdv A outer s H vs Q E hr h => ?_)
  · obtain ⟨v, u, n, rfl, _⟩ := h
    rfl
  obtain ⟨v, u, n, rfl, hn, k⟩ := h
  refine ⟨_, (pss_cons (ps_expr (pe_cR (okX_check_number T hK) (hr.mono (by decide)) T.F_check_number.kp T.g_check_number (passes_call (takes_of rfl rfl rfl rfl) (fun _ _ _ _ h => h)) (pa_cons (pv 1) pa_nil))) pss_never), ?_⟩
  refine ⟨_, rfl, ?_⟩
  dsimp only [tNil, tCons, tC]
  exact chk1 (fun a b => absurd ⟨a, b⟩ hn) fun _ => k
end
end EB

namespace EB
open PySem PySem.Spec PyProof.Rows L2
/-- what leaves a body is told at slots of the def's own number -/
theorem takes_len {X : Cx} {W : WX} {n : Nat} (hn : X.N.length = n) (tk : Takes X W) : Takes X (fun cls d σ H => σ.length = n → W cls d σ H) := fun u s' ⟨a, B, sI, pins, σ, H, cls, d, e, I, nb, up, sky, na, os, ag, w⟩ =>
  tk u s' ⟨a, B, sI, pins, σ, H, cls, d, e, I, nb, up, sky, na, os, ag, w (I.len.trans hn)⟩
abbrev errCx (P : Program) (w : World) (K : PySem.W.Frag) (mg : Str → Option Value) (base : Heap) (cdg : Value) (A : Around) (st : List Env) (s : Shared) (H : Hp) : Cx := (cxOf CX0 P w K mg base N_law_error "_law_error" (defScope s_law_error) (a_law_error K) cdg A st s H E0).nox
/-- what _law_error makes of the lambda's reading -/
def TTErr (K : PySem.W.Frag) : (XK → Hp → VK → Prop) → Hp → VK → Prop := fun tl H Q =>
  tl (fun cls d H' => (cls = .ref (He.ga K "InvalidStep") ∧ ∃ dd i, d = some dd ∧ H' dd = some (.xd [("index", .int i)]) ∧ ∀ H2 p, Same H' H2 → SqT K H2 p [.str "step", .int i] → Q (.ref p) H2) ∨
      (cls = .ref (He.ga K "InvalidNumber") ∧ d = none ∧ ∀ H2 p, Same H' H2 → SqT K H2 p [.str "number"] → Q (.ref p) H2)) H
    fun _ H' => [V.str "none"].length ≤ sizeLine ∧ ∀ p, H' p = none → Q (.ref p) (upd H' p (.tup [.str "none"]))
/-- what the suite asks -/
def tsErr (K : PySem.W.Frag) (a : Addr) (cls : Value) (d : Option Addr) : TS := fun D σ H => (∃ x0 x2 x3, σ = [x0, some (.ref a), x2, x3]) ∧
  ((cls = .ref (He.ga K "InvalidStep") ∧ ∃ dd i, d = some dd ∧ H dd = some (.xd [("index", .int i)]) ∧ ∀ H2 p, Same H H2 → SqT K H2 p [.str "step", .int i] → D.rt (.ref p) H2) ∨
      (cls = .ref (He.ga K "InvalidNumber") ∧ d = none ∧ ∀ H2 p, Same H H2 → SqT K H2 p [.str "number"] → D.rt (.ref p) H2))
theorem pss_by {X : Cx} {st : List Stmt} {t t' : TS} (h : PSs X st t) (k : ∀ D σ H, t' D σ H → t D σ H) : PSs X st t' := ⟨fun pins s σ H D I hw => h.run pins s σ H D I (k D σ H hw)⟩
section
variable {P : Program} {w : World} {K : PySem.W.Frag} {mg : Str → Option Value} {base : Heap} (T : Tx K mg) {N0 : List Str} {ql0 : Str} {sc0 : Scope} {ad0 : Addr} {cdv0 : Value} {A0 : Around} {outer0 : List Env} {s0 : Shared} {H0 : Hp} {E1 : XK}
include T
theorem err_gives {cdg : Value} {q : Str} : LamX.GivesTo (cxOf CX0 P w K mg base N0 ql0 sc0 ad0 cdv0 A0 outer0 s0 H0 E1) N_law_error "_law_error" (defScope s_law_error) (a_law_error K) cdg (defBody s_law_error) "_law_call" q (TTErr K) := by
  intro f c' s H Q tl act hc h
  refine ⟨_, pss_cons (ps_try_as (X := (cxOf CX0 P w K mg base N_law_error "_law_error" (defScope s_law_error) (a_law_error K) cdg (cxOf CX0 P w K mg base N0 ql0 sc0 ad0 cdv0 A0 outer0 s0 H0 E1).A (cxOf CX0 P w K mg base N0 ql0 sc0 ad0 cdv0 A0 outer0 s0 H0 E1).stack s H E0).nox) (i := 1) (ts := tsErr K) (c := .ref (He.ga K "TradeError"))
      (tb := fun W D σ H => ∃ Ech : XK, (∀ cls d σ' H', σ'.length = 4 → Ech cls d H' → W cls d σ' H') ∧ σ[0]? = some (some (.ref f)) ∧ H c' = some (LamX.CodeO c' q) ∧ tl Ech H fun _ H' => D.nx σ H')
      rfl rfl sc_law_error.nd rfl rfl ⟨rfl, by decide, .inl T.g_TradeError⟩ LamX.takes0 ?hb ?hs) (pss_one (ps_ret (pe_tup (pa_cons pe_str pa_nil)))), ?_⟩
  case hs =>
    intro a oe cls d pn hz hf
    refine pss_by (pss_cons (ps_set (i := 2) sc_law_error.nd rfl (Or.inl rfl) (pe_lst (pa_cons (pe_callB (call_isX (X := errCx P w K mg base cdg _ _ s H) hz hf) (by rfl) T.n_isinstance (by decide +kernel) (pa_cons (pv 1) (pa_cons (pe_cC T.g_Contradiction) pa_nil))) (pa_cons (pe_callB (call_isX (X := errCx P w K mg base cdg _ _ s H) hz hf) (by rfl) T.n_isinstance (by decide +kernel) (pa_cons (pv 1) (pa_cons (pe_cC T.g_InvalidNumber) pa_nil))) (pa_cons (pe_callB (call_isX (X := errCx P w K mg base cdg _ _ s H) hz hf) (by rfl) T.n_isinstance (by decide +kernel) (pa_cons (pv 1) (pa_cons (pe_cC T.g_InvalidOffer) pa_nil))) pa_nil))))) (pss_cons (ps_expr (pe_bm PySem.F.plainAttrs_list PySem.F.slot_list_extend PySem.F.type_list_extend mt_extend (pv 2) (pa_cons (pe_lst (pa_cons (pe_callB (call_isX (X := errCx P w K mg base cdg _ _ s H) hz hf) (by rfl) T.n_isinstance (by decide +kernel) (pa_cons (pv 1) (pa_cons (pe_cC T.g_InvalidStep) pa_nil))) (pa_cons (pe_callB (call_isX (X := errCx P w K mg base cdg _ _ s H) hz hf) (by rfl) T.n_isinstance (by decide +kernel) (pa_cons (pv 1) (pa_cons (pe_cC T.g_TooGenerous) pa_nil))) (pa_cons (pe_callB (call_isX (X := errCx P w K mg base cdg _ _ s H) hz hf) (by rfl) T.n_isinstance (by decide +kernel) (pa_cons (pv 1) (pa_cons (pe_cC T.g_UnknownKind) pa_nil))) pa_nil)))) pa_nil))) (pss_cons (ps_if (PW.pt (pw_or (pt_cmpR op_ne (pe_bm PySem.F.plainAttrs_list PySem.F.slot_list_count PySem.F.type_list_count mt_countV (pv 2) (pa_cons pe_bl pa_nil)) pe_int (nomark _)) (pw_or1 (pt_not (pt_val (pe_callB (call_isX (X := errCx P w K mg base cdg _ _ s H) hz hf) (by rfl) T.n_isinstance (by decide +kernel) (pa_cons (pv 1) (pa_cons (pe_bltn (v := .ty "ValueError") (u := .type "ValueError") (by rfl) T.n_ValueError (by decide +kernel) rfl) pa_nil)))))))) (pss_one (ps_ret (pe_tup (pa_cons pe_str pa_nil)))) pss_nil) (pss_cons (ps_set (i := 3) sc_law_error.nd rfl (Or.inl rfl) (pe_ix ix_list (pe_lst (pa_cons pe_str (pa_cons pe_str (pa_cons pe_str (pa_cons pe_str (pa_cons pe_str (pa_cons pe_str pa_nil))))))) (pe_bm PySem.F.plainAttrs_list PySem.F.slot_list_index PySem.F.type_list_index mt_index (pv 2) (pa_cons pe_bl pa_nil)) (fun _ _ => rfl))) (pss_one (ps_ret (pe_ifExp (pt_cmpR op_in_seq (pv 3) (pe_tup (pa_cons pe_str (pa_cons pe_str pa_nil))) rfl) (pe_tup (pa_cons (pv 3) (pa_cons (pe_xf (X := errCx P w K mg base cdg _ _ s H) T.l_InvalidStep.2 T.x_InvalidStep.idx hz hf (pv 1)) pa_nil))) (pe_tup (pa_cons (pv 3) pa_nil))))))))) ?_
    rintro D σ H1 ⟨⟨x0, x2, x3, rfl⟩, hw⟩
    rcases hw with ⟨rfl, dd, i, rfl, ed, k⟩ | ⟨rfl, rfl, k⟩
    · skip
      have Q := T.q_InvalidStep
      have L := T.l_InvalidStep.1
      refine ⟨_, rfl, _, _, _, false, rfl, L, .inr ⟨dd, _, rfl, ed⟩, rfl, fun u r => r, (Q.own "Contradiction" (by decide)).trans (by decide +kernel), ?_⟩
      refine ⟨_, rfl, _, _, _, false, rfl, L, .inr ⟨dd, _, rfl, ed⟩, rfl, fun u r => r, (Q.own "InvalidNumber" (by decide)).trans (by decide +kernel), ?_⟩
      refine ⟨_, rfl, _, _, _, false, rfl, L, .inr ⟨dd, _, rfl, ed⟩, rfl, fun u r => r, (Q.own "InvalidOffer" (by decide)).trans (by decide +kernel), ?_⟩
      refine ⟨by show 3 ≤ sizeLine; decide, fun L1 m1 => ?_⟩
      refine ⟨_, rfl, .inl ⟨rfl, _, SqL.of upd_same⟩, ?_⟩
      refine ⟨_, rfl, _, _, _, true, rfl, L, .inr ⟨dd, _, rfl, upd_old ed m1⟩, rfl, fun u r => r, (Q.own "InvalidStep" (by decide)).trans (by decide +kernel), ?_⟩
      refine ⟨_, rfl, _, _, _, false, rfl, L, .inr ⟨dd, _, rfl, upd_old ed m1⟩, rfl, fun u r => r, (Q.own "TooGenerous" (by decide)).trans (by decide +kernel), ?_⟩
      refine ⟨_, rfl, _, _, _, false, rfl, L, .inr ⟨dd, _, rfl, upd_old ed m1⟩, rfl, fun u r => r, (Q.own "UnknownKind" (by decide)).trans (by decide +kernel), ?_⟩
      refine ⟨by show 3 ≤ sizeLine; decide, fun L2 m2 => ⟨L1, L2, _, _, rfl, rfl, upd_old upd_same m2, upd_same, by show 3 + 3 ≤ sizeLine; decide, ?_⟩⟩
      have s3 : Same H1 (upd (upd (upd H1 L1 (.lst [.bl false, .bl false, .bl false])) L2 (.lst [.bl true, .bl false, .bl false])) L1 (.lst ([.bl false, .bl false, .bl false] ++ [.bl true, .bl false, .bl false]))) := same_mut ((same_new m1).trans (same_new m2)) m1
      have e3 : (upd (upd (upd H1 L1 (.lst [.bl false, .bl false, .bl false])) L2 (.lst [.bl true, .bl false, .bl false])) L1 (.lst ([.bl false, .bl false, .bl false] ++ [.bl true, .bl false, .bl false]))) L1 = some (.lst [.bl false, .bl false, .bl false, .bl true, .bl false, .bl false]) := upd_same
      dsimp only
      generalize upd (upd (upd H1 L1 (.lst [.bl false, .bl false, .bl false])) L2 (.lst [.bl true, .bl false, .bl false])) L1 (.lst ([.bl false, .bl false, .bl false] ++ [.bl true, .bl false, .bl false])) = H3 at s3 e3
      refine ⟨_, rfl, .inl ⟨rfl, _, SqL.of e3⟩, L1, _, .bl true, rfl, rfl, SqL.of e3, rfl, rfl, rfl, _, rfl, ite2 (fun z => absurd z (by decide +kernel)) (fun _ => ?_)⟩
      refine ⟨_, rfl, _, _, _, true, rfl, L, .inr ⟨dd, _, rfl, s3 _ _ ed⟩, rfl, fun u r => r, Q.val, true, rfl, iteF ?_⟩
      refine ⟨by show 6 ≤ sizeLine; decide, fun L3 m3 => ?_⟩
      have s4 : Same H3 (upd H3 L3 (.lst [.str "contradiction", .str "number", .str "offer", .str "step", .str "generous", .str "kind"])) := same_new m3
      have e4 : (upd H3 L3 (.lst [.str "contradiction", .str "number", .str "offer", .str "step", .str "generous", .str "kind"])) L3 = some (.lst [.str "contradiction", .str "number", .str "offer", .str "step", .str "generous", .str "kind"]) := upd_same
      generalize upd H3 L3 (.lst [.str "contradiction", .str "number", .str "offer", .str "step", .str "generous", .str "kind"]) = H4 at s4 e4
      refine ⟨_, rfl, .inl ⟨rfl, _, SqL.of (s4 _ _ e3)⟩, L1, _, .bl true, 3, .bl true, rfl, rfl, SqL.of (s4 _ _ e3), rfl, rfl, rfl, rfl, ?_, L3, _, _, _, rfl, rfl, SqL.of e4, at_of (j := 3) rfl rfl, ?_⟩
      · intro m z' hm hz'
        match m, hm, hz' with
        | 0, _, hz' => cases hz'; rfl
        | 1, _, hz' => cases hz'; rfl
        | 2, _, hz' => cases hz'; rfl
        | m + 3, hm, _ => omega
      refine ⟨_, rfl, by show 2 ≤ sizeLine; decide, fun p5 m5 => ⟨p5, _, rfl, .inr (SqT.of upd_same), rfl, rfl, _, rfl, ?_⟩⟩
      have s5 := s3.trans (s4.trans (same_new (u := .tup [.str "offer", .str "step"]) m5))
      refine ite2 (fun _ => ?_) (fun z => absurd (by decide +kernel) z)
      exact ⟨_, rfl, _, rfl, rfl, rfl, dd, _, _, rfl, s5 _ _ ed, rfl, by show 2 ≤ sizeLine; decide, fun p6 m6 => k _ p6 (s5.trans (same_new m6)) (SqT.of upd_same)⟩
    · skip
      have Q := T.q_InvalidNumber
      have L := T.l_InvalidNumber.1
      refine ⟨_, rfl, _, _, _, false, rfl, L, .inl rfl, rfl, fun u r => r, (Q.own "Contradiction" (by decide)).trans (by decide +kernel), ?_⟩
      refine ⟨_, rfl, _, _, _, true, rfl, L, .inl rfl, rfl, fun u r => r, (Q.own "InvalidNumber" (by decide)).trans (by decide +kernel), ?_⟩
      refine ⟨_, rfl, _, _, _, false, rfl, L, .inl rfl, rfl, fun u r => r, (Q.own "InvalidOffer" (by decide)).trans (by decide +kernel), ?_⟩
      refine ⟨by show 3 ≤ sizeLine; decide, fun L1 m1 => ?_⟩
      refine ⟨_, rfl, .inl ⟨rfl, _, SqL.of upd_same⟩, ?_⟩
      refine ⟨_, rfl, _, _, _, false, rfl, L, .inl rfl, rfl, fun u r => r, (Q.own "InvalidStep" (by decide)).trans (by decide +kernel), ?_⟩
      refine ⟨_, rfl, _, _, _, false, rfl, L, .inl rfl, rfl, fun u r => r, (Q.own "TooGenerous" (by decide)).trans (by decide +kernel), ?_⟩
      refine ⟨_, rfl, _, _, _, false, rfl, L, .inl rfl, rfl, fun u r => r, (Q.own "UnknownKind" (by decide)).trans (by decide +kernel), ?_⟩
      refine ⟨by show 3 ≤ sizeLine; decide, fun L2 m2 => ⟨L1, L2, _, _, rfl, rfl, upd_old upd_same m2, upd_same, by show 3 + 3 ≤ sizeLine; decide, ?_⟩⟩
      have s3 : Same H1 (upd (upd (upd H1 L1 (.lst [.bl false, .bl true, .bl false])) L2 (.lst [.bl false, .bl false, .bl false])) L1 (.lst ([.bl false, .bl true, .bl false] ++ [.bl false, .bl false, .bl false]))) := same_mut ((same_new m1).trans (same_new m2)) m1
      have e3 : (upd (upd (upd H1 L1 (.lst [.bl false, .bl true, .bl false])) L2 (.lst [.bl false, .bl false, .bl false])) L1 (.lst ([.bl false, .bl true, .bl false] ++ [.bl false, .bl false, .bl false]))) L1 = some (.lst [.bl false, .bl true, .bl false, .bl false, .bl false, .bl false]) := upd_same
      dsimp only
      generalize upd (upd (upd H1 L1 (.lst [.bl false, .bl true, .bl false])) L2 (.lst [.bl false, .bl false, .bl false])) L1 (.lst ([.bl false, .bl true, .bl false] ++ [.bl false, .bl false, .bl false])) = H3 at s3 e3
      refine ⟨_, rfl, .inl ⟨rfl, _, SqL.of e3⟩, L1, _, .bl true, rfl, rfl, SqL.of e3, rfl, rfl, rfl, _, rfl, ite2 (fun z => absurd z (by decide +kernel)) (fun _ => ?_)⟩
      refine ⟨_, rfl, _, _, _, true, rfl, L, .inl rfl, rfl, fun u r => r, Q.val, true, rfl, iteF ?_⟩
      refine ⟨by show 6 ≤ sizeLine; decide, fun L3 m3 => ?_⟩
      have s4 : Same H3 (upd H3 L3 (.lst [.str "contradiction", .str "number", .str "offer", .str "step", .str "generous", .str "kind"])) := same_new m3
      have e4 : (upd H3 L3 (.lst [.str "contradiction", .str "number", .str "offer", .str "step", .str "generous", .str "kind"])) L3 = some (.lst [.str "contradiction", .str "number", .str "offer", .str "step", .str "generous", .str "kind"]) := upd_same
      generalize upd H3 L3 (.lst [.str "contradiction", .str "number", .str "offer", .str "step", .str "generous", .str "kind"]) = H4 at s4 e4
      refine ⟨_, rfl, .inl ⟨rfl, _, SqL.of (s4 _ _ e3)⟩, L1, _, .bl true, 1, .bl true, rfl, rfl, SqL.of (s4 _ _ e3), rfl, rfl, rfl, rfl, ?_, L3, _, _, _, rfl, rfl, SqL.of e4, at_of (j := 1) rfl rfl, ?_⟩
      · intro m z' hm hz'
        match m, hm, hz' with
        | 0, _, hz' => cases hz'; rfl
        | m + 1, hm, _ => omega
      refine ⟨_, rfl, by show 2 ≤ sizeLine; decide, fun p5 m5 => ⟨p5, _, rfl, .inr (SqT.of upd_same), rfl, rfl, _, rfl, ?_⟩⟩
      have s5 := s3.trans (s4.trans (same_new (u := .tup [.str "offer", .str "step"]) m5))
      refine ite2 (fun z => absurd z (by decide +kernel)) (fun _ => ?_)
      exact ⟨_, rfl, by show 1 ≤ sizeLine; decide, fun p6 m6 => k _ p6 (s5.trans (same_new m6)) (SqT.of upd_same)⟩
  case hb =>
    intro W pn xe tk _
    refine ⟨fun pins s' σ H' D I h' => ?_⟩
    obtain ⟨Ech, hW, h1, h2, h3⟩ := h'
    exact (pss_one (ps_expr (act _ pn xe Ech _ _ (takes_len (n := 4) rfl tk) (fun cls d σ' H' e hl => hW cls d σ' H' hl e)))).run pins s' σ H' D I ⟨h1, h2, h3⟩
  · refine ⟨_, fun cls d σ' H' hl e => ⟨true, ?_, fun _ a _ => ⟨?_, e⟩, fun z => nomatch z⟩, rfl, hc, h⟩
    · rcases e with ⟨rfl, _⟩ | ⟨rfl, _⟩
      · exact PySem.W.exm_ref T.x_TradeError.base T.l_TradeError.1.hd T.x_TradeError.ty T.x_InvalidStep.trade
      · exact PySem.W.exm_ref T.x_TradeError.base T.l_TradeError.1.hd T.x_TradeError.ty T.x_InvalidNumber.trade
    · match σ', hl with
      | [y0, y1, y2, y3], _ => exact ⟨y0, y2, y3, rfl⟩
end
end EB

namespace EB
open PySem PySem.Spec PyProof.Rows L2
theorem strsD_lay : ∀ ks : List Str, (∀ k ∈ ks, PyData.strOk k = true) → PyData.canLayAll0 (ks.map .str) = true ∧ PyData.depthAll (ks.map .str) ≤ 1
  | [], _ => ⟨rfl, by simp [PyData.depthAll]⟩
  | k :: ks, q => by
    have h := strsD_lay ks fun z m => q z (List.mem_cons_of_mem _ m)
    rw [List.map_cons]
    refine ⟨by rw [PyData.canLayAll0, h.1, PyData.canLay0, q k (List.mem_cons_self ..)]; rfl, ?_⟩
    simp only [PyData.depthAll, PyData.depth]
    omega
theorem strsD_shaped {ks : List Str} (q : ∀ k ∈ ks, PyData.strOk k = true) : SeqAt.shaped (PyData.list (ks.map .str)) = true := by
  have h := strsD_lay ks q
  unfold SeqAt.shaped
  rw [Bool.and_eq_true, decide_eq_true_eq]
  refine ⟨by rw [PyData.canLay0]; exact h.1, ?_⟩
  rw [PyData.depth]
  omega
theorem strsD_eqv (ks : List Str) : PyData.eqv (PyData.list (ks.map .str)) (.list []) = decide (ks = []) := by
  cases ks with
  | nil => rfl
  | cons k ks =>
    rw [decide_eq_false (by simp)]
    simp [PyData.eqv, PyData.eqvAll]
theorem strsD_dp {K : PySem.W.Frag} {H : Hp} : ∀ ks : List Str, DpAll K H (ks.map V.str) (ks.map PyData.str)
  | [] => .nil
  | k :: ks => .cons (.str k) (strsD_dp ks)
/-- a sign of a text that is data is data -/
theorem strOk_sign {z : Str} {c : Nat} (h : PyData.strOk z = true) (m : c ∈ z.cps.toList) : PyData.strOk ⟨#[c]⟩ = true := by
  unfold PyData.strOk at h ⊢
  have h2 : z.cps.toList.all (fun c => decide (c < 1114112)) = true := by
    rw [Array.all_toList]
    simpa using h
  have h3 := List.all_eq_true.mp h2 c m
  simpa using h3
/-! ### trades as data -/
def trD (t : Tr) : PyData := .tuple [.str t.k, .int t.l, .int t.n]
theorem trs_lay : ∀ ts : List Tr, (∀ t ∈ ts, PyData.strOk t.k = true) → PyData.canLayAll0 (ts.map trD) = true ∧ PyData.depthAll (ts.map trD) ≤ 4
  | [], _ => ⟨rfl, by simp [PyData.depthAll]⟩
  | t :: ts, q => by
    have h := trs_lay ts fun z m => q z (List.mem_cons_of_mem _ m)
    have ht := q t (List.mem_cons_self ..)
    rw [List.map_cons]
    refine ⟨by simp only [PyData.canLayAll0, trD, PyData.canLay0, h.1, ht, Bool.and_true, Bool.true_and], ?_⟩
    simp only [PyData.depthAll, trD, PyData.depth]
    omega
theorem trs_shaped {ts : List Tr} (q : ∀ t ∈ ts, PyData.strOk t.k = true) : SeqAt.shaped (PyData.tuple (ts.map trD)) = true := by
  have h := trs_lay ts q
  unfold SeqAt.shaped
  rw [Bool.and_eq_true, decide_eq_true_eq]
  refine ⟨by rw [PyData.canLay0]; exact h.1, ?_⟩
  rw [PyData.depth]
  omega
theorem trs_eqv (ts : List Tr) : PyData.eqv (PyData.tuple (ts.map trD)) (.tuple []) = decide (ts = []) := by
  cases ts with
  | nil => rfl
  | cons k ks =>
    rw [decide_eq_false (by simp)]
    simp [PyData.eqv, PyData.eqvAll]
theorem trs_dpl {K : PySem.W.Frag} {H : Hp} : ∀ {ps : List Addr} {ts : List Tr}, ps.length = ts.length → (∀ (i : Nat) (p : Addr) (t : Tr), ps[i]? = some p → ts[i]? = some t → SqT K H p t.vs) → DpAll K H (ps.map V.ref) (ts.map trD)
  | [], [], _, _ => .nil
  | [], _ :: _, h, _ => nomatch h
  | _ :: _, [], h, _ => nomatch h
  | a :: ps, t :: ts, h, k => .cons (.tup (k 0 a t rfl rfl) (.cons (.str _) (.cons (.int _) (.cons (.int _) .nil)))) (trs_dpl (Nat.succ.inj h) fun j b u e1 e2 => k (j + 1) b u e1 e2)
theorem TrAt.dp {K : PySem.W.Frag} {H : Hp} {a : Addr} {ts : List Tr} (h : TrAt K H a ts) : Dp K H (.ref a) (.tuple (ts.map trD)) := by
  obtain ⟨ps, h1, h2, h3⟩ := h.ex
  exact .tup h1 (trs_dpl h2 h3)
theorem shapedT : SeqAt.shaped (PyData.tuple []) = true := by decide +kernel
/-! ### what the law expects -/
def dueV (ts : List Tr) : List V := match badOf ts with
  | some i => [.str "offer", .int (i : Nat)]
  | none => if 9 * 27720 < 10 * worth ts then [.str "generous"] else [.str "none"]
theorem labelOk_law {z : Str} : labelOk z = (if (if decide ((1 : Int) ≤ z.length) = true then decide ((z.length : Int) ≤ 8) else false) = true then decide (z.cps.toList.filter (fun c => !signOk c) = []) else false) := by
  unfold labelOk
  generalize (if decide ((1 : Int) ≤ z.length) = true then decide ((z.length : Int) ≤ 8) else false) = b
  cases b with
  | false => rfl
  | true =>
    show (z.cps.toList.map signOk).all id = decide (z.cps.toList.filter (fun c => !signOk c) = [])
    generalize z.cps.toList = l
    induction l with
    | nil => rfl
    | cons c l ih =>
      rw [List.map_cons, List.all_cons, ih, List.filter_cons]
      cases signOk c with
      | true => rfl
      | false => rfl
theorem badTr_cons {seen : List Str} {i : Nat} {t : Tr} {ts : List Tr} (h : ¬ (i = 3 ∨ t.k ∈ seen ∨ trOk t = false)) : badTr seen i (t :: ts) = badTr (seen ++ [t.k]) (i + 1) ts := by
  conv => lhs; unfold badTr
  rw [if_neg h]
theorem badTr_hit {seen : List Str} {i : Nat} {t : Tr} {ts : List Tr} (h : i = 3 ∨ t.k ∈ seen ∨ trOk t = false) : badTr seen i (t :: ts) = some i := by
  unfold badTr
  rw [if_pos h]
theorem trOk_ok {t : Tr} (h : trOk t = true) : t.ok := by
  unfold trOk at h
  split at h
  · split at h
    · rename_i h2
      have h2 := numOk_iff.mp h2
      have h3 := numOk_iff.mp h
      exact ⟨h2.1, h2.2, h3.1, h3.2⟩
    · cases h
  · cases h
theorem badTr_none : ∀ {ts : List Tr} {seen : List Str} {i : Nat}, badTr seen i ts = none → i ≤ 3 → i + ts.length ≤ 3 ∧ (∀ t ∈ ts, trOk t = true) ∧ (ts.map Tr.k).Nodup ∧ ∀ t ∈ ts, t.k ∉ seen
  | [], seen, i, _, hi => ⟨by simpa using hi, fun t h => (by cases h), List.nodup_nil, fun t h => (by cases h)⟩
  | t :: ts, seen, i, h, hi => by
    by_cases hc : i = 3 ∨ t.k ∈ seen ∨ trOk t = false
    · rw [badTr_hit hc] at h
      cases h
    rw [badTr_cons hc] at h
    have hc1 : i ≠ 3 := fun z => hc (.inl z)
    have hc2 : t.k ∉ seen := fun z => hc (.inr (.inl z))
    have hc3 : trOk t = true := by
      cases q : trOk t with
      | true => rfl
      | false => exact absurd (.inr (.inr q)) hc
    obtain ⟨a, b, c, d⟩ := badTr_none h (by omega)
    refine ⟨by rw [List.length_cons]; omega, fun u hu => ?_, ?_, fun u hu => ?_⟩
    · rcases List.mem_cons.mp hu with rfl | hu
      · exact hc3
      · exact b u hu
    · rw [List.map_cons, List.nodup_cons]
      refine ⟨fun z => ?_, c⟩
      obtain ⟨u, hu, e⟩ := List.mem_map.mp z
      exact d u hu (by rw [e]; exact List.mem_append.mpr (.inr (List.mem_singleton.mpr rfl)))
    · rcases List.mem_cons.mp hu with rfl | hu
      · exact hc2
      · exact fun z => d u hu (List.mem_append.mpr (.inl z))
theorem trOk_kind {t : Tr} (h : trOk t = true) : kindOk t.k = true := by
  unfold trOk at h
  split at h
  · assumption
  · cases h
section
variable {P : Program} {w : World} {K : PySem.W.Frag} {mg : Str → Option Value} {base : Heap} (T : Tx K mg)
include T
end
end EB

namespace EB
open PySem PySem.Spec PyProof.Rows L2
theorem pe_bmK {X : Cx} {K : PySem.W.Frag} {o e : Expr} {es : List Expr} {to : TE} {t : TA} {name : Str} {apos cpos : Pos} {T id : String} {r : V → List V → Hp → VK → Prop} (h : X.K = K) (pa : PlainAttrs T) (slot : Slot T name id) (hty : typeOf (.builtin id) = pure (.type "method_descriptor")) (hm : MtR X id r) (ho : PE X o to) (ha : PA X (e :: es) t)
    (hbase : attributeBase o name X.env (eval o X.env) = eval o X.env := by rfl)
    (hfew : ((backTo cpos (starEach (e :: es) X.env)).all (fun x => !x.1) && (backToKw cpos (keywordEach [] X.env)).all (fun x => x.1.isSome)
      && decide ((e :: es).length + ([] : List Keyword).length + (if ([] : List Keyword).isEmpty then 0 else 1) < 30)) = true := by rfl)
    (hline : (apos.endLine == cpos.line) = true := by rfl) (hs : starEach (e :: es) X.env = (false, eval e X.env) :: starEach es X.env := by rfl) (hplain : (backTo cpos (starEach es X.env)).any (·.1) = false := by rfl) :
    PE X (.Call (.Attribute o name apos) (e :: es) [] cpos) (tBM K T r to t) := h ▸ pe_bm pa slot hty hm ho ha hbase hfew hline hs hplain
section
variable {P : Program} {w : World} {K : PySem.W.Frag} {mg : Str → Option Value} {base : Heap} (T : Tx K mg) {N0 : List Str} {ql0 : Str} {sc0 : Scope} {ad0 c Pt : Addr} {A0 : Around} {outer0 : List Env} {s0 : Shared} {H0 : Hp} {E1 : XK}
include T
theorem b_law_error : Binds K T.fd_law_error ["_law_call"] [] := bnd0 T.F_law_error sc_law_error rfl (fun _ _ _ _ _ _ us hl => match us, hl with | [_], _ => rfl)
abbrev lawCx (P : Program) (w : World) (K : PySem.W.Frag) (mg : Str → Option Value) (base : Heap) (N0 : List Str) (ql0 : Str) (sc0 : Scope) (ad0 c : Addr) (A0 : Around) (outer0 : List Env) (s0 : Shared) (H0 : Hp) (E1 : XK) : Cx := (cxOf CX0 P w K mg base N0 ql0 sc0 ad0 (.ref c) A0 outer0 s0 H0 E1).nox
theorem pe_err {k : Nat} {t : XK → TE} {params : Arguments} {body : Expr} {scope : Scope} {p lpos pos : Pos} (TB : LamX.TabB base mg c Pt) (hr : Room (k + 2) (lawCx P w K mg base N0 ql0 sc0 ad0 c A0 outer0 s0 H0 E1).A)
    (L : LamX.LamS sc0 scope) (hdef : defaultsOf params (lawCx P w K mg base N0 ql0 sc0 ad0 c A0 outer0 s0 H0 E1).env = ([], []))
    (hbind : ∀ (q : Str) (cl : List (Str × Addr)) (pm cv ctv : Value), bindArgs (PySem.W.kla_fn "<lambda>" q params body scope cl pm cv ctv) ⟨[], []⟩ = pure [])
    (hbody : ∀ (A : Around) (outer : List Env) (s : Shared) (H : Hp) (E : XK) (f c' : Addr), Room k (A.deeper (LamX.lamEnv (lawCx P w K mg base N0 ql0 sc0 ad0 c A0 outer0 s0 H0 E1) scope s.heap.objs.size f c')) → PE (LamX.lamCx (lawCx P w K mg base N0 ql0 sc0 ad0 c A0 outer0 s0 H0 E1) A outer s H E scope f c') body (t E))
    (hgl : Gl (lawCx P w K mg base N0 ql0 sc0 ad0 c A0 outer0 s0 H0 E1) "_law_error" := by rfl) :
    PE (lawCx P w K mg base N0 ql0 sc0 ad0 c A0 outer0 s0 H0 E1) (.Call (.Name "_law_error" p) [.Lambda params body scope lpos] [] pos) (LamX.tLam [(Pt, (lawCx P w K mg base N0 ql0 sc0 ad0 c A0 outer0 s0 H0 E1).env.qual ++ "<lambda>")] (TTErr K) t) := by
  obtain ⟨oc, od, dV, kV, doc, pm, an, cdv, ct, osl, e, lk, hcd, _, _⟩ := T.F_law_error.ex
  have b := b_law_error T
  rw [e] at b lk
  exact LamX.pe_lamcall (T := [(Pt, (lawCx P w K mg base N0 ql0 sc0 ad0 c A0 outer0 s0 H0 E1).env.qual ++ "<lambda>")]) hgl T.g_law_error T.F_law_error.kp lk hcd b sc_law_error rfl (.inl rfl) (err_gives T (N0 := N0) (H0 := H0) (E1 := E1)) TB rfl (List.mem_cons_self ..) (fun q hq _ => by cases List.mem_singleton.mp hq; rfl) hr L hdef hbind hbody
end
end EB

namespace EB
open PySem PySem.Spec PyProof.Rows L2
theorem op_eqDK {X : Cx} {K : PySem.W.Frag} (h : X.K = K) (hu : X.A.units + 64 < cLine) : OpR X (compareOp .Eq) (rEqD K) := h ▸ op_eqD hu
theorem op_neDK {X : Cx} {K : PySem.W.Frag} (h : X.K = K) (hu : X.A.units + 64 < cLine) : OpR X (compareOp .NotEq) (rNeD K) := h ▸ op_neD hu
section
variable {P : Program} {w : World} {K : PySem.W.Frag} {mg : Str → Option Value} {base : Heap} (T : Tx K mg) {N0 : List Str} {ql0 : Str} {sc0 : Scope} {ad0 c Pt : Addr} {A0 : Around} {outer0 : List Env} {s0 : Shared} {H0 : Hp} {E1 : XK}
include T
theorem pe_lamE {k : Nat} {params : Arguments} {body : Expr} {scope : Scope} {pos : Pos} {t : XK → TE} (df : List (Str × Int)) (TB : LamX.TabB base mg c Pt) (L : LamO N0 sc0 scope) (D : DfEv (lawCx P w K mg base N0 ql0 sc0 ad0 c A0 outer0 s0 H0 E1) params df) (B : BindL params body scope df)
    (run : ∀ (f : Addr) (A : Around) (outer : List Env) (s : Shared) (G : Hp) (E : XK) (c1 : Addr), Room k (A.deeper (LamX.lamEnv (lawCx P w K mg base N0 ql0 sc0 ad0 c A0 outer0 s0 H0 E1) scope s.heap.objs.size f c1)) → PE (LamX.lamCx (lawCx P w K mg base N0 ql0 sc0 ad0 c A0 outer0 s0 H0 E1) A outer s G E scope f c1) body (t E)) :
    PE (lawCx P w K mg base N0 ql0 sc0 ad0 c A0 outer0 s0 H0 E1) (.Lambda params body scope pos) (tLamV (lawCx P w K mg base N0 ql0 sc0 ad0 c A0 outer0 s0 H0 E1) k [(Pt, (lawCx P w K mg base N0 ql0 sc0 ad0 c A0 outer0 s0 H0 E1).env.qual ++ "<lambda>")] t) :=
  pe_lamV df TB rfl (List.mem_cons_self ..) (fun q hq _ => by cases List.mem_singleton.mp hq; rfl) L D B run
/-- _law_error(e) in a block of the law -/
theorem pe_errK {k : Nat} {pins : List (Addr × Obj)} {σ : L2.St} {s : Shared} {H : Hp} {scope : Scope} {ce : Env} {fp : List Addr} {e : Expr} {te : TE} {p pos : Pos} (hr : Room (k + 2) (lawCx P w K mg base N0 ql0 sc0 ad0 c A0 outer0 s0 H0 E1).A) (I : Inv (lawCx P w K mg base N0 ql0 sc0 ad0 c A0 outer0 s0 H0 E1) pins σ H s) (F : ∀ b ∈ fp, FpOk (lawCx P w K mg base N0 ql0 sc0 ad0 c A0 outer0 s0 H0 E1) pins H b)
    (he : PE ((lawCx P w K mg base N0 ql0 sc0 ad0 c A0 outer0 s0 H0 E1).blk s H scope ce fp) e te) (hgl : Gl ((lawCx P w K mg base N0 ql0 sc0 ad0 c A0 outer0 s0 H0 E1).blk s H scope ce fp) "_law_error" := by rfl) (hse : starEach [e] ce = [(false, eval e ce)] := by rfl) :
    PE ((lawCx P w K mg base N0 ql0 sc0 ad0 c A0 outer0 s0 H0 E1).blk s H scope ce fp) (.Call (.Name "_law_error" p) [e] [] pos) (tKept (lawCx P w K mg base N0 ql0 sc0 ad0 c A0 outer0 s0 H0 E1) k (TTErr K) σ te) := by
  obtain ⟨oc, od, dV, kV, doc, pm, an, cdv, ct, osl, e1, lk, hcd, _, _⟩ := T.F_law_error.ex
  have b := b_law_error T
  rw [e1] at b lk
  exact pe_kept (X := lawCx P w K mg base N0 ql0 sc0 ad0 c A0 outer0 s0 H0 E1) (fun pins1 σ1 H1 s1 I1 => ⟨pins, I.call' (ch := fp) I1.os I1.base I1.hok I1.bare fun b hb => let z := (F b hb).2; ⟨z.2.2.1, z.1, z.2.2.2.1, z.2.2.2.2⟩⟩) rfl rfl rfl rfl rfl rfl rfl
    hgl T.g_law_error T.F_law_error.kp lk hcd b sc_law_error rfl (.inl rfl) (err_gives T (N0 := N0) (H0 := H0) (E1 := E1)) hr he (hse := hse)
end
end EB

namespace EB
open PySem PySem.Spec PyProof.Rows L2
/-! ### the draws of a law that makes lambdas: the table of its code stands besides -/
theorem tabS_ne {H H' : Hp} {P : Addr} {q : Str} (t : LamX.TabS H P q) (k : ∀ b o, H b = some o → (∀ xs, o ≠ .lst xs) → H' b = some o) : LamX.TabS H' P q := by
  obtain ⟨ps, h1, h2, h3⟩ := t
  refine ⟨ps, k _ _ h1 (fun xs z => by cases z), h2, fun pos cv e => ?_⟩
  obtain ⟨c, e1, e2⟩ := h3 pos cv e
  exact ⟨c, e1, k _ _ e2 (fun xs z => by cases z)⟩
structure LT (H0 H : Hp) (h l P : Addr) (q : Str) : Prop where
  hs : HS H0 H h l
  tb : LamX.TabS H P q
  nt : NoT H0
theorem LT.hid {H0 H : Hp} {h l P : Addr} {q : Str} (x : LT H0 H h l P q) : LamX.TabS (hid2 H h l) P q := by
  obtain ⟨m, i, ns, e1, e2, _⟩ := x.hs.ex
  refine tabS_ne x.tb fun b o e n => ?_
  rw [hid2_ne (fun z => n _ (by rw [z, e1] at e; exact (Option.some.inj e).symm)) (fun z => n _ (by rw [z, e2] at e; exact (Option.some.inj e).symm))]
  exact e
theorem LT.step {H0 H H' : Hp} {h l P : Addr} {q : Str} (x : LT H0 H h l P q) (y : HS (hid2 H h l) H' h l) : LT H0 H' h l P q := ⟨x.hs.down y, x.hid.ext y.same, x.nt⟩
theorem LT.grow {H0 H H' : Hp} {h l P : Addr} {q : Str} (x : LT H0 H h l P q) (s : Same H H') : LT H0 H' h l P q := ⟨x.hs.grow s, x.tb.ext s, x.nt⟩
theorem LT.new {H0 H : Hp} {h l P b : Addr} {q : Str} {o : HO} (x : LT H0 H h l P q) (n : H b = none) : LT H0 (upd H b o) h l P q := x.grow (same_new n)
theorem LT.ext {H0 H H' : Hp} {h l P : Addr} {q : Str} (x : LT H0 H h l P q) (e : LamX.ExtN H H') (t : LamX.TabS H' P q) : LT H0 H' h l P q := by
  obtain ⟨m, i, ns, e1, e2, r⟩ := x.hs.ex
  refine ⟨⟨fun b o z => e b o (x.hs.same b o z) fun ps y => x.nt b ps (by rw [z, y]), x.hs.nh, x.hs.nl, x.hs.ne, m, i, ns, e _ _ e1 (fun ps z => by cases z), e _ _ e2 (fun ps z => by cases z), r⟩, t, x.nt⟩
theorem LT.mut {H0 H : Hp} {h l P R : Addr} {q : Str} {xs : List V} {o : HO} (x : LT H0 H h l P q) (e : H R = some (.lst xs)) (n : H0 R = none) (n1 : R ≠ h) (n2 : R ≠ l) : LT H0 (upd H R o) h l P q := by
  refine ⟨x.hs.mut n n1 n2, tabS_ne x.tb fun b u z k => ?_, x.nt⟩
  rw [upd_ne (fun y => k xs (by rw [y, e] at z; exact (Option.some.inj z).symm))]
  exact z
theorem sqT_nt {K : PySem.W.Frag} {H : Hp} {a : Addr} {xs : List V} (h : SqT K H a xs) : SqT K (nt H) a xs := by
  rcases h with (h | ⟨o, h⟩) | h
  · exact .inl (.inl (nt_at h fun ps z => by cases z))
  · exact .inl (.inr ⟨o, nt_at h fun ps z => by cases z⟩)
  · exact .inr h
theorem sqT_ext {K : PySem.W.Frag} {H H' : Hp} {a : Addr} {xs : List V} (e : LamX.ExtN H H') (h : SqT K H a xs) : SqT K H' a xs := Same.tup (nt_ext e) (sqT_nt h)
theorem TrAt.ext {K : PySem.W.Frag} {H H' : Hp} {a : Addr} {ts : List Tr} (e : LamX.ExtN H H') (h : TrAt K H a ts) : TrAt K H' a ts := by
  obtain ⟨ps, h1, h2, h3⟩ := h.ex
  exact ⟨ps, sqT_ext e h1, h2, fun i p t a b => sqT_ext e (h3 i p t a b)⟩
/-- the same, a list that is no tuple set anew -/
theorem sqT_mut {K : PySem.W.Frag} {H : Hp} {R a : Addr} {ys xs : List V} {o : HO} (e : H R = some (.lst ys)) (h : SqT K H a xs) : SqT K (upd H R o) a xs := by
  rcases h with (h | ⟨u, h⟩) | h
  · exact .inl (.inl (by rw [upd_ne (ne_of h e (by intro z; cases z))]; exact h))
  · exact .inl (.inr ⟨u, by rw [upd_ne (ne_of h e (by intro z; cases z))]; exact h⟩)
  · exact .inr h
theorem TrAt.mut {K : PySem.W.Frag} {H : Hp} {R a : Addr} {ys : List V} {ts : List Tr} {o : HO} (e : H R = some (.lst ys)) (h : TrAt K H a ts) : TrAt K (upd H R o) a ts := by
  obtain ⟨ps, h1, h2, h3⟩ := h.ex
  exact ⟨ps, sqT_mut e h1, h2, fun i p t a b => sqT_mut e (h3 i p t a b)⟩
theorem sqL_mut {K : PySem.W.Frag} {H : Hp} {R a : Addr} {xs : List V} {o : HO} (n : a ≠ R) (h : SqL K H a xs) : SqL K (upd H R o) a xs := by
  rcases h with (h | ⟨u, h⟩) | h
  · exact .inl (.inl (by rw [upd_ne n]; exact h))
  · exact .inl (.inr ⟨u, by rw [upd_ne n]; exact h⟩)
  · exact .inr h
theorem OfNew.mut {K : PySem.W.Frag} {H H1 : Hp} {R x : Addr} {ys : List V} {ts : List Tr} {v : HO} (o : OfNew K H H1 x ts) (s : Same H H1) (e : H R = some (.lst ys)) : OfAt K (upd H1 R v) x ts := by
  obtain ⟨dx, t, p, q, f, g, e1, e2, e3, e4, e5, e6, n1, n2, n3⟩ := o.ex
  have e' := s _ _ e
  exact ⟨dx, t, p, q, f, g, by rw [upd_ne (ne_of e1 e' (by intro z; cases z))]; exact e1, e2.mut e', sqT_mut e' e3, sqL_mut (ne_of_none e n1).symm e4, sqL_mut (ne_of_none e n2).symm e5, sqL_mut (ne_of_none e n3).symm e6⟩
theorem tabs1 {P : Addr} {q : Str} {H : Hp} (t : LamX.TabS H P q) : LamX.Tabs [(P, q)] H := fun p hp => by
  cases List.mem_singleton.mp hp
  exact t
theorem tabs1_of {P : Addr} {q : Str} {H : Hp} (t : LamX.Tabs [(P, q)] H) : LamX.TabS H P q := t (P, q) (List.mem_cons_self ..)
end EB

namespace EB
open PySem PySem.Spec PyProof.Rows L2
def okN (ts : List Tr) : Prop := ∀ t ∈ ts, t.k.length ≤ 1000 ∧ PyData.strOk t.k = true
/-- tuples made one after another -/
structure Bl (K : PySem.W.Frag) (H0 H : Hp) (ps : List Addr) (ts : List Tr) : Prop where
  same : Same H0 H
  len : ps.length = ts.length
  at_ : ∀ (i : Nat) (p : Addr) (t : Tr), ps[i]? = some p → ts[i]? = some t → SqT K H p t.vs
theorem Bl.nil {K : PySem.W.Frag} {H : Hp} : Bl K H H [] [] := ⟨Same.refl _, rfl, fun i p t a => (by cases a)⟩
theorem Bl.snoc {K : PySem.W.Frag} {H0 H : Hp} {ps : List Addr} {ts : List Tr} {p : Addr} (b : Bl K H0 H ps ts) (k : Str) (i j : Int) (n : H p = none) : Bl K H0 (upd H p (.tup [.str k, .int i, .int j])) (ps ++ [p]) (ts ++ [⟨k, i, j⟩]) := by
  refine ⟨b.same.trans (same_new n), by rw [List.length_append, List.length_append, b.len]; rfl, fun i q u e1 e2 => ?_⟩
  rcases Nat.lt_or_ge i ps.length with z | z
  · rw [List.getElem?_append_left z] at e1
    rw [List.getElem?_append_left (by rw [← b.len]; exact z)] at e2
    exact Same.tup (same_new n) (b.at_ i q u e1 e2)
  · rw [List.getElem?_append_right z] at e1
    rw [List.getElem?_append_right (by rw [← b.len]; exact z)] at e2
    have hi : i - ps.length = 0 := by
      have := lt_of_at e1
      simp only [List.length_singleton] at this
      omega
    rw [hi] at e1
    rw [← b.len, hi] at e2
    cases e1
    cases e2
    exact SqT.of upd_same
theorem Bl.mono {K : PySem.W.Frag} {H0 H H' : Hp} {ps : List Addr} {ts : List Tr} (b : Bl K H0 H ps ts) (s : Same H H') : Bl K H0 H' ps ts := ⟨b.same.trans s, b.len, fun i p t a e => Same.tup s (b.at_ i p t a e)⟩
theorem tabs_eq {P : Addr} {q q' : Str} {H : Hp} (e : q = q') (t : LamX.TabS H P q) : LamX.Tabs [(P, q')] H := by
  rw [← e]
  exact tabs1 t
theorem tabs_of_eq {P : Addr} {q q' : Str} {H : Hp} (e : q = q') (t : LamX.Tabs [(P, q')] H) : LamX.TabS H P q := by
  rw [← e] at t
  exact tabs1_of t
theorem cut_from2 {xs : List V} {k : Nat} : cutV xs (some (k : Int)) none = xs.drop k := by
  unfold cutV
  rw [HT.sIx_none, HT.sIx_nat]
  rcases Nat.le_total k xs.length with z | z
  · rw [Nat.min_eq_left z, List.take_of_length_le]
    rw [List.length_drop]
    omega
  · rw [Nat.min_eq_right z, Nat.sub_self, List.take_zero, List.drop_of_length_le z]
theorem shaped_lay {d : PyData} (h : SeqAt.shaped d = true) : d.canLay0 = true := by
  unfold SeqAt.shaped at h
  exact (Bool.and_eq_true_iff.mp h).1
def dueD (ts : List Tr) : List PyData := match badOf ts with
  | some i => [.str "offer", .int (i : Nat)]
  | none => if 9 * 27720 < 10 * worth ts then [.str "generous"] else [.str "none"]
theorem due_dp {K : PySem.W.Frag} {H : Hp} (ts : List Tr) : DpAll K H (dueV ts) (dueD ts) := by
  unfold dueV dueD
  cases badOf ts with
  | some i => exact .cons (.str _) (.cons (.int _) .nil)
  | none =>
    by_cases z : 9 * 27720 < 10 * worth ts
    · simp only [if_pos z]
      exact .cons (.str _) .nil
    · simp only [if_neg z]
      exact .cons (.str _) .nil
theorem due_shaped (ts : List Tr) : SeqAt.shaped (.tuple (dueD ts)) = true := by
  unfold dueD
  split
  · unfold SeqAt.shaped
    rw [Bool.and_eq_true, decide_eq_true_eq]
    have h : PyData.strOk "offer" = true := by decide +kernel
    refine ⟨by simp only [PyData.canLay0, PyData.canLayAll0, h, Bool.and_true], ?_⟩
    simp only [PyData.depthAll, PyData.depth]
    omega
  · split
    · decide +kernel
    · decide +kernel
theorem due_none {ts : List Tr} (h : PyData.eqv (.tuple (dueD ts)) (.tuple [.str "none"]) = true) : dueV ts = [.str "none"] := by
  unfold dueD at h
  unfold dueV
  split at h
  · exfalso
    simp [PyData.eqv, PyData.eqvAll] at h
  · rename_i e
    split at h
    · exact absurd h (by decide +kernel)
    · rename_i z
      simp only [e, if_neg z]
theorem simDue {n : Int} (h0 : -1 ≤ n) (h1 : n ≤ 14) : dueV [⟨"empty", 1, n⟩] = if (decide (1 ≤ n) && decide (n ≤ 12)) = true then (if decide (V.int n = V.int 1) = true then [.str "generous"] else [.str "none"]) else [.str "offer", .int 0] := by
  have h : n = -1 ∨ n = 0 ∨ n = 1 ∨ n = 2 ∨ n = 3 ∨ n = 4 ∨ n = 5 ∨ n = 6 ∨ n = 7 ∨ n = 8 ∨ n = 9 ∨ n = 10 ∨ n = 11 ∨ n = 12 ∨ n = 13 ∨ n = 14 := by omega
  rcases h with rfl | rfl | rfl | rfl | rfl | rfl | rfl | rfl | rfl | rfl | rfl | rfl | rfl | rfl | rfl | rfl <;> decide +kernel
def toldD (ts : List Tr) : PyData := .list [.tuple (ts.map trD), .tuple ((ts.map Tr.k).map PyData.str)]
theorem toldD_lev {ts : List Tr} (h : ts.length ≤ 3) : Lev 4 (toldD ts) := by
  refine .lst (fun e he => ?_) (by show 2 ≤ 10000; decide)
  simp only [List.mem_cons, List.not_mem_nil, or_false] at he
  rcases he with rfl | rfl
  · refine .tup (fun e he => ?_) (by rw [List.length_map]; omega)
    obtain ⟨t, _, rfl⟩ := List.mem_map.mp he
    refine .tup (fun e he => ?_) (by show 3 ≤ 10000; decide)
    simp only [List.mem_cons, List.not_mem_nil, or_false] at he
    rcases he with rfl | rfl | rfl
    · exact .str _
    · exact .int _
    · exact .int _
  · refine .tup (fun e he => ?_) (by rw [List.length_map, List.length_map]; omega)
    obtain ⟨t, _, rfl⟩ := List.mem_map.mp he
    exact .str _
theorem OfNew.at_ {K : PySem.W.Frag} {H0 H : Hp} {a : Addr} {ts : List Tr} (o : OfNew K H0 H a ts) : OfAt K H a ts := by
  obtain ⟨dx, t, p, q, f, g, e1, e2, e3, e4, e5, e6, _⟩ := o.ex
  exact ⟨dx, t, p, q, f, g, e1, e2, e3, e4, e5, e6⟩
def oddT : List Tr := [⟨"", 0, 3⟩, ⟨"toolongone", 0, 3⟩, ⟨"Cap", 0, 3⟩, ⟨"x", -1, 3⟩, ⟨"x", 13, 12⟩, ⟨"x", 12, 12⟩, ⟨"x", 0, 0⟩, ⟨"x", 0, 13⟩, ⟨"cap", 0, 1⟩, ⟨"x", 9, 10⟩, ⟨"x", 10, 11⟩, ⟨"abcdefgh", 0, 12⟩, ⟨"drink", 1, 7⟩]
theorem oddN : okN oddT := by
  unfold okN
  decide +kernel
theorem Drawn.okN {ts : List Tr} {a b : Int} (d : Drawn ts a b) : okN ts := by
  have hk : ∀ k ∈ kinds3, k.length ≤ 1000 ∧ PyData.strOk k = true := by decide +kernel
  intro t ht
  have : t.k ∈ ts.map Tr.k := List.mem_map.mpr ⟨t, ht, rfl⟩
  rw [d.ks] at this
  exact hk _ (List.mem_of_mem_take this)
end EB

namespace EB
open PySem PySem.Spec PyProof.Rows L2
/-- what is left of each kind -/
def leftK (ts : List Tr) (d : Nat) : List (Key × V) := ts.foldl (fun kvs t => putK kvs (.inr t.k) (.int (t.l * (d : Nat) % t.n))) []
def KNice (kvs : List (Key × V)) : Prop := (kvs.map (·.1)).Nodup ∧ (∀ p ∈ kvs, ∃ i : Int, p.2 = .int i) ∧ ∀ p ∈ kvs, ∃ z : Str, p.1 = .inr z
theorem KNice.put {kvs : List (Key × V)} (h : KNice kvs) (z : Str) (i : Int) : KNice (putK kvs (.inr z) (.int i)) ∧ (putK kvs (.inr z) (.int i)).length ≤ kvs.length + 1 := by
  obtain ⟨h1, h2, h3⟩ := h
  unfold putK
  by_cases e : (kvs.any fun kv => decide (kv.1 = .inr z)) = true
  · rw [if_pos e]
    refine ⟨⟨?_, ?_, ?_⟩, by rw [List.length_map]; omega⟩
    · rw [List.map_map, show ((fun x : Key × V => x.1) ∘ fun kv => if kv.1 = .inr z then (kv.1, V.int i) else kv) = (fun kv => kv.1) from funext fun kv => by
        show (if kv.1 = .inr z then (kv.1, V.int i) else kv).1 = kv.1
        by_cases q : kv.1 = .inr z
        · rw [if_pos q]
        · rw [if_neg q]]
      exact h1
    · intro p hp
      obtain ⟨kv, m, rfl⟩ := List.mem_map.mp hp
      by_cases q : kv.1 = .inr z
      · rw [if_pos q]
        exact ⟨_, rfl⟩
      · rw [if_neg q]
        exact h2 _ m
    · intro p hp
      obtain ⟨kv, m, rfl⟩ := List.mem_map.mp hp
      by_cases q : kv.1 = .inr z
      · rw [if_pos q]
        exact ⟨z, q⟩
      · rw [if_neg q]
        exact h3 _ m
  · rw [if_neg e]
    refine ⟨⟨?_, ?_, ?_⟩, by rw [List.length_append]; exact Nat.le_refl _⟩
    · rw [List.map_append, List.nodup_append]
      refine ⟨h1, List.nodup_cons.mpr ⟨List.not_mem_nil, List.nodup_nil⟩, fun a ha b hb => ?_⟩
      cases List.mem_singleton.mp hb
      intro y
      subst y
      obtain ⟨p, m, e2⟩ := List.mem_map.mp ha
      exact e (List.any_eq_true.mpr ⟨p, m, decide_eq_true e2⟩)
    · intro p hp
      rcases List.mem_append.mp hp with m | m
      · exact h2 _ m
      · cases List.mem_singleton.mp m
        exact ⟨_, rfl⟩
    · intro p hp
      rcases List.mem_append.mp hp with m | m
      · exact h3 _ m
      · cases List.mem_singleton.mp m
        exact ⟨_, rfl⟩
theorem left_nice : ∀ (ts : List Tr) (d : Nat) (kvs : List (Key × V)), KNice kvs → KNice (ts.foldl (fun kvs t => putK kvs (.inr t.k) (.int (t.l * (d : Nat) % t.n))) kvs) ∧ (ts.foldl (fun kvs t => putK kvs (.inr t.k) (.int (t.l * (d : Nat) % t.n))) kvs).length ≤ kvs.length + ts.length
  | [], d, kvs, h => ⟨h, Nat.le_refl _⟩
  | t :: ts, d, kvs, h => by
    have h1 := h.put t.k (t.l * (d : Nat) % t.n)
    have h2 := left_nice ts d _ h1.1
    refine ⟨h2.1, Nat.le_trans h2.2 ?_⟩
    rw [List.length_cons]
    omega
theorem leftK_nice (ts : List Tr) (d : Nat) : KNice (leftK ts d) ∧ (leftK ts d).length ≤ ts.length := by
  have h := left_nice ts d [] ⟨List.nodup_nil, fun p h => (by cases h), fun p h => (by cases h)⟩
  rw [show ([] : List (Key × V)).length + ts.length = ts.length from Nat.zero_add _] at h
  exact h
theorem KNice.val {kvs : List (Key × V)} (h : KNice kvs) : ∀ p ∈ kvs, valV kvs p.1 = some p.2 ∧ flatB p.2 = true := by
  obtain ⟨h1, h2, h3⟩ := h
  intro p hp
  refine ⟨?_, ?_⟩
  · clear h2 h3
    induction kvs with
    | nil => cases hp
    | cons q r ih =>
      rw [List.map_cons, List.nodup_cons] at h1
      rcases List.mem_cons.mp hp with rfl | m
      · exact valV_pos rfl
      · rw [valV_neg (fun e => h1.1 (e ▸ List.mem_map_of_mem m)), ih h1.2 m]
  · obtain ⟨i, e⟩ := h2 p hp
    rw [e]
    rfl
section
variable {P : Program} {w : World} {K : PySem.W.Frag} {mg : Str → Option Value} {base : Heap} (T : Tx K mg)
include T
def spLeft (K : PySem.W.Frag) : Sp := fun vs H Q _ => ∃ (a : Addr) (ts : List Tr) (n : Nat), vs = [.ref a, .int (n : Nat)] ∧ OfAt K H a ts ∧ Fair ts ∧ n ≤ 1000000000000000000 ∧ ∀ H' p, Same H H' → H' p = some (.dK (leftK ts (D (cN ts) n))) → Q (.ref p) H'
theorem ok_Offer_left_over : FnR P w K mg base CX0 4 (a_Offer_left_over K) (spLeft K) := by
  refine fnR0 (d := d_Offer_left_over) T.F_Offer_left_over sc_Offer_left_over rfl (fun _ _ _ _ _ _ us hl => match us, hl with | [_, _], _ => rfl) (fun vs H Q E h => ?_) (fun cdv A outer s H vs Q E hr h => ?_)
  · obtain ⟨a, ts, n, rfl, _⟩ := h
    rfl
  obtain ⟨a, ts, n, rfl, ho, hf, hn, k⟩ := h
  obtain ⟨dx, t, p, o, f, g, e1, e2, e3, e4, e5, e6⟩ := ho.ex
  refine ⟨_, (pss_cons (ps_expr (pe_cR (ok_check_number T) (hr.mono (by decide)) T.F_check_number.kp T.g_check_number pass0 (pa_cons (pv 1) pa_nil))) (pss_cons (ps_set (i := 2) sc_Offer_left_over.nd rfl (Or.inr rfl) (pe_methR (pv 0) T.k_Offer T.m_Offer_drinks_for (ok_Offer_drinks_for T) (hr.mono (by decide)) pass0 (pa_cons (pv 1) pa_nil))) (pss_one (ps_ret (pe_dc (own := [("kind", 3), ("left", 4), ("needed", 5)]) rfl sc_Offer_left_over.nd (pi_tup (pe_fld (pv 0) rfl)) (blkOk_by (own := [("kind", 3), ("left", 4), ("needed", 5)]) (N := N_Offer_left_over) (sc := defScope s_Offer_left_over) (by decide +kernel)) (fun _ _ _ _ _ => (pg_tupB (n := 3) (pgs_cons (pg_name (i := 3) sc_Offer_left_over.nd rfl (Or.inl rfl) (.inr rfl)) (pgs_cons (pg_name (i := 4) sc_Offer_left_over.nd rfl (Or.inl rfl) (.inr rfl)) (pgs_cons (pg_name (i := 5) sc_Offer_left_over.nd rfl (Or.inl rfl) (.inr rfl)) pgs_nil))))) (fun _ _ _ _ _ => pts_nil) (fun _ _ _ _ _ => (pv 3)) (fun _ _ _ _ _ => (pe_op op_mod (pe_op op_mul (pv 4) (pv 2)) (pv 5)))))))), ?_⟩
  refine ⟨_, rfl, n, rfl, by omega, by omega, ?_⟩
  refine ⟨_, rfl, a, dx, _, rfl, e1, lk_no (by decide +kernel), _, rfl, a, ts, n, rfl, ho, hf, ?_⟩
  obtain ⟨ps, h1, h2, h3⟩ := e2.ex
  have hlen := hf.g.1
  refine ⟨_, rfl, a, _, dx, _, _, rfl, e1, T.k_Offer, T.na_trades, lk_trades, t, rfl, ⟨_, h1⟩, fun W hW => ?_⟩
  refine dc_tup (xs := ps.map V.ref) (fun i H1 => Same H H1 ∧ H1 W = some (.dK (leftK (ts.take i) (D (cN ts) n)))) ⟨same_new hW, upd_same⟩ (fun i H1 _ q => Same.tup q.1 h1) ?_ ?_
  · rintro i x H1 hx ⟨s1, w1⟩
    obtain ⟨p, t, rfl, ep, et, hm, li, hp⟩ := TrAt.at_ h2 h3 hx
    have ht := hf.g.2 _ hm
    refine ⟨p, _, rfl, Same.tup s1 hp, rfl, _, _, rfl, _, _, rfl, _, _, rfl, rfl, rfl, ?_⟩
    have hl := (leftK_nice (ts.take i) (D (cN ts) n)).2
    rw [List.length_take] at hl
    refine ⟨_, rfl, _, rfl, _, rfl, _, _, rfl, rfl, .inl ⟨by have := ht.1; omega, by have := ht.2.1; omega⟩, _, rfl, _, _, rfl, rfl, (show 0 < t.n from by have := ht.2.2.1; omega), ?_⟩
    refine ⟨_, .inr t.k, rfl, w1, small3 (by omega), same_mut s1 hW, ?_⟩
    rw [upd_same, take_at et]
    unfold leftK
    rw [List.foldl_append]
    rfl
  · rintro H1 ⟨s1, w1⟩
    refine k _ _ s1 ?_
    rw [w1, List.length_map, h2, List.take_length]
end
end EB

namespace EB
open PySem PySem.Spec PyProof.Rows L2
def dictK (f : Tr → Int) (ts : List Tr) : List (Key × V) := ts.foldl (fun kvs t => putK kvs (.inr t.k) (.int (f t))) []
def madeK (ts : List Tr) (d : Nat) : List (Key × V) := ts.foldl (fun kvs t => putK kvs (.inr t.k) (.int (t.l * (d : Nat) / t.n))) []
theorem putK_new {kvs : List (Key × V)} {k : Key} {v : V} (h : k ∉ kvs.map (·.1)) : putK kvs k v = kvs ++ [(k, v)] := by
  unfold putK
  rw [if_neg]
  intro z
  obtain ⟨p, hp, e⟩ := List.any_eq_true.mp z
  exact h (List.mem_map.mpr ⟨p, hp, of_decide_eq_true e⟩)
theorem dict_fold (f : Tr → Int) : ∀ (ts : List Tr) (kvs : List (Key × V)), (ts.map Tr.k).Nodup → (∀ t ∈ ts, Sum.inr t.k ∉ kvs.map (·.1)) → ts.foldl (fun kvs t => putK kvs (.inr t.k) (.int (f t))) kvs = kvs ++ ts.map fun t => (Sum.inr t.k, V.int (f t))
  | [], kvs, _, _ => (List.append_nil _).symm
  | t :: ts, kvs, h, hk => by
    rw [List.map_cons, List.nodup_cons] at h
    rw [List.foldl_cons, putK_new (hk t (List.mem_cons_self ..)), dict_fold f ts _ h.2, List.append_assoc]
    · rfl
    · intro u hu z
      rw [List.map_append] at z
      rcases List.mem_append.mp z with z | z
      · exact hk u (List.mem_cons_of_mem _ hu) z
      · have e : (Sum.inr u.k : Key) = Sum.inr t.k := List.mem_singleton.mp z
        exact h.1 (List.mem_map.mpr ⟨u, hu, Sum.inr.inj e⟩)
theorem dict_eq {f : Tr → Int} {ts : List Tr} (h : (ts.map Tr.k).Nodup) : dictK f ts = ts.map fun t => (Sum.inr t.k, V.int (f t)) := by
  unfold dictK
  rw [dict_fold f ts [] h fun t _ z => (nomatch z), List.nil_append]
/-- pairs of kinds and numbers, as data -/
def prD (f : Tr → Int) (ts : List Tr) : PyData := .list (ts.map fun t => .tuple [.str t.k, .int (f t)])
theorem prD_lev {f : Tr → Int} {ts : List Tr} {n : Nat} (h : ts.length ≤ 10000) : Lev (n + 2) (prD f ts) := .lst (fun d hd => by
  obtain ⟨t, _, rfl⟩ := List.mem_map.mp hd
  refine .tup (fun e he => ?_) (by show 2 ≤ 10000; decide)
  rcases List.mem_cons.mp he with rfl | he
  · exact .str _
  · cases List.mem_singleton.mp he
    exact .int _) (by rw [List.length_map]; exact h)
theorem dp_items {K : PySem.W.Frag} {H : Hp} {f : Tr → Int} : ∀ {as : List Addr} {ts : List Tr}, Paired (fun (t : Addr) (q : Key × V) => H t = some (.tup [kV q.1, q.2])) as (ts.map fun t => ((Sum.inr t.k : Key), V.int (f t))) →
    DpAll K H (as.map V.ref) (ts.map fun t => .tuple [.str t.k, .int (f t)])
  | [], [], _ => .nil
  | [], _ :: _, h => nomatch h
  | _ :: _, [], h => nomatch h
  | a :: as, t :: ts, .cons h r => .cons (.tup (SqT.of h) (.cons (.str _) (.cons (.int _) .nil))) (dp_items r)
theorem dp_zip {K : PySem.W.Frag} {H : Hp} {f : Tr → Int} : ∀ {as : List Addr} {ts : List Tr}, as.length = ts.length → (∀ (j : Nat) (a : Addr) (t : Tr), as[j]? = some a → ts[j]? = some t → H a = some (.tup [.str t.k, .int (f t)])) →
    DpAll K H (as.map V.ref) (ts.map fun t => .tuple [.str t.k, .int (f t)])
  | [], [], _, _ => .nil
  | [], _ :: _, h, _ => nomatch h
  | _ :: _, [], h, _ => nomatch h
  | a :: as, t :: ts, h, k => .cons (.tup (SqT.of (k 0 a t rfl rfl)) (.cons (.str _) (.cons (.int _) .nil))) (dp_zip (Nat.succ.inj h) fun j b u e1 e2 => k (j + 1) b u e1 e2)
theorem made_nice : ∀ (ts : List Tr) (d : Nat) (kvs : List (Key × V)), KNice kvs → KNice (ts.foldl (fun kvs t => putK kvs (.inr t.k) (.int (t.l * (d : Nat) / t.n))) kvs) ∧ (ts.foldl (fun kvs t => putK kvs (.inr t.k) (.int (t.l * (d : Nat) / t.n))) kvs).length ≤ kvs.length + ts.length
  | [], d, kvs, h => ⟨h, Nat.le_refl _⟩
  | t :: ts, d, kvs, h => by
    have h1 := h.put t.k (t.l * (d : Nat) / t.n)
    have h2 := made_nice ts d _ h1.1
    refine ⟨h2.1, Nat.le_trans h2.2 ?_⟩
    rw [List.length_cons]
    omega
theorem madeK_nice (ts : List Tr) (d : Nat) : KNice (madeK ts d) ∧ (madeK ts d).length ≤ ts.length := by
  have h := made_nice ts d [] ⟨List.nodup_nil, fun p h => (by cases h), fun p h => (by cases h)⟩
  rw [show ([] : List (Key × V)).length + ts.length = ts.length from Nat.zero_add _] at h
  exact h
section
variable {P : Program} {w : World} {K : PySem.W.Frag} {mg : Str → Option Value} {base : Heap} (T : Tx K mg)
include T
def spMade (K : PySem.W.Frag) : Sp := fun vs H Q _ => ∃ (a : Addr) (ts : List Tr) (n : Nat), vs = [.ref a, .int (n : Nat)] ∧ OfAt K H a ts ∧ Fair ts ∧ n ≤ 1000000000000000000 ∧ ∀ H' p, Same H H' → H' p = some (.dK (madeK ts (D (cN ts) n))) → Q (.ref p) H'
end
end EB

namespace EB
open PySem PySem.Spec PyProof.Rows L2
/-! What is known of a heap, looked at without the draws and without tables. -/
theorem LT.rebase {H0 H : Hp} {h l P : Addr} {q : Str} (x : LT H0 H h l P q) : LT (EB.nt (hid2 H h l)) H h l P q := by
  have n1 : ∀ b, hid2 H h l b = none → EB.nt (hid2 H h l) b = none := fun b z => by
    unfold EB.nt
    rw [z]
  exact ⟨⟨nt_same.trans hid2_same, n1 _ hid2_h, n1 _ hid2_l, x.hs.ne, x.hs.ex⟩, x.tb, nt_noT⟩
theorem LT.low {H0 H H' : Hp} {h l P : Addr} {q : Str} (x : LT H0 H h l P q) (y : LT (EB.nt (hid2 H h l)) H' h l P q) : LT H0 H' h l P q :=
  ⟨⟨fun b o e => y.hs.same _ _ (nt_at (x.hs.sub _ _ e) fun ps z => x.nt b ps (by rw [e, z])), x.hs.nh, x.hs.nl, x.hs.ne, y.hs.ex⟩, y.tb, x.nt⟩
theorem sqL_nt {K : PySem.W.Frag} {H : Hp} {a : Addr} {xs : List V} (h : SqL K H a xs) : SqL K (nt H) a xs := by
  rcases h with (h | ⟨o, h⟩) | h
  · exact .inl (.inl (nt_at h fun ps z => by cases z))
  · exact .inl (.inr ⟨o, nt_at h fun ps z => by cases z⟩)
  · exact .inr h
theorem TrAt.nt_ {K : PySem.W.Frag} {H : Hp} {a : Addr} {ts : List Tr} (h : TrAt K H a ts) : TrAt K (nt H) a ts := by
  obtain ⟨ps, h1, h2, h3⟩ := h.ex
  exact ⟨ps, sqT_nt h1, h2, fun i p t a b => sqT_nt (h3 i p t a b)⟩
theorem OfAt.nt_ {K : PySem.W.Frag} {H : Hp} {a : Addr} {ts : List Tr} (o : OfAt K H a ts) : OfAt K (nt H) a ts := by
  obtain ⟨dx, t, p, q, f, g, e1, e2, e3, e4, e5, e6⟩ := o.ex
  exact ⟨dx, t, p, q, f, g, nt_at e1 (fun ps z => by cases z), e2.nt_, sqT_nt e3, sqL_nt e4, sqL_nt e5, sqL_nt e6⟩
theorem StA.nt_ {H : Hp} {S : Addr} {L : List (Str × Int)} (st : StA H S L) : StA (nt H) S L := by
  obtain ⟨ps, e1, e2⟩ := st.ex
  exact ⟨ps, nt_at e1 (fun ps z => by cases z), e2.mono fun q xs e => nt_at e fun ps z => by cases z⟩
theorem StA.hid_ {H0 H : Hp} {h l S : Addr} {L : List (Str × Int)} (st : StA H S L) (g : HS H0 H h l) (n1 : S ≠ h) (n2 : S ≠ l) : StA (hid2 H h l) S L := by
  obtain ⟨ps, e1, e2⟩ := st.ex
  exact ⟨ps, HS.keep (H0 := H0) e1 n1 n2, e2.mono fun q xs e => g.keepT e⟩
end EB

namespace EB
open PySem PySem.Spec PyProof.Rows L2
/-! Lambdas kept in a list, called one after another. -/
/-- some lambdas, their readings -/
def Lams (X : Cx) (H : Hp) (fs : List Addr) (ts : List (XK → TE)) : Prop := fs.length = ts.length ∧ ∀ (i : Nat) (f : Addr) (t : XK → TE), fs[i]? = some f → ts[i]? = some t → Lam X 9 H f t
theorem Lams.nil {X : Cx} {H : Hp} : Lams X H [] [] := ⟨rfl, fun i f t e => by cases e⟩
theorem Lams.ext {X : Cx} {H H' : Hp} {fs : List Addr} {ts : List (XK → TE)} (l : Lams X H fs ts) (e : LamX.ExtN H H') : Lams X H' fs ts := ⟨l.1, fun i f t a b => (l.2 i f t a b).ext e⟩
theorem Lams.app {X : Cx} {H : Hp} {fs gs : List Addr} {ts us : List (XK → TE)} (l : Lams X H fs ts) (m : Lams X H gs us) : Lams X H (fs ++ gs) (ts ++ us) := by
  refine ⟨by rw [List.length_append, List.length_append, l.1, m.1], fun i f t a b => ?_⟩
  rcases Nat.lt_or_ge i fs.length with z | z
  · rw [List.getElem?_append_left z] at a
    rw [List.getElem?_append_left (by rw [← l.1]; exact z)] at b
    exact l.2 i f t a b
  · rw [List.getElem?_append_right z] at a
    rw [List.getElem?_append_right (by rw [← l.1]; exact z), ← l.1] at b
    exact m.2 _ f t a b
theorem Lams.one {X : Cx} {H : Hp} {f : Addr} {t : XK → TE} (l : Lam X 9 H f t) : Lams X H [f] [t] := ⟨rfl, fun i g u a b => by
  match i, a, b with
  | 0, a, b =>
    cases a
    cases b
    exact l⟩
/-- the lambda tells z, whatever has been made meanwhile -/
def Tells (K : PySem.W.Frag) (B : Hp) (σ : L2.St) (z : Str) (t : XK → TE) : Prop := ∀ (G : Hp) (Q : VK), Same B G → (∀ H2 p, Same G H2 → SqT K H2 p [.str z] → Q (.ref p) H2) → TTErr K (fun E H' Q' => H' = G ∧ t E σ H' Q') G Q
/-- [_law_error(f) for f in W], all of them tell z -/
theorem all_tell {X : Cx} {K : PySem.W.Frag} {B H : Hp} {σ : L2.St} {z : Str} {W D : Addr} {fs : List Addr} {ts : List (XK → TE)} {i : Nat} {Qd : Hp → Prop} (hi : i < σ.length) (s0 : Same B H) (eW : H W = some (.lst (fs.map V.ref))) (l : Lams X H fs ts) (hz : ∀ t ∈ ts, Tells K B σ z t) (hD : H D = none) (hl : fs.length ≤ 1000)
    (hd : ∀ (G : Hp) (es : List Addr), Same H G → G D = some (.lst (es.map V.ref)) → es.length = fs.length → (∀ e ∈ es, SqT K G e [.str z]) → Qd G) :
    ∃ W1 : Nat → Nat → Hp → Prop, (∃ m, W1 0 m (upd H D (.lst []))) ∧ ∀ j m G, W1 j m G →
      ((Itl K W).stop j G ∧ Qd G) ∨ ((Itl K W).go j G ∧ ∃ Nx : Hp → Prop, (∀ G', Nx G' → ∃ m', m' < m ∧ W1 (j + 1) m' G') ∧ ∀ x G', (Itl K W).yld j G x G' → gName i x (wipe σ [i]) G' fun σ2 H2 => wipe σ2 [i] = wipe σ [i] ∧ tYes σ2 H2 fun b H3 =>
        if b = true then tKept X 9 (TTErr K) σ (tVar i) σ2 H3 fun y H4 => ∃ acc, H4 D = some (.lst acc) ∧ acc.length < sizeLine ∧ Nx (upd H4 D (.lst (acc ++ [y]))) else Nx H3) := by
  refine lc_list (K := K) (a := W) (xs := fs.map V.ref) (fun j G => Same H G ∧ ∃ es : List Addr, G D = some (.lst (es.map V.ref)) ∧ es.length = j ∧ ∀ e ∈ es, SqT K G e [.str z]) ⟨same_new hD, [], upd_same, rfl, fun e m => (by cases m)⟩ (fun j G _ q => SqL.of (q.1 _ _ eW)) ?_ ?_
  · rintro j x G hx ⟨sG, es, eD, le, he⟩
    have hj : j < fs.length := by
      have := lt_of_at hx
      rw [List.length_map] at this
      exact this
    rw [List.getElem?_map, List.getElem?_eq_getElem hj] at hx
    cases hx
    have ht : j < ts.length := by
      rw [← l.1]
      exact hj
    have lam := l.2 j _ _ (List.getElem?_eq_getElem hj) (List.getElem?_eq_getElem ht)
    have w1 : wipe ((wipe σ [i]).set i (some (V.ref fs[j]))) [i] = wipe σ [i] := by
      show ((σ.set i none).set i _).set i none = σ.set i none
      rw [List.set_set, List.set_set]
    have w2 : ((wipe σ [i]).set i (some (V.ref fs[j])))[i]? = some (some (V.ref fs[j])) := by
      show ((σ.set i none).set i _)[i]? = _
      rw [List.getElem?_set_self (by rw [List.length_set]; exact hi)]
    refine ⟨w1, _, w2, fs[j], _, rfl, lam.mono sG, hz _ (List.getElem_mem ht) G _ (s0.trans sG) fun H2 pr s2 hpr => ?_⟩
    have eD2 := s2 _ _ eD
    refine ⟨_, eD2, small3 (by rw [List.length_map]; omega), same_mut (sG.trans s2) hD, es ++ [pr], ?_, by rw [List.length_append, le]; rfl, fun e m => ?_⟩
    · rw [upd_same, List.map_append]
      rfl
    · rcases List.mem_append.mp m with m | m
      · exact sqT_mut eD2 (Same.tup s2 (he e m))
      · rw [List.mem_singleton.mp m]
        exact sqT_mut eD2 hpr
  · rintro G ⟨sG, es, eD, le, he⟩
    rw [List.length_map] at le
    exact hd G es sG eD le he
def telD (z : Str) : PyData := .tuple [.str z]
theorem tel_dp {K : PySem.W.Frag} {H : Hp} {z : Str} : ∀ {es : List Addr}, (∀ e ∈ es, SqT K H e [.str z]) → DpAll K H (es.map V.ref) (List.replicate es.length (telD z))
  | [], _ => .nil
  | e :: es, h => .cons (.tup (h e (List.mem_cons_self ..)) (.cons (.str _) .nil)) (tel_dp fun x m => h x (List.mem_cons_of_mem _ m))
theorem rep_dp {K : PySem.W.Frag} {H : Hp} {z : Str} {u : Addr} (h : SqT K H u [.str z]) : ∀ n : Nat, DpAll K H (List.replicate n (.ref u)) (List.replicate n (telD z))
  | 0 => .nil
  | n + 1 => .cons (.tup h (.cons (.str _) .nil)) (rep_dp h n)
end EB

namespace EB
open PySem PySem.Spec PyProof.Rows L2 EBG
theorem odd_all {ts : List Tr} {a b : Int} {n : Nat} {L : List (Str × Int)} {H : Hp} {q1 q2 q3 q4 : Addr} {t0 : Tr} {r : Int} (dr : Drawn ts a b) (ran : Ran ts n L) (et0 : ts[0]? = some t0)
    (e1 : H q1 = some (.tup [.str "drink", .int ((plRun n L).b + 1)])) (e2 : H q2 = some (.tup [.str t0.k, .int ((plRun n L).f t0 / t0.n + 1)])) (e3 : H q3 = some (.tup [.str "zzz", .int 0])) (e4 : H q4 = some (.tup [.str "drink", .int (-1)])) (h0 : 0 ≤ r) (h1 : r < 4) :
    ∃ (qx : Addr) (x : Str × Int), atI [.ref q1, .ref q2, .ref q3, .ref q4] r = some (V.ref qx) ∧ H qx = some (.tup [.str x.1, .int x.2]) ∧ plPos ts (plRun n L) x = false := by
  have ht0 := List.mem_of_getElem? et0
  have hz : (plPos ts (plRun n L) ("zzz", 0)) = false := by
    unfold plPos
    rw [if_pos (by decide +kernel), if_neg (by decide +kernel), find_none]
    rw [dr.ks]
    intro m
    exact absurd (List.mem_of_mem_take m) (by decide +kernel)
  have hd : (plPos ts (plRun n L) ("drink", -1)) = false := by
    unfold plPos
    rw [if_neg (by decide +kernel)]
  have hb : (plPos ts (plRun n L) ("drink", (plRun n L).b + 1)) = false := by
    unfold plPos
    rw [if_pos (show (("drink" : Str), (plRun n L).b + 1).1 = ("drink" : Str) from rfl), decide_eq_false (show ¬ (("drink" : Str), (plRun n L).b + 1).2 ≤ (plRun n L).b by show ¬ (plRun n L).b + 1 ≤ _; omega)]
    split <;> rfl
  have hk : (plPos ts (plRun n L) (t0.k, (plRun n L).f t0 / t0.n + 1)) = false := by
    unfold plPos
    rw [if_neg (show ¬ (t0.k, (plRun n L).f t0 / t0.n + 1).1 = ("drink" : Str) from dr.nm.drink _ ht0), find_kind dr.nm.1 ht0]
    have hn : (0 : Int) < t0.n := by have := (dr.each t0 ht0).1.2.2.1; omega
    have hlt : (plRun n L).f t0 < ((plRun n L).f t0 / t0.n + 1) * t0.n := Int.lt_ediv_add_one_mul_self _ hn
    show (if numOk ((plRun n L).f t0 / t0.n + 1) 0 1000000000000000000 = true then decide (((plRun n L).f t0 / t0.n + 1) * t0.n ≤ (plRun n L).f t0) else false) = false
    rw [decide_eq_false (Int.not_le.mpr hlt)]
    split <;> rfl
  rcases (show r = 0 ∨ r = 1 ∨ r = 2 ∨ r = 3 by omega) with rfl | rfl | rfl | rfl
  · exact ⟨q1, _, rfl, e1, hb⟩
  · exact ⟨q2, _, rfl, e2, hk⟩
  · exact ⟨q3, _, rfl, e3, hz⟩
  · exact ⟨q4, _, rfl, e4, hd⟩
theorem bad_st {H H' : Hp} {pS : List Addr} {L : List (Str × Int)} {qx q5 bl : Addr} {x : Str × Int} (sp : StP H pS L) (hx : H qx = some (.tup [.str x.1, .int x.2])) (h5 : H' q5 = some (.tup [.str "drink", .int 0])) (s : Same H H') (n : H' bl = none) :
    StA (upd H' bl (.lst (pS.map V.ref ++ [.ref qx, .ref q5]))) bl (L ++ [x, ("drink", 0)]) := by
  refine ⟨pS ++ [qx, q5], by rw [upd_same, List.map_append]; rfl, ?_⟩
  rw [show pS ++ [qx, q5] = (pS ++ [qx]) ++ [q5] by simp, show L ++ [x, ("drink", 0)] = (L ++ [x]) ++ [(("drink" : Str), (0 : Int))] by simp]
  exact StP.snoc (upd_old h5 n) (StP.snoc (upd_old (s _ _ hx) n) (sp.mono fun q xs e => upd_old (s _ _ e) n))
theorem at_neg2 {ps : List Addr} {n : Nat} {p : Addr} (h : ps.length = n + 2) (e : ps[n]? = some p) : atI (ps.map V.ref) (-2) = some (V.ref p) := by
  unfold atI ixN
  rw [List.length_map, h, if_neg (by decide), if_pos (by omega)]
  have : ((-2 : Int) + ((n + 2 : Nat) : Int)).toNat = n := by omega
  rw [this]
  show (ps.map V.ref)[n]? = _
  rw [List.getElem?_map, e]
  rfl
theorem step_shaped (i : Nat) : SeqAt.shaped (.tuple [.str "step", .int (i : Int)]) = true := by
  unfold SeqAt.shaped
  rw [Bool.and_eq_true, decide_eq_true_eq]
  have h : PyData.strOk "step" = true := by decide +kernel
  refine ⟨by simp only [PyData.canLay0, PyData.canLayAll0, h, Bool.and_true], ?_⟩
  simp only [PyData.depthAll, PyData.depth]
  omega
theorem capSN {X : TS} {D : Ends} {σ : L2.St} {H : Hp} (σ1 : L2.St) (e : σ = σ1) (h : X D σ1 H) : X D σ H := e ▸ h
section
variable {w : World} {K : PySem.W.Frag} {mg : Str → Option Value} {base : Heap} (T : Tx K mg)
include T
def spLaw (K : PySem.W.Frag) (Pt : Addr) : Sp := fun vs H Q _ => ∃ (a : Addr) (ns : List Int), vs = [.ref a] ∧ SqL K H a (ns.map V.int) ∧ ns.length ≤ 63 ∧ H Pt = some (.tbl #[]) ∧ ∀ H', Q (.bl true) H'
theorem ok_law {c Pt : Addr} (hK : K.In base) (TB : LamX.TabB base mg c Pt) (hc : T.fd_law.code = .ref c) : FnOk PX w K mg base CX0 13 (a_law K) T.fd_law ["_law_script"] (spLaw K Pt) := by
  refine fnCK0 (d := d_law) T.F_law hc sc_law (fun vs H Q E h => ?_) (fun A outer s H vs Q E hr h => ?_)
  · obtain ⟨a, ns, rfl, _⟩ := h
    rfl
  obtain ⟨a, ns, rfl, hS, hl, hP, k⟩ := h
  refine ⟨_, (pss_cons (ps_set (i := 1) sc_law.nd rfl (Or.inl rfl) (pe_cR (ok_law_mix T) (hr.mono (by decide)) T.F_law_mix.kp T.g_law_mix pass0 (pa_cons (pv 0) (pa_cons pe_int pa_nil)))) (pss_cons (ps_for PassesOwn.never rfl (pi_range1 rfl T.n_range (pa_cons pe_int pa_nil)) (pg_name (i := 2) sc_law.nd rfl (Or.inl rfl)) (pss_cons (ps_asg (pe_tup (pa_cons (pe_cR (ok_law_trades T) (hr.mono (by decide)) T.F_law_trades.kp T.g_law_trades pass0 (pa_cons (pv 1) (pa_cons pe_int (pa_cons pe_int pa_nil)))) (pa_cons (pe_cR (ok_law_next T) (hr.mono (by decide)) T.F_law_next.kp T.g_law_next pass0 (pa_cons (pv 1) (pa_cons (pe_ix ix_list (pe_lst (pa_cons pe_int (pa_cons (pe_op op_add (pe_op op_pow pe_int pe_int) pe_int) pa_nil))) (pe_cR (ok_law_next T) (hr.mono (by decide)) T.F_law_next.kp T.g_law_next pass0 (pa_cons (pv 1) (pa_cons pe_int pa_nil))) (fun _ _ => rfl)) pa_nil))) pa_nil))) (pg_tup rfl (pgs_cons (pg_name (i := 3) sc_law.nd rfl (Or.inl rfl)) (pgs_cons (pg_name (i := 16) sc_law.nd rfl (Or.inr rfl)) pgs_nil)))) (pss_cons (ps_set (i := 18) sc_law.nd rfl (Or.inr rfl) (pe_cR (ok_law_offer T) (hr.mono (by decide)) T.F_law_offer.kp T.g_law_offer pass0 (pa_cons (pv 3) pa_nil))) (pss_cons (ps_asg (pe_cR (ok_law_steps T) (hr.mono (by decide)) T.F_law_steps.kp T.g_law_steps pass0 (pa_cons (pv 1) (pa_cons (pv 3) (pa_cons (pv 16) pa_nil)))) (pg_tup rfl (pgs_cons (pg_name (i := 4) sc_law.nd rfl (Or.inl rfl)) (pgs_cons (pg_name (i := 5) sc_law.nd rfl (Or.inl rfl)) (pgs_cons (pg_name (i := 6) sc_law.nd rfl (Or.inl rfl)) (pgs_cons (pg_name (i := 7) sc_law.nd rfl (Or.inl rfl)) pgs_nil)))))) (pss_cons (ps_set (i := 8) sc_law.nd rfl (Or.inl rfl) (pe_cR (ok_play T) (hr.mono (by decide)) T.F_play.kp T.g_play pass0 (pa_cons (pv 18) (pa_cons (pv 16) (pa_cons (pv 4) pa_nil))))) (pss_cons (ps_set (i := 9) sc_law.nd rfl (Or.inl rfl) (pe_lst (pa_cons (pv 5) (pa_cons (pv 6) (pa_cons (EBZ.pe_listZip rfl (pa_cons (pe_lc (own := [("_law_one", 22)]) rfl sc_law.nd (pi_tup (pv 3)) (blkOk_by (own := [("_law_one", 22)]) (N := N_law) (sc := defScope s_law) (by decide +kernel)) (fun _ _ _ _ _ => (pg_name (i := 22) sc_law.nd rfl (Or.inl rfl) (.inr rfl))) (fun _ _ _ _ _ => pts_nil) (fun _ _ _ _ _ => (pe_ix (ix_tupK (K := K) rfl) (pv 22) pe_int (fun _ _ => rfl)))) (pa_cons (pv 7) pa_nil)) (by rfl) T.n_list (by decide +kernel) (by rfl) T.n_zip) pa_nil))))) (pss_cons (ps_if (pt_not (pt_val (pe_cR (ok_law_alike T) (hr.mono (by decide)) T.F_law_alike.kp T.g_law_alike pass0 (pa_cons (pe_lst (pa_cons (pe_ix ix_tup (pv 8) pe_int (fun _ _ => rfl)) (pa_cons (pe_ix ix_tup (pv 8) pe_int (fun _ _ => rfl)) (pa_cons (LiI.pe_listItems rfl (pe_ix ix_tup (pv 8) pe_int (fun _ _ => rfl)) (by rfl) T.n_list (by decide +kernel)) pa_nil)))) (pa_cons (pv 9) pa_nil))))) (pss_one (ps_ret pe_bl)) pss_nil) (pss_cons (ps_set (i := 10) sc_law.nd rfl (Or.inl rfl) (pe_lst (pa_cons (pe_tup (pa_cons pe_str (pa_cons (pe_op op_add (pv 6) pe_int) pa_nil))) (pa_cons (pe_tup (pa_cons (pe_ix ix_tup (pe_ix ix_tup (pv 3) pe_int (fun _ _ => rfl)) pe_int (fun _ _ => rfl)) (pa_cons (pe_op op_add (pe_op op_fdiv (pe_ix ix_list (pv 7) pe_int (fun _ _ => rfl)) (pe_ix ix_tup (pe_ix ix_tup (pv 3) pe_int (fun _ _ => rfl)) pe_int (fun _ _ => rfl))) pe_int) pa_nil))) (pa_cons (pe_tup (pa_cons pe_str (pa_cons pe_int pa_nil))) (pa_cons (pe_tup (pa_cons pe_str (pa_cons (pe_un un_neg pe_int) pa_nil))) pa_nil)))))) (pss_cons (ps_set (i := 15) sc_law.nd rfl (Or.inr rfl) (pe_op op_cat (pv 4) (pe_lst (pa_cons (pe_ix ix_list (pv 10) (pe_cR (ok_law_next T) (hr.mono (by decide)) T.F_law_next.kp T.g_law_next pass0 (pa_cons (pv 1) (pa_cons pe_int pa_nil))) (fun _ _ => rfl)) (pa_cons (pe_tup (pa_cons pe_str (pa_cons pe_int pa_nil))) pa_nil))))) (pss_cons (ps_set (i := 11) sc_law.nd rfl (Or.inl rfl) (pe_err (k := 9) T TB (hr.mono (by decide)) (LamX.lamS_by (by kernel_rfl)) rfl (fun _ _ _ _ _ => rfl) (fun A outer s H E f c hr => (pe_cR (fnR_or (okX_play T hK) (okN_play T hK)) (hr.mono (by decide)) T.F_play.kp T.g_play (passes_call (takes_of rfl rfl rfl rfl) (fun _ _ _ _ h => h)) (pa_cons (pv 18) (pa_cons (pv 16) (pa_cons (pv 15) pa_nil))))))) (pss_cons (ps_if (PW.pt (pw_and (pt_cmpR op_le (pe_ix ix_tup (pe_ix ix_list (pv 15) (pe_un un_neg pe_int) (fun _ _ => rfl)) pe_int (fun _ _ => rfl)) (pe_op op_pow pe_int pe_int) (nomark _)) (pw_and1 (pt_cmpR (op_neD hr.units) (pv 11) (pe_tup (pa_cons pe_str (pa_cons (pe_callB call_len_seq (by rfl) T.n_len PySem.boot_len (pa_cons (pv 4) pa_nil)) pa_nil))) (nomark _))))) (pss_one (ps_ret pe_bl)) pss_nil) (pss_cons (ps_set (i := 12) sc_law.nd rfl (Or.inl rfl) (pe_cR (ok_greedy_steps T) (hr.mono (by decide)) T.F_greedy_steps.kp T.g_greedy_steps pass0 (pa_cons (pv 18) (pa_cons (pv 16) pa_nil)))) (pss_cons (ps_set (i := 13) sc_law.nd rfl (Or.inl rfl) (pe_cR (ok_play T) (hr.mono (by decide)) T.F_play.kp T.g_play pass0 (pa_cons (pv 18) (pa_cons (pv 16) (pa_cons (pv 12) pa_nil))))) (pss_cons (ps_if (PW.pt (pw_or (pt_cmpR (EBT.op_neTS rfl hr.units) (pv 13) (pe_tup (pa_cons (StX.pe_callO (pv 18) T.co_Offer (ok_Offer_call T) (hr.mono (by decide)) pass0 (pa_cons (pv 16) pa_nil)) (pa_cons pe_int (pa_cons (pe_methR (pv 18) T.k_Offer T.m_Offer_left_over (ok_Offer_left_over T) (hr.mono (by decide)) pass0 (pa_cons (pv 16) pa_nil)) pa_nil)))) (nomark _)) (pw_or1 (pt_cmpR op_in_seq pe_int (pe_lc (own := [("_law_word", 19), ("_law_count", 20)]) rfl sc_law.nd (pi_list (pv 12)) (blkOk_by (own := [("_law_word", 19), ("_law_count", 20)]) (N := N_law) (sc := defScope s_law) (by decide +kernel)) (fun _ _ _ _ _ => (pg_tupB (n := 2) (pgs_cons (pg_name (i := 19) sc_law.nd rfl (Or.inl rfl) (.inr rfl)) (pgs_cons (pg_name (i := 20) sc_law.nd rfl (Or.inl rfl) (.inr rfl)) pgs_nil)))) (fun _ _ _ _ _ => pts_nil) (fun _ _ _ _ _ => (pv 20))) rfl)))) (pss_one (ps_ret pe_bl)) pss_nil) (pss_cons (ps_if (pt_cmpR (op_neD hr.units) (pe_lc (own := [("_law_word", 19), ("_law_count", 20)]) rfl sc_law.nd (pi_list (pv 12)) (blkOk_by (own := [("_law_word", 19), ("_law_count", 20)]) (N := N_law) (sc := defScope s_law) (by decide +kernel)) (fun _ _ _ _ _ => (pg_tupB (n := 2) (pgs_cons (pg_name (i := 19) sc_law.nd rfl (Or.inl rfl) (.inr rfl)) (pgs_cons (pg_name (i := 20) sc_law.nd rfl (Or.inl rfl) (.inr rfl)) pgs_nil)))) (fun _ _ _ _ _ => (pts_one (pt_cmpR op_eq (pv 19) pe_str (nomark _)))) (fun _ _ _ _ _ => (pv 20))) (pe_listG (pgen_meth (pv 18) T.k_Offer T.m_Offer_rounds (ok_Offer_rounds T) (hr.mono (by decide)) (b_Offer_rounds T) .nil (pa_cons (pv 16) pa_nil)) passG noStop0 (hr.mono (by decide)) (by rfl) T.n_list (by decide +kernel)) (nomark _)) (pss_one (ps_ret pe_bl)) pss_nil) (pss_cons (ps_set (i := 17) sc_law.nd rfl (Or.inr rfl) (pe_ix ix_list (pe_lst (pa_cons (pe_un un_neg pe_int) (pa_cons (pe_op op_add (pe_op op_pow pe_int pe_int) pe_int) pa_nil))) (pe_cR (ok_law_next T) (hr.mono (by decide)) T.F_law_next.kp T.g_law_next pass0 (pa_cons (pv 1) (pa_cons pe_int pa_nil))) (fun _ _ => rfl))) (pss_cons (ps_set (i := 14) sc_law.nd rfl (Or.inl rfl) (pe_lst (pa_cons (pe_lamE (k := 9) T [] TB (lamO_by (by kernel_rfl)) (.inl ⟨rfl, rfl⟩) (.inl ⟨rfl, fun _ _ _ _ _ => rfl⟩) (fun f A outer s H E c hr => (pe_cR (fnR_or (okX_play T hK) (okN_play T hK)) (hr.mono (by decide)) T.F_play.kp T.g_play (passes_call (takes_of rfl rfl rfl rfl) (fun _ _ _ _ h => h)) (pa_cons (pv 18) (pa_cons (pv 17) (pa_cons (pv 15) pa_nil)))))) (pa_cons (pe_lamE (k := 9) T [("_law_a", 0)] TB (lamO_by (by kernel_rfl)) (.inr ⟨_, _, _, rfl, rfl, pe_int⟩) (.inr ⟨_, _, rfl, by kernel_rfl, fun _ _ _ _ _ _ _ => ⟨_, rfl, rfl⟩⟩) (fun f A outer s H E c hr => (pe_cR (okX_greedy_steps T hK) (hr.mono (by decide)) T.F_greedy_steps.kp T.g_greedy_steps (passes_call (takes_of rfl rfl rfl rfl) (fun _ _ _ _ h => h)) (pa_cons (pv 18) (pa_cons (pv 17) pa_nil))))) pa_nil)))) (pss_one (ps_if (pt_cmpR (op_neD hr.units) (pe_lcS (own := [("_law_call", 21)]) rfl sc_law.nd (pi_list (pv 14)) (blkOk_by (own := [("_law_call", 21)]) (N := N_law) (sc := defScope s_law) (by decide +kernel)) (fun _ _ _ _ _ => (pg_name (i := 21) sc_law.nd rfl (Or.inl rfl) (.inr rfl))) (fun pins σ s H C cl fp I F => pe_errK (k := 9) T (hr.mono (by decide)) I F (pv 21))) (pe_op op_rep (pe_lst (pa_cons (pe_tup (pa_cons pe_str pa_nil)) pa_nil)) pe_int) (nomark _)) (pss_one (ps_ret pe_bl)) pss_nil))))))))))))))))))) (pss_one (ps_ret pe_bl)))), ?_⟩
  obtain ⟨q, eq⟩ : ∃ q : Str, q = (lawCx PX w K mg base N_law d_law.ql (defScope d_law.st) (d_law.adr K) c A outer s H E).env.qual ++ ("<lambda>" : Str) := ⟨_, rfl⟩
  refine ⟨_, rfl, a, ns, 11, rfl, hS, hl, by decide, by decide, fun H1 h l hs1 => ?_⟩
  have ntn : ∀ b, H b = none → nt H b = none := fun b z => by
    unfold EB.nt
    rw [z]
  have lt1 : LT (nt H) H1 h l Pt q := ⟨⟨nt_same.trans hs1.same, ntn _ hs1.nh, ntn _ hs1.nl, hs1.ne, hs1.ex⟩, (LamX.TabS.nil hP).ext hs1.same, nt_noT⟩
  clear hs1 ntn hP
  generalize nt H = H0 at lt1
  refine ⟨3, rfl, by decide, by decide, for_range (n := 3) (fun _ σ H' => LT H0 H' h l Pt q ∧ ∃ x2 x3 x4 x5 x6 x7 x8 x9 x10 x11 x12 x13 x14 x15 x16 x17 x18 x19 x20 x21 x22 : Option V, σ = [some (.ref a), some (.ref h), x2, x3, x4, x5, x6, x7, x8, x9, x10, x11, x12, x13, x14, x15, x16, x17, x18, x19, x20, x21, x22]) ⟨lt1, none, none, none, none, none, none, none, none, none, none, none, none, none, none, none, none, none, none, none, none, none, rfl⟩ ?_ ?_⟩
  · rintro i σ H2 _ ⟨lt2, x2, x3, x4, x5, x6, x7, x8, x9, x10, x11, x12, x13, x14, x15, x16, x17, x18, x19, x20, x21, x22, rfl⟩
    refine ⟨_, rfl, h, l, 3, 12, _, rfl, by decide, by decide, by decide, by decide, lt2.hs.re, fun H3 p1 ts hs3 tr3 hne dr => ?_⟩
    have lt3 := lt2.step hs3
    have fts := dr.fair
    refine ⟨_, rfl, _, _, rfl, rfl, ⟨by decide, by decide, by decide⟩, _, _, rfl, rfl, by show 2 ≤ sizeLine; decide, fun Z nZ => ?_⟩
    have dZ := lt3.hs.new nZ
    have lt4 := lt3.new (o := .lst [.int 30, .int 1000000000000000001]) nZ
    have eZ4 : upd H3 Z (.lst [.int 30, .int 1000000000000000001]) Z = some (.lst [.int 30, .int 1000000000000000001]) := upd_same
    have tr4 := (lt2.hs.down hs3).same.trans (Same.refl _)
    dsimp only [tC, tNil, tCons, tLst]
    rw [show (10 : Int) ^ Int.toNat 18 + 1 = 1000000000000000001 from rfl]
    have trA := tr3.mono (same_new (u := .lst [.int 30, .int 1000000000000000001]) nZ)
    generalize upd H3 Z (.lst [.int 30, .int 1000000000000000001]) = H4 at lt4 eZ4 trA
    refine ⟨_, rfl, h, l, 2, hid2 H4 h l, rfl, by decide, by decide, lt4.hs.re, fun H5 r5 hs5 r50 r51 => ?_⟩
    have eZ5 := hs5.same _ _ (HS.keep (H0 := H0) eZ4 dZ.1 dZ.2)
    have tr5 := lt4.hs.trs trA hs5
    have lt5 := lt4.step hs5
    obtain ⟨lim, el, l0, l1⟩ : ∃ lim : Int, atI [.int 30, .int 1000000000000000001] r5 = some (V.int lim) ∧ 0 < lim ∧ lim ≤ 1000000000000000001 := by
      rcases (show r5 = 0 ∨ r5 = 1 by omega) with z | z
      · exact ⟨30, by rw [z]; rfl, by decide, by decide⟩
      · exact ⟨1000000000000000001, by rw [z]; rfl, by decide, by decide⟩
    refine ⟨Z, _, _, _, rfl, rfl, SqL.of eZ5, el, h, l, lim, hid2 H5 h l, rfl, l0, by omega, lt5.hs.re, fun H6 bt hs6 bt0 bt1 => ?_⟩
    have tr6 := lt5.hs.trs tr5 hs6
    have lt6 := lt5.step hs6
    obtain ⟨n, rfl⟩ := Int.eq_ofNat_of_zero_le bt0
    have hn : n ≤ 1000000000000000000 := by omega
    refine ⟨by show 2 ≤ sizeLine; decide, fun y hy => ?_⟩
    have lt7 := lt6.new (o := .tup [.ref p1, .int (n : Nat)]) hy
    have tr7 := tr6.mono (same_new (u := .tup [.ref p1, .int (n : Nat)]) hy)
    refine ⟨y, _, rfl, SqT.of upd_same, rfl, _, _, rfl, _, _, rfl, rfl, ?_⟩
    generalize upd H6 y (.tup [.ref p1, .int (n : Nat)]) = H7 at lt7 tr7
    clear lt2 lt3 lt4 lt5 lt6 hs3 hs5 hs6 tr3 tr4 trA tr5 tr6 eZ4 eZ5 nZ dZ hy
    refine ⟨_, rfl, p1, ts, rfl, tr7, fts, hne, dr.nm, fun H8 o8 s8 of8 => ?_⟩
    have lt8 := lt7.grow s8
    have tr8 := tr7.mono s8
    have oa8 := HS.of_ lt7.hs s8 of8
    refine ⟨_, rfl, _, rfl, _, rfl, h, l, p1, ts, n, hid2 H8 h l, rfl, hn, lt8.hs.re, lt8.hs.tr tr8, fts, dr.nm, hne, fun H9 z S A9 L hs9 hL8 ran st9 nS1 nS2 n0S eA9 nA1 nA2 zt => ?_⟩
    have ltB := (lt8.step hs9).rebase
    have lowB : ∀ G, LT (EB.nt (hid2 H9 h l)) G h l Pt q → LT H0 G h l Pt q := fun G y => (lt8.step hs9).low y
    have oB := (oa8.mono hs9.sub).nt_
    have trB := ((lt8.step hs9).hs.tr (lt8.hs.trs tr8 hs9)).nt_
    have stB := (st9.hid_ (lt8.step hs9).hs nS1 nS2).nt_
    have eAB : EB.nt (hid2 H9 h l) A9 = some (.lst (ts.map fun t => V.int ((plRun (n : Nat) L).f t))) := nt_at (HS.keep (H0 := H0) eA9 nA1 nA2) (fun ps z => by cases z)
    refine ⟨z, _, rfl, zt, rfl, _, _, rfl, _, _, rfl, _, _, rfl, _, _, rfl, rfl, ?_⟩
    clear lt7 lt8 tr7 tr8 oa8 of8 s8 hs9 st9 nS1 nS2 n0S eA9 nA1 nA2 zt
    generalize EB.nt (hid2 H9 h l) = B at ltB oB trB stB eAB lowB
    have sB := ltB.hs.same
    refine ⟨_, rfl, _, rfl, _, rfl, o8, S, ts, n, L, rfl, oB.mono sB, fts, dr.nm, hn, (stB.mono sB).st, by omega, ran.val, fun Ha fp fr sa pc hfr ft => ?_⟩
    have lta := ltB.grow sa
    have tra := trB.mono lta.hs.same
    have eAa := lta.hs.same _ _ eAB
    clear sa hfr ltB sB
    dsimp only [gName]
    refine capSN [some (.ref a), some (.ref h), some (.int (0 + (i : Int))), some (.ref p1), some (.ref S), some (.int (plRun (n : Nat) L).d), some (.int (plRun (n : Nat) L).b), some (.ref A9), some (.ref fp), x9, x10, x11, x12, x13, x14, x15, some (.int (n : Nat)), x17, some (.ref o8), x19, x20, x21, x22] rfl ?_
    -- what is due
    obtain ⟨ps, h1, h2, h3⟩ := tra.ex
    refine ⟨_, rfl, _, rfl, _, rfl, p1, rfl, ⟨_, h1⟩, fun G2 hG2 => ?_⟩
    refine lc_tup (xs := ps.map V.ref) (fun j H2 => Same Ha H2 ∧ H2 G2 = some (.lst ((ts.take j).map fun t => V.str t.k))) ⟨same_new hG2, upd_same⟩ (fun j H2 _ q => Same.tup q.1 h1) ?_ ?_
    · rintro j z H2' hz ⟨s2, e2⟩
      obtain ⟨pt, t, rfl, ep, et, hm, li, hp⟩ := TrAt.at_ h2 h3 hz
      refine ⟨rfl, _, rfl, pt, _, 0, _, rfl, rfl, Same.tup s2 hp, rfl, _, e2, small3 ?_, same_mut s2 hG2, ?_⟩
      · rw [List.length_map, List.length_take]
        have := fts.g.1
        omega
      · rw [upd_same, take_at et, List.map_append]
        rfl
    rintro Hb ⟨s2, e2⟩
    rw [List.length_map, h2, List.take_length] at e2
    obtain ⟨ff, hff, efr⟩ := pc.ex
    refine ⟨_, rfl, G2, A9, _, _, rfl, SqL.of e2, SqL.of (s2 _ _ eAa), by rw [List.length_map, List.length_map], fun Hc zl zs s3 nz nzt hz1 hz2 ez3 ezt => ?_⟩
    refine ⟨by show 3 ≤ sizeLine; decide, fun du hdu => ?_⟩
    have sc : Same Ha (upd Hc du (.lst [.int (plRun (n : Nat) L).d, .int (plRun (n : Nat) L).b, .ref zl])) := s2.trans (s3.trans (same_new hdu))
    have edu : upd Hc du (.lst [.int (plRun (n : Nat) L).d, .int (plRun (n : Nat) L).b, .ref zl]) du = some (.lst [.int (plRun (n : Nat) L).d, .int (plRun (n : Nat) L).b, .ref zl]) := upd_same
    have s4 : Same Hc (upd Hc du (.lst [.int (plRun (n : Nat) L).d, .int (plRun (n : Nat) L).b, .ref zl])) := same_new hdu
    generalize upd Hc du (.lst [.int (plRun (n : Nat) L).d, .int (plRun (n : Nat) L).b, .ref zl]) = Hd at sc edu s4
    have dzl : Dp K Hd (.ref zl) (prD (plRun (n : Nat) L).f ts) := .lst (SqL.of (s4 _ _ ez3)) (dp_zip (by rw [hz2, List.length_map]) fun j b u e1 e2' => by
      obtain ⟨x1, y1, q1, q2, q3⟩ := ezt j b e1
      rw [List.getElem?_map, e2'] at q1 q2
      cases q1
      cases q2
      exact s4 _ _ q3)
    have pce : prD (plRun (n : Nat) L).f ts = prD (fun t => ff t.k) ts := by
      unfold prD
      exact congrArg _ (List.map_congr_left fun t m => by
        show PyData.tuple [.str t.k, .int ((plRun (n : Nat) L).f t)] = .tuple [.str t.k, .int (ff t.k)]
        rw [hff t m])
    clear ezt ez3 hz1 hz2 nz nzt hdu s4 s2 s3 e2 hG2
    dsimp only [gName]
    have ftd := Same.tup sc ft
    refine ⟨_, rfl, fp, _, 0, _, rfl, rfl, ftd, rfl, _, rfl, fp, _, 1, _, rfl, rfl, ftd, rfl, _, rfl, fp, _, 2, _, rfl, rfl, ftd, rfl, fr, _, rfl, sc _ _ efr, fun He it as se n1 n2 n3 ee pre => ?_⟩
    refine ⟨by show 3 ≤ sizeLine; decide, fun fl hfl => ?_⟩
    have s5 : Same Hd (upd He fl (.lst [.int (plRun (n : Nat) L).d, .int (plRun (n : Nat) L).b, .ref it])) := Same.trans se (same_new hfl)
    refine ⟨_, rfl, .ref fl, .ref du, .list [.int (plRun (n : Nat) L).d, .int (plRun (n : Nat) L).b, prD (plRun (n : Nat) L).f ts], rfl, ?_, ?_, ?_, fun Hf sf => ⟨true, rfl, iteF ?_⟩⟩
    · rw [pce]
      exact .lst (SqL.of upd_same) (.cons (.int _) (.cons (.int _) (.cons (.lst (SqL.of (upd_old ee hfl)) (dps_mono (same_new hfl) (dp_items pre))) .nil)))
    · exact .lst (SqL.of (s5 _ _ edu)) (.cons (.int _) (.cons (.int _) (.cons (dp_mono s5 dzl) .nil)))
    · refine .lst (fun e he => ?_) (by show 3 ≤ 10000; decide)
      have := fts.g.1
      rcases List.mem_cons.mp he with rfl | he
      · exact .int _
      rcases List.mem_cons.mp he with rfl | he
      · exact .int _
      cases List.mem_singleton.mp he
      exact prD_lev (by omega)
    have sF := sc.trans (s5.trans sf)
    have ltF := lta.grow sF
    have trF := trB.mono ltF.hs.same
    have eAF := ltF.hs.same _ _ eAB
    clear sF sf s5 hfl pre ee n1 n2 n3 se pce dzl edu sc efr hff ftd ft h1 h2 h3 lta tra eAa pc
    -- the odd steps
    obtain ⟨t0, et0⟩ : ∃ t0, ts[0]? = some t0 := ⟨_, List.getElem?_eq_getElem (List.length_pos_iff.mpr hne)⟩
    have ht0 := List.mem_of_getElem? et0
    have ok0 := fts.g.2 _ ht0
    refine ⟨_, rfl, _, _, rfl, rfl, by show 2 ≤ sizeLine; decide, fun q1 hq1 => ?_⟩
    have ltG := ltF.new (o := .tup [.str "drink", .int ((plRun (n : Nat) L).b + 1)]) hq1
    have sG : Same Hf (upd Hf q1 (.tup [.str "drink", .int ((plRun (n : Nat) L).b + 1)])) := same_new hq1
    have eq1 : upd Hf q1 (.tup [.str "drink", .int ((plRun (n : Nat) L).b + 1)]) q1 = _ := upd_same
    generalize upd Hf q1 (.tup [.str "drink", .int ((plRun (n : Nat) L).b + 1)]) = Hg at ltG sG eq1
    obtain ⟨xs, pt, hxs, hxl, hat, hpt⟩ := (trF.mono sG).ix et0
    refine ⟨_, rfl, p1, _, 0, _, rfl, rfl, hxs, hat, pt, _, 0, _, rfl, rfl, hpt, rfl, ?_⟩
    refine ⟨_, rfl, A9, _, 0, _, rfl, rfl, SqL.of (sG _ _ eAF), at_of (j := 0) rfl (by rw [List.getElem?_map, et0]; rfl), _, rfl, p1, _, 0, _, rfl, rfl, hxs, hat, pt, _, 2, _, rfl, rfl, hpt, rfl, _, _, rfl, rfl, ⟨by have := ok0.2.2.1; omega, by have := ok0.2.2.2; omega⟩, _, _, rfl, rfl, by show 2 ≤ sizeLine; decide, fun q2 hq2 => ?_⟩
    have ltG := ltG.new (o := .tup [.str t0.k, .int ((plRun (n : Nat) L).f t0 / t0.n + 1)]) hq2
    replace sG := sG.trans (same_new (u := .tup [.str t0.k, .int ((plRun (n : Nat) L).f t0 / t0.n + 1)]) hq2)
    replace eq1 := upd_old (u := .tup [.str t0.k, .int ((plRun (n : Nat) L).f t0 / t0.n + 1)]) eq1 hq2
    have eq2 : upd Hg q2 (.tup [.str t0.k, .int ((plRun (n : Nat) L).f t0 / t0.n + 1)]) q2 = _ := upd_same
    generalize upd Hg q2 (.tup [.str t0.k, .int ((plRun (n : Nat) L).f t0 / t0.n + 1)]) = Hg1 at ltG sG eq1 eq2
    refine ⟨by show 2 ≤ sizeLine; decide, fun q3 hq3 => ?_⟩
    replace ltG := ltG.new (o := .tup [.str "zzz", .int 0]) hq3
    replace sG := sG.trans (same_new (u := .tup [.str "zzz", .int 0]) hq3)
    replace eq1 := upd_old (u := .tup [.str "zzz", .int 0]) eq1 hq3
    replace eq2 := upd_old (u := .tup [.str "zzz", .int 0]) eq2 hq3
    have eq3 : upd Hg1 q3 (.tup [.str "zzz", .int 0]) q3 = _ := upd_same
    generalize upd Hg1 q3 (.tup [.str "zzz", .int 0]) = Hg2 at ltG sG eq1 eq2 eq3
    refine ⟨_, rfl, by show 2 ≤ sizeLine; decide, fun q4 hq4 => ?_⟩
    replace ltG := ltG.new (o := .tup [.str "drink", .int (-1)]) hq4
    replace sG := sG.trans (same_new (u := .tup [.str "drink", .int (-1)]) hq4)
    replace eq1 := upd_old (u := .tup [.str "drink", .int (-1)]) eq1 hq4
    replace eq2 := upd_old (u := .tup [.str "drink", .int (-1)]) eq2 hq4
    replace eq3 := upd_old (u := .tup [.str "drink", .int (-1)]) eq3 hq4
    have eq4 : upd Hg2 q4 (.tup [.str "drink", .int (-1)]) q4 = _ := upd_same
    generalize upd Hg2 q4 (.tup [.str "drink", .int (-1)]) = Hg3 at ltG sG eq1 eq2 eq3 eq4
    refine ⟨by show 4 ≤ sizeLine; decide, fun od hod => ?_⟩
    have dod := ltG.hs.new hod
    replace ltG := ltG.new (o := .lst [.ref q1, .ref q2, .ref q3, .ref q4]) hod
    replace sG := sG.trans (same_new (u := .lst [.ref q1, .ref q2, .ref q3, .ref q4]) hod)
    replace eq1 := upd_old (u := .lst [.ref q1, .ref q2, .ref q3, .ref q4]) eq1 hod
    replace eq2 := upd_old (u := .lst [.ref q1, .ref q2, .ref q3, .ref q4]) eq2 hod
    replace eq3 := upd_old (u := .lst [.ref q1, .ref q2, .ref q3, .ref q4]) eq3 hod
    replace eq4 := upd_old (u := .lst [.ref q1, .ref q2, .ref q3, .ref q4]) eq4 hod
    have eod : upd Hg3 od (.lst [.ref q1, .ref q2, .ref q3, .ref q4]) od = _ := upd_same
    generalize upd Hg3 od (.lst [.ref q1, .ref q2, .ref q3, .ref q4]) = Hh at ltG sG eq1 eq2 eq3 eq4 eod
    clear hq1 hq2 hq3 hq4 hod hxs hxl hat hpt ltF
    dsimp only [gName]
    refine ⟨_, rfl, _, rfl, _, rfl, h, l, 4, hid2 Hh h l, rfl, by decide, by decide, ltG.hs.re, fun Hi rr hsi rr0 rr1 => ?_⟩
    have eod := hsi.same _ _ (HS.keep (H0 := H0) eod dod.1 dod.2)
    have kt : ∀ b xs, Hh b = some (.tup xs) → Hi b = some (.tup xs) := fun b xs e => hsi.same _ _ (ltG.hs.keepT e)
    replace eq1 := kt _ _ eq1
    replace eq2 := kt _ _ eq2
    replace eq3 := kt _ _ eq3
    replace eq4 := kt _ _ eq4
    have ltI := ltG.step hsi
    obtain ⟨qx, x, ex, hx, hp⟩ : ∃ (qx : Addr) (x : Str × Int), atI [.ref q1, .ref q2, .ref q3, .ref q4] rr = some (V.ref qx) ∧ Hi qx = some (.tup [.str x.1, .int x.2]) ∧ plPos ts (plRun (n : Nat) L) x = false := by
      exact odd_all dr ran et0 eq1 eq2 eq3 eq4 rr0 rr1
    clear eq1 eq2 eq3 eq4 kt trF eAF sG dod ltG hsi
    obtain ⟨pS, eS, spS⟩ := (stB.mono ltI.hs.same).ex
    have lS : pS.length = L.length := Paired.length spS
    refine ⟨od, _, _, _, rfl, rfl, SqL.of eod, ex, by show 2 ≤ sizeLine; decide, fun q5 hq5 => ⟨by show 2 ≤ sizeLine; decide, fun bq hbq => ?_⟩⟩
    have ltJ := (ltI.new (o := .tup [.str "drink", .int 0]) hq5).new (o := .lst [.ref qx, .ref q5]) hbq
    have sJ := (same_new (u := .tup [.str "drink", .int 0]) hq5).trans (same_new (u := .lst [.ref qx, .ref q5]) hbq)
    have eq5 := upd_old (u := .lst [.ref qx, .ref q5]) (show upd Hi q5 (.tup [.str "drink", .int 0]) q5 = some (.tup [.str "drink", .int 0]) from upd_same) hbq
    have ebq : upd (upd Hi q5 (.tup [.str "drink", .int 0])) bq (.lst [.ref qx, .ref q5]) bq = some (.lst [.ref qx, .ref q5]) := upd_same
    generalize upd (upd Hi q5 (.tup [.str "drink", .int 0])) bq (.lst [.ref qx, .ref q5]) = Hj at ltJ sJ eq5 ebq
    refine ⟨S, bq, _, _, rfl, rfl, sJ _ _ eS, ebq, Nat.le_of_lt (small3 (by rw [List.length_map, lS]; show L.length + 2 ≤ _; omega)), fun bl hbl => ?_⟩
    have dbl := ltJ.hs.new hbl
    have ltK := ltJ.new (o := .lst (pS.map V.ref ++ [.ref qx, .ref q5])) hbl
    have sK := sJ.trans (same_new (u := .lst (pS.map V.ref ++ [.ref qx, .ref q5])) hbl)
    have stK : StA (upd Hj bl (.lst (pS.map V.ref ++ [.ref qx, .ref q5]))) bl (L ++ [x, ("drink", 0)]) := bad_st spS hx eq5 sJ hbl
    generalize upd Hj bl (.lst (pS.map V.ref ++ [.ref qx, .ref q5])) = Hk at ltK sK stK
    clear hbl hbq hq5 eq5 ebq sJ ltJ eS spS lS pS eod ex hx ltI
    have ltC := ltK.rebase
    have lowC : ∀ G, LT (EB.nt (hid2 Hk h l)) G h l Pt q → LT H0 G h l Pt q := fun G y => lowB _ (ltK.low y)
    clear lowB
    have oC := ((oB.mono ltK.hs.sub)).nt_
    have trC := (ltK.hs.tr (trB.mono ltK.hs.same)).nt_
    have stC := (stK.hid_ ltK.hs dbl.1 dbl.2).nt_
    have stS := (stB.mono ltK.hs.sub).nt_
    clear sK stK dbl ltK oB trB stB eAB
    generalize EB.nt (hid2 Hk h l) = C at ltC oC trC stC stS lowC
    clear q5 bq
    dsimp only [gName]
    refine capSN [some (.ref a), some (.ref h), some (.int (0 + (i : Int))), some (.ref p1), some (.ref S), some (.int (plRun (n : Nat) L).d), some (.int (plRun (n : Nat) L).b), some (.ref A9), some (.ref fp), some (.ref du), some (.ref od), x11, x12, x13, x14, some (.ref bl), some (.int (n : Nat)), x17, some (.ref o8), x19, x20, x21, x22] rfl ?_
    refine ⟨tabs_eq eq ltC.tb, fun Hm exm tbm => ?_⟩
    have ltM := ltC.ext exm (tabs_of_eq eq tbm)
    clear ltC exm tbm
    have hL1 : (L ++ [x, (("drink" : Str), (0 : Int))]).length = L.length + 2 := by rw [List.length_append]; rfl
    have hL2 : (L ++ [x, (("drink" : Str), (0 : Int))])[L.length]? = some x := by rw [List.getElem?_append_right (Nat.le_refl _), Nat.sub_self]; rfl
    have hL3 : ∀ j, j ≤ L.length → (L ++ [x, (("drink" : Str), (0 : Int))]).take j = L.take j := fun j hj => by rw [List.take_append_of_le_length hj]
    refine ⟨_, rfl, _, rfl, _, rfl, .inl ⟨o8, bl, ts, n, L ++ [x, ("drink", 0)], L.length, rfl, oC.mono ltM.hs.same, fts, dr.nm, hn, (stC.mono ltM.hs.same).st, by omega, by omega, by omega, fun j hj y hy => ?_, fun y hy => ?_, fun H' d s' nd ed => .inl ⟨rfl, d, _, rfl, ed, fun Hn er s2 her => ?_⟩⟩⟩
    · rw [hL3 j (Nat.le_of_lt hj)]
      rw [List.getElem?_append_left hj] at hy
      exact ran.val j y hy
    · rw [hL2] at hy
      cases hy
      rw [hL3 _ (Nat.le_refl _), List.take_length]
      exact hp
    have ltN := (ltM.grow s').grow s2
    clear ltM nd ed s' s2
    dsimp only [gName]
    refine capSN [some (.ref a), some (.ref h), some (.int (0 + (i : Int))), some (.ref p1), some (.ref S), some (.int (plRun (n : Nat) L).d), some (.int (plRun (n : Nat) L).b), some (.ref A9), some (.ref fp), some (.ref du), some (.ref od), some (.ref er), x12, x13, x14, some (.ref bl), some (.int (n : Nat)), x17, some (.ref o8), x19, x20, x21, x22] rfl ?_
    obtain ⟨pb, eb, spb⟩ := (stC.mono ltN.hs.same).ex
    obtain ⟨pS, eS, spS⟩ := (stS.mono ltN.hs.same).ex
    have lb : pb.length = L.length + 2 := (Paired.length spb).trans hL1
    have lS : pS.length = L.length := Paired.length spS
    refine capI (fun σ' H' => ∃ er, LT C H' h l Pt q ∧ σ' = [some (.ref a), some (.ref h), some (.int (0 + (i : Int))), some (.ref p1), some (.ref S), some (.int (plRun (n : Nat) L).d), some (.int (plRun (n : Nat) L).b), some (.ref A9), some (.ref fp), some (.ref du), some (.ref od), some (.ref er), x12, x13, x14, some (.ref bl), some (.int (n : Nat)), x17, some (.ref o8), x19, x20, x21, x22]) ?_ (fun k2 => ?_)
    rotate_left
    · obtain ⟨px, epx⟩ : ∃ px, pb[L.length]? = some px := ⟨_, List.getElem?_eq_getElem (by omega)⟩
      obtain ⟨y, ey, hy⟩ := LiI.paired_get spb epx
      rw [hL2] at ey
      cases ey
      refine ⟨_, rfl, _, rfl, bl, _, _, _, rfl, rfl, SqL.of eb, at_neg2 lb epx, px, _, 1, _, rfl, rfl, SqT.of hy, rfl, _, _, rfl, rfl, ⟨by decide, by decide, by decide⟩, _, _, rfl, rfl, _, rfl, ite2 (fun _ => ?_) (fun _ => ?_)⟩
      · refine ⟨_, rfl, _, rfl, S, _, rfl, .inl (SqL.of eS), by show 2 ≤ sizeLine; decide, fun u hu => ⟨.tuple [.str "step", .int (L.length : Nat)], .tuple [.str "step", .int (L.length : Nat)], .tup (Same.tup (same_new hu) her) (.cons (.str _) (.cons (.int _) .nil)), .tup (SqT.of upd_same) (.cons (.str _) (.cons ?_ .nil)), step_shaped _, step_shaped _, _, rfl, ?_⟩⟩
        · rw [List.length_map, lS]
          exact .int _
        rw [SeqAt.eqv_refl _ (shaped_lay (step_shaped _))]
        exact iteF (k2 _ _ ⟨er, ltN.new hu, rfl⟩)
      · exact iteF (k2 _ _ ⟨er, ltN, rfl⟩)
    clear her eb spb lb pb eS spS lS pS ltN hL1 hL2 hL3 hp
    rintro _ Ho ⟨er2, lto, rfl⟩
    have Gr := greedy_all fts dr.nm hn
    obtain ⟨dy, fy, oi0, on⟩ := oC.ins
    refine ⟨_, rfl, _, rfl, o8, ts, n, rfl, oC.mono lto.hs.same, fts, dr.nm, hn, fun Hq gp sq stg => ?_⟩
    have ltq := lto.grow sq
    clear lto sq
    refine ⟨_, rfl, _, rfl, _, rfl, o8, gp, ts, n, _, rfl, oC.mono ltq.hs.same, fts, dr.nm, hn, stg.st, Gr.2.2.2.2, Gr.1, fun Hr ep dd sr pc ndd ept => ?_⟩
    have ltr := ltq.grow sr
    replace stg := stg.mono sr
    rw [Gr.2.1, Gr.2.2.1] at ept
    clear ltq sr ndd
    dsimp only [gName]
    refine capSN [some (.ref a), some (.ref h), some (.int (0 + (i : Int))), some (.ref p1), some (.ref S), some (.int (plRun (n : Nat) L).d), some (.int (plRun (n : Nat) L).b), some (.ref A9), some (.ref fp), some (.ref du), some (.ref od), some (.ref er2), some (.ref gp), some (.ref ep), x14, some (.ref bl), some (.int (n : Nat)), x17, some (.ref o8), x19, x20, x21, x22] rfl ?_
    have iC : StX.InsC (cxOf CX0 PX w K mg base N_law d_law.ql (defScope d_law.st) (d_law.adr K) (Value.ref c) A outer s H E).nox Hr o8 (_root_.He.ga K "Offer") := .inr ⟨dy, fy, ltr.hs.same _ _ oi0⟩
    refine ⟨_, rfl, _, rfl, o8, rfl, _, rfl, iC, o8, ts, n, rfl, oC.mono ltr.hs.same, fts, hn, ?_⟩
    refine ⟨_, rfl, o8, dy, fy, rfl, ltr.hs.same _ _ oi0, on _ (by decide +kernel), _, rfl, o8, ts, n, rfl, oC.mono ltr.hs.same, fts, hn, fun Hs lo ss elo => ?_⟩
    have el : leftK ts (D (cN ts) n) = ts.map fun t => (Sum.inr t.k, V.int (t.l * ((D (cN ts) n : Nat) : Int) % t.n)) := dict_eq (f := fun t => t.l * ((D (cN ts) n : Nat) : Int) % t.n) dr.nm.1
    rw [el] at elo
    refine ⟨by show 3 ≤ sizeLine; decide, fun tq htq => ?_⟩
    obtain ⟨ff, hff, edd⟩ := pc.ex
    refine ⟨ep, tq, _, _, rfl, rfl, Same.tup (ss.trans (same_new htq)) ept, SqT.of upd_same, rfl, ?_, _, rfl, ?_⟩
    · intro j u v eu ev
      match j, eu, ev with
      | 0, eu, ev =>
        cases eu
        cases ev
        exact .inl ⟨rfl, rfl, decide_eq_true rfl⟩
      | 1, eu, ev =>
        cases eu
        cases ev
        exact .inl ⟨rfl, rfl, beq_self_eq_true (0 : Int)⟩
      | 2, eu, ev =>
        cases eu
        cases ev
        refine .inr ⟨dd, lo, PM ff ts, _, rfl, rfl, upd_old (ss _ _ edd) htq, upd_old elo htq, ?_, ?_⟩
        · unfold PM
          rw [List.length_map, List.length_map]
        · have e2 : (ts.map fun t => ((Sum.inr t.k : Key), V.int (t.l * ((D (cN ts) n : Nat) : Int) % t.n))) = PM ff ts := List.map_congr_left fun t m => by rw [hff t m, Gr.2.2.2.1 t m]
          rw [e2]
          intro p hp
          obtain ⟨t, ht, rfl⟩ := List.mem_map.mp hp
          exact ⟨PM_val ht, rfl⟩
      | j + 3, eu, ev => cases eu
    have lts := ltr.grow (ss.trans (same_new (u := .tup [.int ((D (cN ts) n : Nat) : Int), .int 0, .ref lo]) htq))
    replace stg := stg.mono (ss.trans (same_new (u := .tup [.int ((D (cN ts) n : Nat) : Int), .int 0, .ref lo]) htq))
    generalize upd Hs tq (.tup [.int ((D (cN ts) n : Nat) : Int), .int 0, .ref lo]) = Ht at lts stg
    clear ltr iC elo ss el htq edd hff ept pc
    refine iteF ?_
    have gpos := gAll_pos (ts := ts) (n := n) (roundsL (cN ts) n) 0 (rnd_pos (c := cN ts) (n := n) _ _)
    have gdr := drinksOf_all (ts := ts) dr.nm.drink (roundsL (cN ts) n) 0
    have glen := Gr.2.2.2.2
    clear Gr
    generalize gAll ts 0 (roundsL (cN ts) n) = gL at stg gpos gdr glen
    obtain ⟨pg, eg, spg⟩ := stg.ex
    have lg : pg.length = gL.length := Paired.length spg
    refine ⟨_, rfl, gp, rfl, ⟨_, SqL.of eg⟩, fun G2 hG2 => ?_⟩
    refine lc_list (K := K) (a := gp) (xs := pg.map V.ref) (fun j H2 => Same Ht H2 ∧ H2 G2 = some (.lst ((gL.take j).map fun x => V.int x.2))) ⟨same_new hG2, upd_same⟩ (fun j H2 _ q => SqL.of (q.1 _ _ eg)) ?_ ?_
    · rintro j z H2' hz ⟨s2, e2⟩
      rw [List.getElem?_map] at hz
      obtain ⟨pt, ept, rfl⟩ := Option.map_eq_some_iff.mp hz
      obtain ⟨y, ey, hy⟩ := LiI.paired_get spg ept
      refine ⟨pt, _, rfl, SqT.of (s2 _ _ hy), rfl, _, _, rfl, _, _, rfl, rfl, rfl, ?_⟩
      refine ⟨_, rfl, _, e2, small3 ?_, same_mut s2 hG2, ?_⟩
      · rw [List.length_map, List.length_take]
        omega
      · rw [upd_same, take_at ey, List.map_append]
        rfl
    rintro Hu ⟨su, eu⟩
    rw [List.length_map, lg, List.take_length] at eu
    have hno : inV (.int 0) (gL.map fun x => V.int x.2) = false := by
      unfold inV
      rw [List.any_eq_false]
      intro v hv
      obtain ⟨y, hy, rfl⟩ := List.mem_map.mp hv
      have h1 := gpos y hy
      show ¬ (y.2 == (0 : Int)) = true
      intro z
      have := eq_of_beq z
      omega
    refine ⟨G2, _, rfl, .inl (SqL.of eu), rfl, ?_, _, rfl, ?_⟩
    · rw [List.all_eq_true]
      intro v hv
      obtain ⟨y, hy, rfl⟩ := List.mem_map.mp hv
      rfl
    have ltu := lts.grow su
    replace eg := su _ _ eg
    replace spg := spg.mono fun q xs e => su _ _ e
    clear lts su eu hG2 stg gpos
    rw [show (if false = true then !inV (.int 0) (gL.map fun x => V.int x.2) else inV (.int 0) (gL.map fun x => V.int x.2)) = false from hno]
    refine iteF ?_
    refine ⟨_, rfl, gp, rfl, ⟨_, SqL.of eg⟩, fun G3 hG3 => ?_⟩
    refine lc_list (K := K) (a := gp) (xs := pg.map V.ref) (fun j H2 => Same Hu H2 ∧ H2 G3 = some (.lst ((drinksOf (gL.take j)).map V.int))) ⟨same_new hG3, upd_same⟩ (fun j H2 _ q => SqL.of (q.1 _ _ eg)) ?_ ?_
    · rintro j z H2' hz ⟨s2, e2⟩
      rw [List.getElem?_map] at hz
      obtain ⟨pt, ept, rfl⟩ := Option.map_eq_some_iff.mp hz
      obtain ⟨y, ey, hy⟩ := LiI.paired_get spg ept
      refine ⟨pt, _, rfl, SqT.of (s2 _ _ hy), rfl, _, _, rfl, _, _, rfl, rfl, rfl, ?_⟩
      have hl : (drinksOf (gL.take j)).length ≤ 100000 := by
        have h1 : (drinksOf (gL.take j)).length ≤ (gL.take j).length := by
          unfold drinksOf
          rw [List.length_map]
          exact List.length_filter_le _ _
        rw [List.length_take] at h1
        omega
      refine ⟨_, rfl, rfl, _, rfl, ite2 (fun hd => ?_) (fun hd => ?_)⟩
      · have hd' : y.1 = ("drink" : Str) := by simpa using hd
        refine ⟨_, rfl, _, e2, small3 (by rw [List.length_map]; exact hl), same_mut s2 hG3, ?_⟩
        rw [upd_same, take_at ey, drinksOf_append]
        unfold drinksOf
        rw [List.filter_cons_of_pos (by rw [decide_eq_true hd']), List.filter_nil, List.map_append]
        rfl
      · have hd' : ¬ y.1 = ("drink" : Str) := by simpa using hd
        refine ⟨s2, ?_⟩
        rw [e2, take_at ey, drinksOf_append]
        have : drinksOf [y] = [] := by
          unfold drinksOf
          rw [List.filter_cons_of_neg (by rw [decide_eq_false hd']; exact Bool.false_ne_true), List.filter_nil]
          rfl
        rw [this, List.append_nil]
    rintro Hv ⟨sv, ev⟩
    rw [List.length_map, lg, List.take_length, gdr] at ev
    have ltv := ltu.grow sv
    clear ltu sv hG3 eg spg
    refine ⟨_, rfl, o8, dy, fy, rfl, ltv.hs.same _ _ oi0, on _ (by decide +kernel), _, rfl, o8, ts, n, rfl, oC.mono ltv.hs.same, fts, hn, fun Hw sw R1 hR1 => ?_⟩
    have shR : SeqAt.shaped (.list ((roundsL (cN ts) n).map PyData.int)) = true := ints_shaped _
    refine ⟨.list ((roundsL (cN ts) n).map PyData.int), .list ((roundsL (cN ts) n).map PyData.int), .lst (SqL.of (upd_old (sw _ _ ev) hR1)) (dps_ints _), .lst (SqL.of upd_same) (dps_ints _), shR, shR, _, rfl, ?_⟩
    rw [SeqAt.eqv_refl _ (shaped_lay shR)]
    refine iteF ?_
    have ltw := (ltv.grow sw).new (o := .lst ((roundsL (cN ts) n).map V.int)) hR1
    generalize upd Hw R1 (.lst ((roundsL (cN ts) n).map V.int)) = Hx at ltw
    clear ltv sw ev hR1 shR gdr glen lg
    -- far
    refine ⟨_, rfl, _, _, rfl, rfl, ⟨by decide, by decide, by decide⟩, _, _, rfl, rfl, by show 2 ≤ sizeLine; decide, fun Z nZ => ?_⟩
    dsimp only
    rw [show (10 : Int) ^ Int.toNat 18 + 1 = 1000000000000000001 from rfl, show (-(1 : Int)) = -1 from rfl]
    have dZ := ltw.hs.new nZ
    have ltx := ltw.new (o := .lst [.int (-1), .int 1000000000000000001]) nZ
    have eZ : upd Hx Z (.lst [.int (-1), .int 1000000000000000001]) Z = some (.lst [.int (-1), .int 1000000000000000001]) := upd_same
    generalize upd Hx Z (.lst [.int (-1), .int 1000000000000000001]) = Hy at ltx eZ
    refine ⟨_, rfl, h, l, 2, hid2 Hy h l, rfl, by decide, by decide, ltx.hs.re, fun H1 rr hs1 rr0 rr1 => ?_⟩
    replace eZ := hs1.same _ _ (HS.keep (H0 := C) eZ dZ.1 dZ.2)
    have lty := ltx.step hs1
    obtain ⟨far, ef, hfar⟩ : ∃ far : Int, atI [.int (-1), .int 1000000000000000001] rr = some (V.int far) ∧ ¬ (0 ≤ far ∧ far ≤ 1000000000000000000) := by
      rcases (show rr = 0 ∨ rr = 1 by omega) with z | z
      · exact ⟨-1, by rw [z]; rfl, by decide⟩
      · exact ⟨1000000000000000001, by rw [z]; rfl, by decide⟩
    refine ⟨Z, _, _, _, rfl, rfl, SqL.of eZ, ef, ?_⟩
    clear ltw ltx hs1 nZ dZ eZ ef rr0 rr1
    dsimp only [gName]
    refine capSN [some (.ref a), some (.ref h), some (.int (0 + (i : Int))), some (.ref p1), some (.ref S), some (.int (plRun (n : Nat) L).d), some (.int (plRun (n : Nat) L).b), some (.ref A9), some (.ref fp), some (.ref du), some (.ref od), some (.ref er2), some (.ref gp), some (.ref ep), x14, some (.ref bl), some (.int (n : Nat)), some (.int far), some (.ref o8), x19, x20, x21, x22] rfl ?_
    refine ⟨tabs_eq eq lty.tb, fun Hf1 f1 ex1 tb1 lam1 nf1 => ⟨tb1, fun Hf2 f2 ex2 tb2 lam2 nf2 => ⟨by show 2 ≤ sizeLine; decide, fun W hW => ?_⟩⟩⟩
    have ltz := ((lty.ext ex1 (tabs_of_eq eq tb1)).ext ex2 (tabs_of_eq eq tb2)).new (o := .lst [.ref f1, .ref f2]) hW
    have lms := (((Lams.one lam1).ext ex2).app (Lams.one lam2)).ext (LamX.ExtN.of (same_new (u := .lst [.ref f1, .ref f2]) hW))
    have w2 : upd Hf2 W (.lst [.ref f1, .ref f2]) W = some (.lst [.ref f1, .ref f2]) := upd_same
    generalize upd Hf2 W (.lst [.ref f1, .ref f2]) = H2 at ltz lms w2
    clear lty ex1 tb1 lam1 nf1 ex2 tb2 lam2 nf2 hW
    dsimp only [gName]
    refine capSN [some (.ref a), some (.ref h), some (.int (0 + (i : Int))), some (.ref p1), some (.ref S), some (.int (plRun (n : Nat) L).d), some (.int (plRun (n : Nat) L).b), some (.ref A9), some (.ref fp), some (.ref du), some (.ref od), some (.ref er2), some (.ref gp), some (.ref ep), some (.ref W), some (.ref bl), some (.int (n : Nat)), some (.int far), some (.ref o8), x19, x20, x21, x22] rfl ?_
    refine ⟨_, rfl, W, rfl, ⟨_, SqL.of w2⟩, fun D hD => ?_⟩
    refine all_tell (i := 21) (z := "number") (fs := [f1, f2]) (by show 21 < 23; decide) ltz.hs.same w2 lms (fun t m => ?_) hD (by show 2 ≤ 1000; decide) fun G es sG eD le he => ?_
    · simp only [List.cons_append, List.nil_append, List.mem_cons, List.not_mem_nil, or_false] at m
      rcases m with rfl | rfl
      · intro G Q' sG k3
        exact ⟨rfl, _, rfl, _, rfl, _, rfl, .inr ⟨_, _, far, rfl, hfar, .inr ⟨rfl, rfl, fun H2 p s2 hp => k3 H2 p s2 hp⟩⟩⟩
      · intro G Q' sG k3
        exact ⟨rfl, _, rfl, _, rfl, o8, ts, far, rfl, oC.mono sG, fts, dr.nm, hfar, fun H' s' => .inr ⟨rfl, rfl, fun H2 p s2 hp => k3 H2 p (s'.trans s2) hp⟩⟩
    have ltG := ltz.grow sG
    refine ⟨by show 1 ≤ sizeLine; decide, fun u hu => ⟨by show 1 ≤ sizeLine; decide, fun L1 hL1 => ⟨L1, _, _, rfl, rfl, upd_same, by decide, by decide, by show 1 * 2 ≤ sizeLine; decide, fun M hM => ?_⟩⟩⟩
    have ltN := ((ltG.new (o := .tup [.str "number"]) hu).new (o := .lst [.ref u]) hL1).new (o := .lst [.ref u, .ref u]) hM
    have shT : SeqAt.shaped (.list [telD "number", telD "number"]) = true := by decide +kernel
    have sN : Same G (upd (upd (upd G u (.tup [.str "number"])) L1 (.lst [.ref u])) M (.lst [.ref u, .ref u])) := (same_new hu).trans ((same_new hL1).trans (same_new hM))
    refine ⟨.list [telD "number", telD "number"], .list [telD "number", telD "number"], .lst (SqL.of (sN _ _ eD)) ?_, .lst (SqL.of upd_same) ?_, shT, shT, _, rfl, ?_⟩
    · have h1 := tel_dp (K := K) (H := upd (upd (upd G u (.tup [.str "number"])) L1 (.lst [.ref u])) M (.lst [.ref u, .ref u])) (z := "number") (es := es) fun e m => Same.tup sN (he e m)
      rw [le] at h1
      exact h1
    · exact rep_dp (SqT.of (upd_old (upd_old upd_same hL1) hM)) 2
    rw [SeqAt.eqv_refl _ (shaped_lay shT)]
    refine iteF ?_
    exact ⟨lowC _ ltN, _, _, _, _, _, _, _, _, _, _, _, _, _, _, _, _, _, _, _, _, _, rfl⟩
  · rintro σ H2 _
    exact k H2
end
end EB

namespace EB
open PySem PySem.Spec PyProof.Rows L2
theorem facts {w : World} {K : PySem.W.Frag} {h : Heap} {mg : Str → Option Value} {f : Addr} (X : K.In h) (G : h.Ns mainGlobals mg) (hfa : mg ("law" : Str) = some (.ref f)) (c : SaysL fas moreB dds tfs h K) :
    LamX.LawAtS PySem.Challenge.rw_emptiesback_k11_whole_steps w K CX0 13 63 "_law_script" mg f h := by
  obtain ⟨T⟩ := tx_of X G c.t
  have e := hfa.symm.trans T.g_law
  cases e
  have b := FunD.bindsA (ps := ["_law_script"]) (show FunD K d_law.nm d_law.ql (defArgs d_law.st) (defBody d_law.st) (defScope d_law.st) [] [] (d_law.adr K) T.fd_law from T.F_law) fun _ _ _ _ _ _ us hl => match us, hl with | [_], _ => rfl
  obtain ⟨oc, od, osl, cd, lk, hcd⟩ := code_of T.F_law
  have ec : He.codeOf K (("law" : Str), none) = cd := He.codeOf_eq lk hcd
  have hm : ((("law" : Str), none) : He.Defn) ∈ tfs := by unfold tfs; simp
  have sub : ∀ p ∈ [He.cT K (("law" : Str), none)], ∃ d ∈ tfs, He.cT K d = p := fun p hp => ⟨_, hm, (List.mem_singleton.mp hp).symm⟩
  refine ⟨T.fd_law, [He.cT K (("law" : Str), none)], spLaw K (He.cT K (("law" : Str), none)).2, fun p hp => ?_, fun p hp => ?_, fun p hp => ?_, fun s v => b s [v] rfl, fun H a ns hl _ hP hS => ⟨a, ns, rfl, hS, hl, hP _ (List.mem_cons_self ..), fun _ => rfl⟩, fun base hK _ TB => ?_⟩
  · obtain ⟨d, hd, rfl⟩ := sub p hp
    exact c.empty d hd
  · obtain ⟨d, hd, rfl⟩ := sub p hp
    exact c.out d hd
  · obtain ⟨d, hd, rfl⟩ := sub p hp
    exact PySem.W.codeHd_of_K X (c.hd d hd)
  · have tb := TB _ (List.mem_cons_self ..)
    refine ok_law (c := cd) T hK ?_ hcd
    rw [← ec]
    exact tb
end EB
open PySem PySem.W PySem.Calls PyProof.Rows in
theorem PySem.Challenge.cw_emptiesback_k11_whole_steps_holds : PySem.Challenge.rw_emptiesback_k11_whole_steps.Holds := by
  w_on; o_law
  refine HandSHeadRun.head_imp (r := OpenLaw.row PySem.Challenge.rw_emptiesback_k11_whole_steps) (q := view (OpenLaw.row PySem.Challenge.rw_emptiesback_k11_whole_steps).prog [0, 49]) (H := EB.hk) (ob := EB.ob) (M := 12000) (loose := EB.loose) (d := HandSHeadRun.topDef (OpenLaw.row PySem.Challenge.rw_emptiesback_k11_whole_steps).prog 49) (kwd := [])
    EB.ob_eq EB.run (by kernel_rfl) (by kernel_rfl) (by kernel_rfl) (by rfl) (by first | assumption | decide +kernel) (by decide +kernel) ⟨rfl, rfl, rfl, rfl, rfl, by decide +kernel⟩ ?hw ?hc
  case hw => w_witness2
  case hc =>
    refine LamX.walk_ofTsE (l := PySem.Challenge.rw_emptiesback_k11_whole_steps) (n := 63) (k := 13) (x := "_law_script") (CX := fun _ => L2.CX0) rfl (by decide) (by kernel_rfl) ⟨rfl, by decide, by decide⟩ ?F (fun _ _ _ _ _ z => z)
    intro w mg fa h Y G hmg0
    obtain ⟨K, KX, c⟩ := Y
    have hmg : mg ("law" : PySem.Str) = some (.ref fa) := by
      have e : (HandSHeadRun.topDef (OpenLaw.row PySem.Challenge.rw_emptiesback_k11_whole_steps).prog 49).name = ("law" : PySem.Str) := by kernel_rfl
      rw [← e]
      exact hmg0
    exact ⟨K, KX, EB.facts (w := w) KX G hmg c⟩

