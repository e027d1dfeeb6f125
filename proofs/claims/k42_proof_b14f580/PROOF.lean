import PyProof.Rows.All
import Wide.All
import OpenK.AllK
import Wide.FinOn
import KE.KStateDown
import KE.KMathGC
import HandS.ForMost
import HandS.More
import HandS.WordsExc
import HandS.Defaults
import HandS.Property
import HandS.ClsMeth
import HandS.Star
import HandS.Gcd
import HandS.Wide
import HandS.IsInst
import HandS.Walk
import HandS.Style
import HandS.TupAny
import HandS.DictComp
import HandS.Head0
import HandS.Head1
import HandS.Head2
import HandS.HeadEnd
import HandS.HeadHook1
import HandS.HeadHook2
import KE.GoesEnum
import KE.KTupSum
import HandS.NoneIn
import HandS.SlotsOwn
import KE.KOpsOwn
import KE.KParD
import HandS.ListItems
import HandS.Conv
import HandS.GenList
import HandS.Head3
import HandS.RaiseMore
import HandS.Small
import PySem.Challenge.RW_emptiesback_k42_whole_drinks_of_stocks
set_option Elab.async false
set_option linter.all false
set_option maxRecDepth 100000
set_option maxHeartbeats 0
/-! What every law here leans on: calls by positional promises, facts of the head, a heap that only grows. -/
namespace EB
open PySem PySem.Spec PyProof.Rows L2
section
variable {X : Cx} {CX : CXT} {k : Nat} {f C : Addr} {sp : Sp} {E : XK} {x m : Str} {e o : Expr} {es : List Expr} {ta : TE} {t : TA} {p pos apos : Pos}
/-- the promise sp asked of the values of the arguments -/
def tCR (sp : Sp) (E : XK) (t : TA) : TE := fun σ H Q => t σ H fun vs H1 => sp vs H1 Q E
theorem pe_cR (F : FnR X.prog X.w X.K X.mg X.base CX k f sp) (hr : Room k X.A) (hk : PySem.W.keepIn X.K (.ref f) = true) (hm : X.mg x = some (.ref f)) (hx : Passes CX X E) (ha : PA X (e :: es) t) (hg : Gl X x := by rfl)
    (hd : (x == ("__debug__" : Str)) = false := by decide) (he : starEach (e :: es) X.env = (false, eval e X.env) :: starEach es X.env := by rfl) (hp : (backTo pos (starEach es X.env)).any (·.1) = false := by rfl) :
    PE X (.Call (.Name x p) (e :: es) [] pos) (tCR sp E t) := by
  constructor
  intro pins s σ H Q I h
  refine wpAny_Call_Name_kw (ld_glob I hg hm ?_ hd)
  refine PySem.W.callWith_K (h₀ := X.base) I.ok.mod.kin hk (thn (ha.run pos pins s σ H _ I h) fun us s1 ⟨vs, H1, I1, r, q⟩ => ⟨I1.kIn, wpAny_call (run_fnR F hr hx I1 r q)⟩) he hp
/-- a method without arguments -/
def tM0 (C : Addr) (m : Str) (sp : Sp) (E : XK) (ta : TE) : TE := fun σ H Q => ta σ H fun x H1 => ∃ a dx fs, x = .ref a ∧ H1 a = some (.ins C dx fs) ∧ fs.lookup m = none ∧ sp [x] H1 Q E
end
/-- a tuple as the target of a comprehension -/
theorem pg_tupB {X : Cx} {s : Shared} {H : Hp} {scope : Scope} {cenv : Env} {fp : List Addr} {es : List Expr} {k : Nat} {t : TGs} {n : Nat} {pos : Pos} (h : PGs (X.blk s H scope cenv fp) es t) (hc : X.calm = true := by rfl)
    (hn : (assignEach es cenv).length = n := by rfl) (hst : (assignEach es cenv).findIdx? (·.1) = none := by rfl) : PG (X.blk s H scope cenv fp) (.Tuple es k pos) (gTup X.K n t) := pg_tup (X := X.blk s H scope cenv fp) hc h hn hst
/-! ### a heap that only grows -/
theorem same_new {H : Hp} {q : Addr} {u : HO} (h : H q = none) : Same H (upd H q u) := fun b o e => by
  rw [upd_ne (ne_of_none e h)]
  exact e
theorem same_mut {H0 H : Hp} {q : Addr} {u : HO} (s : Same H0 H) (h : H0 q = none) : Same H0 (upd H q u) := fun b o e => by
  rw [upd_ne (ne_of_none e h)]
  exact s b o e
theorem Same.tup {K : PySem.W.Frag} {H H' : Hp} {a : Addr} {xs : List V} (e : Same H H') (h : SqT K H a xs) : SqT K H' a xs := by
  rcases h with (h | ⟨o, h⟩) | h
  · exact .inl (.inl (e _ _ h))
  · exact .inl (.inr ⟨o, e _ _ h⟩)
  · exact .inr h
theorem upd_old {H : Hp} {a q : Addr} {o u : HO} (h : H a = some o) (n : H q = none) : upd H q u a = some o := by
  rw [upd_ne (ne_of_none h n)]
  exact h
/-! ### the head's facts -/
/-- the object of a def -/
def fdAt (K : PySem.W.Frag) (a : Addr) : Option FuncData := match K.lookup a with
  | some o => (match o.data with
    | .func fd => some fd
    | _ => none)
  | none => none
abbrev FS : Type := Str × Str × Arguments × FuncBody × Scope × Addr × List (Str × Addr) × Addr
def fsOf (fd : FuncData) : FS := (fd.name, fd.qualname, fd.params, fd.body, fd.scope, fd.globals, fd.closure, fd.builtins)
/-- one def of the text: where it is found, what it is -/
structure DD where
  adr : PySem.W.Frag → Addr
  nm : Str
  ql : Str
  st : Stmt
  df : List He.Dv := []
  cl : Bool := false
def DD.fs (d : DD) : FS := (d.nm, d.ql, defArgs d.st, .stmts (defBody d.st), defScope d.st, mainGlobals, [], builtinsNs)
/-- cl: the def sees __class__ from outside; its closure is looked at apart -/
def DD.obs (K : PySem.W.Frag) (d : DD) : Option FS := (fdAt K (d.adr K)).map fun fd => if d.cl then fsOf { fd with closure := [] } else fsOf fd
def DD.ok (K : PySem.W.Frag) (d : DD) : Bool := PySem.W.keepIn K (.ref (d.adr K)) && (match fdAt K (d.adr K) with
  | some fd => PySem.W.codeIn K fd.code d.ql && He.dflB K fd.defaults (d.df.map (He.Dv.v K))
  | none => false)
/-- the def d, its function's data fd -/
abbrev FnP (K : PySem.W.Frag) (d : DD) (fd : FuncData) : Prop := FunD K d.nm d.ql (defArgs d.st) (defBody d.st) (defScope d.st) (d.df.map (He.Dv.v K)) [] (d.adr K) fd
theorem DD.fun {K : PySem.W.Frag} {d : DD} (hcl : d.cl = false) (e : d.obs K = some d.fs) (c : d.ok K = true) : ∃ fd, FnP K d fd := by
  obtain ⟨kp, c2⟩ := Bool.and_eq_true_iff.mp c
  unfold DD.obs at e
  cases q : fdAt K (d.adr K) with
  | none =>
    rw [q] at e
    cases e
  | some fd =>
    rw [q] at e c2
    rw [hcl] at e
    obtain ⟨c3, c4⟩ := Bool.and_eq_true_iff.mp c2
    unfold fdAt at q
    cases l : K.lookup (d.adr K) with
    | none =>
      rw [l] at q
      cases q
    | some o =>
      rw [l] at q
      obtain ⟨oc, od, dt, osl⟩ := o
      cases dt with
      | func fd' =>
        have ef : fd' = fd := Option.some.inj q
        subst ef
        have e2 : fsOf fd' = d.fs := Option.some.inj e
        obtain ⟨n1, n2, n3, n4, n5, n6, n7, n8, n9, n10, n11, n12, n13, n14, n15⟩ := fd'
        simp only [fsOf, DD.fs, Prod.mk.injEq] at e2
        obtain ⟨h1, h2, h3, h4, h5, h6, h7, h8⟩ := e2
        subst h1 h2 h3 h4 h5 h6 h7 h8
        exact ⟨_, ⟨oc, od, n8, n9, n10, n11, n12, n13, n14, osl, rfl, l, c3, He.dflB_ok c4, .inl rfl⟩, kp⟩
      | _ => cases q
/-- a property's getter -/
def propG (K : PySem.W.Frag) (C p : Addr) : Addr := match PySem.W.recIn K p "property" with
  | some (.ref g :: _) => g
  | _ => 0
def okProp (K : PySem.W.Frag) (x f : Str) : Bool :=
  He.eqO (PySem.W.findIn K (.ref (He.ga K x)) f) (some (some (.ref (He.ma K (He.ga K x) f)))) && (He.eqO (PySem.W.specialIn K (.ref (He.ma K (He.ga K x) f)) "__get__") (some (some (.builtin "property.__get__"))) &&
  (decide (PySem.W.takesIn K (.ref (He.ma K (He.ga K x) f)) = some true) && (match PySem.W.recIn K (He.ma K (He.ga K x) f) "property" with
    | some (.ref g :: _) => decide (g = propG K (He.ga K x) (He.ma K (He.ga K x) f))
    | _ => false)))
theorem okProp_of {K : PySem.W.Frag} {x f : Str} (h : okProp K x f = true) : PropOf K (He.ga K x) f (He.ma K (He.ga K x) f) (propG K (He.ga K x) (He.ma K (He.ga K x) f)) := by
  obtain ⟨h1, h⟩ := Bool.and_eq_true_iff.mp h
  obtain ⟨h2, h⟩ := Bool.and_eq_true_iff.mp h
  obtain ⟨h3, h4⟩ := Bool.and_eq_true_iff.mp h
  refine ⟨He.eqO_ok h1, He.eqO_ok h2, of_decide_eq_true h3, ?_⟩
  split at h4
  · rename_i g rest e
    exact ⟨rest, by rw [e, ← of_decide_eq_true h4]⟩
  · cases h4
def okCallO (K : PySem.W.Frag) (x : Str) : Bool :=
  He.eqO (PySem.W.findIn K (.ref (He.ga K x)) "__call__") (some (some (.ref (He.ma K (He.ga K x) "__call__")))) && (PySem.W.isFn K (.ref (He.ma K (He.ga K x) "__call__")) && PySem.W.fnIn K (He.ma K (He.ga K x) "__call__"))
theorem okCallO_of {K : PySem.W.Frag} {x : Str} (h : okCallO K x = true) : StX.CallO K (He.ga K x) (He.ma K (He.ga K x) "__call__") := by
  obtain ⟨h1, h⟩ := Bool.and_eq_true_iff.mp h
  obtain ⟨h2, h3⟩ := Bool.and_eq_true_iff.mp h
  exact ⟨He.eqO_ok h1, h2, h3⟩
def okBlt (K : PySem.W.Frag) (x : Str) (id : String) : Bool := He.eqO (PySem.W.nsIn K mainGlobals x) (some (some (.builtin id)))
theorem okBlt_of {K : PySem.W.Frag} {h : Heap} {mg : Str → Option Value} {x : Str} {id : String} (X : K.In h) (G : h.Ns mainGlobals mg) (c : okBlt K x id = true) : mg x = some (.builtin id) := PySem.W.mg_of X G (He.eqO_ok c)
/-- all that is looked at behind the top -/
abbrev Seen : Type := Bool × List (Option FS)
def seen (fa : List He.Fa) (more : PySem.W.Frag → Bool) (ds : List DD) (K : PySem.W.Frag) : Seen := ((fa.all fun f => f.ok K) && (more K && ds.all fun d => d.ok K), ds.map fun d => d.obs K)
def want (ds : List DD) : Seen := (true, ds.map fun d => some d.fs)
def Says (fa : List He.Fa) (more : PySem.W.Frag → Bool) (ds : List DD) (K : PySem.W.Frag) : Prop := seen fa more ds K = want ds
def hook (n : Nat) (fa : List He.Fa) (more : PySem.W.Frag → Bool) (ds : List DD) : PySem.W.Hook where
  α := Seen
  obs := fun s => seen fa more ds (He.frG s.heap.get? (cStatics :: He.asD s.heap.get? n))
  val := fun _ => want ds
  says := fun _ h => ∃ K : PySem.W.Frag, K.In h ∧ Says fa more ds K
  of := fun _ _ e => ⟨_, He.frG_in, e⟩
  keeps := fun _ _ _ ⟨K, hK, c⟩ k => ⟨K, PySem.W.Frag.In.keeps hK k, c⟩
section
variable {fa : List He.Fa} {more : PySem.W.Frag → Bool} {ds : List DD} {K : PySem.W.Frag}
theorem Says.bools (c : Says fa more ds K) : (∀ f ∈ fa, f.ok K = true) ∧ more K = true ∧ ∀ d ∈ ds, d.ok K = true := by
  have c1 : ((fa.all fun f => f.ok K) && (more K && ds.all fun d => d.ok K)) = true := congrArg (fun z : Seen => z.1) c
  obtain ⟨c2, c3⟩ := Bool.and_eq_true_iff.mp c1
  obtain ⟨c4, c5⟩ := Bool.and_eq_true_iff.mp c3
  exact ⟨fun f h => List.all_eq_true.mp c2 f h, c4, fun d h => List.all_eq_true.mp c5 d h⟩
theorem Says.fact (c : Says fa more ds K) (i : Nat) {f : He.Fa} (h : fa[i]? = some f := by rfl) : f.ok K = true := c.bools.1 f (List.mem_of_getElem? h)
theorem Says.fn0 (c : Says fa more ds K) (i : Nat) {d : DD} (h : ds[i]? = some d := by rfl) : d.obs K = some d.fs ∧ d.ok K = true := by
  have e : ds.map (fun d => d.obs K) = ds.map fun d => some d.fs := congrArg (fun z : Seen => z.2) c
  have e2 : (ds.map fun d => d.obs K)[i]? = (ds.map fun d => some d.fs)[i]? := by rw [e]
  rw [List.getElem?_map, List.getElem?_map, h] at e2
  exact ⟨Option.some.inj e2, c.bools.2.2 d (List.mem_of_getElem? h)⟩
theorem Says.fn (c : Says fa more ds K) (i : Nat) {d : DD} (h : ds[i]? = some d := by rfl) (hcl : d.cl = false := by rfl) : ∃ fd, FnP K d fd := DD.fun hcl (c.fn0 i h).1 (c.fn0 i h).2
end
end EB
namespace EB
open PySem PySem.Spec PyProof.Rows L2
theorem pe_cI {X : Cx} {x : Str} {i : Int} {pos : Pos} (hm : ∃ t, X.mg x = some (.int i t)) (hg : Gl X x := by rfl) (hd : (x == ("__debug__" : Str)) = false := by decide) : PE X (.Name x pos) (tC (.int i)) := by
  obtain ⟨t, h⟩ := hm
  exact pe_glob hg h ⟨t, rfl⟩ hd
theorem pe_cS {X : Cx} {x z : Str} {pos : Pos} (hm : ∃ t, X.mg x = some (.str z t)) (hg : Gl X x := by rfl) (hd : (x == ("__debug__" : Str)) = false := by decide) : PE X (.Name x pos) (tC (.str z)) := by
  obtain ⟨t, h⟩ := hm
  exact pe_glob hg h ⟨t, rfl⟩ hd
theorem pe_cC {X : Cx} {x : Str} {C : Addr} {pos : Pos} (hm : X.mg x = some (.ref C)) (hg : Gl X x := by rfl) (hd : (x == ("__debug__" : Str)) = false := by decide) : PE X (.Name x pos) (tC (.ref C)) := pe_glob hg hm rfl hd
/-- a constant of a class, read off the class -/
def okRead (K : PySem.W.Frag) (x : Str) : Bool := PySem.W.readsIn K (He.ga K x) (.type "type") && He.eqO (PySem.W.specialIn K (.ref (He.ga K x)) "__getattribute__") (some (some (.builtin "type.__getattribute__")))
theorem okRead_of {K : PySem.W.Frag} {x : Str} (h : okRead K x = true) : ClX.CRead K (He.ga K x) (.type "type") := by
  obtain ⟨h1, h2⟩ := Bool.and_eq_true_iff.mp h
  exact ⟨h1, He.eqO_ok h2⟩
def okCVal (K : PySem.W.Frag) (x f : Str) (v : V) : Bool := match PySem.W.findCls K (.ref (He.ga K x)) (.type "type") f with
  | some (.val u) => He.relB v u
  | _ => false
theorem okCVal_of {K : PySem.W.Frag} {x f : Str} {v : V} (h : okCVal K x f v = true) : ∃ u, ClX.CVal K (He.ga K x) (.type "type") f v u := by
  unfold okCVal at h
  split at h
  · rename_i u e
    exact ⟨u, e, He.relB_ok h⟩
  · cases h
/-! ### the same rules with the written part named: within a comprehension it may not hang on the block -/
section
variable {X : Cx} {K : PySem.W.Frag}
theorem ix_listK (h : X.K = K) : IxR X (rIxL K) := h ▸ ix_list
theorem ix_seqK (h : X.K = K) : IxR X (rIx K) := h ▸ ix_seq
theorem ix_tupK (h : X.K = K) : IxR X (rIxT K) := h ▸ ix_tup
theorem sl_listK (h : X.K = K) : SlR X (rSlL K) := h ▸ sl_list
theorem sl_tupAK (h : X.K = K) : SlR X (rSlA K) := h ▸ sl_tupA
theorem op_catAK (h : X.K = K) : OpR X (binaryOp .Add) (rCatA K) := h ▸ op_catA
theorem op_in_seqK (h : X.K = K) : OpR X (compareOp .In) (rIn K false) := h ▸ op_in_seq
theorem op_notIn_seqK (h : X.K = K) : OpR X (compareOp .NotIn) (rIn K true) := h ▸ op_notIn_seq
def rLenK (K : PySem.W.Frag) : List V → Hp → VK → Prop := fun xs H Q => ∃ p ys, xs = [.ref p] ∧ (SqL K H p ys ∨ SqT K H p ys) ∧ Q (.int ys.length) H
theorem call_len_seqK (h : X.K = K) : CallR X (.builtin "len") (rLenK K) := h ▸ call_len_seq
theorem cr_sumK (hc : X.calm = true) (h : X.K = K) : CallR X (.builtin "sum") (rSum K) := h ▸ cr_sum hc
theorem pi_listK {tg l : Expr} {tl : TE} (h : X.K = K) (hl : PE X l tl) : PI X tg l (iList K tl) := h ▸ pi_list hl
theorem pi_tupK {tg l : Expr} {tl : TE} (h : X.K = K) (hl : PE X l tl) : PI X tg l (iTup K tl) := h ▸ pi_tup hl
theorem pe_fldK {e : Expr} {f : Str} {ta : TE} {pos : Pos} (h : X.K = K) (he : PE X e ta) (hb : attributeBase e f X.env (eval e X.env) = eval e X.env) : PE X (.Attribute e f pos) (tFld K ta f) := h ▸ pe_fld he hb
end
end EB

/-! enumerate over a tuple; lcm. -/
namespace EB
open PySem PySem.Spec PyProof.Rows L2
def rLcm : List V → Hp → VK → Prop := fun vs H Q => ∃ x y : Int, vs = [.int x, .int y] ∧ x.natAbs < 2 ^ 64 ∧ y.natAbs < 2 ^ 64 ∧ Q (.int ((x.natAbs.lcm y.natAbs : Nat) : Int)) H
theorem cr_lcm {X : Cx} : CallR X (.builtin "math.lcm") rLcm := by
  rintro pins s σ H vs us Q I r ⟨x, y, rfl, hx, hy, q⟩
  obtain ⟨t, u, rfl⟩ := Vals.int2 r
  exact PySem.W.mc_lcm hx hy fun _ => ⟨.int _, H, I.tok _, ⟨_, rfl⟩, q⟩
/-- sum of a tuple of ints -/
def rSumT (K : PySem.W.Frag) : List V → Hp → VK → Prop := fun vs H Q => ∃ (a : Addr) (ns : List Int), vs = [V.ref a] ∧ SqT K H a (ns.map V.int) ∧ Q (.int ns.sum) H
theorem cr_sumT {X : Cx} (hc : X.calm = true) : CallR X (.builtin "sum") (rSumT X.K) := by
  rintro pins s σ H vs us Q I r ⟨a, ns, rfl, hs, q⟩
  obtain ⟨its, rv, ht, _⟩ := I.tuple hs
  rw [Vals.ref1 r]
  have hi : IntsAre its ns := rv.ints
  obtain ⟨xs, e⟩ := hi.allInts.items
  have hn : numsOf (intItems xs).toList = ns := by
    rw [← e]
    exact hi.numsOf
  rw [nums_intItems] at hn
  have ht2 : s.heap.IsTuple a (intItems xs) := by
    rw [← e]
    exact ht
  refine PySem.W.ktm_sumG (I.ok.hd hc) ht2 fun h' tk t' hk => ?_
  rw [preSum_eq, List.take_of_length_le (by simp), hn]
  exact ⟨.int _, H, I.kept hk, ⟨_, rfl⟩, q⟩
/-- o.m(), a positional promise -/
theorem pe_methR0 {X : Cx} {CX : CXT} {k : Nat} {C f : Addr} {m : Str} {sp : Sp} {E : XK} {o : Expr} {ta : TE} {apos pos : Pos} {pl : Sem Bool} (he : PE X o ta) (c : Cls X.K C) (hm : Meth X.K C m f) (F : FnR X.prog X.w X.K X.mg X.base CX k f sp) (hr : Room k X.A) (hx : Passes CX X E)
    (ht : eval (.Call (.Attribute o m apos) [] [] pos) X.env = (do
      let v ← eval o X.env
      standAt apos.atName
      let (g, fst) ← holding [v] (getMethod v m pl)
      callWith pos g fst (backTo pos (starEach [] X.env)) (backToKw pos (keywordEach [] X.env))) := by rfl) : PE X (.Call (.Attribute o m apos) [] [] pos) (tM0 C m sp E ta) := by
  constructor
  intro pins s σ H Q I h
  refine PySem.W.methodCall_KW (pl := pl) (thn (he.run pins s σ H _ I h) fun u s1 ⟨x, H1, I1, rx, a, dx, fs, ex, ea, l, q⟩ => ?_) ht
  subst ex
  obtain rfl : u = Value.ref a := rx
  refine getmeth_ok I1 ea c hm l ?_
  exact PySem.W.callWith_K0 (first := [.ref a]) I1.kIn hm.kp (wpAny_call (run_fnR (us := [.ref a]) (vs := [.ref a]) F hr hx I1 (.cons rfl .nil) q))
theorem meets_enumV {v : Value} {o : Obj} {G : Heap → Prop} (B : Begins v o G) :
    Meets (Builtin.«enumerate.__new__» ⟨[.type "enumerate", v], []⟩) (fun _ R s => G s.heap ∧
      R (.ok (.ret (.ref (s.heap.push o).objs.size))) { s with heap := (s.heap.push o).push { cls := .type "enumerate", data := .fields #[.none, .bool false, .ref s.heap.objs.size, rawInt 0, .none, .none] } }) :=
  .of_wp fun prog w A R s h => by
    obtain ⟨hp, g, d, tk, os⟩ := s
    obtain ⟨h1, h⟩ := h
    have hsub := sub_enumerate
    have q1 : ∀ {A' : Around} {E : Value → Shared → Prop} {Q : Value → Shared → Prop}, Q (.ref hp.objs.size) ⟨hp.push o, g, d, tk, os⟩ → wpAny (model prog w) A' (pyIter v) Q E ⟨hp, g, d, tk, os⟩ :=
      fun q => B.iter prog w _ _ ⟨hp, g, d, tk, os⟩ _ h1 q
    wp_walk using q1
    refine wpAny_stack_any fun st => wpAny_pure ?_
    split
    · rename_i c _ _ _ _ _
      cases (c == Value.type "enumerate")
      · wp_walk using q1
        exact ⟨_, rfl, h⟩
      · wp_walk using q1
        exact ⟨_, rfl, h⟩
    · wp_walk using q1
      exact ⟨_, rfl, h⟩
theorem call_enumT {prog : Program} {w : World} {A : Around} {E : Value → Shared → Prop} {s : Shared} {a : Addr} {its : Array Value} {Q : Value → Shared → Prop} (ht : s.heap.IsTuple a its)
    (h : ∀ h', IsEnum h' (s.heap.objs.size + 1) s.heap.objs.size 0 .none → h'.IsTupleIter s.heap.objs.size a 0 → (∀ b o, s.heap.get? b = some o → h'.get? b = some o) → Q (.ref (s.heap.objs.size + 1)) { s with heap := h' }) :
    wpAny (model prog w) A (call (.type "enumerate") [.ref a]) Q E s := by
  refine callType_new F.called_enumerate (by decide) (F.typeCall_enumerate_1 _) (F.newCall_enumerate_1 _) (fun obj => F.args_object_init_2 obj _) F.entry_enumerate_new (meets_enumV (begins_tuple a its)) ⟨ht, ?_⟩
  have hz : (s.heap.push { cls := .type "tuple_iterator", data := .fields #[.ref a, .int 0 0] }).objs.size = s.heap.objs.size + 1 := Heap.size_push ..
  show _ ∧ _
  rw [hz]
  have he : IsEnum ((s.heap.push { cls := .type "tuple_iterator", data := .fields #[.ref a, .int 0 0] }).push { cls := .type "enumerate", data := .fields #[.none, .bool false, .ref s.heap.objs.size, rawInt 0, .none, .none] }) (s.heap.objs.size + 1) s.heap.objs.size 0 .none := by
    have z := Heap.get?_push_size (s.heap.push { cls := .type "tuple_iterator", data := .fields #[.ref a, .int 0 0] }) (o := { cls := .type "enumerate", data := .fields #[.none, .bool false, .ref s.heap.objs.size, rawInt 0, .none, .none] }) rfl
    rw [hz] at z
    exact z
  exact ⟨⟨_, he, rfl⟩, h _ he ⟨_, Heap.get?_push_of_some _ (Heap.get?_push_size _ rfl), rfl, rfl⟩ fun b o x => Heap.get?_push_of_some _ (Heap.get?_push_of_some _ x)⟩
/-- the tuple at a as it stands at each turn, each item in a new pair with its place -/
def ItE (K : PySem.W.Frag) (a : Addr) : It :=
  ⟨fun i H => ∃ (xs : List V) (x : V), SqT K H a xs ∧ xs[i]? = some x, fun i H v H' => ∃ q x, v = .ref q ∧ H q = none ∧ H' = upd H q (.tup [.int (i : Nat), x]) ∧ ∀ xs, SqT K H a xs → xs[i]? = some x,
    fun i H => ∃ xs : List V, SqT K H a xs ∧ xs.length = i⟩
theorem turn_E {P : Program} {w : World} {K : PySem.W.Frag} {elts : List Expr} {kk : Nat} {tpos : Pos} (a e it : Addr) :
    Turn P w K (.Tuple elts kk tpos) (ItE K a) [e, it] e (fun i h => (∃ old, IsEnum h e it ((i : Nat) : Int) old) ∧ h.IsTupleIter it a i ∧ e ≠ it ∧ a ≠ it ∧ a ≠ e) where
  mem := by simp
  obj := fun i h st b hb => by
    obtain ⟨⟨old, he⟩, ⟨o, ho, hc, hd⟩, _⟩ := st
    rcases (show b = e ∨ b = it by simpa using hb) with rfl | rfl
    · exact ⟨_, he, fun v q => nomatch q⟩
    · exact ⟨o, ho, fun v q => by rw [hd] at q; cases q⟩
  keep := fun i h h' st k => by
    obtain ⟨⟨old, he⟩, hi, hne⟩ := st
    exact ⟨⟨old, k e (by simp) _ he⟩, hi.at fun o q => k it (by simp) o q, hne⟩
  item := by
    intro X hP hw hK hc i pins s σ H E I hf st hg
    subst hP hw hK
    obtain ⟨⟨old, he⟩, hit, hne, hai, hae⟩ := st
    obtain ⟨xs, x, hq, hx⟩ := hg
    obtain ⟨its, rv, p, hz⟩ := I.tuple hq
    obtain ⟨u, hu, ru⟩ := rv.get hx
    have hlt : i < its.toArray.size := by
      have z := (List.getElem?_eq_some_iff.mp hu).1
      simpa using z
    have hel : e < s.heap.objs.size := Heap.lt_size he
    have hil : it < s.heap.objs.size := by
      obtain ⟨_, q, _⟩ := hit
      exact Heap.lt_size q
    have p' : s.heap.IsTuple a its.toArray := p
    refine wpAny_pyNext_enum_itemC (Draws.tuple (prog := X.prog) (w := X.w) (show X.A.in1.handled = none from I.ok.hd hc) it a hai its.toArray) he ⟨hit, p'⟩ hlt hne (by simp [hne, Ne.symm hae]) fun u' h' tk hu' ho hs' hT hsz hk => ?_
    have eu : u' = u := by
      have z : its.toArray[i]? = some u' := hu'
      rw [show its.toArray[i]? = some u by simpa using hu] at z
      exact (Option.some.inj z).symm
    subst eu
    refine ⟨_, rfl, wpAny_letOwnedTupleGo_enum (s := { s with heap := h', toks := tk + 1 }) ho fun h'' he' sb => ?_⟩
    have hT2 : h''.get? s.heap.objs.size = some { cls := .type "tuple", data := .seq #[.int i tk, u'] } := (sb.2 _ (Nat.ne_of_gt hel)).trans hT
    have new : ObjOk X.prog X.w (upd H s.heap.objs.size (.tup [.int (i : Nat), x])) h'' s.heap.objs.size (.tup [.int (i : Nat), x]) := by
      refine ⟨?_, [.int i tk, u'], .cons ⟨_, rfl⟩ (.cons ru .nil), ⟨_, hT2, rfl, _, rfl⟩⟩
      show 2 ≤ sizeLine
      decide
    have I1 : Inv X pins σ (upd H s.heap.objs.size (.tup [.int (i : Nat), x])) { s with heap := h'', toks := tk + 1 } := by
      refine I.turnedNew (ch := [e, it]) (fun b ob hb q => ?_) hf (Nat.le_refl _) new
      have b1 : b ≠ e := fun z => hb (by simp [z])
      have b2 : b ≠ it := fun z => hb (by simp [z])
      exact (sb.2 b b1).trans (hk b ob b1 b2 q)
    refine ⟨.ref s.heap.objs.size, _, I1, rfl, ⟨_, x, rfl, I.hok.fresh (Nat.le_refl _), rfl, fun ys hy => ?_⟩, ⟨⟨u', ?_⟩, ?_, hne, hai, hae⟩, fun b hb => ?_⟩
    · rw [I.tuple_inj hy hq]
      exact hx
    · rw [show ((i + 1 : Nat) : Int) = (i : Int) + 1 by omega]
      exact he'
    · exact hs'.1.at fun o q => (sb.2 it (Ne.symm hne)).trans q
    · have hb' : b < s.heap.objs.size := by
        rcases (show b = e ∨ b = it by simpa using hb) with rfl | rfl
        · exact hel
        · exact hil
      rw [upd_ne (Nat.ne_of_lt hb')]
      exact (hf b hb).1
  done := by
    intro X hP hw hK hc i pins s σ H E I hf st hg
    subst hP hw hK
    obtain ⟨⟨old, he⟩, hit, hne, hai, hae⟩ := st
    obtain ⟨xs, hq, hx⟩ := hg
    obtain ⟨its, rv, p, hz⟩ := I.tuple hq
    obtain ⟨f0, f1, f2, f3, f4, f5⟩ := hf it (by simp)
    have hl := rv.length
    have p' : s.heap.IsTuple a its.toArray := p
    have es : its.toArray.size = i := by
      rw [List.size_toArray]
      omega
    refine wpAny_pyNext_enum_endD (Draws.tuple (prog := X.prog) (w := X.w) (show X.A.in1.handled = none from I.ok.hd hc) it a hai its.toArray) he ?_ fun h' eb => ⟨rfl, I.turned (t' := s.toks) (fun b o hb q => eb b o hb q) f0 f1 f3 f4 f5⟩
    rw [es]
    exact ⟨hit, p'⟩
  self := fun A i s Q E st h => by
    obtain ⟨⟨_, he⟩, _⟩ := st
    exact wpAny_pyIter_enum he h
def iEnumT (K : PySem.W.Frag) (ta : TA) : TI := fun σ H R => ta σ H fun vs H1 => ∃ a xs, vs = [.ref a] ∧ SqT K H1 a xs ∧ R (ItE K a) H1
theorem pi_enumT {X : Cx} {e : Expr} {ta : TA} {p pos tpos : Pos} {elts : List Expr} {kk : Nat} (hg : Gl X "enumerate") (hm : X.mg "enumerate" = none) (ha : PA X [e] ta) (hs : starEach [e] X.env = [(false, eval e X.env)] := by rfl) :
    PI X (.Tuple elts kk tpos) (.Call (.Name "enumerate" p) [e] [] pos) (iEnumT X.K ta) := by
  constructor
  intro pins s σ H R I h
  refine Call_ (ld_blt I hg hm boot_enumerate (PyProof.Rows.callWith_type1 (thn (ha.run pos pins s σ H _ I h) fun us s1 ⟨vs, H1, I1, r1, q1⟩ => ?_) hs rfl))
  obtain ⟨a, xs, rfl, hq, q⟩ := q1
  cases r1 with
  | cons r rr =>
    cases rr
    cases r
    obtain ⟨its, rv, p', hz⟩ := I1.tuple hq
    have al : a < s1.heap.objs.size := by
      obtain ⟨_, z, _⟩ := (show s1.heap.IsTuple a its.toArray from p')
      exact Heap.lt_size z
    refine call_enumT (show s1.heap.IsTuple a its.toArray from p') fun h' he hit hk => wpAny_pyIter_enum he ?_
    have I2 : Inv X pins σ H1 { s1 with heap := h' } := I1.kept (t' := s1.toks) hk
    refine ⟨s1.heap.objs.size + 1, [s1.heap.objs.size + 1, s1.heap.objs.size], _, _, H1, rfl, I2, turn_E a (s1.heap.objs.size + 1) s1.heap.objs.size, ⟨⟨.none, he⟩, hit, Nat.succ_ne_self _, Nat.ne_of_lt al, Nat.ne_of_lt (Nat.lt_succ_of_lt al)⟩, fun b hb => ?_, q⟩
    have hle : s1.heap.objs.size ≤ b := by
      rcases (show b = s1.heap.objs.size + 1 ∨ b = s1.heap.objs.size by simpa using hb) with z | z
      · rw [z]
        exact Nat.le_add_right _ _
      · rw [z]
        exact Nat.le_refl _
    exact I1.fpOk hle (I1.hok.fresh hle)
theorem walk_enumT {K : PySem.W.Frag} {a : Addr} {xs : List V} : Walk (ItE K a) xs.length (fun H => SqT K H a xs) (YPair (fun i => some (.int (i : Nat))) (fun i => xs[i]?)) where
  goes := fun i H hi hs => ⟨xs, xs[i], hs, List.getElem?_eq_getElem hi⟩
  stops := fun H hs => ⟨xs, hs, rfl⟩
  yields := fun i H x H' hi hs h => by
    obtain ⟨q, y, e1, e2, e3, e4⟩ := h
    exact ⟨q, .int (i : Nat), y, e1, e2, e3, rfl, e4 xs hs⟩
end EB
namespace EB
open PySem PySem.Spec PyProof.Rows L2
section
variable {X : Cx} {CX : CXT} {k : Nat} {C g : Addr} {sp : Sp} {E : XK}
/-- x in o, o an instance whose class says __contains__ -/
def rInO (C : Addr) (neg : Bool) (sp : Sp) (E : XK) : R2 := fun x y H Q => ∃ a dx fs, y = .ref a ∧ H a = some (.ins C dx fs) ∧ sp [y, x] H (fun z H' => ∃ b, z = .bl b ∧ Q (.bl (if neg then !b else b)) H') E
theorem op_inO (hs : PySem.W.findIn X.K (.ref C) "__contains__" = some (some (.ref g))) (hf : PySem.W.isFn X.K (.ref g) = true) (F : FnR X.prog X.w X.K X.mg X.base CX k g sp) (hr : Room k X.A) (hx : Passes CX X E) : OpR X (compareOp .In) (rInO C false sp E) := by
  rintro pins s σ H x y v u Q I rx ry ⟨a, dx, fs, rfl, ha, q⟩
  cases (show u = Value.ref a from ry)
  obtain ⟨ox, od, J, _⟩ := StX.insC_at I (.inr ⟨dx, fs, ha⟩)
  obtain ⟨m, hF⟩ := I.fr
  refine PySem.W.in_K hF I.ok.mod.kin J hs hf (thn (wpAny_call (run_fnR (us := [.ref a, v]) (vs := [.ref a, x]) F hr hx I (.cons rfl (.cons rx .nil)) q)) fun w' s' hz => ?_)
  obtain ⟨z, H', I', rz, b, rfl, qb⟩ := hz
  exact thn (tru_ok (X := X) pins s' σ H' (.bl b) w' (fun k H'' => k = b ∧ H'' = H') I' rz ⟨b, rfl, rfl, rfl⟩) fun k s'' ⟨H'', I'', e1, e2⟩ => by
    subst e1 e2
    exact ⟨.bl k, H'', I'', rfl, qb⟩
theorem op_notInO (hs : PySem.W.findIn X.K (.ref C) "__contains__" = some (some (.ref g))) (hf : PySem.W.isFn X.K (.ref g) = true) (F : FnR X.prog X.w X.K X.mg X.base CX k g sp) (hr : Room k X.A) (hx : Passes CX X E) : OpR X (compareOp .NotIn) (rInO C true sp E) := by
  rintro pins s σ H x y v u Q I rx ry ⟨a, dx, fs, rfl, ha, q⟩
  cases (show u = Value.ref a from ry)
  obtain ⟨ox, od, J, _⟩ := StX.insC_at I (.inr ⟨dx, fs, ha⟩)
  obtain ⟨m, hF⟩ := I.fr
  refine PySem.W.notIn_K hF I.ok.mod.kin J hs hf (thn (wpAny_call (run_fnR (us := [.ref a, v]) (vs := [.ref a, x]) F hr hx I (.cons rfl (.cons rx .nil)) q)) fun w' s' hz => ?_)
  obtain ⟨z, H', I', rz, b, rfl, qb⟩ := hz
  exact thn (tru_ok (X := X) pins s' σ H' (.bl b) w' (fun k H'' => k = b ∧ H'' = H') I' rz ⟨b, rfl, rfl, rfl⟩) fun k s'' ⟨H'', I'', e1, e2⟩ => by
    subst e1 e2
    exact ⟨.bl (!k), H'', I'', rfl, qb⟩
/-- x op y, both instances; the class of x says op -/
def rCmpO (K : PySem.W.Frag) (C : Addr) (sp : Sp) (E : XK) : R2 := fun x y H Q => ∃ a dx fs b dy gs, x = .ref a ∧ y = .ref b ∧ H a = some (.ins C dx fs) ∧ H b = some (.ins C dy gs) ∧ PySem.W.notFirst K C (.ref C) = true ∧ sp [x, y] H Q E
theorem op_cmpO {op : CmpOp} (hop : ∀ a b, compareOp op a b = richCompare op a b) (hs : PySem.W.findIn X.K (.ref C) (cmpInfo op).2.1 = some (some (.ref g))) (hf : PySem.W.isFn X.K (.ref g) = true) (F : FnR X.prog X.w X.K X.mg X.base CX k g sp)
    (hr : Room k X.A) (hx : Passes CX X E) : OpR X (compareOp op) (rCmpO X.K C sp E) := by
  rintro pins s σ H x y v u Q I rx ry ⟨a, dx, fs, b, dy, gs, rfl, rfl, ha, hb, hn, q⟩
  cases (show v = Value.ref a from rx)
  cases (show u = Value.ref b from ry)
  obtain ⟨_, _, J, _⟩ := StX.insC_at I (.inr ⟨dx, fs, ha⟩)
  obtain ⟨_, _, J', _⟩ := StX.insC_at I (.inr ⟨dy, gs, hb⟩)
  obtain ⟨m, hF⟩ := I.fr
  rw [hop]
  refine PySem.W.cmp_K (op := op) (tb := .ref C) hr.units0 hF I.ok.mod.kin J J'.type hn hs hf (thn (wpAny_call (run_fnR (us := [.ref a, .ref b]) (vs := [.ref a, .ref b]) F hr hx I (.cons rfl (.cons rfl .nil)) q)) fun w' s' hz => ?_)
  obtain ⟨z, H', I', rz, qz⟩ := hz
  exact SlX.cmpback rz ⟨z, H', I', rz, qz⟩
end
end EB
namespace EB
open PySem PySem.Spec PyProof.Rows L2
section
variable {X : Cx} {CX : CXT} {k : Nat} {C g : Addr} {sp : Sp} {E : XK} {fe e : Expr} {es : List Expr} {tf : TE} {t : TA} {pos : Pos}
/-- o(e, ..), o an instance; its reading names no context -/
def tCallI (C : Addr) (sp : Sp) (E : XK) (tf : TE) (t : TA) : TE := fun σ H Q => tf σ H fun y H1 => ∃ a, y = V.ref a ∧ t σ H1 fun vs H2 => (∃ dx fs, H2 a = some (.ins C dx fs)) ∧ sp (V.ref a :: vs) H2 Q E
theorem pe_callI (hf : PE X fe tf) (c : StX.CallO X.K C g) (F : FnR X.prog X.w X.K X.mg X.base CX k g sp) (hr : Room k X.A) (hx : Passes CX X E) (ha : PA X (e :: es) t)
    (ht : eval (.Call fe (e :: es) [] pos) X.env = (do callWith pos (← eval fe X.env) [] (backTo pos (starEach (e :: es) X.env)) (backToKw pos (keywordEach [] X.env))) := by rfl)
    (hs : starEach (e :: es) X.env = (false, eval e X.env) :: starEach es X.env := by rfl) (hp : (backTo pos (starEach es X.env)).any (·.1) = false := by rfl) : PE X (.Call fe (e :: es) [] pos) (tCallI C sp E tf t) := by
  constructor
  intro pins s σ H Q I h
  refine Call_ (thn (hf.run pins s σ H _ I h) fun u s1 ⟨y, H1, I1, ry, a, ey, q⟩ => ?_) ht
  subst ey
  obtain rfl : u = Value.ref a := ry
  refine StX.callO_with (thn (ha.run pos pins s1 σ H1 _ I1 q) fun us s2 ⟨vs, H2, I2, r, hi, q2⟩ => ?_) hs hp
  obtain ⟨ox, od, J, hd⟩ := StX.insC_at I2 (.inr hi)
  exact ⟨⟨C, ox, od, J, hd⟩, StX.run_callO c F hr hx I2 (.inr hi) r q2⟩
end
end EB

/-! Operators and subscripts of own instances. -/
namespace EB
open PySem PySem.Spec PyProof.Rows L2
section
variable {X : Cx} {CX : CXT} {k : Nat} {C g : Addr} {sp : Sp} {E : XK}
/-- x op y, both instances of C -/
def rBinI (C : Addr) (sp : Sp) (E : XK) : R2 := fun x y H Q => ∃ a dx fs b dy gs, x = .ref a ∧ y = .ref b ∧ H a = some (.ins C dx fs) ∧ H b = some (.ins C dy gs) ∧ sp [x, y] H Q E
theorem op_binI {op : Operator} (hc : PySem.W.selfFirst X.K C = true) (hs : PySem.W.findIn X.K (.ref C) (PySem.dunder op.info.2) = some (some (.ref g))) (hf : PySem.W.isFn X.K (.ref g) = true) (F : FnR X.prog X.w X.K X.mg X.base CX k g sp)
    (hr : Room k X.A) (hx : Passes CX X E) : OpR X (binaryOp op) (rBinI C sp E) := by
  rintro pins s σ H x y v u Q I rx ry ⟨a, dx, fs, b, dy, gs, rfl, rfl, ha, hb, q⟩
  cases (show v = Value.ref a from rx)
  cases (show u = Value.ref b from ry)
  obtain ⟨_, _, J, _⟩ := StX.insC_at I (.inr ⟨dx, fs, ha⟩)
  obtain ⟨_, _, J', _⟩ := StX.insC_at I (.inr ⟨dy, gs, hb⟩)
  obtain ⟨m, hF⟩ := I.fr
  refine PySem.W.binop_K hF I.ok.mod.kin J J'.type hc hs hf (thn (wpAny_call (run_fnR (us := [.ref a, .ref b]) (vs := [.ref a, .ref b]) F hr hx I (.cons rfl (.cons rfl .nil)) q)) fun w' s' hz => ?_)
  obtain ⟨z, H', I', rz, qz⟩ := hz
  exact SlX.cmpback rz ⟨z, H', I', rz, qz⟩
/-- what the head says of such an operator with a text or an int on the right -/
def okBinT (K : PySem.W.Frag) (C : Addr) (nm ty : String) : Bool := (PySem.W.selfFirst K C && (decide (PySem.W.findIn K (.ref C) (dunderR nm) = some none) && ((PySem.W.findIn K (.type ty) (PySem.dunder nm)).isSome && ((PySem.W.findIn K (.type ty) (dunderR nm)).isSome && decide (PySem.W.subIn K (.type ty) (.ref C) = some false)))))
structure BinT (K : PySem.W.Frag) (C : Addr) (nm ty : String) : Prop where
  first : PySem.W.selfFirst K C = true
  noR : PySem.W.findIn K (.ref C) (dunderR nm) = some none
  fo : ∃ o, PySem.W.findIn K (.type ty) (PySem.dunder nm) = some o
  ro : ∃ o, PySem.W.findIn K (.type ty) (dunderR nm) = some o
  sub : PySem.W.subIn K (.type ty) (.ref C) = some false
theorem okBinT_of {K : PySem.W.Frag} {C : Addr} {nm ty : String} (h : okBinT K C nm ty = true) : BinT K C nm ty := by
  obtain ⟨h1, h⟩ := Bool.and_eq_true_iff.mp h
  obtain ⟨h2, h⟩ := Bool.and_eq_true_iff.mp h
  obtain ⟨h3, h⟩ := Bool.and_eq_true_iff.mp h
  obtain ⟨h4, h5⟩ := Bool.and_eq_true_iff.mp h
  exact ⟨h1, of_decide_eq_true h2, Option.isSome_iff_exists.mp h3, Option.isSome_iff_exists.mp h4, of_decide_eq_true h5⟩
/-- x op y, x an instance of C, y a text or an int -/
def rBinT (C : Addr) (sp : Sp) (E : XK) (y : V → Prop) : R2 := fun x z H Q => ∃ a dx fs, x = .ref a ∧ H a = some (.ins C dx fs) ∧ y z ∧ sp [x, z] H Q E
theorem op_binS {op : Operator} (B : BinT X.K C op.info.2 "str") (hs : PySem.W.findIn X.K (.ref C) (PySem.dunder op.info.2) = some (some (.ref g))) (hf : PySem.W.isFn X.K (.ref g) = true) (F : FnR X.prog X.w X.K X.mg X.base CX k g sp)
    (hr : Room k X.A) (hx : Passes CX X E) : OpR X (binaryOp op) (rBinT C sp E fun z => ∃ t : Str, z = .str t) := by
  rintro pins s σ H x y v u Q I rx ry ⟨a, dx, fs, rfl, ha, ⟨z, rfl⟩, q⟩
  cases (show v = Value.ref a from rx)
  have ry' := ry
  obtain ⟨t, rfl⟩ := ry
  obtain ⟨_, _, J, _⟩ := StX.insC_at I (.inr ⟨dx, fs, ha⟩)
  obtain ⟨m, hF⟩ := I.fr
  obtain ⟨fo, h1⟩ := B.fo
  obtain ⟨ro, h2⟩ := B.ro
  refine PySem.W.ksp_binT (T := "str") (rc := none) hF I.ok.mod.kin J rfl B.first hs hf B.noR (.inl rfl) h1 h2 B.sub (thn (wpAny_call (run_fnR (us := [.ref a, .str z t]) (vs := [.ref a, .str z]) F hr hx I (.cons rfl (.cons ry' .nil)) q)) fun w' s' hz => ?_)
  obtain ⟨z, H', I', rz, qz⟩ := hz
  exact SlX.cmpback rz ⟨z, H', I', rz, qz⟩
theorem op_binN {op : Operator} (B : BinT X.K C op.info.2 "int") (hs : PySem.W.findIn X.K (.ref C) (PySem.dunder op.info.2) = some (some (.ref g))) (hf : PySem.W.isFn X.K (.ref g) = true) (F : FnR X.prog X.w X.K X.mg X.base CX k g sp)
    (hr : Room k X.A) (hx : Passes CX X E) : OpR X (binaryOp op) (rBinT C sp E fun z => ∃ t : Int, z = .int t) := by
  rintro pins s σ H x y v u Q I rx ry ⟨a, dx, fs, rfl, ha, ⟨z, rfl⟩, q⟩
  cases (show v = Value.ref a from rx)
  have ry' := ry
  obtain ⟨t, rfl⟩ := ry
  obtain ⟨_, _, J, _⟩ := StX.insC_at I (.inr ⟨dx, fs, ha⟩)
  obtain ⟨m, hF⟩ := I.fr
  obtain ⟨fo, h1⟩ := B.fo
  obtain ⟨ro, h2⟩ := B.ro
  refine PySem.W.ksp_binT (T := "int") (rc := none) hF I.ok.mod.kin J rfl B.first hs hf B.noR (.inl rfl) h1 h2 B.sub (thn (wpAny_call (run_fnR (us := [.ref a, .int z t]) (vs := [.ref a, .int z]) F hr hx I (.cons rfl (.cons ry' .nil)) q)) fun w' s' hz => ?_)
  obtain ⟨z, H', I', rz, qz⟩ := hz
  exact SlX.cmpback rz ⟨z, H', I', rz, qz⟩
/-- o[i], o's class says __getitem__ -/
def rIxO (C : Addr) (sp : Sp) (E : XK) : R2 := fun x y H Q => ∃ a dx fs, x = .ref a ∧ H a = some (.ins C dx fs) ∧ sp [x, y] H Q E
theorem pe_ixO {o i : Expr} {to ti : TE} {pos : Pos} (hs : PySem.W.findIn X.K (.ref C) "__getitem__" = some (some (.ref g))) (hf : PySem.W.fnIn X.K g = true) (hfn : PySem.W.isFn X.K (.ref g) = true) (F : FnR X.prog X.w X.K X.mg X.base CX k g sp)
    (hr : Room (k + 1) X.A) (hx : Passes CX X E) (ho : PE X o to) (hi : PE X i ti) (hsl : ∀ v u, subscripted i true v u = runValue (.builtin "lifetime.subscript" ⟨[v, u], []⟩) := by exact fun _ _ => rfl) :
    PE X (.Subscript o i pos) (tOp (rIxO C sp E) to ti) := by
  refine ⟨fun pins s σ H Q I h => ?_⟩
  refine Subscript_ (binT ho hi I h fun v u s2 x y H2 I2 rx ry q => ?_)
  obtain ⟨a, dx, fs, rfl, ha, q⟩ := q
  cases (show v = Value.ref a from rx)
  obtain ⟨_, _, J, _⟩ := StX.insC_at I2 (.inr ⟨dx, fs, ha⟩)
  obtain ⟨m, hF⟩ := I2.fr
  refine PySem.W.sub_K hF I2.ok.mod.kin J hs hf hfn (wpAny_call ?_) (hsl _ _)
  refine codeAny_mono (F X.A.in1 X.stack s2 H2 [.ref a, u] [.ref a, y] Q E hr.in1 I2.env0.in1 (.cons rfl (.cons ry .nil)) q) fun r s' hq => ?_
  cases r with
  | error er => exact hx pins σ H2 s2 er s' I2 hq
  | ok fl =>
    cases fl with
    | ret u => exact I2.after hq
    | next => exact False.elim hq
    | brk => exact False.elim hq
    | cont => exact False.elim hq
end
section
variable {X : Cx} {CX : CXT} {k : Nat} {C f : Addr} {sp : Sp} {E : XK} {x : Str} {e : Expr} {te : TE} {p pos sp_ : Pos}
/-- C(*y) -/
def tMakeS (K : PySem.W.Frag) (C : Addr) (sp : Sp) (E : XK) (te : TE) : TE := fun σ H Q => te σ H fun y H1 => ∃ a xs, y = V.ref a ∧ (SqT K H1 a xs ∨ SqL K H1 a xs) ∧ ∀ o dx, H1 o = none → H1 dx = none → dx ≠ o →
  sp (V.ref o :: xs) (upd (upd H1 dx (.own o)) o (.ins C dx [])) (fun v H2 => v = .non ∧ Q (.ref o) H2) E
theorem pe_makeS1 (M : Mk X.K C f) (F : FnR X.prog X.w X.K X.mg X.base CX k f sp) (hr : Room (k + 1) X.A) (hg : Gl X x) (hm : X.mg x = some (.ref C)) (hx : Passes CX X E) (he : PE X e te) (hd : (x == ("__debug__" : Str)) = false := by decide)
    (hst : starEach [.Starred e sp_] X.env = [(true, eval e X.env)] := by rfl) : PE X (.Call (.Name x p) [.Starred e sp_] [] pos) (tMakeS X.K C sp E te) := by
  refine ⟨fun pins s σ H Q I h => ?_⟩
  refine wpAny_Call_Name_kw (ld_glob I hg hm ?_ hd)
  refine PySem.W.callWith_S (h₀ := X.base) I.ok.mod.kin M.kp (thn (he.run pins s σ H _ I h) fun v s1 ⟨y, H1, I1, ry, a, xs, ey, hxs, q⟩ => ?_) hst
  subst ey
  obtain rfl : v = Value.ref a := ry
  exact StX.star_any I1 hxs fun us s2 I2 rv => ⟨I2.kIn, StX.run_makeR M F hr hx I2 rv q⟩
end
end EB

namespace EB
/-! ### costs -/
structure CF (c : Nat → Int) (P B : Nat) : Prop where
  zero : c 0 = 0
  step : ∀ d, c (d + 1) ≤ c d + 1
  per : ∀ d, c (d + P) = c d + B
  ppos : 0 < P
  ten : ∀ d : Nat, (d : Int) ≤ 10 * c d
  sub : ∀ x y, c (x + y) ≤ c x + c y
namespace CF
variable {c : Nat → Int} {P B : Nat}
theorem bpos (h : CF c P B) : 0 < B := by
  have h1 := h.ten P
  have h2 := h.per 0
  have h3 := h.zero
  have h4 := h.ppos
  rw [Nat.zero_add, h3] at h2
  omega
theorem nonneg (h : CF c P B) (d : Nat) : 0 ≤ c d := by
  have := h.ten d
  omega
theorem le_self (h : CF c P B) : ∀ d : Nat, c d ≤ d
  | 0 => by rw [h.zero]; exact Int.le_refl _
  | d + 1 => by
    have h1 := h.le_self d
    have h2 := h.step d
    push_cast
    omega
theorem steps (h : CF c P B) (d : Nat) : ∀ k : Nat, c (d + k) ≤ c d + k
  | 0 => by simp
  | k + 1 => by
    have h1 := h.steps d k
    have h2 := h.step (d + k)
    rw [← Nat.add_assoc]
    push_cast
    omega
theorem perm (h : CF c P B) (d : Nat) : ∀ k : Nat, c (d + k * P) = c d + k * B
  | 0 => by simp
  | k + 1 => by
    have h1 := h.perm d k
    have h2 := h.per (d + k * P)
    rw [Nat.succ_mul, ← Nat.add_assoc, h2, h1]
    push_cast
    rw [Int.add_mul]
    omega
end CF
/-- the number of drinks of n bottles -/
def IsD (c : Nat → Int) (n d : Nat) : Prop := (n : Int) ≤ c d ∧ ∀ j, j < d → c j < n
theorem IsD.uniq {c : Nat → Int} {n d e : Nat} (h : IsD c n d) (g : IsD c n e) : d = e := by
  rcases Nat.lt_trichotomy d e with q | q | q
  · have := g.2 d q
    have := h.1
    omega
  · exact q
  · have := h.2 e q
    have := g.1
    omega
theorem least (p : Nat → Prop) [DecidablePred p] : ∀ n, p n → ∃ d, p d ∧ ∀ j, j < d → ¬ p j := by
  intro n
  induction n using Nat.strongRecOn with
  | ind n ih =>
    intro hn
    by_cases q : ∃ j, j < n ∧ p j
    · obtain ⟨j, hj, pj⟩ := q
      exact ih j hj pj
    · exact ⟨n, hn, fun j hj pj => q ⟨j, hj, pj⟩⟩
theorem CF.exD {c : Nat → Int} {P B : Nat} (h : CF c P B) (n : Nat) : ∃ d, IsD c n d := by
  have h1 : (n : Int) ≤ c (10 * n) := by
    have := h.ten (10 * n)
    push_cast at this
    omega
  obtain ⟨d, hd, hj⟩ := least (fun d => (n : Int) ≤ c d) (10 * n) h1
  exact ⟨d, hd, fun j q => by have := hj j q; omega⟩
open Classical in
noncomputable def D (c : Nat → Int) (n : Nat) : Nat := if h : ∃ d, IsD c n d then Classical.choose h else 0
/-- the greatest cost up to d -/
def T (c : Nat → Int) : Nat → Int
  | 0 => c 0
  | d + 1 => if c (d + 1) > T c d then c (d + 1) else T c d
namespace CF
variable {c : Nat → Int} {P B : Nat}
theorem D_is (h : CF c P B) (n : Nat) : IsD c n (D c n) := by
  have e := h.exD n
  unfold D
  rw [dif_pos e]
  exact Classical.choose_spec e
theorem D_eq (h : CF c P B) {n d : Nat} (g : IsD c n d) : D c n = d := (h.D_is n).uniq g
theorem D_cost (h : CF c P B) (n : Nat) : c (D c n) = n := by
  have g := h.D_is n
  cases e : D c n with
  | zero =>
    rw [e] at g
    have g1 := g.1
    rw [h.zero] at g1 ⊢
    omega
  | succ d =>
    rw [e] at g
    have g1 := g.1
    have g2 := g.2 d (Nat.lt_succ_self d)
    have g3 := h.step d
    omega
theorem D_zero (h : CF c P B) : D c 0 = 0 := h.D_eq ⟨by rw [h.zero]; exact Int.le_refl _, fun j q => absurd q (Nat.not_lt_zero j)⟩
theorem D_ge (h : CF c P B) (n : Nat) : n ≤ D c n := by
  have := h.D_cost n
  have := h.le_self (D c n)
  omega
theorem D_le_ten (h : CF c P B) (n : Nat) : D c n ≤ 10 * n := by
  have := h.D_cost n
  have := h.ten (D c n)
  omega
theorem D_lt (h : CF c P B) {n m : Nat} (q : n < m) : D c n < D c m := by
  have h1 := h.D_is n
  have h2 := h.D_cost m
  have h3 := h.D_cost n
  apply Nat.lt_of_not_le
  intro z
  rcases Nat.lt_or_eq_of_le z with z | z
  · have := h1.2 _ z
    omega
  · rw [z] at h2
    omega
theorem D_mono (h : CF c P B) {n m : Nat} (q : n ≤ m) : D c n ≤ D c m := by
  rcases Nat.lt_or_eq_of_le q with q | q
  · exact Nat.le_of_lt (h.D_lt q)
  · rw [q]; exact Nat.le_refl _
theorem D_super (h : CF c P B) (a b : Nat) : D c a + D c b ≤ D c (a + b) := by
  apply Nat.le_of_not_lt
  intro q
  have ca := h.D_cost a
  have cb := h.D_cost b
  have cab := h.D_cost (a + b)
  have ha := h.D_is a
  have hb := h.D_is b
  by_cases z : D c (a + b) < D c a
  · have := ha.2 _ z
    push_cast at cab
    omega
  · cases e : D c a with
    | zero =>
      rw [e] at ca q
      rw [h.zero] at ca
      have : a = 0 := by omega
      rw [this, Nat.zero_add, Nat.zero_add] at q
      exact Nat.lt_irrefl _ q
    | succ x =>
      rw [e] at q z ha
      have hx := ha.2 x (Nat.lt_succ_self x)
      obtain ⟨y, hy⟩ : ∃ y, D c (a + b) = x + y := ⟨D c (a + b) - x, by omega⟩
      have hs := h.sub x y
      rw [hy] at cab q
      push_cast at cab
      rcases Nat.lt_or_ge y (D c b) with w | w
      · have := hb.2 y w
        omega
      · have : y = D c b := by omega
        rw [this, cb] at hs
        rw [this] at cab
        omega
/-! ### the greatest cost -/
theorem T_ge (c : Nat → Int) : ∀ {d j : Nat}, j ≤ d → c j ≤ T c d
  | 0, j, q => by
    have : j = 0 := by omega
    rw [this]
    exact Int.le_refl _
  | d + 1, j, q => by
    unfold T
    rcases Nat.lt_or_eq_of_le q with q | q
    · have := T_ge c (d := d) (j := j) (by omega)
      split <;> omega
    · rw [q]
      split <;> omega
theorem T_at (c : Nat → Int) : ∀ d : Nat, ∃ j, j ≤ d ∧ T c d = c j
  | 0 => ⟨0, Nat.le_refl _, rfl⟩
  | d + 1 => by
    unfold T
    split
    · exact ⟨d + 1, Nat.le_refl _, rfl⟩
    · obtain ⟨j, q, e⟩ := T_at c d
      exact ⟨j, by omega, e⟩
theorem T_mono (c : Nat → Int) {d e : Nat} (q : d ≤ e) : T c d ≤ T c e := by
  obtain ⟨j, hj, ej⟩ := T_at c d
  rw [ej]
  exact T_ge c (by omega)
theorem T_eq (c : Nat → Int) {d : Nat} {t : Int} (h1 : ∃ j, j ≤ d ∧ c j = t) (h2 : ∀ j, j ≤ d → c j ≤ t) : T c d = t := by
  obtain ⟨j, hj, ej⟩ := h1
  obtain ⟨i, hi, ei⟩ := T_at c d
  have := T_ge c hj
  have := h2 i hi
  omega
theorem T_nonneg (h : CF c P B) (d : Nat) : 0 ≤ T c d := by
  have := T_ge c (Nat.zero_le d)
  rw [h.zero] at this
  exact this
theorem T_step (h : CF c P B) (d : Nat) : T c (d + 1) ≤ T c d + 1 := by
  show (if c (d + 1) > T c d then c (d + 1) else T c d) ≤ T c d + 1
  have := T_ge c (Nat.le_refl d)
  have := h.step d
  split <;> omega
/-- n bottles give at most d drinks just if n is at most the greatest cost up to d -/
theorem D_le_iff (h : CF c P B) {n d : Nat} : D c n ≤ d ↔ (n : Int) ≤ T c d := by
  constructor
  · intro q
    have := T_ge c q
    rw [h.D_cost] at this
    exact this
  · intro q
    obtain ⟨j, hj, ej⟩ := T_at c d
    apply Nat.le_of_not_lt
    intro z
    have := (h.D_is n).2 j (by omega)
    omega
theorem T_per (h : CF c P B) {d : Nat} (q : P ≤ d + 1) : T c (d + P) = T c d + B := by
  refine T_eq c ?_ ?_
  · obtain ⟨j, hj, ej⟩ := T_at c d
    exact ⟨j + P, by omega, by rw [h.per, ej]⟩
  · intro j hj
    rcases Nat.lt_or_ge j P with z | z
    · have := T_ge c (d := d) (j := j) (by omega)
      omega
    · obtain ⟨i, rfl⟩ : ∃ i, j = i + P := ⟨j - P, by omega⟩
      rw [h.per]
      have := T_ge c (d := d) (j := i) (by omega)
      omega
theorem T_perk (h : CF c P B) {d : Nat} (q : P ≤ d + 1) : ∀ k : Nat, T c (d + k * P) = T c d + k * B
  | 0 => by simp
  | k + 1 => by
    have h1 := h.T_perk q k
    have h2 := h.T_per (d := d + k * P) (by omega)
    rw [Nat.succ_mul, ← Nat.add_assoc, h2, h1]
    push_cast
    rw [Int.add_mul]
    omega
/-- from T (P - 1) + 1 - B on, drinks repeat -/
theorem D_per (h : CF c P B) {n : Nat} (q : T c (P - 1) < n + B) : D c (n + B) = D c n + P := by
  refine h.D_eq ⟨?_, fun j hj => ?_⟩
  · rw [h.per, h.D_cost]
    push_cast
    exact Int.le_refl _
  · rcases Nat.lt_or_ge j P with z | z
    · have := T_ge c (d := P - 1) (j := j) (by omega)
      push_cast
      omega
    · obtain ⟨i, rfl⟩ : ∃ i, j = i + P := ⟨j - P, by omega⟩
      rw [h.per]
      have := (h.D_is n).2 i (by omega)
      push_cast
      omega
theorem D_perk (h : CF c P B) {n : Nat} (q : T c (P - 1) < n + B) : ∀ k : Nat, D c (n + k * B) = D c n + k * P
  | 0 => by simp
  | k + 1 => by
    have h1 := h.D_perk q k
    have h2 := h.D_per (n := n + k * B) (by push_cast; have : (0:Int) ≤ (k : Int) * B := Int.mul_nonneg (Int.natCast_nonneg _) (Int.natCast_nonneg _); omega)
    rw [Nat.succ_mul, ← Nat.add_assoc, h2, h1, Nat.succ_mul, Nat.add_assoc]
theorem D_per_not (h : CF c P B) {n : Nat} (q : (n : Int) + B ≤ T c (P - 1)) : D c (n + B) < D c n + P := by
  have := (h.D_le_iff (n := n + B) (d := P - 1)).mpr (by push_cast; exact q)
  have := h.ppos
  omega
end CF
end EB

namespace EB
open PySem PySem.Spec PyProof.Rows L2
/-! What every row leans on: defs, lists, a heap without one address. -/
theorem small3 {n : Nat} (h : n ≤ 100000) : n < sizeLine := Nat.lt_of_le_of_lt h (by decide)
theorem int_at {ns : List Int} {i : Nat} {x : V} (h : (ns.map V.int)[i]? = some x) : ∃ c, ns[i]? = some c ∧ x = .int c := by
  rw [List.getElem?_map] at h
  cases e : ns[i]? with
  | none =>
    rw [e] at h
    cases h
  | some c =>
    rw [e] at h
    exact ⟨c, rfl, (Option.some.inj h).symm⟩
theorem lt_of_at {α : Type} {l : List α} {i : Nat} {x : α} (h : l[i]? = some x) : i < l.length := (List.getElem?_eq_some_iff.mp h).1
theorem take_at {α : Type} {l : List α} {i : Nat} {x : α} (h : l[i]? = some x) : l.take (i + 1) = l.take i ++ [x] := by
  rw [List.take_add_one, h]
  rfl
section
variable {P : Program} {w : World} {K : PySem.W.Frag} {mg : Str → Option Value} {base : Heap}
/-- a def that lets nothing out -/
theorem fnK0 {d : DD} {fd : FuncData} {N ps : List Str} {k : Nat} {sp : Sp} (F : FnP K d fd) (S : FnScope N ps (defScope d.st)) (len : ∀ vs H Q E, sp vs H Q E → vs.length = ps.length)
    (hbody : ∀ (cdv : Value) (A : Around) (outer : List Env) (s : Shared) (H : Hp) (vs : List V) (Q : VK) (E : XK), Room k (A.deeper (envOfC d.ql (defScope d.st) s.heap.objs.size (d.adr K) cdv)) → sp vs H Q E →
      ∃ t, PSs (cxOf CX0 P w K mg base N d.ql (defScope d.st) (d.adr K) cdv A outer s H E).nox (defBody d.st) t ∧ t { nx := fun _ H' => Q .non H', rt := Q } (start N vs) H) :
    FnOk P w K mg base CX0 (k + 1) (d.adr K) fd ps sp := FunD.ok F S len fun cdv A outer s H vs Q E hr h => by
  obtain ⟨t, h1, h2⟩ := hbody cdv A outer s H vs Q E hr h
  exact ⟨t, h1.nox, h2⟩
/-- .. without defaults -/
theorem fnR0 {d : DD} {fd : FuncData} {N ps : List Str} {k : Nat} {sp : Sp} (F : FnP K d fd) (S : FnScope N ps (defScope d.st)) (e : d.df = [])
    (b : ∀ (kV doc pm : Value) (an : Option Addr) (cdv ct : Value) (us : List Value), us.length = ps.length → bindArgs (PySem.W.fnOf d.nm d.ql (defArgs d.st) (defBody d.st) (defScope d.st) .none kV doc pm an cdv ct) ⟨us, []⟩ = pure (ps.zip us))
    (len : ∀ vs H Q E, sp vs H Q E → vs.length = ps.length)
    (hbody : ∀ (cdv : Value) (A : Around) (outer : List Env) (s : Shared) (H : Hp) (vs : List V) (Q : VK) (E : XK), Room k (A.deeper (envOfC d.ql (defScope d.st) s.heap.objs.size (d.adr K) cdv)) → sp vs H Q E →
      ∃ t, PSs (cxOf CX0 P w K mg base N d.ql (defScope d.st) (d.adr K) cdv A outer s H E).nox (defBody d.st) t ∧ t { nx := fun _ H' => Q .non H', rt := Q } (start N vs) H) :
    FnR P w K mg base CX0 (k + 1) (d.adr K) sp := by
  have F1 : FnOk P w K mg base CX0 (k + 1) (d.adr K) fd ps sp := FunD.ok F S len fun cdv A outer s H vs Q E hr h => by
    obtain ⟨t, h1, h2⟩ := hbody cdv A outer s H vs Q E hr h
    exact ⟨t, h1.nox, h2⟩
  have F2 : FunD K d.nm d.ql (defArgs d.st) (defBody d.st) (defScope d.st) [] [] (d.adr K) fd := by
    have z : FnP K d fd := F
    unfold FnP at z
    rw [e] at z
    exact z
  refine (F1.raw (F2.bindsN b) .nil).imp fun vs H Q E h => ?_
  rw [List.append_nil]
  exact h
end
def hid (H : Hp) (x : Addr) : Hp := fun b => if b = x then none else H b
theorem hid_x {H : Hp} {x : Addr} : hid H x x = none := if_pos rfl
theorem hid_ne {H : Hp} {x b : Addr} (h : b ≠ x) : hid H x b = H b := if_neg h
theorem hid_same {H : Hp} {x : Addr} : Same (hid H x) H := fun b o e => by
  by_cases h : b = x
  · rw [h, hid_x] at e
    cases e
  · rw [hid_ne h] at e
    exact e
theorem same_hid {H0 H : Hp} {x : Addr} (s : Same H0 H) (h : H0 x = none) : Same H0 (hid H x) := fun b o e => by
  rw [hid_ne (ne_of_none e h)]
  exact s b o e
theorem hid_old {H : Hp} {x b : Addr} {o u : HO} (h : H b = some o) (hx : H x = some u) (d : o ≠ u) : hid H x b = some o := by
  rw [hid_ne (ne_of h hx d)]
  exact h
theorem hid_upd {H : Hp} {x : Addr} {o : HO} : hid (upd H x o) x = hid H x := funext fun b => by
  by_cases h : b = x
  · rw [h, hid_x, hid_x]
  · rw [hid_ne h, hid_ne h, upd_ne h]
theorem putF_ne {f g : Str} {v x : V} {r : List (Str × V)} (h : ¬ g = f) : putF f v ((g, x) :: r) = (g, x) :: putF f v r := by
  show (if g = f then _ else _) = _
  rw [if_neg h]
theorem lkN {k g : Str} {v : V} {r : List (Str × V)} (h : (k == g) = false) : ((g, v) :: r).lookup k = r.lookup k := by rw [List.lookup_cons, h]
theorem lkY {k : Str} {v : V} {r : List (Str × V)} : ((k, v) :: r).lookup k = some v := by rw [List.lookup_cons, beq_self_eq_true]
section
variable {P : Program} {w : World} {K : PySem.W.Frag} {mg : Str → Option Value} {base : Heap}
/-- a def whose last parameter takes what is left over -/
theorem fnRS {d : DD} {fd : FuncData} {N ps : List Str} {pv : Str} {k : Nat} {sp : Sp} (F : FnP K d fd) (S : FnScope N (ps ++ [pv]) (defScope d.st)) (e : d.df = [])
    (b : ∀ (kV doc pm : Value) (an : Option Addr) (cdv ct : Value) (us rest : List Value), us.length = ps.length → bindArgs (PySem.W.fnOf d.nm d.ql (defArgs d.st) (defBody d.st) (defScope d.st) .none kV doc pm an cdv ct) ⟨us ++ rest, []⟩ = (newTuple rest >>= fun t => pure (ps.zip us ++ [(pv, t)])))
    (hbody : ∀ (cdv : Value) (A : Around) (outer : List Env) (s : Shared) (H : Hp) (vs : List V) (Q : VK) (E : XK), Room k (A.deeper (envOfC d.ql (defScope d.st) s.heap.objs.size (d.adr K) cdv)) → sp vs H Q E →
      ∃ t, PSs (cxOf CX0 P w K mg base N d.ql (defScope d.st) (d.adr K) cdv A outer s H E).nox (defBody d.st) t ∧ t { nx := fun _ H' => Q .non H', rt := Q } (start N vs) H) :
    FnR P w K mg base CX0 (k + 1) (d.adr K) (fun vs H Q E => ∃ ws rest, vs = ws ++ rest ∧ ws.length = ps.length ∧ rest.length ≤ sizeLine ∧ ∀ p, H p = none → sp (ws ++ [V.ref p]) (upd H p (.tup rest)) Q E) := by
  have z : FnP K d fd := F
  unfold FnP at z
  rw [e] at z
  obtain ⟨oc, od, dV, kV, doc, pm, an, cdv, ct, osl, rfl, lk, hcd, hD, hK⟩ := z.ex
  have hdV : dV = .none := by
    rcases hD with ⟨_, h⟩ | ⟨h, _⟩
    · exact h
    · exact absurd rfl h
  subst hdV
  exact StX.fn_star lk hcd S StX.cxUp_none (fun us rest hl => b kV doc pm an cdv ct us rest hl) fun A outer s H vs Q E hr h => by
    obtain ⟨t, h1, h2⟩ := hbody cdv A outer s H vs Q E hr h
    exact ⟨t, h1.nox, h2⟩
/-- a def called with its first values, the others filled up by its defaults -/
theorem fnRD {d : DD} {fd : FuncData} {N ps : List Str} {k : Nat} {sp : Sp} (F : FnP K d fd) (S : FnScope N ps (defScope d.st)) (n j : Nat) (hd : d.df.map (He.Dv.v K) ≠ []) (hn : n + ((d.df.map (He.Dv.v K)).length - j) = ps.length)
    (b : ∀ (Tt : Addr) (kV doc pm : Value) (an : Option Addr) (cdv ct : Value) (us its : List Value), us.length = n → its.length = (d.df.map (He.Dv.v K)).length →
      ∃ k, bindArgs (PySem.W.fnOf d.nm d.ql (defArgs d.st) (defBody d.st) (defScope d.st) (.ref Tt) kV doc pm an cdv ct) ⟨us, []⟩ = seqItems? (.ref Tt) >>= k ∧ k (some its.toArray) = pure (ps.zip (us ++ its.drop j)))
    (len : ∀ vs H Q E, sp vs H Q E → vs.length = ps.length)
    (hbody : ∀ (cdv : Value) (A : Around) (outer : List Env) (s : Shared) (H : Hp) (vs : List V) (Q : VK) (E : XK), Room k (A.deeper (envOfC d.ql (defScope d.st) s.heap.objs.size (d.adr K) cdv)) → sp vs H Q E →
      ∃ t, PSs (cxOf CX0 P w K mg base N d.ql (defScope d.st) (d.adr K) cdv A outer s H E).nox (defBody d.st) t ∧ t { nx := fun _ H' => Q .non H', rt := Q } (start N vs) H) :
    FnR P w K mg base CX0 (k + 1) (d.adr K) (fun vs H Q E => sp (vs ++ (d.df.map (He.Dv.v K)).drop j) H Q E) := by
  have F1 : FnOk P w K mg base CX0 (k + 1) (d.adr K) fd ps sp := FunD.ok F S len fun cdv A outer s H vs Q E hr h => by
    obtain ⟨t, h1, h2⟩ := hbody cdv A outer s H vs Q E hr h
    exact ⟨t, h1.nox, h2⟩
  obtain ⟨ds, h1, h2⟩ := FunD.binds1 F n j hd hn b
  exact F1.raw h2 h1
end
end EB

/-! Defs with **kw, called by keywords: the dict that is made of them. -/
namespace EBW
open PySem PySem.Spec PyProof.Rows L2
/-- the keywords of a call, the values that they stand for -/
def KWs (kvs : List (Str × V)) (kws : List (Str × Value)) : Prop := Paired (fun (p : Str × V) (q : Str × Value) => p.1 = q.1 ∧ RelV p.2 q.2) kvs kws
theorem KWs.keys : ∀ {kvs : List (Str × V)} {kws : List (Str × Value)}, KWs kvs kws → kvs.map (·.1) = kws.map (·.1)
  | _, _, .nil => rfl
  | _, _, .cons r t => by rw [List.map_cons, List.map_cons, r.1, KWs.keys t]
theorem KWs.len {kvs : List (Str × V)} {kws : List (Str × Value)} (h : KWs kvs kws) : kvs.length = kws.length := Paired.length h
/-- the dict -/
def kwK (kvs : List (Str × V)) : List (Key × V) := kvs.map fun p => (.inr p.1, p.2)
section
variable {prog : Program} {w : World} {A : Around} {E : Value → Shared → Prop}
theorem kw_set {s : Shared} {d : Addr} {es : List DictEntry} {n : Nat} {k : Str} {v : Value} {Q : Unit → Shared → Prop} (D : s.heap.get? d = some (PySem.W.dictOf es n)) (hs : ∀ e ∈ es, e.key.isStr k = false) (hr : ∀ e ∈ es, e.refKey = false)
    (h : ∀ h', h'.get? d = some (PySem.W.dictOf (es ++ [⟨PyData.keyHash w.params k, .str k s.toks, v⟩]) (n + 1)) → (∀ b, b ≠ d → h'.get? b = s.heap.get? b) → h'.objs.size = s.heap.objs.size → Q () { s with heap := h', toks := s.toks + 1 }) :
    wpAny (model prog w) A (nsSet d k v) Q E s := by
  have a1 : es.any (fun e => e.key.isStr k) = false := List.any_eq_false.mpr fun e m => by rw [hs e m]; exact Bool.false_ne_true
  have a2 : es.any (fun e => e.refKey) = false := List.any_eq_false.mpr fun e m => by rw [hr e m]; exact Bool.false_ne_true
  have pe : Obj.putName k (PyData.keyHash w.params k) (.str k s.toks) v (PySem.W.dictOf es n) = PySem.W.dictOf (es ++ [⟨PyData.keyHash w.params k, .str k s.toks, v⟩]) (n + 1) := by
    rw [PySem.W.putName_dict, PySem.W.putL_new hs]
    show PySem.W.dictOf _ (if es.any (fun e => e.key.isStr k) then n else n + 1) = _
    rw [a1]
    rfl
  have cl : aRefKeyMayBeTheName k es.toArray = false := by
    rw [aRefKeyMayBeTheName_at, ← Array.any_toList, ← Array.any_toList]
    show (!es.any (fun e => e.key.isStr k) && es.any (fun e => e.refKey)) = false
    rw [a2]
    exact Bool.and_false _
  unfold nsSet
  refine wpAny_bind (wpAny_bind (wpAny_askSetting (wpAny_pure (wpAny_bind (wpAny_mkText (wpAny_bind (wpAny_loadPart D ?_)))))))
  dsimp only
  rw [cl]
  refine wpAny_updatePart D (h _ ?_ (fun b hb => ?_) ?_)
  · exact (Heap.get?_update_self (Obj.putName k (PyData.keyHash w.params k) (.str k s.toks) v) D (by rw [pe]; rfl)).trans (by rw [pe])
  · exact Heap.get?_update_ne _ _ _ _ hb
  · exact Heap.size_update _ _ _
theorem kw_fill {d : Addr} {Q : PUnit → Shared → Prop} : ∀ (ex : List (Str × Value)) (s : Shared) (es : List DictEntry) (n : Nat), s.heap.get? d = some (PySem.W.dictOf es n) → (∀ e ∈ es, ∀ x ∈ ex, e.key.isStr x.1 = false) → (∀ e ∈ es, e.refKey = false) → (ex.map (·.1)).Nodup →
    (∀ h', h'.get? d = some (PySem.W.dictOf (es ++ PySem.W.kwEs w.params s.toks ex) (n + ex.length)) → (∀ b, b ≠ d → h'.get? b = s.heap.get? b) → h'.objs.size = s.heap.objs.size → Q ⟨⟩ { s with heap := h', toks := s.toks + ex.length }) →
    wpAny (model prog w) A (forIn ex PUnit.unit fun x _ => (nsSet d x.1 x.2 >>= fun _ => pure (ForInStep.yield PUnit.unit))) Q E s
  | [], s, es, n, D, _, _, _, h => by
    rw [List.forIn_nil]
    refine wpAny_pure (h s.heap ?_ (fun _ _ => rfl) rfl)
    rw [show es ++ PySem.W.kwEs w.params s.toks [] = es from List.append_nil es]
    exact D
  | x :: r, s, es, n, D, hs, hr, hn, h => by
    rw [List.map_cons, List.nodup_cons] at hn
    rw [List.forIn_cons]
    refine wpAny_bind (wpAny_bind (kw_set D (fun e he => hs e he x (List.mem_cons_self ..)) hr fun h1 D1 k1 z1 => wpAny_pure ?_))
    refine kw_fill r { s with heap := h1, toks := s.toks + 1 } _ _ D1 (fun e he y hy => ?_) (fun e he => ?_) hn.2 fun h2 D2 k2 z2 => ?_
    · rcases List.mem_append.mp he with he | he
      · exact hs e he y (List.mem_cons_of_mem _ hy)
      · rw [List.mem_singleton.mp he]
        show (x.1 == y.1) = false
        exact beq_eq_false_iff_ne.mpr fun q => hn.1 (List.mem_map.mpr ⟨y, hy, q.symm⟩)
    · rcases List.mem_append.mp he with he | he
      · exact hr e he
      · rw [List.mem_singleton.mp he]
        rfl
    · have t1 : s.toks + 1 + r.length = s.toks + (x :: r).length := by rw [List.length_cons]; omega
      have t2 : n + 1 + r.length = n + (x :: r).length := by rw [List.length_cons]; omega
      rw [t1]
      refine h h2 ?_ (fun b hb => (k2 b hb).trans (k1 b hb)) (z2.trans z1)
      rw [← t2]
      rw [List.append_assoc] at D2
      exact D2
theorem kw_pairs : ∀ (ex : List (Str × Value)) (t : Tok), Pairs (mixKind prog w) (PySem.W.kwEs w.params t ex) (ex.map fun p => ((Sum.inr p.1 : Key), p.2))
  | [], _ => Pairs.nil
  | x :: r, t => Pairs.cons (keyIs_str x.1 t) rfl (kw_pairs r (t + 1))
/-- what is made of the keywords is a dict -/
theorem kw_dict {H : Hp} {h : Heap} {d : Addr} {kvs : List (Str × V)} {kws : List (Str × Value)} {t : Tok} {n : Nat} (D : h.get? d = some (PySem.W.dictOf (PySem.W.kwEs w.params t kws) n)) (hm : (d == sysModules) = false) (r : KWs kvs kws) (hn : (kws.map (·.1)).Nodup) (hl : kws.length ≤ sizeLine) :
    ObjOk prog w H h d (.dK (kwK kvs)) := by
  refine ⟨by unfold kwK; rw [List.length_map, r.len]; exact hl, hm, kws.map fun p => ((Sum.inr p.1 : Key), p.2), ?_, _, (PySem.W.kwEs w.params t kws).toArray, n, D, ⟨rfl, rfl, rfl⟩, rfl, fun e he => ?_, kw_pairs kws t, ?_⟩
  · clear D hn hl
    induction r with
    | nil => exact .nil
    | cons a b ih => exact .cons ⟨congrArg Sum.inr a.1, a.2⟩ ih
  · obtain ⟨k, u, hk, hh⟩ := PySem.W.kwEs_key kws t e (List.mem_toArray.mp he)
    exact ⟨.inr k, by rw [hk]; exact keyIs_str k u, hh.trans rfl⟩
  · rw [List.map_map]
    unfold List.Nodup at hn ⊢
    rw [List.pairwise_map] at hn ⊢
    exact hn.imp fun a b => a (Sum.inr.inj b)
end
end EBW

/-! A def f(a, .., **kw), called with keywords. -/
namespace EBW
open PySem PySem.Spec PyProof.Rows L2 StX
/-- the promise of such a def: what it is given by place, what by keyword -/
abbrev SpK := List V → List (Str × V) → Hp → VK → XK → Prop
def FnRK (P : Program) (w : World) (K : PySem.W.Frag) (mg : Str → Option Value) (base : Heap) (CX : CXT) (k : Nat) (f : Addr) (sp : SpK) : Prop :=
  ∀ (A : Around) (outer : List Env) (s : Shared) (H : Hp) (us : List Value) (vs : List V) (kws : List (Str × Value)) (kvs : List (Str × V)) (Q : VK) (E : XK), Room k A → Env0 P w K mg base A outer s H → Vals vs us → KWs kvs kws → sp vs kvs H Q E →
    codeAny (model P w) A (.call (.ref f) ⟨us, kws⟩) (CR CX outer P w H s Q E) s
theorem FnRK.imp {P : Program} {w : World} {K : PySem.W.Frag} {mg : Str → Option Value} {base : Heap} {CX : CXT} {k : Nat} {f : Addr} {sp sp' : SpK} (F : FnRK P w K mg base CX k f sp) (h : ∀ vs kvs H Q E, sp' vs kvs H Q E → sp vs kvs H Q E) : FnRK P w K mg base CX k f sp' :=
  fun A outer s H us vs kws kvs Q E hr e0 r rk hs => F A outer s H us vs kws kvs Q E hr e0 r rk (h _ _ _ _ _ hs)
/-- the end of the binding: the dict is made and filled -/
def kwTail (kws : List (Str × Value)) (front : List (Str × Value)) (pd : Str) : Sem (List (Str × Value)) := (alloc (PySem.W.dictOf [] 0) : Sem Addr) >>= fun d => (forIn kws PUnit.unit fun x _ => (nsSet d x.1 x.2 >>= fun _ => pure (ForInStep.yield PUnit.unit))) >>= fun _ => pure (front ++ [(pd, Value.ref d)])
section
variable {P : Program} {w : World} {K : PySem.W.Frag} {mg : Str → Option Value} {base : Heap} {A : Around} {outer : List Env} {s : Shared} {H : Hp}
theorem env0_k {h' : Heap} {t : Nat} {u : HO} (e0 : Env0 P w K mg base A outer s H) (kp : ∀ b x, s.heap.get? b = some x → h'.get? b = some x) (sz : s.heap.objs.size ≤ h'.objs.size) (new : ObjOk P w (upd H s.heap.objs.size u) h' s.heap.objs.size u) :
    Env0 P w K mg base A outer { s with heap := h', toks := t } (upd H s.heap.objs.size u) := by
  refine ⟨e0.frames, e0.mod, fun b x e => ⟨kp b x (e0.bs b x e).1, ?_⟩, Nat.le_trans e0.bsz sz, Heap.FunFrames.of_keeps (fun b x e _ => ⟨x, kp b x e, rfl⟩) e0.funs, fun b hb => ?_, e0.hok.laid kp (Nat.le_refl _) new, e0.bare⟩
  · rw [upd_ne (Nat.ne_of_lt (Heap.lt_size (e0.bs b x e).1))]
    exact (e0.bs b x e).2
  · obtain ⟨_, x, hx, _⟩ := e0.funs.mem hb
    rw [upd_ne (Nat.ne_of_lt (Heap.lt_size hx))]
    exact e0.frf b hb
/-- binding to the dict of the keywords -/
theorem kw_tail {A' : Around} {Ex : Value → Shared → Prop} {Q' : List (Str × Value) → Shared → Prop} {CX : CXT} {E : XK} {ws : List V} {ps : List Str} {us : List Value} {kws : List (Str × Value)} {kvs : List (Str × V)} {pd : Str} (hCX : CXUp CX) (e0 : Env0 P w K mg base A outer s H) (r : Vals ws us) (hl : us.length = ps.length) (rk : KWs kvs kws) (hn : (kvs.map (·.1)).Nodup) (hz : kvs.length ≤ sizeLine)
    (h : ∀ (s2 : Shared) (H2 : Hp) (vs : List V) (vs' : List Value), Env0 P w K mg base A outer s2 H2 → Un (frs outer) [] H H2 s.heap s2.heap → s2.os = s.os → (∀ e s', CX outer H2 s2 E e s' → CX outer H s E e s') → Vals vs vs' → vs.length = (ps ++ [pd]).length → (∃ d, H d = none ∧ vs = ws ++ [V.ref d] ∧ H2 = upd H d (.dK (kwK kvs))) → Q' ((ps ++ [pd]).zip vs') s2) :
    wpAny (model P w) A' (kwTail kws (ps.zip us) pd) Q' Ex s := by
  unfold kwTail
  have hN := hn
  rw [rk.keys] at hN
  refine wpAny_bind (wpAny_alloc (wpAny_bind (kw_fill kws { s with heap := s.heap.push (PySem.W.dictOf [] 0) } [] 0 (Heap.get?_push_size _ rfl) (fun _ m => nomatch m) (fun _ m => nomatch m) hN fun h1 D k1 z1 => wpAny_pure ?_)))
  have kp : ∀ b x, s.heap.get? b = some x → h1.get? b = some x := fun b x e => (k1 b (Nat.ne_of_lt (Heap.lt_size e))).trans (Heap.get?_push_of_some _ e)
  have sz : s.heap.objs.size ≤ h1.objs.size := by
    rw [z1]
    show s.heap.objs.size ≤ (s.heap.push (PySem.W.dictOf [] 0)).objs.size
    rw [Heap.size_push]
    exact Nat.le_succ _
  have hm : (s.heap.objs.size == sysModules) = false := beq_eq_false_iff_ne.mpr (Ne.symm (Nat.ne_of_lt (env0_big e0)))
  have new : ObjOk P w (upd H s.heap.objs.size (.dK (kwK kvs))) h1 s.heap.objs.size (.dK (kwK kvs)) := kw_dict (t := s.toks) D hm rk hN (by rw [← rk.len]; exact hz)
  have hf : H s.heap.objs.size = none := e0.hok.fresh (Nat.le_refl _)
  have un : Un (frs outer) [] H (upd H s.heap.objs.size (.dK (kwK kvs))) s.heap h1 := Un.laid kp (Nat.le_refl _) hf
  have z := h { s with heap := h1, toks := s.toks + kws.length } _ (ws ++ [V.ref s.heap.objs.size]) (us ++ [Value.ref s.heap.objs.size]) (env0_k e0 kp sz new) un rfl (fun e s' => hCX outer s H _ _ E e s' un kp rfl) (r.append (.cons rfl .nil))
    (by rw [List.length_append, List.length_append, r.length, hl]; rfl) ⟨_, hf, rfl, rfl⟩
  rw [List.zip_append hl.symm] at z
  exact z
end
section
variable {P : Program} {w : World} {K : PySem.W.Frag} {mg : Str → Option Value} {base : Heap}
/-- THE RULE for a def f(a, .., b=.., **kw): the first n are given, the others filled up -/
theorem fnRK {CX : CXT} {d : EB.DD} {fd : FuncData} {N ps : List Str} {pd : Str} {k : Nat} {sp : Sp} (F : EB.FnP K d fd) (S : FnScope N (ps ++ [pd]) (defScope d.st)) (hCX : CXUp CX) (n j : Nat) (hd : d.df.map (He.Dv.v K) ≠ []) (hn : n + ((d.df.map (He.Dv.v K)).length - j) = ps.length)
    (b : ∀ (Tt : Addr) (kV doc pm : Value) (an : Option Addr) (cdv ct : Value) (us its : List Value) (kws : List (Str × Value)), us.length = n → its.length = (d.df.map (He.Dv.v K)).length → (∀ p ∈ kws, p.1 ∉ ps) → kws.length ≤ 1000 →
      ∃ k, bindArgs (PySem.W.fnOf d.nm d.ql (defArgs d.st) (defBody d.st) (defScope d.st) (.ref Tt) kV doc pm an cdv ct) ⟨us, kws⟩ = seqItems? (.ref Tt) >>= k ∧ k (some its.toArray) = kwTail kws (ps.zip (us ++ its.drop j)) pd)
    (hbody : ∀ (cdv : Value) (A : Around) (outer : List Env) (s : Shared) (H : Hp) (vs : List V) (Q : VK) (E : XK), Room k (A.deeper (envOfC d.ql (defScope d.st) s.heap.objs.size (d.adr K) cdv)) → sp vs H Q E →
      ∃ t, PSs (cxOf CX P w K mg base N d.ql (defScope d.st) (d.adr K) cdv A outer s H E) (defBody d.st) t ∧ t { nx := fun _ H' => Q .non H', rt := Q } (start N vs) H) :
    FnRK P w K mg base CX (k + 1) (d.adr K) (fun vs kvs H Q E => vs.length = n ∧ (kvs.map (·.1)).Nodup ∧ (∀ p ∈ kvs, p.1 ∉ ps) ∧ kvs.length ≤ 1000 ∧ ∀ q, H q = none → sp (vs ++ (d.df.map (He.Dv.v K)).drop j ++ [V.ref q]) (upd H q (.dK (kwK kvs))) Q E) := by
  intro A outer s H us vs kws kvs Q E hr e0 r rk ⟨hv, hnd, hps, hl, hq⟩
  obtain ⟨oc, od, dV, kV, doc, pm, an, cdv, ct, osl, rfl, lk, hcd, hD, hK⟩ := F.ex
  rcases hD with ⟨e, _⟩ | ⟨_, Tt, o, its, m, rfl, lT, oT, rT⟩
  · exact absurd e hd
  have KX : K.In s.heap := e0.mod.kin.keeps fun b o e => (e0.bs b o e).1
  have l1 : its.length = (d.df.map (He.Dv.v K)).length := rT.length.symm
  have l2 : us.length = n := by rw [← r.length]; exact hv
  have hks : ∀ p ∈ kws, p.1 ∉ ps := fun p hp z => by
    have h1 : p.1 ∈ kws.map (·.1) := List.mem_map.mpr ⟨p, hp, rfl⟩
    rw [← rk.keys] at h1
    obtain ⟨q, hq, e⟩ := List.mem_map.mp h1
    exact hps q hq (by rw [e]; exact z)
  obtain ⟨kk, e1, e2⟩ := b Tt kV doc pm an cdv ct us its kws l2 l1 hks (by rw [← rk.len]; exact hl)
  refine run_bnd lk hcd S hr e0 (G := fun xs H2 => ∃ q, H q = none ∧ xs = (vs ++ (d.df.map (He.Dv.v K)).drop j) ++ [V.ref q] ∧ H2 = upd H q (.dK (kwK kvs))) (fun A' Ex Q' h => ?_) fun s2 H2 xs ⟨q, hf, ex, eH⟩ hr' => ?_
  · rw [e1]
    refine wpAny_bind (wpAny_seqItems (KX _ _ lT) oT ?_)
    rw [e2]
    refine kw_tail hCX e0 (r.append (rT.drop j)) ?_ rk hnd (Nat.le_trans hl (by decide)) h
    rw [List.length_append, List.length_drop, l1, l2]
    exact hn
  · subst ex eH
    exact hbody cdv A outer s2 _ _ Q E hr' (hq q hf)
end
section
variable {P : Program} {w : World} {K : PySem.W.Frag} {mg : Str → Option Value} {base : Heap}
theorem fnRK0 {d : EB.DD} {fd : FuncData} {N ps : List Str} {pd : Str} {k : Nat} {sp : Sp} (F : EB.FnP K d fd) (S : FnScope N (ps ++ [pd]) (defScope d.st)) (n j : Nat) (hd : d.df.map (He.Dv.v K) ≠ []) (hn : n + ((d.df.map (He.Dv.v K)).length - j) = ps.length)
    (b : ∀ (Tt : Addr) (kV doc pm : Value) (an : Option Addr) (cdv ct : Value) (us its : List Value) (kws : List (Str × Value)), us.length = n → its.length = (d.df.map (He.Dv.v K)).length → (∀ p ∈ kws, p.1 ∉ ps) → kws.length ≤ 1000 →
      ∃ k, bindArgs (PySem.W.fnOf d.nm d.ql (defArgs d.st) (defBody d.st) (defScope d.st) (.ref Tt) kV doc pm an cdv ct) ⟨us, kws⟩ = seqItems? (.ref Tt) >>= k ∧ k (some its.toArray) = kwTail kws (ps.zip (us ++ its.drop j)) pd)
    (hbody : ∀ (cdv : Value) (A : Around) (outer : List Env) (s : Shared) (H : Hp) (vs : List V) (Q : VK) (E : XK), Room k (A.deeper (envOfC d.ql (defScope d.st) s.heap.objs.size (d.adr K) cdv)) → sp vs H Q E →
      ∃ t, PSs (cxOf L2.CX0 P w K mg base N d.ql (defScope d.st) (d.adr K) cdv A outer s H E).nox (defBody d.st) t ∧ t { nx := fun _ H' => Q .non H', rt := Q } (start N vs) H) :
    FnRK P w K mg base L2.CX0 (k + 1) (d.adr K) (fun vs kvs H Q E => vs.length = n ∧ (kvs.map (·.1)).Nodup ∧ (∀ p ∈ kvs, p.1 ∉ ps) ∧ kvs.length ≤ 1000 ∧ ∀ q, H q = none → sp (vs ++ (d.df.map (He.Dv.v K)).drop j ++ [V.ref q]) (upd H q (.dK (kwK kvs))) Q E) :=
  fnRK F S cxUp_none n j hd hn b fun cdv A outer s H vs Q E hr h => by
    obtain ⟨t, h1, h2⟩ := hbody cdv A outer s H vs Q E hr h
    exact ⟨t, h1.nox, h2⟩
end
/-- a loop that only gathers -/
theorem forIn_gather {α β : Type} {f : α → β → Sem (ForInStep β)} {g : β → α → β} : ∀ (l : List α) (b : β), (∀ a ∈ l, ∀ b, f a b = pure (ForInStep.yield (g b a))) → (forIn l b f : Sem β) = pure (l.foldl g b)
  | [], b, _ => by rw [List.forIn_nil]; rfl
  | a :: l, b, h => by
    rw [List.forIn_cons, h a (List.mem_cons_self ..)]
    show (pure (ForInStep.yield (g b a)) >>= _ : Sem β) = _
    exact forIn_gather l (g b a) fun x m => h x (List.mem_cons_of_mem _ m)
end EBW

/-! A dict comprehension over whatever is walked; a lock on a dict. -/
namespace EB
open PySem PySem.Spec PyProof.Rows L2
theorem dc_walk {J : It} {n : Nat} {G : Hp → Prop} {Y : Nat → Hp → V → Hp → Prop} (w : Walk J n G Y) {g : TG} {tt : TT} {tk tv : TE} {vs : List Nat} {σ : L2.St} {H0 : Hp} {D : Addr} {Fin : Hp → Prop} (Pv : Nat → Hp → Prop)
    (first : Pv 0 (upd H0 D (.dK []))) (keeps : ∀ i H, i ≤ n → Pv i H → G H)
    (turn : ∀ i x H H', i < n → Pv i H → Y i H x H' → g x (wipe σ vs) H' fun σ2 H2 => wipe σ2 vs = wipe σ vs ∧ tt σ2 H2 fun b H3 => if b = true then tk σ2 H3 fun y H4 => tv σ2 H4 fun z H5 => ∃ kvs k, y = kV k ∧ H5 D = some (.dK kvs) ∧ kvs.length < sizeLine ∧ Pv (i + 1) (upd H5 D (.dK (putK kvs k z))) else Pv (i + 1) H3)
    (last : ∀ H, Pv n H → Fin H) :
    ∃ W : Nat → Nat → Hp → Prop, (∃ m, W 0 m (upd H0 D (.dK []))) ∧ ∀ i m H, W i m H → (J.stop i H ∧ Fin H) ∨ (J.go i H ∧ ∃ Nx : Hp → Prop, (∀ H', Nx H' → ∃ m', m' < m ∧ W (i + 1) m' H') ∧ ∀ x H', J.yld i H x H' → g x (wipe σ vs) H' fun σ2 H2 => wipe σ2 vs = wipe σ vs ∧ tt σ2 H2 fun b H3 =>
      if b = true then tk σ2 H3 fun y H4 => tv σ2 H4 fun z H5 => ∃ kvs k, y = kV k ∧ H5 D = some (.dK kvs) ∧ kvs.length < sizeLine ∧ Nx (upd H5 D (.dK (putK kvs k z))) else Nx H3) := by
  refine ⟨fun j l H => l = n - j ∧ j ≤ n ∧ Pv j H, ⟨n, rfl, Nat.zero_le _, first⟩, ?_⟩
  rintro j l H ⟨rfl, hj, pj⟩
  have gj := keeps j H hj pj
  rcases Nat.lt_or_ge j n with lt | ge
  · exact .inr ⟨w.goes j H lt gj, Pv (j + 1), fun H' p' => ⟨n - (j + 1), by omega, rfl, lt, p'⟩, fun x H' y => turn j x H H' lt pj (w.yields j H x H' lt gj y)⟩
  · obtain rfl : j = n := Nat.le_antisymm hj ge
    exact .inl ⟨w.stops H gj, last H pj⟩
/-- a lock taken off again -/
theorem unlock_same {H H' : Hp} {d : Addr} {u : HO} {od : Obj} (e : H d = some u) (s : Same (upd H d (.frz od u)) H') : Same H (upd H' d u) := fun b o z => by
  by_cases q : b = d
  · rw [q, upd_same, ← e, ← q]
    exact z
  · rw [upd_ne q]
    exact s b o (by rw [upd_ne q]; exact z)
end EB

/-! C(e, .., **d): a dict of texts spread over a call's keywords. -/
namespace EBW
open PySem PySem.Spec PyProof.Rows L2 StX
section
variable {prog : Program} {w : World} {A : Around} {E : Value → Shared → Prop} {s : Shared}
/-- a new key is put behind -/
theorem mg_put {d : Addr} {kvs : List (Key × Value)} {k : Key} {key v : Value} {Q : Unit → Shared → Prop} (hkey : (mixKind prog w).is k key = true) (hm : s.heap.DictOf (mixKind prog w) d kvs) (hn0 : k ∉ kvs.map (·.1)) (hsz : kvs.length ≤ sizeLine)
    (hQ : ∀ h', h'.DictOf (mixKind prog w) d (kvs ++ [(k, v)]) → Heap.SameBut d s.heap h' → Q () { s with heap := h' }) :
    wpAny (model prog w) A (dictPut d ((mixKind prog w).hash k) key v) Q E s ∧ wpAny (model prog w) A (dictFind d key ((mixKind prog w).hash k)) (fun r s' => r = none ∧ s' = s) E s := by
  obtain ⟨o, es, ep, ho, hc, hd, hk, hp, hn⟩ := hm
  have hes : es.size ≤ sizeLine := by
    have e1 := hp.length
    have e2 : es.toList.length = es.size := by simp
    omega
  have hidx : (es.findIdx? fun e => (mixKind prog w).is k e.key) = kvs.findIdx? fun kv => decide (kv.1 = k) := by
    rw [← hp.findIdx k]; obtain ⟨l⟩ := es; simp
  have hi : (es.findIdx? fun e => (mixKind prog w).is k e.key) = none := by
    rw [hidx, List.findIdx?_eq_none_iff]
    intro x hx
    exact decide_eq_false fun e => hn0 (List.mem_map.mpr ⟨x, hx, e⟩)
  constructor
  · unfold dictPut
    refine wpAny_bind (wpAny_dictFind_of hkey ho hd hk ?_)
    rw [hi]
    refine wpAny_updateDictKeys (hz := hes) ho hd (hQ _ ⟨_, _, ep + 1, Heap.get?_update_self _ ho (Obj.isFreed_of_dict (Obj.data_mapDictKeys hd _)), hc.mapDictKeys _, Obj.data_mapDictKeys hd _, hk.push hkey _, ?_, ?_⟩ (Heap.SameBut.update ..))
    · have := hp.append hkey ((mixKind prog w).hash k) v
      obtain ⟨l⟩ := es
      simpa using this
    · rw [List.map_append, List.nodup_append]
      refine ⟨hn, by simp, fun a ha b hb => ?_⟩
      rw [List.map_cons, List.map_nil, List.mem_singleton] at hb
      exact fun e => hn0 (by rw [← (show a = k from e.trans hb)]; exact ha)
  · refine wpAny_dictFind_of hkey ho hd hk ?_
    rw [hi]
    exact ⟨rfl, rfl⟩
theorem mg_noref {es : Array DictEntry} (hk : KeysOf (mixKind prog w) es) : ∀ e ∈ es.toList, ∀ a, e.key ≠ .ref a := fun e he a z => by
  obtain ⟨k, h, _⟩ := hk e (by simpa using he)
  rw [z] at h
  rcases keyIs_shape h with ⟨i, t, _, e⟩ | ⟨x, t, _, e⟩ <;> cases e
/-- the merge of a dict into an empty one -/
theorem wp_merge {d o : Addr} {more : List (Key × Value)} {Q : Unit → Shared → Prop} (hdo : d ≠ o) (hoS : (o == sysModules) = false) (hd : s.heap.DictOf (mixKind prog w) d []) (ho : s.heap.DictOf (mixKind prog w) o more) (hsz : more.length ≤ sizeLine)
    (hQ : ∀ h', h'.DictOf (mixKind prog w) d more → Heap.SameBut d s.heap h' → Q () { s with heap := h' }) : wpAny (model prog w) A (mergeMapping d (.ref o) true) Q E s := by
  obtain ⟨oo, eso, epo, hoo, hco, hdo', hko, hpo, hno⟩ := id ho
  obtain ⟨od, esd, epd, hod, hcd, hdd, hkd, hpd, hnd⟩ := id hd
  have hlen : more.length = eso.size := by rw [← hpo.length]; simp
  unfold mergeMapping
  refine wpAny_bind (wpAny_isInstance ho.typeIs isSubtype_dict_dict ?_)
  dsimp only
  rw [if_pos rfl]
  refine wpAny_bind (wpAny_specialOf ho.typeIs F.slot_dict_iter.lookup (wpAny_bind (wpAny_pure ?_)))
  rw [beq_self_eq_true]
  dsimp only
  rw [if_neg (by rw [hoS]; exact Bool.false_ne_true)]
  refine wpAny_bind (wpAny_dictEntries hod hdd ?_)
  have he : esd.isEmpty = true := by
    have h1 := hpd.length
    rw [Array.length_toList] at h1
    exact Array.isEmpty_iff_size_eq_zero.mpr h1
  rw [if_pos he]
  refine wpAny_bind (wpAny_dictEntries hoo hdo' ?_)
  refine wpAny_bind (wpAny_mono (Q := fun _ s' => s' = s) (wpAny_forIn_array' _ (fun rest _ s' => s' = s ∧ ∀ e ∈ rest, ∀ a, e.key ≠ .ref a) (fun _ s' => s' = s) ?_ (fun _ _ h => h.1) eso _ ⟨rfl, mg_noref hko⟩) (fun _ s' e' => ?_) fun _ _ h => h)
  · rintro x rest b s' ⟨rfl, hr⟩
    have hx := hr x (List.mem_cons_self ..)
    split
    · rename_i a ea
      exact absurd ea (hx a)
    · exact wpAny_pure ⟨rfl, fun e he => hr e (List.mem_cons_of_mem _ he)⟩
  · subst e'
    refine wpAny_bind (wpAny_dictEntries hoo hdo' (wpAny_bind (wpAny_dictEpoch hoo hdo' (wpAny_bind ?_))))
    rw [List.range_eq_range']
    refine wpAny_forIn_list _
      (fun rest _ s2 => ∃ h' i, s2 = { s' with heap := h' } ∧ rest = List.range' i (eso.size - i) ∧ i ≤ eso.size ∧ h'.DictOf (mixKind prog w) d (more.take i) ∧ h'.get? o = some oo ∧ Heap.SameBut d s'.heap h')
      _ ?_ ?_ _ _ ⟨s'.heap, 0, rfl, by simp, Nat.zero_le _, hd, hoo, Heap.SameBut.refl _ _⟩
    · rintro x rest b s2 ⟨h', i, rfl, hr, hi, hd', hoo', hs'⟩
      have hlt : i < eso.size := by
        rcases Nat.lt_or_ge i eso.size with h | h
        · exact h
        · rw [Nat.sub_eq_zero_of_le h] at hr; simp at hr
      obtain ⟨rfl, hrest⟩ : x = i ∧ rest = List.range' (i + 1) (eso.size - (i + 1)) := by
        have e : eso.size - i = (eso.size - (i + 1)) + 1 := by omega
        rw [e, List.range'_succ] at hr
        injection hr with h1 h2
        exact ⟨h1, h2⟩
      refine wpAny_bind (wpAny_dictEntries hoo' hdo' ?_)
      rw [Array.getElem?_eq_getElem hlt]
      obtain ⟨kv, hkv⟩ : ∃ kv, more[x]? = some kv := ⟨more[x]'(by rw [hlen]; exact hlt), List.getElem?_eq_getElem _⟩
      obtain ⟨k, v⟩ := kv
      obtain ⟨hkey, hval⟩ := hpo.get? (e := eso[x]) (by simp [hlt]) hkv
      obtain ⟨k', hkey', hhash⟩ := hko eso[x] (Array.getElem_mem hlt)
      obtain rfl : k' = k := (mixKind prog w).inj _ _ _ hkey' hkey
      dsimp only
      rw [hhash, hval]
      have hfr : k' ∉ (more.take x).map (·.1) := fun hm => by
        obtain ⟨p, hp, ep⟩ := List.mem_map.mp hm
        have e1 : (more.map (·.1))[x]? = some k' := by rw [List.getElem?_map, hkv]; rfl
        rw [← List.take_append_drop x more, List.map_append, List.nodup_append] at hno
        refine hno.2.2 k' hm k' ?_ rfl
        rw [List.drop_eq_getElem_cons (by rw [hlen]; exact hlt), List.map_cons]
        refine List.mem_cons.mpr (.inl ?_)
        rw [List.getElem?_eq_getElem (by rw [hlen]; exact hlt)] at hkv
        rw [Option.some.inj hkv]
      have hmx : (more.take x).length ≤ sizeLine := by rw [List.length_take]; omega
      have fp := fun (Q : Unit → Shared → Prop) hQ => mg_put (A := A) (E := E) (s := { s' with heap := h' }) (v := v) (Q := Q) hkey hd' hfr hmx hQ
      refine wpAny_bind (wpAny_holding ?_)
      rw [if_pos rfl]
      refine wpAny_bind (wpAny_mono (fp (fun _ _ => True) fun _ _ _ => trivial).2 (fun r s3 ⟨er, es3⟩ => ?_) fun _ _ h => h)
      subst er es3
      rw [Option.isSome_none, if_neg Bool.false_ne_true]
      refine (fp _ fun h'' hd'' hs'' => ?_).1
      have hoo'' : h''.get? o = some oo := (hs''.2 o (Ne.symm hdo)).trans hoo'
      refine wpAny_bind (wpAny_dictEpoch hoo'' hdo' ?_)
      rw [if_neg (by simp)]
      refine wpAny_pure ⟨h'', x + 1, rfl, hrest, hlt, ?_, hoo'', hs'.trans hs''⟩
      rw [List.take_add_one, hkv]
      exact hd''
    · rintro b s2 ⟨h', i, rfl, hr, hi, hd', hoo', hs'⟩
      have hin : i = eso.size := by
        rcases Nat.lt_or_ge i eso.size with h | h
        · have e : eso.size - i = (eso.size - (i + 1)) + 1 := by omega
          rw [e, List.range'_succ] at hr; exact nomatch hr
        · exact Nat.le_antisymm hi h
      refine wpAny_pure (hQ h' ?_ hs')
      rw [hin, ← hlen, List.take_length] at hd'
      exact hd'
end
end EBW

/-! C(e, .., k=v, ..) and C(e, .., **d), the class's __init__ a def with **kw. -/
namespace EBW
open PySem PySem.Spec PyProof.Rows L2 StX
section
variable {prog : Program} {w : World} {A : Around} {E : Value → Shared → Prop} {s : Shared}
theorem mg_kw {f : Value} {y : Sem Value} {Q : Addr → Shared → Prop}
    (h : wpAny (model prog w) A y (fun v s1 => ∃ o more, v = .ref o ∧ s.heap.objs.size ≠ o ∧ (o == sysModules) = false ∧ s1.heap.DictOf (mixKind prog w) s.heap.objs.size [] ∧ s1.heap.DictOf (mixKind prog w) o more ∧ more.length ≤ sizeLine ∧
      ∀ h', h'.DictOf (mixKind prog w) s.heap.objs.size more → Heap.SameBut s.heap.objs.size s1.heap h' → Q s.heap.objs.size { s1 with heap := h' }) E { s with heap := s.heap.push { cls := .type "dict", data := .dict #[] } }) :
    wpAny (model prog w) A (mergedKeywords f [(none, y)]) Q E s := by
  unfold mergedKeywords
  refine wpAny_bind (wpAny_alloc ?_)
  refine wpAny_bind (wpAny_holding ?_)
  dsimp only
  rw [List.forIn_cons]
  refine wpAny_bind (wpAny_bind ?_)
  dsimp only
  rw [if_pos (by rfl)]
  refine wpAny_bind (wpAny_pure ?_)
  refine wpAny_bind (wpAny_mono h (fun v s1 hv => ?_) fun _ _ h => h)
  obtain ⟨o, more, rfl, hdo, hoS, hd, ho, hsz, hQ⟩ := hv
  refine wpAny_bind (wpAny_onRaise (wpAny_holding (wpAny_tryCatch (wpAny_onRaise (wp_merge hdo hoS hd ho hsz fun h' hd' hs' => ?_)))))
  have z := hQ h' hd' hs'
  refine wpAny_pure ?_
  dsimp only
  rw [List.forIn_nil]
  refine wpAny_pure ?_
  rw [if_pos (by rfl)]
  first
    | exact wpAny_bind (wpAny_pure (wpAny_pure z))
    | exact wpAny_pure (wpAny_pure z)
    | exact wpAny_bind (wpAny_bind (wpAny_pure (wpAny_pure z)))
theorem mg_in {f : Value} {d : Addr} {kvs : List (Str × Value)} {Q : List (Str × Value) → Shared → Prop} (hd : s.heap.DictOf (mixKind prog w) d (kvs.map fun p => ((Sum.inr p.1 : Key), p.2))) (h : Q kvs s) :
    wpAny (model prog w) A (keywordsIn f d) Q E s := by
  obtain ⟨o, es, ep, ho, hc, hdt, hk, hp, hn⟩ := hd
  unfold keywordsIn
  refine wpAny_bind (wpAny_dictEntries ho hdt ?_)
  dsimp only
  refine wpAny_bind (wpAny_forIn_array' _ (fun rest b s' => s' = s ∧ ∃ done todo, b = done ∧ kvs = done ++ todo ∧ Pairs (mixKind prog w) rest (todo.map fun p => ((Sum.inr p.1 : Key), p.2))) (fun b s' => wpAny (model prog w) A (pure b) Q E s') ?_ ?_ es _ ⟨rfl, [], kvs, rfl, rfl, hp⟩)
  · rintro x rest b s' ⟨rfl, done, todo, rfl, rfl, hr⟩
    cases todo with
    | nil => cases hr
    | cons p todo =>
      obtain ⟨k, v⟩ := p
      rw [List.map_cons] at hr
      cases hr with
      | cons h1 h2 ht =>
        rcases keyIs_shape (show keyIs (.inr k) x.key = true from h1) with ⟨i, t, ey, e⟩ | ⟨y, t, ey, e⟩
        · cases ey
        · cases ey
          rw [e]
          dsimp only
          refine wpAny_pure ⟨rfl, b ++ [(k, x.val)], todo, rfl, ?_, ht⟩
          rw [List.append_assoc, h2]
          rfl
  · rintro b s' ⟨rfl, done, todo, rfl, rfl, hr⟩
    cases todo with
    | nil =>
      rw [List.append_nil] at h
      exact wpAny_pure h
    | cons p todo => cases hr
end
section
variable {M : Model} {A : Around} {E : Value → Shared → Prop} {s : Shared}
/-- the arguments of a call f(e, .., **y) -/
theorem mg_args {f : Value} {x y : Sem Value} {rest : List (Bool × Sem Value)} {Q : Args → Shared → Prop}
    (h : wpAny M A (spliced ((false, x) :: rest)) (fun vs s1 => wpAny M A (mergedKeywords f [(none, y)]) (fun d s2 => wpAny M A (keywordsIn f d) (fun kw s3 => Q ⟨vs, kw⟩ s3) E s2) E s1) E s) :
    wpAny M A (evalArgs f true ((false, x) :: rest) [(none, y)]) Q E s := by
  unfold evalArgs
  show wpAny M A (spliced ((false, x) :: rest) >>= _) Q E s
  refine wpAny_bind (wpAny_mono h (fun vs s₁ h₁ => ?_) fun _ _ x => x)
  refine wpAny_holding ?_
  dsimp only
  rw [if_neg (by show ¬ (false = true); exact Bool.false_ne_true)]
  refine wpAny_bind (wpAny_mono h₁ (fun d s₂ h₂ => ?_) fun _ _ x => x)
  refine wpAny_bind (wpAny_pure ?_)
  exact wpAny_bind (wpAny_holding (wpAny_mono h₂ (fun kw s₃ h₃ => wpAny_pure h₃) fun _ _ x => x))
theorem mg_call {f : Value} {first : List Value} {pos : Pos} {Q : Value → Shared → Prop} {P : Heap → Prop} {args : List (Bool × Sem Value)} {kws : List (Option Str × Sem Value)} (hst : (args.any (·.1) || kws.any (·.1.isNone)) = true)
    (hk : ∀ h, P h → ∃ k, (k = Keeper.frame ∨ k = Keeper.machine ∨ k = Keeper.boundFrame) ∧ PySem.W.Looks M h (keeperOf f) k)
    (h : wpAny M A (evalArgs f true args kws) (fun a s₁ => P s₁.heap ∧ wpAny M A (call f (first ++ a.pos) a.kw) Q E s₁) E s) : wpAny M A (callWith pos f first args kws) Q E s := by
  unfold callWith
  refine wpAny_bind (wpAny_holding (wpAny_mono h (fun a s₁ h₁ => wpAny_bind (wpAny_standAt ?_)) fun _ _ x => x))
  obtain ⟨k, hk', L⟩ := hk _ h₁.1
  simp only [hst]
  refine wpAny_bind (L.here ?_)
  have tail : ∀ {t : Sem Value}, wpAny M A t Q E s₁ → wpAny M A (t >>= fun r => holding [r] point >>= fun _ => pure r) Q E s₁ :=
    fun ht => wpAny_bind (wpAny_mono ht (fun r s₂ hr => wpAny_bind (wpAny_holding (wpAny_point (wpAny_pure hr)))) fun _ _ x => x)
  have marked (mk : Value) : wpAny M A (callMarked mk f (first ++ a.pos) a.kw) Q E s₁ := by unfold callMarked; exact Calls.wpAny_keep h₁.2
  rcases hk' with rfl | rfl | rfl <;> dsimp only <;> first | exact tail (marked _) | exact tail (wpAny_operating h₁.2)
end
section
variable {X : Cx} {CX : CXT} {k : Nat} {f C : Addr} {sp : SpK} {E : XK} {x : Str} {e : Expr} {es : List Expr} {kws : List Keyword} {ks : List Str} {te : TE} {t tk : TA} {p pos kpos : Pos}
theorem run_makeK {pins : List (Addr × Obj)} {σ : L2.St} {H : Hp} {s : Shared} {Q : VK} {us : List Value} {vs : List V} {kws : List (Str × Value)} {kvs : List (Str × V)} (M : Mk X.K C f) (F : FnRK X.prog X.w X.K X.mg X.base CX k f sp) (hr : Room (k + 1) X.A) (hx : Passes CX X E) (I : Inv X pins σ H s) (r : Vals vs us) (rk : KWs kvs kws)
    (h : ∀ x dx, H x = Option.none → H dx = Option.none → dx ≠ x → sp (V.ref x :: vs) kvs (upd (upd H dx (.own x)) x (.ins C dx [])) (fun v H2 => v = .non ∧ Q (.ref x) H2) E) :
    wpAny (model X.prog X.w) X.A (call (.ref C) us kws) (EP X pins σ Q) X.xe s := by
  have hq := h (s.heap.objs.size + 1) s.heap.objs.size (I.hok.fresh (Nat.le_succ _)) (I.hok.fresh (Nat.le_refl _)) (Nat.ne_of_lt (Nat.lt_succ_self _))
  have I2 := Inv.made (C := C) I
  have r2 : Vals (V.ref (s.heap.objs.size + 1) :: vs) (Value.ref (s.heap.objs.size + 1) :: us) := .cons rfl r
  refine wpAny_call (make_map (f := f) I.kIn M.makes M.init (beq_iff_eq.mp M.fn) (codeAny_mono (F _ X.stack _ _ (Value.ref (s.heap.objs.size + 1) :: us) _ kws kvs _ E (hr.make C us kws) (I2.env0.make C us kws) r2 rk hq) fun r s' hq' => ?_))
  cases r with
  | error e => exact hx pins σ _ _ e s' I2 hq'
  | ok fl =>
    cases fl with
    | ret u =>
      obtain ⟨v, H', I3, rv, ev, q3⟩ := I2.after hq'
      subst ev
      exact ⟨rv, ⟨V.ref (s.heap.objs.size + 1), H', I3, rfl, q3⟩⟩
    | next => exact False.elim hq'
    | brk => exact False.elim hq'
    | cont => exact False.elim hq'
/-- C(e, .., k=v, ..) -/
def tMakeK (C : Addr) (sp : SpK) (E : XK) (ks : List Str) (t tk : TA) : TE := fun σ H Q => t σ H fun vs H1 => tk σ H1 fun ws H2 => ws.length = ks.length ∧ ∀ x dx, H2 x = none → H2 dx = none → dx ≠ x → sp (V.ref x :: vs) (ks.zip ws) (upd (upd H2 dx (.own x)) x (.ins C dx [])) (fun v H3 => v = .non ∧ Q (.ref x) H3) E
theorem kws_zip : ∀ {ks : List Str} {vs : List V} {us : List Value}, Vals vs us → KWs (ks.zip vs) (ks.zip us)
  | [], _, _, _ => .nil
  | k :: ks, _, _, .nil => .nil
  | k :: ks, _, _, .cons r t => .cons ⟨rfl, r⟩ (kws_zip t)
theorem pe_makeK (M : Mk X.K C f) (F : FnRK X.prog X.w X.K X.mg X.base CX k f sp) (hr : Room (k + 1) X.A) (hg : Gl X x) (hm : X.mg x = some (.ref C)) (hx : Passes CX X E) (ha : PA X (e :: es) t) (hkw : PK X kws tk)
    (hall : (backToKw pos (keywordEach kws X.env)).all (·.1.isSome) = true := by rfl) (hks : (backToKw pos (keywordEach kws X.env)).filterMap (·.1) = ks := by rfl)
    (hdb : (x == ("__debug__" : Str)) = false := by decide) (he : starEach (e :: es) X.env = (false, eval e X.env) :: starEach es X.env := by rfl)
    (hpl : ((backTo pos (starEach (e :: es) X.env)).any (·.1) || (backToKw pos (keywordEach kws X.env)).any (·.1.isNone)) = false := by rfl) :
    PE X (.Call (.Name x p) (e :: es) kws pos) (tMakeK C sp E ks t tk) := by
  refine ⟨fun pins s σ H Q I h => ?_⟩
  refine wpAny_Call_Name_kw (ld_glob I hg hm ?_ hdb)
  refine PySem.W.callWith_KW (h₀ := X.base) I.ok.mod.kin M.kp hall (thn (ha.run pos pins s σ H _ I h) fun us s1 ⟨vs, H1, I1, r, q⟩ => ?_) hpl he
  refine thn (hkw.run pos pins s1 σ H1 _ I1 q) fun ws s2 ⟨zs, H2, I2, rz, hl, q2⟩ => ⟨I2.kIn, ?_⟩
  rw [hks]
  exact run_makeK M F hr hx I2 r (kws_zip rz) q2
theorem kv_kws : ∀ {kvs : List (Str × V)} {vs : List (Key × Value)}, KV (kwK kvs) vs → ∃ kws : List (Str × Value), vs = kws.map (fun p => ((Sum.inr p.1 : Key), p.2)) ∧ KWs kvs kws
  | [], _, .nil => ⟨[], rfl, .nil⟩
  | (k, v) :: kvs, (k', u) :: _, .cons r t => by
    obtain ⟨kws, rfl, h⟩ := kv_kws (kvs := kvs) t
    exact ⟨(k, u) :: kws, by rw [List.map_cons, show k' = (Sum.inr k : Key) from r.1.symm], .cons ⟨rfl, r.2⟩ h⟩
/-- C(e, .., **y) -/
def tMakeD (C : Addr) (sp : SpK) (E : XK) (t : TA) (te : TE) : TE := fun σ H Q => t σ H fun vs H1 => ∀ q, H1 q = none → te σ (upd H1 q (.dK [])) fun y H2 => ∃ a kvs, y = V.ref a ∧ q ≠ a ∧ H2 q = some (.dK []) ∧ Rd H2 a (.dK (kwK kvs)) ∧
  ∀ x dx, upd H2 q (.dK (kwK kvs)) x = none → upd H2 q (.dK (kwK kvs)) dx = none → dx ≠ x → sp (V.ref x :: vs) kvs (upd (upd (upd H2 q (.dK (kwK kvs))) dx (.own x)) x (.ins C dx [])) (fun v H3 => v = .non ∧ Q (.ref x) H3) E
theorem pe_makeD (M : Mk X.K C f) (F : FnRK X.prog X.w X.K X.mg X.base CX k f sp) (hr : Room (k + 1) X.A) (hg : Gl X x) (hm : X.mg x = some (.ref C)) (hx : Passes CX X E) {y : Expr} (ha : PA X (e :: es) t) (hy : PE X y te)
    (hkw : keywordEach [⟨none, y, kpos⟩] X.env = [(none, eval y X.env)] := by rfl)
    (hdb : (x == ("__debug__" : Str)) = false := by decide) (he : starEach (e :: es) X.env = (false, eval e X.env) :: starEach es X.env := by rfl) :
    PE X (.Call (.Name x p) (e :: es) [⟨none, y, kpos⟩] pos) (tMakeD C sp E t te) := by
  refine ⟨fun pins s σ H Q I h => ?_⟩
  refine wpAny_Call_Name_kw (ld_glob I hg hm ?_ hdb)
  rw [hkw]
  have hA := ha.run pos pins s σ H _ I h
  rw [he] at hA ⊢
  refine mg_call (P := fun h => X.K.In h) (by show ((backTo pos _).any (·.1) || true) = true; exact Bool.or_true _) (fun h Xk => PySem.W.keeps_K M.kp h Xk) ?_
  refine mg_args (thn hA fun us s1 ⟨vs, H1, I1, r, q⟩ => ?_)
  have nq := I1.hok.fresh (Nat.le_refl s1.heap.objs.size)
  have I1' : L2.Inv X pins σ (upd H1 s1.heap.objs.size (.dK [])) { s1 with heap := s1.heap.push { cls := .type "dict", data := .dict #[] } } :=
    I1.laid (a := s1.heap.objs.size) (o := .dK []) (t' := s1.toks) (fun b q hq => Heap.get?_push_of_some _ hq) (Nat.le_refl _) (dk_empty _ I1.big)
  refine mg_kw (wpAny_bind (thn (hy.run pins _ σ _ _ I1' (q _ nq)) fun v s2 ⟨yv, H2, I2, ry, a, kvs, ey, hqa, hq, hRd, hk⟩ => wpAny_bind (wpAny_standAt (wpAny_pure ?_))))
  subst ey
  obtain rfl : v = Value.ref a := ry
  obtain ⟨z0, hm0, vs0, rel0, dd0⟩ := dk_of I2.hok hq
  obtain ⟨z1, hm1, vs1, rel1, dd1⟩ := dk_rd I2.hok hRd
  cases rel0
  obtain ⟨kws, rfl, rk⟩ := kv_kws rel1
  refine ⟨a, _, rfl, hqa, hm1, dd0, dd1, by rw [← rel1.length]; exact z1, fun h' dd' hs => ?_⟩
  have he' : ∃ q, h'.get? s1.heap.objs.size = some q := let ⟨q, _, _, hq, _⟩ := dd'; ⟨q, hq⟩
  have I3 := d_write (t' := s2.toks) I2 (by rw [hq]; exact True.intro) hs he' (dk_new z1 hm0 rel1 dd')
  exact mg_in dd' ⟨I3.kIn, run_makeK M F hr hx I3 r rk hk⟩
end
end EBW

/-! *d in a display or an argument list, d a dict: its keys. -/
namespace EBW
open PySem PySem.Spec PyProof.Rows L2 StX
section
variable {X : Cx} {pins : List (Addr × Obj)} {σ : L2.St} {H : Hp} {s : Shared}
theorem star_dk {a : Addr} {kvs : List (Key × V)} {E : Value → Shared → Prop} {Q : List Value → Shared → Prop} (hc : X.calm = true) (I : L2.Inv X pins σ H s) (h : Rd H a (.dK kvs)) (hQ : ∀ us s', L2.Inv X pins σ H s' → Vals (kvs.map fun kv => kV kv.1) us → Q us s') : PySem.W.StarOf (model X.prog X.w) X.A E (.ref a) Q s := by
  obtain ⟨z, lo, vs, rel, dd⟩ := dk_rd I.hok h
  obtain ⟨ep, hat⟩ := dd.dictAt
  have ek : (kvs.map fun kv => kV kv.1) = vs.map fun p => kV p.1 := by
    have e := congrArg (List.map kV) rel.keys
    rw [List.map_map, List.map_map] at e
    exact e
  unfold PySem.W.StarOf notIterableAtAll
  refine wpAny_bind (wpAny_specialOf dd.typeIs F.slot_dict_iter.lookup (wpAny_pure ⟨rfl, ?_⟩))
  refine PySem.W.kdu_collect (PySem.W.kdl_dict (knd := mixKind X.prog X.w) (kvs := vs) (ep := ep) lo) (I.ok.hd hc) hat (by rw [← rel.length]; exact z) fun h' tk acc hk hacc => ?_
  have hv : Vals (vs.map fun p => kV p.1) acc.toList := keys_at (by rw [Array.length_toList]; exact hacc.1) fun j v e => hacc.2 j v (by rw [← Array.getElem?_toList]; exact e)
  refine hQ _ _ (I.kept hk) ?_
  rw [ek]
  exact hv
end
def tStarD (te : TE) (t : TA) : TA := fun σ H Q => te σ H fun x H1 => ∃ p kvs, x = V.ref p ∧ Rd H1 p (.dK kvs) ∧ t σ H1 fun ys H2 => Q ((kvs.map fun kv => kV kv.1) ++ ys) H2
theorem pa_starD {X : Cx} {e : Expr} {es : List Expr} {te : TE} {t : TA} {p : Pos} (hc : X.calm = true) (he : PE X e te) (hr : PA X es t) (hs : starEach (.Starred e p :: es) X.env = (true, eval e X.env) :: starEach es X.env := by rfl) : PA X (.Starred e p :: es) (tStarD te t) := by
  refine ⟨fun pos pins s σ H Q I h => ?_⟩
  refine PySem.W.items_star (thn (he.run pins s σ H _ I h) fun v s1 ⟨y, H1, I1, ry, a, xs, ey, hx, q⟩ => ?_) hs
  subst ey
  obtain rfl : v = Value.ref a := ry
  refine star_dk hc I1 hx fun us s2 I2 rv => ?_
  exact thn (hr.run pos pins s2 σ H1 _ I2 q) fun ws s3 ⟨vs, H3, I3, r3, q3⟩ => ⟨_, H3, I3, rv.append r3, q3⟩
end EBW

/-! name = {..: .. for .. in ..} on one line, the name a local. -/
namespace EB
open PySem PySem.Spec PyProof.Rows L2
section
variable {X : Cx}
theorem ps_setDc {i : Nat} {y : Str} {py : Pos} {kx vx tg iter : Expr} {ifs : List Expr} {scope : Scope} {own : List (Str × Nat)} {pos spos : Pos} {wi : TI} {g : TG} {tt : TT} {tk tv : TE} (calm : X.calm = true) (nd : X.N.Nodup) (hy : X.N[i]? = some y) (hyl : X.env.scope.names.lookup y = some .local)
    (sw : swapsWith (.DictComp kx vx [⟨tg, iter, ifs, 0⟩] scope pos) (some (.Name y py)) spos.line X.env = pure true) (hi : PI X tg iter wi) (blk : BlkOk X.N X.env.scope scope own)
    (pg : ∀ (s : Shared) (H : Hp) (C : Addr) (cl : List (Str × Addr)) (fp : List Addr), PG (X.blk s H scope (compEnvC scope cl C X.env) fp) tg g)
    (pt : ∀ (s : Shared) (H : Hp) (C : Addr) (cl : List (Str × Addr)) (fp : List Addr), PTs (X.blk s H scope (compEnvC scope cl C X.env) fp) ifs tt)
    (pk : ∀ (s : Shared) (H : Hp) (C : Addr) (cl : List (Str × Addr)) (fp : List Addr), PE (X.blk s H scope (compEnvC scope cl C X.env) fp) kx tk)
    (pv : ∀ (s : Shared) (H : Hp) (C : Addr) (cl : List (Str × Addr)) (fp : List Addr), PE (X.blk s H scope (compEnvC scope cl C X.env) fp) vx tv) (hs : ∀ x, foldedSetIterable iter X.env x = pure x := by intro _; rfl) :
    PS X (.Assign [.Name y py] (.DictComp kx vx [⟨tg, iter, ifs, 0⟩] scope pos) spos) (tAsg (tDc wi g tt tk tv (own.map (·.2))) (gName i)) := ⟨fun pins s σ H D I h => by
  rw [exec_Assign_Name_used _ _ _ _ sw]
  refine wpAny_bind (wpAny_standAt (wpAny_bind ?_))
  show wpAny _ X.A (do let _ ← comprehension (.DictComp kx vx [⟨tg, iter, ifs, 0⟩] scope pos) scope X.env (firstIterPos [⟨tg, iter, ifs, 0⟩] pos) newDict false (eval iter X.env) (some (assign (.Name y py) X.env))) _ _ s
  have h : tDc wi g tt tk tv (own.map (·.2)) σ H (fun x H1 => gName i x σ H1 D.nx) := h
  have core := dc_core (use := some (assign (.Name y py) X.env)) (Qf := fun _ s' => SP X pins D .next s') (pos := pos) (pos' := firstIterPos [⟨tg, iter, ifs, 0⟩] pos) calm nd I hi blk pg pt pk pv hs h fun L C s' m H' I' q hn ⟨f0, f1, f2, f3, f4, f5⟩ => by
    show wpAny _ _ (assign (.Name y py) X.env (.ref L)) _ _ _
    refine wpAny_assign_Name (store_ok2 (v := V.ref L) I' nd hy (.inl hyl) rfl (fun s2 I2 ⟨a, sb, ha⟩ => ⟨m, hn.sameBut sb ?_, fun h3 sb3 => ⟨_, H', I2.turned (t' := s2.toks) (fun b o hb e => (sb3.2 b hb).trans e) f0 f1 f3 f4 f5, q⟩⟩) (.inr hyl))
    rcases ha with z | z
    · exact fun e => f1 (e.trans z)
    · exact fun e => (f4 y a z) e.symm
  exact wpAny_bind (thn core fun _ s' hq => wpAny_pure (wpAny_pure hq))⟩
theorem sw_trueD {kx vx : Expr} {gs : List Comprehension} {scope : Scope} {pos py : Pos} {y : Str} {l : Nat} {env : Env} (hk : env.scope.kind = .function) (hy : env.scope.names.lookup y = some .local) (hl : (py.line == pos.line) = true)
    (ha : (scope.names.any fun (n, k) => n == y && (k == .local || k == .cell)) = false) : swapsWith (.DictComp kx vx gs scope pos) (some (.Name y py)) l env = pure true := by
  have k1 : env.kindOf y = some .local := hy
  have k2 : env.blockKind = .function := by
    unfold Env.blockKind
    rw [hk]
    rfl
  unfold swapsWith
  simp only [k2, k1, ha, Expr.pos, hl]
  rfl
end
end EB

/-! list(d.values()). -/
namespace EBW
open PySem PySem.Spec PyProof.Rows L2
def tListValues (te : TE) : TE := fun σ H Q => te σ H fun x H1 => ∃ (d : Addr) (kvs : List (Key × V)), x = .ref d ∧ Rd H1 d (.dK kvs) ∧ ∀ p, H1 p = none → Q (.ref p) (upd H1 p (.lst (kvs.map (·.2))))
theorem kv_at : ∀ {kvs : List (Key × V)} {vs : List (Key × Value)}, KV kvs vs → ∀ {i : Nat} {x : V} {k : Key} {u : Value}, (kvs.map (·.2))[i]? = some x → vs[i]? = some (k, u) → RelV x u
  | _, _, .nil, i, x, k, u, h, _ => by cases h
  | _, _, .cons r t, 0, x, k, u, h, g => by
    have e1 := Option.some.inj h
    have e2 := Option.some.inj g
    subst e1
    have r2 := r.2
    rw [e2] at r2
    exact r2
  | _, _, .cons r t, i + 1, x, k, u, h, g => kv_at t (i := i) (k := k) (by simpa using h) (by simpa using g)
theorem pe_listValues {X : Cx} {e : Expr} {te : TE} {p apos cpos pos : Pos} (hc : X.calm = true) (he : PE X e te) (hg : Gl X "list") (hm : X.mg "list" = none) (hv : bootBuiltins "list" = some (.type "list")) (hbase : attributeBase e "values" X.env (eval e X.env) = eval e X.env := by rfl) (hline : (apos.endLine == cpos.line) = true := by rfl)
    (hs : starEach [.Call (.Attribute e "values" apos) [] [] cpos] X.env = (false, eval (.Call (.Attribute e "values" apos) [] [] cpos) X.env) :: starEach [] X.env := by rfl) :
    PE X (.Call (.Name "list" p) [.Call (.Attribute e "values" apos) [] [] cpos] [] pos) (tListValues te) := by
  refine ⟨fun pins s σ H Q I hq => ?_⟩
  refine wpAny_Call_Name_kw (ld_blt I hg hm hv ?_)
  refine PyProof.Rows.callWith_type1 ?_ hs rfl
  rw [hs]
  show wpAny _ _ (spliced ((false, eval (.Call (.Attribute e "values" apos) [] [] cpos) X.env) :: backTo pos (starEach [] X.env))) _ _ s
  refine Calls.spliced_cons ?_
  refine wpAny_Call_method (T := "dict") (id := "dict.values") hbase rfl hline F.plainAttrs_dict F.slot_dict_values F.type_dict_values (thn (he.run pins s σ H _ I hq) fun u s1 ⟨x, H1, I1, rx, d, kvs, ex, hd, q⟩ => ?_)
  subst ex
  obtain rfl : u = Value.ref d := rx
  obtain ⟨hz, hs0, vs, kv, hdo⟩ := dk_rd I1.hok hd
  obtain ⟨ep, hat⟩ := hdo.dictAt
  have lk : kvs.length = vs.length := Paired.length kv
  have I2 : L2.Inv X pins σ H1 { s1 with heap := s1.heap.push { cls := .type "dict_values", data := .fields #[.ref d] } } := I1.kept (t' := s1.toks) fun b ob q => Heap.get?_push_of_some _ q
  refine ⟨hdo.typeIs, hdo.mapOf.noDict, ?_⟩
  show wpAny _ _ (callWith cpos (.builtin "dict.values") [.ref d] [] []) _ X.xe s1
  refine method_meetsIn F.slot_dict_values F.entry_dict_values rfl (PySem.evalArgs_none ⟨rfl, hdo.typeIs, F.args_dict_values_1 _, _, meets_dict_values (mixKind X.prog X.w) d hs0, ⟨vs, hdo⟩, ?_⟩)
  refine Calls.spliced_nil ?_
  refine PySem.W.kdl_call (PySem.W.kdl_values (knd := mixKind X.prog X.w) (kvs := vs) (ep := ep)) (I1.ok.hd hc) ⟨⟨_, Heap.get?_push_size _ rfl, rfl, rfl⟩, hat.push _⟩ (by omega) fun h' tk acc c' hk hD hacc => ?_
  have el : acc.toList.length = acc.size := by simp
  have hv : Vals (kvs.map (·.2)) acc.toList := vals_of_at (by rw [List.length_map, el, hacc.1, lk]) fun j x w h1 h2 => by
    obtain ⟨k, hx⟩ := hacc.2 j w (by rw [← Array.getElem?_toList]; exact h2)
    exact kv_at kv h1 hx
  exact ⟨.ref _, upd H1 _ (.lst (kvs.map (·.2))), I2.laid (t' := tk) hk (Nat.le_refl _) (show ObjOk X.prog X.w _ _ _ (.lst (kvs.map (·.2))) from ⟨by rw [List.length_map]; exact hz, acc.toList, c', hv, by rw [Array.toArray_toList]; exact hD⟩), rfl, q _ (I2.hok.fresh (Nat.le_refl _))⟩
end EBW

/-! C(): no argument at all, the class's __init__ a def with **kw. -/
namespace EBW
open PySem PySem.Spec PyProof.Rows L2 StX
section
variable {X : Cx} {CX : CXT} {k : Nat} {f C : Addr} {sp : SpK} {E : XK} {x : Str} {p pos : Pos}
def tMakeK0 (C : Addr) (sp : SpK) (E : XK) : TE := fun σ H Q => ∀ x dx, H x = none → H dx = none → dx ≠ x → sp [V.ref x] [] (upd (upd H dx (.own x)) x (.ins C dx [])) (fun v H3 => v = .non ∧ Q (.ref x) H3) E
theorem pe_makeK0 (M : Mk X.K C f) (F : FnRK X.prog X.w X.K X.mg X.base CX k f sp) (hr : Room (k + 1) X.A) (hg : Gl X x) (hm : X.mg x = some (.ref C)) (hx : Passes CX X E) (hdb : (x == ("__debug__" : Str)) = false := by decide) :
    PE X (.Call (.Name x p) [] [] pos) (tMakeK0 C sp E) := by
  refine ⟨fun pins s σ H Q I h => ?_⟩
  refine wpAny_Call_Name_kw (ld_glob I hg hm ?_ hdb)
  refine PySem.W.callWith_KW0 (h₀ := X.base) (kws := []) I.ok.mod.kin M.kp rfl ?_
  refine wpAny_evalAll_nil ⟨I.kIn, ?_⟩
  exact run_makeK M F hr hx I .nil .nil h
end
end EBW


namespace EB
open PySem PySem.Spec PyProof.Rows L2
def top (i : Nat) : Stmt := PySem.Challenge.pw_emptiesback_k42_whole_drinks_of_stocks.main.body.getD i (.Pass ⟨0, 0, 0, 0⟩)
abbrev s_is_integer : Stmt := top 14
abbrev N_is_integer : List Str := ["value"]
theorem sc_is_integer : FnScope N_is_integer ["value"] (defScope s_is_integer) := ⟨rfl, rfl, rfl, by decide +kernel, rfl, by decide +kernel, by decide +kernel⟩
abbrev a_is_integer (K : PySem.W.Frag) : Addr := He.ga K "is_integer"
def d_is_integer : DD := ⟨a_is_integer, "is_integer", "is_integer", s_is_integer, [], false⟩
abbrev s_is_number : Stmt := top 15
abbrev N_is_number : List Str := ["value", "least", "most"]
theorem sc_is_number : FnScope N_is_number ["value", "least", "most"] (defScope s_is_number) := ⟨rfl, rfl, rfl, by decide +kernel, rfl, by decide +kernel, by decide +kernel⟩
abbrev a_is_number (K : PySem.W.Frag) : Addr := He.ga K "is_number"
def d_is_number : DD := ⟨a_is_number, "is_number", "is_number", s_is_number, [], false⟩
abbrev s_check_number : Stmt := top 16
abbrev N_check_number : List Str := ["value", "least", "most"]
theorem sc_check_number : FnScope N_check_number ["value", "least", "most"] (defScope s_check_number) := ⟨rfl, rfl, rfl, by decide +kernel, rfl, by decide +kernel, by decide +kernel⟩
abbrev a_check_number (K : PySem.W.Frag) : Addr := He.ga K "check_number"
def d_check_number : DD := ⟨a_check_number, "check_number", "check_number", s_check_number, [.int 0, .int 1000000000000000000], false⟩
abbrev s_is_label : Stmt := top 17
abbrev N_is_label : List Str := ["value", "letter"]
theorem sc_is_label : FnScope N_is_label ["value"] (defScope s_is_label) := ⟨rfl, rfl, rfl, by decide +kernel, rfl, by decide +kernel, by decide +kernel⟩
abbrev a_is_label (K : PySem.W.Frag) : Addr := He.ga K "is_label"
def d_is_label : DD := ⟨a_is_label, "is_label", "is_label", s_is_label, [], false⟩
abbrev s_is_kind : Stmt := top 18
abbrev N_is_kind : List Str := ["value"]
theorem sc_is_kind : FnScope N_is_kind ["value"] (defScope s_is_kind) := ⟨rfl, rfl, rfl, by decide +kernel, rfl, by decide +kernel, by decide +kernel⟩
abbrev a_is_kind (K : PySem.W.Frag) : Addr := He.ga K "is_kind"
def d_is_kind : DD := ⟨a_is_kind, "is_kind", "is_kind", s_is_kind, [], false⟩
abbrev s_after_drinks : Stmt := top 20
abbrev N_after_drinks : List Str := ["offer", "pieces", "drunk", "after", "kind", "left", "_"]
theorem sc_after_drinks : FnScope N_after_drinks ["offer", "pieces", "drunk"] (defScope s_after_drinks) := ⟨rfl, rfl, rfl, by decide +kernel, rfl, by decide +kernel, by decide +kernel⟩
abbrev a_after_drinks (K : PySem.W.Frag) : Addr := He.ga K "after_drinks"
def d_after_drinks : DD := ⟨a_after_drinks, "after_drinks", "after_drinks", s_after_drinks, [], false⟩
abbrev s_most_trades : Stmt := top 21
abbrev N_most_trades : List Str := ["offer", "pieces", "kind", "_", "needed"]
theorem sc_most_trades : FnScope N_most_trades ["offer", "pieces"] (defScope s_most_trades) := ⟨rfl, rfl, rfl, by decide +kernel, rfl, by decide +kernel, by decide +kernel⟩
abbrev a_most_trades (K : PySem.W.Frag) : Addr := He.ga K "most_trades"
def d_most_trades : DD := ⟨a_most_trades, "most_trades", "most_trades", s_most_trades, [], false⟩
abbrev s_after_trades : Stmt := top 22
abbrev N_after_trades : List Str := ["offer", "pieces", "counts", "after", "kind", "_", "needed"]
theorem sc_after_trades : FnScope N_after_trades ["offer", "pieces", "counts"] (defScope s_after_trades) := ⟨rfl, rfl, rfl, by decide +kernel, rfl, by decide +kernel, by decide +kernel⟩
abbrev a_after_trades (K : PySem.W.Frag) : Addr := He.ga K "after_trades"
def d_after_trades : DD := ⟨a_after_trades, "after_trades", "after_trades", s_after_trades, [], false⟩
abbrev s_use_up : Stmt := top 23
abbrev N_use_up : List Str := ["offer", "full", "pieces", "drinks", "counts"]
theorem sc_use_up : FnScope N_use_up ["offer", "full", "pieces"] (defScope s_use_up) := ⟨rfl, rfl, rfl, by decide +kernel, rfl, by decide +kernel, by decide +kernel⟩
abbrev a_use_up (K : PySem.W.Frag) : Addr := He.ga K "use_up"
def d_use_up : DD := ⟨a_use_up, "use_up", "use_up", s_use_up, [], false⟩
abbrev s_check_pieces : Stmt := top 27
abbrev N_check_pieces : List Str := ["kinds", "pieces", "kind"]
theorem sc_check_pieces : FnScope N_check_pieces ["kinds", "pieces"] (defScope s_check_pieces) := ⟨rfl, rfl, rfl, by decide +kernel, rfl, by decide +kernel, by decide +kernel⟩
abbrev a_check_pieces (K : PySem.W.Frag) : Addr := He.ga K "_check_pieces"
def d_check_pieces : DD := ⟨a_check_pieces, "_check_pieces", "_check_pieces", s_check_pieces, [], false⟩
abbrev s_Stock_init : Stmt := inClass (top 28) 0
abbrev N_Stock_init : List Str := ["this_stock", "full", "pieces", "kinds", "kind"]
theorem sc_Stock_init : FnScope N_Stock_init ["this_stock", "full", "pieces"] (defScope s_Stock_init) := ⟨rfl, rfl, rfl, by decide +kernel, rfl, by decide +kernel, by decide +kernel⟩
abbrev a_Stock_init (K : PySem.W.Frag) : Addr := He.ma K (He.ga K "Stock") "__init__"
def d_Stock_init : DD := ⟨a_Stock_init, "__init__", "Stock.__init__", s_Stock_init, [.int 0], false⟩
abbrev s_Stock_filled : Stmt := inClass (top 28) 1
abbrev N_Stock_filled : List Str := ["self"]
theorem sc_Stock_filled : FnScope N_Stock_filled ["self"] (defScope s_Stock_filled) := ⟨rfl, rfl, rfl, by decide +kernel, rfl, by decide +kernel, by decide +kernel⟩
abbrev a_Stock_filled (K : PySem.W.Frag) : Addr := propG K (He.ga K "Stock") (He.ma K (He.ga K "Stock") "filled")
def d_Stock_filled : DD := ⟨a_Stock_filled, "filled", "Stock.filled", s_Stock_filled, [], false⟩
abbrev s_Stock_loose : Stmt := inClass (top 28) 2
abbrev N_Stock_loose : List Str := ["self"]
theorem sc_Stock_loose : FnScope N_Stock_loose ["self"] (defScope s_Stock_loose) := ⟨rfl, rfl, rfl, by decide +kernel, rfl, by decide +kernel, by decide +kernel⟩
abbrev a_Stock_loose (K : PySem.W.Frag) : Addr := propG K (He.ga K "Stock") (He.ma K (He.ga K "Stock") "loose")
def d_Stock_loose : DD := ⟨a_Stock_loose, "loose", "Stock.loose", s_Stock_loose, [], false⟩
abbrev s_Stock_getitem : Stmt := inClass (top 28) 3
abbrev N_Stock_getitem : List Str := ["self", "at"]
theorem sc_Stock_getitem : FnScope N_Stock_getitem ["self", "at"] (defScope s_Stock_getitem) := ⟨rfl, rfl, rfl, by decide +kernel, rfl, by decide +kernel, by decide +kernel⟩
abbrev a_Stock_getitem (K : PySem.W.Frag) : Addr := He.ma K (He.ga K "Stock") "__getitem__"
def d_Stock_getitem : DD := ⟨a_Stock_getitem, "__getitem__", "Stock.__getitem__", s_Stock_getitem, [], false⟩
abbrev s_Stock_iter : Stmt := inClass (top 28) 4
abbrev N_Stock_iter : List Str := ["self"]
theorem sc_Stock_iter : FnScope N_Stock_iter ["self"] (defScope s_Stock_iter) := ⟨rfl, rfl, rfl, by decide +kernel, rfl, by decide +kernel, by decide +kernel⟩
abbrev a_Stock_iter (K : PySem.W.Frag) : Addr := He.ma K (He.ga K "Stock") "__iter__"
def d_Stock_iter : DD := ⟨a_Stock_iter, "__iter__", "Stock.__iter__", s_Stock_iter, [], false⟩
abbrev s_Stock_contains : Stmt := inClass (top 28) 5
abbrev N_Stock_contains : List Str := ["self", "x"]
theorem sc_Stock_contains : FnScope N_Stock_contains ["self", "x"] (defScope s_Stock_contains) := ⟨rfl, rfl, rfl, by decide +kernel, rfl, by decide +kernel, by decide +kernel⟩
abbrev a_Stock_contains (K : PySem.W.Frag) : Addr := He.ma K (He.ga K "Stock") "__contains__"
def d_Stock_contains : DD := ⟨a_Stock_contains, "__contains__", "Stock.__contains__", s_Stock_contains, [], false⟩
abbrev s_Stock_bool : Stmt := inClass (top 28) 6
abbrev N_Stock_bool : List Str := ["self"]
theorem sc_Stock_bool : FnScope N_Stock_bool ["self"] (defScope s_Stock_bool) := ⟨rfl, rfl, rfl, by decide +kernel, rfl, by decide +kernel, by decide +kernel⟩
abbrev a_Stock_bool (K : PySem.W.Frag) : Addr := He.ma K (He.ga K "Stock") "__bool__"
def d_Stock_bool : DD := ⟨a_Stock_bool, "__bool__", "Stock.__bool__", s_Stock_bool, [], false⟩
abbrev s_Stock_eq : Stmt := inClass (top 28) 7
abbrev N_Stock_eq : List Str := ["self", "other"]
theorem sc_Stock_eq : FnScope N_Stock_eq ["self", "other"] (defScope s_Stock_eq) := ⟨rfl, rfl, rfl, by decide +kernel, rfl, by decide +kernel, by decide +kernel⟩
abbrev a_Stock_eq (K : PySem.W.Frag) : Addr := He.ma K (He.ga K "Stock") "__eq__"
def d_Stock_eq : DD := ⟨a_Stock_eq, "__eq__", "Stock.__eq__", s_Stock_eq, [], false⟩
abbrev s_Stock_le : Stmt := inClass (top 28) 8
abbrev N_Stock_le : List Str := ["self", "other"]
theorem sc_Stock_le : FnScope N_Stock_le ["self", "other"] (defScope s_Stock_le) := ⟨rfl, rfl, rfl, by decide +kernel, rfl, by decide +kernel, by decide +kernel⟩
abbrev a_Stock_le (K : PySem.W.Frag) : Addr := He.ma K (He.ga K "Stock") "__le__"
def d_Stock_le : DD := ⟨a_Stock_le, "__le__", "Stock.__le__", s_Stock_le, [], false⟩
abbrev s_Stock_ge : Stmt := inClass (top 28) 9
abbrev N_Stock_ge : List Str := ["self", "other"]
theorem sc_Stock_ge : FnScope N_Stock_ge ["self", "other"] (defScope s_Stock_ge) := ⟨rfl, rfl, rfl, by decide +kernel, rfl, by decide +kernel, by decide +kernel⟩
abbrev a_Stock_ge (K : PySem.W.Frag) : Addr := He.ma K (He.ga K "Stock") "__ge__"
def d_Stock_ge : DD := ⟨a_Stock_ge, "__ge__", "Stock.__ge__", s_Stock_ge, [], false⟩
abbrev s_Stock_add : Stmt := inClass (top 28) 10
abbrev N_Stock_add : List Str := ["self", "other", "full", "pieces", "kind"]
theorem sc_Stock_add : FnScope N_Stock_add ["self", "other"] (defScope s_Stock_add) := ⟨rfl, rfl, rfl, by decide +kernel, rfl, by decide +kernel, by decide +kernel⟩
abbrev a_Stock_add (K : PySem.W.Frag) : Addr := He.ma K (He.ga K "Stock") "__add__"
def d_Stock_add : DD := ⟨a_Stock_add, "__add__", "Stock.__add__", s_Stock_add, [], false⟩
abbrev s_Stock_sub : Stmt := inClass (top 28) 11
abbrev N_Stock_sub : List Str := ["self", "other", "kind", "full", "pieces"]
theorem sc_Stock_sub : FnScope N_Stock_sub ["self", "other"] (defScope s_Stock_sub) := ⟨rfl, rfl, rfl, by decide +kernel, rfl, by decide +kernel, by decide +kernel⟩
abbrev a_Stock_sub (K : PySem.W.Frag) : Addr := He.ma K (He.ga K "Stock") "__sub__"
def d_Stock_sub : DD := ⟨a_Stock_sub, "__sub__", "Stock.__sub__", s_Stock_sub, [], false⟩
abbrev s_Stock_mul : Stmt := inClass (top 28) 12
abbrev N_Stock_mul : List Str := ["self", "other", "full", "pieces", "kind"]
theorem sc_Stock_mul : FnScope N_Stock_mul ["self", "other"] (defScope s_Stock_mul) := ⟨rfl, rfl, rfl, by decide +kernel, rfl, by decide +kernel, by decide +kernel⟩
abbrev a_Stock_mul (K : PySem.W.Frag) : Addr := He.ma K (He.ga K "Stock") "__mul__"
def d_Stock_mul : DD := ⟨a_Stock_mul, "__mul__", "Stock.__mul__", s_Stock_mul, [], false⟩
abbrev s_Stock_call : Stmt := inClass (top 28) 13
abbrev N_Stock_call : List Str := ["self", "offer", "drinks", "_"]
theorem sc_Stock_call : FnScope N_Stock_call ["self", "offer"] (defScope s_Stock_call) := ⟨rfl, rfl, rfl, by decide +kernel, rfl, by decide +kernel, by decide +kernel⟩
abbrev a_Stock_call (K : PySem.W.Frag) : Addr := He.ma K (He.ga K "Stock") "__call__"
def d_Stock_call : DD := ⟨a_Stock_call, "__call__", "Stock.__call__", s_Stock_call, [], false⟩
abbrev s_never_greater : Stmt := top 29
abbrev N_never_greater : List Str := ["one", "other", "kind"]
theorem sc_never_greater : FnScope N_never_greater ["one", "other"] (defScope s_never_greater) := ⟨rfl, rfl, rfl, by decide +kernel, rfl, by decide +kernel, by decide +kernel⟩
abbrev a_never_greater (K : PySem.W.Frag) : Addr := He.ga K "_never_greater"
def d_never_greater : DD := ⟨a_never_greater, "_never_greater", "_never_greater", s_never_greater, [], false⟩
abbrev s_rest_of : Stmt := top 30
abbrev N_rest_of : List Str := ["offer", "stock", "_", "pieces", "left", "kind", "count"]
theorem sc_rest_of : FnScope N_rest_of ["offer", "stock"] (defScope s_rest_of) := ⟨rfl, rfl, rfl, by decide +kernel, rfl, by decide +kernel, by decide +kernel⟩
abbrev a_rest_of (K : PySem.W.Frag) : Addr := He.ga K "rest_of"
def d_rest_of : DD := ⟨a_rest_of, "rest_of", "rest_of", s_rest_of, [], false⟩
abbrev s_gain_of : Stmt := top 31
abbrev N_gain_of : List Str := ["offer", "stocks", "together", "apart", "stock"]
theorem sc_gain_of : FnScope N_gain_of ["offer", "stocks"] (defScope s_gain_of) := ⟨rfl, rfl, rfl, by decide +kernel, rfl, by decide +kernel, by decide +kernel⟩
abbrev a_gain_of (K : PySem.W.Frag) : Addr := He.ga K "gain_of"
def d_gain_of : DD := ⟨a_gain_of, "gain_of", "gain_of", s_gain_of, [], false⟩
abbrev s_cost_of : Stmt := top 33
abbrev N_cost_of : List Str := ["trades", "drinks", "_", "left", "needed"]
theorem sc_cost_of : FnScope N_cost_of ["trades", "drinks"] (defScope s_cost_of) := ⟨rfl, rfl, rfl, by decide +kernel, rfl, by decide +kernel, by decide +kernel⟩
abbrev a_cost_of (K : PySem.W.Frag) : Addr := He.ga K "cost_of"
def d_cost_of : DD := ⟨a_cost_of, "cost_of", "cost_of", s_cost_of, [], false⟩
abbrev s_drinks_of_period : Stmt := top 34
abbrev N_drinks_of_period : List Str := ["trades", "drinks", "_", "left", "needed"]
theorem sc_drinks_of_period : FnScope N_drinks_of_period ["trades"] (defScope s_drinks_of_period) := ⟨rfl, rfl, rfl, by decide +kernel, rfl, by decide +kernel, by decide +kernel⟩
abbrev a_drinks_of_period (K : PySem.W.Frag) : Addr := He.ga K "drinks_of_period"
def d_drinks_of_period : DD := ⟨a_drinks_of_period, "drinks_of_period", "drinks_of_period", s_drinks_of_period, [], false⟩
abbrev s_tops_of : Stmt := top 35
abbrev N_tops_of : List Str := ["costs", "tops", "top", "cost"]
theorem sc_tops_of : FnScope N_tops_of ["costs"] (defScope s_tops_of) := ⟨rfl, rfl, rfl, by decide +kernel, rfl, by decide +kernel, by decide +kernel⟩
abbrev a_tops_of (K : PySem.W.Frag) : Addr := He.ga K "tops_of"
def d_tops_of : DD := ⟨a_tops_of, "tops_of", "tops_of", s_tops_of, [], false⟩
abbrev s_firsts_of : Stmt := top 36
abbrev N_firsts_of : List Str := ["tops", "firsts", "drinks", "top"]
theorem sc_firsts_of : FnScope N_firsts_of ["tops"] (defScope s_firsts_of) := ⟨rfl, rfl, rfl, by decide +kernel, rfl, by decide +kernel, by decide +kernel⟩
abbrev a_firsts_of (K : PySem.W.Frag) : Addr := He.ga K "firsts_of"
def d_firsts_of : DD := ⟨a_firsts_of, "firsts_of", "firsts_of", s_firsts_of, [], false⟩
abbrev s_gaps_of : Stmt := top 37
abbrev N_gaps_of : List Str := ["tops", "firsts", "drinks", "top"]
theorem sc_gaps_of : FnScope N_gaps_of ["tops", "firsts"] (defScope s_gaps_of) := ⟨rfl, rfl, rfl, by decide +kernel, rfl, by decide +kernel, by decide +kernel⟩
abbrev a_gaps_of (K : PySem.W.Frag) : Addr := He.ga K "gaps_of"
def d_gaps_of : DD := ⟨a_gaps_of, "gaps_of", "gaps_of", s_gaps_of, [], false⟩
abbrev s_value_at : Stmt := top 38
abbrev N_value_at : List Str := ["table", "at", "span", "rise", "turns"]
theorem sc_value_at : FnScope N_value_at ["table", "at", "span", "rise"] (defScope s_value_at) := ⟨rfl, rfl, rfl, by decide +kernel, rfl, by decide +kernel, by decide +kernel⟩
abbrev a_value_at (K : PySem.W.Frag) : Addr := He.ga K "value_at"
def d_value_at : DD := ⟨a_value_at, "value_at", "value_at", s_value_at, [], false⟩
abbrev s_is_trade : Stmt := top 41
abbrev N_is_trade : List Str := ["kind", "left", "needed"]
theorem sc_is_trade : FnScope N_is_trade ["kind", "left", "needed"] (defScope s_is_trade) := ⟨rfl, rfl, rfl, by decide +kernel, rfl, by decide +kernel, by decide +kernel⟩
abbrev a_is_trade (K : PySem.W.Frag) : Addr := He.ga K "_is_trade"
def d_is_trade : DD := ⟨a_is_trade, "_is_trade", "_is_trade", s_is_trade, [], false⟩
abbrev s_check_trades : Stmt := top 42
abbrev N_check_trades : List Str := ["trades", "kinds", "index", "kind", "left", "needed"]
theorem sc_check_trades : FnScope N_check_trades ["trades"] (defScope s_check_trades) := ⟨rfl, rfl, rfl, by decide +kernel, rfl, by decide +kernel, by decide +kernel⟩
abbrev a_check_trades (K : PySem.W.Frag) : Addr := He.ga K "_check_trades"
def d_check_trades : DD := ⟨a_check_trades, "_check_trades", "_check_trades", s_check_trades, [], false⟩
abbrev s_check_generosity : Stmt := top 43
abbrev N_check_generosity : List Str := ["trades", "whole", "_", "needed", "parts", "left"]
theorem sc_check_generosity : FnScope N_check_generosity ["trades"] (defScope s_check_generosity) := ⟨rfl, rfl, rfl, by decide +kernel, rfl, by decide +kernel, by decide +kernel⟩
abbrev a_check_generosity (K : PySem.W.Frag) : Addr := He.ga K "_check_generosity"
def d_check_generosity : DD := ⟨a_check_generosity, "_check_generosity", "_check_generosity", s_check_generosity, [], false⟩
abbrev s_Offer_init : Stmt := inClass (top 44) 2
abbrev N_Offer_init : List Str := ["self", "trades", "drinks", "kind", "left", "needed", "count"]
theorem sc_Offer_init : FnScope N_Offer_init ["self", "trades"] (defScope s_Offer_init) := ⟨rfl, rfl, rfl, by decide +kernel, rfl, by decide +kernel, by decide +kernel⟩
abbrev a_Offer_init (K : PySem.W.Frag) : Addr := He.ma K (He.ga K "Offer") "__init__"
def d_Offer_init : DD := ⟨a_Offer_init, "__init__", "Offer.__init__", s_Offer_init, [], false⟩
abbrev s_Offer_trades : Stmt := inClass (top 44) 4
abbrev N_Offer_trades : List Str := ["self"]
theorem sc_Offer_trades : FnScope N_Offer_trades ["self"] (defScope s_Offer_trades) := ⟨rfl, rfl, rfl, by decide +kernel, rfl, by decide +kernel, by decide +kernel⟩
abbrev a_Offer_trades (K : PySem.W.Frag) : Addr := propG K (He.ga K "Offer") (He.ma K (He.ga K "Offer") "trades")
def d_Offer_trades : DD := ⟨a_Offer_trades, "trades", "Offer.trades", s_Offer_trades, [], false⟩
abbrev s_Offer_kinds : Stmt := inClass (top 44) 5
abbrev N_Offer_kinds : List Str := ["self", "kind", "_"]
theorem sc_Offer_kinds : FnScope N_Offer_kinds ["self"] (defScope s_Offer_kinds) := ⟨rfl, rfl, rfl, by decide +kernel, rfl, by decide +kernel, by decide +kernel⟩
abbrev a_Offer_kinds (K : PySem.W.Frag) : Addr := propG K (He.ga K "Offer") (He.ma K (He.ga K "Offer") "kinds")
def d_Offer_kinds : DD := ⟨a_Offer_kinds, "kinds", "Offer.kinds", s_Offer_kinds, [], false⟩
abbrev s_Offer_period : Stmt := inClass (top 44) 6
abbrev N_Offer_period : List Str := ["self"]
theorem sc_Offer_period : FnScope N_Offer_period ["self"] (defScope s_Offer_period) := ⟨rfl, rfl, rfl, by decide +kernel, rfl, by decide +kernel, by decide +kernel⟩
abbrev a_Offer_period (K : PySem.W.Frag) : Addr := propG K (He.ga K "Offer") (He.ma K (He.ga K "Offer") "period")
def d_Offer_period : DD := ⟨a_Offer_period, "period", "Offer.period", s_Offer_period, [], false⟩
abbrev s_Offer_drinks_for : Stmt := inClass (top 44) 8
abbrev N_Offer_drinks_for : List Str := ["self", "bottles", "span", "rise"]
theorem sc_Offer_drinks_for : FnScope N_Offer_drinks_for ["self", "bottles"] (defScope s_Offer_drinks_for) := ⟨rfl, rfl, rfl, by decide +kernel, rfl, by decide +kernel, by decide +kernel⟩
abbrev a_Offer_drinks_for (K : PySem.W.Frag) : Addr := He.ma K (He.ga K "Offer") "_drinks_for"
def d_Offer_drinks_for : DD := ⟨a_Offer_drinks_for, "_drinks_for", "Offer._drinks_for", s_Offer_drinks_for, [], false⟩
abbrev s_Offer_most_within : Stmt := inClass (top 44) 9
abbrev N_Offer_most_within : List Str := ["self", "drinks", "rise", "span"]
theorem sc_Offer_most_within : FnScope N_Offer_most_within ["self", "drinks"] (defScope s_Offer_most_within) := ⟨rfl, rfl, rfl, by decide +kernel, rfl, by decide +kernel, by decide +kernel⟩
abbrev a_Offer_most_within (K : PySem.W.Frag) : Addr := He.ma K (He.ga K "Offer") "_most_within"
def d_Offer_most_within : DD := ⟨a_Offer_most_within, "_most_within", "Offer._most_within", s_Offer_most_within, [], false⟩
abbrev s_Offer_call : Stmt := inClass (top 44) 10
abbrev N_Offer_call : List Str := ["self", "bottles"]
theorem sc_Offer_call : FnScope N_Offer_call ["self", "bottles"] (defScope s_Offer_call) := ⟨rfl, rfl, rfl, by decide +kernel, rfl, by decide +kernel, by decide +kernel⟩
abbrev a_Offer_call (K : PySem.W.Frag) : Addr := He.ma K (He.ga K "Offer") "__call__"
def d_Offer_call : DD := ⟨a_Offer_call, "__call__", "Offer.__call__", s_Offer_call, [], false⟩
abbrev s_Offer_add : Stmt := inClass (top 44) 20
abbrev N_Offer_add : List Str := ["self", "other", "trades"]
theorem sc_Offer_add : FnScope N_Offer_add ["self", "other"] (defScope s_Offer_add) := ⟨rfl, rfl, rfl, by decide +kernel, rfl, by decide +kernel, by decide +kernel⟩
abbrev a_Offer_add (K : PySem.W.Frag) : Addr := He.ma K (He.ga K "Offer") "__add__"
def d_Offer_add : DD := ⟨a_Offer_add, "__add__", "Offer.__add__", s_Offer_add, [], false⟩
abbrev s_Offer_sub : Stmt := inClass (top 44) 21
abbrev N_Offer_sub : List Str := ["self", "other", "trades", "trade"]
theorem sc_Offer_sub : FnScope N_Offer_sub ["self", "other"] (defScope s_Offer_sub) := ⟨rfl, rfl, rfl, by decide +kernel, rfl, by decide +kernel, by decide +kernel⟩
abbrev a_Offer_sub (K : PySem.W.Frag) : Addr := He.ma K (He.ga K "Offer") "__sub__"
def d_Offer_sub : DD := ⟨a_Offer_sub, "__sub__", "Offer.__sub__", s_Offer_sub, [], false⟩
abbrev s_Offer_getitem : Stmt := inClass (top 44) 22
abbrev N_Offer_getitem : List Str := ["self", "at", "kind", "left", "needed"]
theorem sc_Offer_getitem : FnScope N_Offer_getitem ["self", "at"] (defScope s_Offer_getitem) := ⟨rfl, rfl, rfl, by decide +kernel, rfl, by decide +kernel, by decide +kernel⟩
abbrev a_Offer_getitem (K : PySem.W.Frag) : Addr := He.ma K (He.ga K "Offer") "__getitem__"
def d_Offer_getitem : DD := ⟨a_Offer_getitem, "__getitem__", "Offer.__getitem__", s_Offer_getitem, [], false⟩
abbrev s_Offer_iter : Stmt := inClass (top 44) 23
abbrev N_Offer_iter : List Str := ["self"]
theorem sc_Offer_iter : FnScope N_Offer_iter ["self"] (defScope s_Offer_iter) := ⟨rfl, rfl, rfl, by decide +kernel, rfl, by decide +kernel, by decide +kernel⟩
abbrev a_Offer_iter (K : PySem.W.Frag) : Addr := He.ma K (He.ga K "Offer") "__iter__"
def d_Offer_iter : DD := ⟨a_Offer_iter, "__iter__", "Offer.__iter__", s_Offer_iter, [], false⟩
abbrev s_Offer_bool : Stmt := inClass (top 44) 24
abbrev N_Offer_bool : List Str := ["self", "_", "left"]
theorem sc_Offer_bool : FnScope N_Offer_bool ["self"] (defScope s_Offer_bool) := ⟨rfl, rfl, rfl, by decide +kernel, rfl, by decide +kernel, by decide +kernel⟩
abbrev a_Offer_bool (K : PySem.W.Frag) : Addr := He.ma K (He.ga K "Offer") "__bool__"
def d_Offer_bool : DD := ⟨a_Offer_bool, "__bool__", "Offer.__bool__", s_Offer_bool, [], false⟩
abbrev s_Offer_contains : Stmt := inClass (top 44) 25
abbrev N_Offer_contains : List Str := ["self", "x"]
theorem sc_Offer_contains : FnScope N_Offer_contains ["self", "x"] (defScope s_Offer_contains) := ⟨rfl, rfl, rfl, by decide +kernel, rfl, by decide +kernel, by decide +kernel⟩
abbrev a_Offer_contains (K : PySem.W.Frag) : Addr := He.ma K (He.ga K "Offer") "__contains__"
def d_Offer_contains : DD := ⟨a_Offer_contains, "__contains__", "Offer.__contains__", s_Offer_contains, [], false⟩
abbrev s_Offer_le : Stmt := inClass (top 44) 26
abbrev N_Offer_le : List Str := ["self", "other"]
theorem sc_Offer_le : FnScope N_Offer_le ["self", "other"] (defScope s_Offer_le) := ⟨rfl, rfl, rfl, by decide +kernel, rfl, by decide +kernel, by decide +kernel⟩
abbrev a_Offer_le (K : PySem.W.Frag) : Addr := He.ma K (He.ga K "Offer") "__le__"
def d_Offer_le : DD := ⟨a_Offer_le, "__le__", "Offer.__le__", s_Offer_le, [], false⟩
abbrev s_Offer_lt : Stmt := inClass (top 44) 27
abbrev N_Offer_lt : List Str := ["self", "other"]
theorem sc_Offer_lt : FnScope N_Offer_lt ["self", "other"] (defScope s_Offer_lt) := ⟨rfl, rfl, rfl, by decide +kernel, rfl, by decide +kernel, by decide +kernel⟩
abbrev a_Offer_lt (K : PySem.W.Frag) : Addr := He.ma K (He.ga K "Offer") "__lt__"
def d_Offer_lt : DD := ⟨a_Offer_lt, "__lt__", "Offer.__lt__", s_Offer_lt, [], false⟩
abbrev s_Offer_ge : Stmt := inClass (top 44) 28
abbrev N_Offer_ge : List Str := ["self", "other"]
theorem sc_Offer_ge : FnScope N_Offer_ge ["self", "other"] (defScope s_Offer_ge) := ⟨rfl, rfl, rfl, by decide +kernel, rfl, by decide +kernel, by decide +kernel⟩
abbrev a_Offer_ge (K : PySem.W.Frag) : Addr := He.ma K (He.ga K "Offer") "__ge__"
def d_Offer_ge : DD := ⟨a_Offer_ge, "__ge__", "Offer.__ge__", s_Offer_ge, [], false⟩
abbrev s_Offer_gt : Stmt := inClass (top 44) 29
abbrev N_Offer_gt : List Str := ["self", "other"]
theorem sc_Offer_gt : FnScope N_Offer_gt ["self", "other"] (defScope s_Offer_gt) := ⟨rfl, rfl, rfl, by decide +kernel, rfl, by decide +kernel, by decide +kernel⟩
abbrev a_Offer_gt (K : PySem.W.Frag) : Addr := He.ma K (He.ga K "Offer") "__gt__"
def d_Offer_gt : DD := ⟨a_Offer_gt, "__gt__", "Offer.__gt__", s_Offer_gt, [], false⟩
abbrev s_slack : Stmt := top 45
abbrev N_slack : List Str := ["one", "other", "bottles"]
theorem sc_slack : FnScope N_slack ["one", "other", "bottles"] (defScope s_slack) := ⟨rfl, rfl, rfl, by decide +kernel, rfl, by decide +kernel, by decide +kernel⟩
abbrev a_slack (K : PySem.W.Frag) : Addr := He.ga K "_slack"
def d_slack : DD := ⟨a_slack, "_slack", "_slack", s_slack, [], false⟩
abbrev s_repetition : Stmt := top 46
abbrev N_repetition : List Str := ["one", "other", "one_bottles", "one_drinks", "other_bottles", "other_drinks", "drinks", "span", "fall"]
theorem sc_repetition : FnScope N_repetition ["one", "other"] (defScope s_repetition) := ⟨rfl, rfl, rfl, by decide +kernel, rfl, by decide +kernel, by decide +kernel⟩
abbrev a_repetition (K : PySem.W.Frag) : Addr := He.ga K "_repetition"
def d_repetition : DD := ⟨a_repetition, "_repetition", "_repetition", s_repetition, [], false⟩
abbrev s_never_more : Stmt := top 47
abbrev N_never_more : List Str := ["one", "other", "start", "span", "fall", "bottles"]
theorem sc_never_more : FnScope N_never_more ["one", "other"] (defScope s_never_more) := ⟨rfl, rfl, rfl, by decide +kernel, rfl, by decide +kernel, by decide +kernel⟩
abbrev a_never_more (K : PySem.W.Frag) : Addr := He.ga K "_never_more"
def d_never_more : DD := ⟨a_never_more, "_never_more", "_never_more", s_never_more, [], false⟩
abbrev s_first_difference : Stmt := top 48
abbrev N_first_difference : List Str := ["one", "other", "start", "span", "fall", "bottles"]
theorem sc_first_difference : FnScope N_first_difference ["one", "other"] (defScope s_first_difference) := ⟨rfl, rfl, rfl, by decide +kernel, rfl, by decide +kernel, by decide +kernel⟩
abbrev a_first_difference (K : PySem.W.Frag) : Addr := He.ga K "first_difference"
def d_first_difference : DD := ⟨a_first_difference, "first_difference", "first_difference", s_first_difference, [], false⟩
abbrev s_law_start : Stmt := top 50
abbrev N_law_start : List Str := ["_law_script", "_law_mixed", "_law_cell"]
theorem sc_law_start : FnScope N_law_start ["_law_script"] (defScope s_law_start) := ⟨rfl, rfl, rfl, by decide +kernel, rfl, by decide +kernel, by decide +kernel⟩
abbrev a_law_start (K : PySem.W.Frag) : Addr := He.ga K "_law_start"
def d_law_start : DD := ⟨a_law_start, "_law_start", "_law_start", s_law_start, [], false⟩
abbrev s_law_drawn : Stmt := top 51
abbrev N_law_drawn : List Str := ["_law_state", "_law_count", "_law_result", "_law_cell"]
theorem sc_law_drawn : FnScope N_law_drawn ["_law_state", "_law_count"] (defScope s_law_drawn) := ⟨rfl, rfl, rfl, by decide +kernel, rfl, by decide +kernel, by decide +kernel⟩
abbrev a_law_drawn (K : PySem.W.Frag) : Addr := He.ga K "_law_drawn"
def d_law_drawn : DD := ⟨a_law_drawn, "_law_drawn", "_law_drawn", s_law_drawn, [], false⟩
abbrev s_law_same : Stmt := top 52
abbrev N_law_same : List Str := ["_law_result", "_law_expected", "_law_k"]
theorem sc_law_same : FnScope N_law_same ["_law_result", "_law_expected"] (defScope s_law_same) := ⟨rfl, rfl, rfl, by decide +kernel, rfl, by decide +kernel, by decide +kernel⟩
abbrev a_law_same (K : PySem.W.Frag) : Addr := He.ga K "_law_same"
def d_law_same : DD := ⟨a_law_same, "_law_same", "_law_same", s_law_same, [], false⟩
abbrev s_law_trades : Stmt := top 53
abbrev N_law_trades : List Str := ["_law_state", "_law_kinds", "_law_result", "_law_share", "_law_k", "_law_needed", "_law_left"]
theorem sc_law_trades : FnScope N_law_trades ["_law_state"] (defScope s_law_trades) := ⟨rfl, rfl, rfl, by decide +kernel, rfl, by decide +kernel, by decide +kernel⟩
abbrev a_law_trades (K : PySem.W.Frag) : Addr := He.ga K "_law_trades"
def d_law_trades : DD := ⟨a_law_trades, "_law_trades", "_law_trades", s_law_trades, [], false⟩
abbrev s_law_offer : Stmt := top 54
abbrev N_law_offer : List Str := ["_law_trades_here", "_law_result", "_law_trade"]
theorem sc_law_offer : FnScope N_law_offer ["_law_trades_here"] (defScope s_law_offer) := ⟨rfl, rfl, rfl, by decide +kernel, rfl, by decide +kernel, by decide +kernel⟩
abbrev a_law_offer (K : PySem.W.Frag) : Addr := He.ga K "_law_offer"
def d_law_offer : DD := ⟨a_law_offer, "_law_offer", "_law_offer", s_law_offer, [], false⟩
abbrev s_law_counts : Stmt := top 55
abbrev N_law_counts : List Str := ["_law_state", "_law_high", "_law_counts_here", "_law_kind"]
theorem sc_law_counts : FnScope N_law_counts ["_law_state", "_law_high"] (defScope s_law_counts) := ⟨rfl, rfl, rfl, by decide +kernel, rfl, by decide +kernel, by decide +kernel⟩
abbrev a_law_counts (K : PySem.W.Frag) : Addr := He.ga K "_law_counts"
def d_law_counts : DD := ⟨a_law_counts, "_law_counts", "_law_counts", s_law_counts, [], false⟩
abbrev s_law_stock : Stmt := top 56
abbrev N_law_stock : List Str := ["_law_counts_here", "_law_result", "_law_more", "_law_kind", "_law_count"]
theorem sc_law_stock : FnScope N_law_stock ["_law_counts_here"] (defScope s_law_stock) := ⟨rfl, rfl, rfl, by decide +kernel, rfl, by decide +kernel, by decide +kernel⟩
abbrev a_law_stock (K : PySem.W.Frag) : Addr := He.ga K "_law_stock"
def d_law_stock : DD := ⟨a_law_stock, "_law_stock", "_law_stock", s_law_stock, [], false⟩
abbrev s_law_traded : Stmt := top 57
abbrev N_law_traded : List Str := ["_law_state", "_law_trades_here", "_law_counts_here", "_law_full", "_law_pieces", "_law_drinks", "_law_ways", "_law_kind", "_law_count", "_law_left", "_law_needed", "_law_trade"]
theorem sc_law_traded : FnScope N_law_traded ["_law_state", "_law_trades_here", "_law_counts_here"] (defScope s_law_traded) := ⟨rfl, rfl, rfl, by decide +kernel, rfl, by decide +kernel, by decide +kernel⟩
abbrev a_law_traded (K : PySem.W.Frag) : Addr := He.ga K "_law_traded"
def d_law_traded : DD := ⟨a_law_traded, "_law_traded", "_law_traded", s_law_traded, [], false⟩
abbrev s_law : Stmt := top 58
abbrev N_law : List Str := ["_law_script", "_law_state", "_law_turn", "_law_trades_here", "_law_offer_here", "_law_high", "_law_rows", "_law_alone", "_law_k", "_law_counts_here", "_law_stock_here", "_law_drinks", "_law_left", "_law_rest", "_law_both", "_law_one", "_law_kind", "_law_gain", "_law_other"]
theorem sc_law : FnScope N_law ["_law_script"] (defScope s_law) := ⟨rfl, rfl, rfl, by decide +kernel, rfl, by decide +kernel, by decide +kernel⟩
abbrev a_law (K : PySem.W.Frag) : Addr := He.ga K "law"
def d_law : DD := ⟨a_law, "law", "law", s_law, [], false⟩
/-- what the top has left -/
structure Tx (K : PySem.W.Frag) (mg : Str → Option Value) where
  fd_is_integer : FuncData
  F_is_integer : FnP K d_is_integer fd_is_integer
  g_is_integer : mg "is_integer" = some (.ref (a_is_integer K))
  fd_is_number : FuncData
  F_is_number : FnP K d_is_number fd_is_number
  g_is_number : mg "is_number" = some (.ref (a_is_number K))
  fd_check_number : FuncData
  F_check_number : FnP K d_check_number fd_check_number
  g_check_number : mg "check_number" = some (.ref (a_check_number K))
  fd_is_label : FuncData
  F_is_label : FnP K d_is_label fd_is_label
  g_is_label : mg "is_label" = some (.ref (a_is_label K))
  fd_is_kind : FuncData
  F_is_kind : FnP K d_is_kind fd_is_kind
  g_is_kind : mg "is_kind" = some (.ref (a_is_kind K))
  fd_after_drinks : FuncData
  F_after_drinks : FnP K d_after_drinks fd_after_drinks
  g_after_drinks : mg "after_drinks" = some (.ref (a_after_drinks K))
  fd_most_trades : FuncData
  F_most_trades : FnP K d_most_trades fd_most_trades
  g_most_trades : mg "most_trades" = some (.ref (a_most_trades K))
  fd_after_trades : FuncData
  F_after_trades : FnP K d_after_trades fd_after_trades
  g_after_trades : mg "after_trades" = some (.ref (a_after_trades K))
  fd_use_up : FuncData
  F_use_up : FnP K d_use_up fd_use_up
  g_use_up : mg "use_up" = some (.ref (a_use_up K))
  fd_check_pieces : FuncData
  F_check_pieces : FnP K d_check_pieces fd_check_pieces
  g_check_pieces : mg "_check_pieces" = some (.ref (a_check_pieces K))
  fd_Stock_init : FuncData
  F_Stock_init : FnP K d_Stock_init fd_Stock_init
  mk_Stock : Mk K (He.ga K "Stock") (a_Stock_init K)
  fd_Stock_filled : FuncData
  F_Stock_filled : FnP K d_Stock_filled fd_Stock_filled
  p_Stock_filled : PropOf K (He.ga K "Stock") "filled" (He.ma K (He.ga K "Stock") "filled") (a_Stock_filled K)
  fd_Stock_loose : FuncData
  F_Stock_loose : FnP K d_Stock_loose fd_Stock_loose
  p_Stock_loose : PropOf K (He.ga K "Stock") "loose" (He.ma K (He.ga K "Stock") "loose") (a_Stock_loose K)
  fd_Stock_getitem : FuncData
  F_Stock_getitem : FnP K d_Stock_getitem fd_Stock_getitem
  m_Stock_getitem : Meth K (He.ga K "Stock") "__getitem__" (a_Stock_getitem K)
  fd_Stock_iter : FuncData
  F_Stock_iter : FnP K d_Stock_iter fd_Stock_iter
  m_Stock_iter : Meth K (He.ga K "Stock") "__iter__" (a_Stock_iter K)
  fd_Stock_contains : FuncData
  F_Stock_contains : FnP K d_Stock_contains fd_Stock_contains
  m_Stock_contains : Meth K (He.ga K "Stock") "__contains__" (a_Stock_contains K)
  fd_Stock_bool : FuncData
  F_Stock_bool : FnP K d_Stock_bool fd_Stock_bool
  m_Stock_bool : Meth K (He.ga K "Stock") "__bool__" (a_Stock_bool K)
  fd_Stock_eq : FuncData
  F_Stock_eq : FnP K d_Stock_eq fd_Stock_eq
  m_Stock_eq : Meth K (He.ga K "Stock") "__eq__" (a_Stock_eq K)
  fd_Stock_le : FuncData
  F_Stock_le : FnP K d_Stock_le fd_Stock_le
  m_Stock_le : Meth K (He.ga K "Stock") "__le__" (a_Stock_le K)
  fd_Stock_ge : FuncData
  F_Stock_ge : FnP K d_Stock_ge fd_Stock_ge
  m_Stock_ge : Meth K (He.ga K "Stock") "__ge__" (a_Stock_ge K)
  fd_Stock_add : FuncData
  F_Stock_add : FnP K d_Stock_add fd_Stock_add
  m_Stock_add : Meth K (He.ga K "Stock") "__add__" (a_Stock_add K)
  fd_Stock_sub : FuncData
  F_Stock_sub : FnP K d_Stock_sub fd_Stock_sub
  m_Stock_sub : Meth K (He.ga K "Stock") "__sub__" (a_Stock_sub K)
  fd_Stock_mul : FuncData
  F_Stock_mul : FnP K d_Stock_mul fd_Stock_mul
  m_Stock_mul : Meth K (He.ga K "Stock") "__mul__" (a_Stock_mul K)
  fd_Stock_call : FuncData
  F_Stock_call : FnP K d_Stock_call fd_Stock_call
  co_Stock : StX.CallO K (He.ga K "Stock") (a_Stock_call K)
  fd_never_greater : FuncData
  F_never_greater : FnP K d_never_greater fd_never_greater
  g_never_greater : mg "_never_greater" = some (.ref (a_never_greater K))
  fd_rest_of : FuncData
  F_rest_of : FnP K d_rest_of fd_rest_of
  g_rest_of : mg "rest_of" = some (.ref (a_rest_of K))
  fd_gain_of : FuncData
  F_gain_of : FnP K d_gain_of fd_gain_of
  g_gain_of : mg "gain_of" = some (.ref (a_gain_of K))
  fd_cost_of : FuncData
  F_cost_of : FnP K d_cost_of fd_cost_of
  g_cost_of : mg "cost_of" = some (.ref (a_cost_of K))
  fd_drinks_of_period : FuncData
  F_drinks_of_period : FnP K d_drinks_of_period fd_drinks_of_period
  g_drinks_of_period : mg "drinks_of_period" = some (.ref (a_drinks_of_period K))
  fd_tops_of : FuncData
  F_tops_of : FnP K d_tops_of fd_tops_of
  g_tops_of : mg "tops_of" = some (.ref (a_tops_of K))
  fd_firsts_of : FuncData
  F_firsts_of : FnP K d_firsts_of fd_firsts_of
  g_firsts_of : mg "firsts_of" = some (.ref (a_firsts_of K))
  fd_gaps_of : FuncData
  F_gaps_of : FnP K d_gaps_of fd_gaps_of
  g_gaps_of : mg "gaps_of" = some (.ref (a_gaps_of K))
  fd_value_at : FuncData
  F_value_at : FnP K d_value_at fd_value_at
  g_value_at : mg "value_at" = some (.ref (a_value_at K))
  fd_is_trade : FuncData
  F_is_trade : FnP K d_is_trade fd_is_trade
  g_is_trade : mg "_is_trade" = some (.ref (a_is_trade K))
  fd_check_trades : FuncData
  F_check_trades : FnP K d_check_trades fd_check_trades
  g_check_trades : mg "_check_trades" = some (.ref (a_check_trades K))
  fd_check_generosity : FuncData
  F_check_generosity : FnP K d_check_generosity fd_check_generosity
  g_check_generosity : mg "_check_generosity" = some (.ref (a_check_generosity K))
  fd_Offer_init : FuncData
  F_Offer_init : FnP K d_Offer_init fd_Offer_init
  mk_Offer : Mk K (He.ga K "Offer") (a_Offer_init K)
  fd_Offer_trades : FuncData
  F_Offer_trades : FnP K d_Offer_trades fd_Offer_trades
  p_Offer_trades : PropOf K (He.ga K "Offer") "trades" (He.ma K (He.ga K "Offer") "trades") (a_Offer_trades K)
  fd_Offer_kinds : FuncData
  F_Offer_kinds : FnP K d_Offer_kinds fd_Offer_kinds
  p_Offer_kinds : PropOf K (He.ga K "Offer") "kinds" (He.ma K (He.ga K "Offer") "kinds") (a_Offer_kinds K)
  fd_Offer_period : FuncData
  F_Offer_period : FnP K d_Offer_period fd_Offer_period
  p_Offer_period : PropOf K (He.ga K "Offer") "period" (He.ma K (He.ga K "Offer") "period") (a_Offer_period K)
  fd_Offer_drinks_for : FuncData
  F_Offer_drinks_for : FnP K d_Offer_drinks_for fd_Offer_drinks_for
  m_Offer_drinks_for : Meth K (He.ga K "Offer") "_drinks_for" (a_Offer_drinks_for K)
  fd_Offer_most_within : FuncData
  F_Offer_most_within : FnP K d_Offer_most_within fd_Offer_most_within
  m_Offer_most_within : Meth K (He.ga K "Offer") "_most_within" (a_Offer_most_within K)
  fd_Offer_call : FuncData
  F_Offer_call : FnP K d_Offer_call fd_Offer_call
  co_Offer : StX.CallO K (He.ga K "Offer") (a_Offer_call K)
  fd_Offer_add : FuncData
  F_Offer_add : FnP K d_Offer_add fd_Offer_add
  m_Offer_add : Meth K (He.ga K "Offer") "__add__" (a_Offer_add K)
  fd_Offer_sub : FuncData
  F_Offer_sub : FnP K d_Offer_sub fd_Offer_sub
  m_Offer_sub : Meth K (He.ga K "Offer") "__sub__" (a_Offer_sub K)
  fd_Offer_getitem : FuncData
  F_Offer_getitem : FnP K d_Offer_getitem fd_Offer_getitem
  m_Offer_getitem : Meth K (He.ga K "Offer") "__getitem__" (a_Offer_getitem K)
  fd_Offer_iter : FuncData
  F_Offer_iter : FnP K d_Offer_iter fd_Offer_iter
  m_Offer_iter : Meth K (He.ga K "Offer") "__iter__" (a_Offer_iter K)
  fd_Offer_bool : FuncData
  F_Offer_bool : FnP K d_Offer_bool fd_Offer_bool
  m_Offer_bool : Meth K (He.ga K "Offer") "__bool__" (a_Offer_bool K)
  fd_Offer_contains : FuncData
  F_Offer_contains : FnP K d_Offer_contains fd_Offer_contains
  m_Offer_contains : Meth K (He.ga K "Offer") "__contains__" (a_Offer_contains K)
  fd_Offer_le : FuncData
  F_Offer_le : FnP K d_Offer_le fd_Offer_le
  m_Offer_le : Meth K (He.ga K "Offer") "__le__" (a_Offer_le K)
  fd_Offer_lt : FuncData
  F_Offer_lt : FnP K d_Offer_lt fd_Offer_lt
  m_Offer_lt : Meth K (He.ga K "Offer") "__lt__" (a_Offer_lt K)
  fd_Offer_ge : FuncData
  F_Offer_ge : FnP K d_Offer_ge fd_Offer_ge
  m_Offer_ge : Meth K (He.ga K "Offer") "__ge__" (a_Offer_ge K)
  fd_Offer_gt : FuncData
  F_Offer_gt : FnP K d_Offer_gt fd_Offer_gt
  m_Offer_gt : Meth K (He.ga K "Offer") "__gt__" (a_Offer_gt K)
  fd_slack : FuncData
  F_slack : FnP K d_slack fd_slack
  g_slack : mg "_slack" = some (.ref (a_slack K))
  fd_repetition : FuncData
  F_repetition : FnP K d_repetition fd_repetition
  g_repetition : mg "_repetition" = some (.ref (a_repetition K))
  fd_never_more : FuncData
  F_never_more : FnP K d_never_more fd_never_more
  g_never_more : mg "_never_more" = some (.ref (a_never_more K))
  fd_first_difference : FuncData
  F_first_difference : FnP K d_first_difference fd_first_difference
  g_first_difference : mg "first_difference" = some (.ref (a_first_difference K))
  fd_law_start : FuncData
  F_law_start : FnP K d_law_start fd_law_start
  g_law_start : mg "_law_start" = some (.ref (a_law_start K))
  fd_law_drawn : FuncData
  F_law_drawn : FnP K d_law_drawn fd_law_drawn
  g_law_drawn : mg "_law_drawn" = some (.ref (a_law_drawn K))
  fd_law_same : FuncData
  F_law_same : FnP K d_law_same fd_law_same
  g_law_same : mg "_law_same" = some (.ref (a_law_same K))
  fd_law_trades : FuncData
  F_law_trades : FnP K d_law_trades fd_law_trades
  g_law_trades : mg "_law_trades" = some (.ref (a_law_trades K))
  fd_law_offer : FuncData
  F_law_offer : FnP K d_law_offer fd_law_offer
  g_law_offer : mg "_law_offer" = some (.ref (a_law_offer K))
  fd_law_counts : FuncData
  F_law_counts : FnP K d_law_counts fd_law_counts
  g_law_counts : mg "_law_counts" = some (.ref (a_law_counts K))
  fd_law_stock : FuncData
  F_law_stock : FnP K d_law_stock fd_law_stock
  g_law_stock : mg "_law_stock" = some (.ref (a_law_stock K))
  fd_law_traded : FuncData
  F_law_traded : FnP K d_law_traded fd_law_traded
  g_law_traded : mg "_law_traded" = some (.ref (a_law_traded K))
  fd_law : FuncData
  F_law : FnP K d_law fd_law
  g_law : mg "law" = some (.ref (a_law K))
  g_Offer : mg "Offer" = some (.ref (He.ga K "Offer"))
  k_Offer : Cls K (He.ga K "Offer")
  r_Offer : ClX.CRead K (He.ga K "Offer") (.type "type")
  na_trades : NoAttr K (He.ga K "Offer") "_trades"
  na_period : NoAttr K (He.ga K "Offer") "_period"
  na_tops : NoAttr K (He.ga K "Offer") "_tops"
  na_firsts : NoAttr K (He.ga K "Offer") "_firsts"
  na_gaps : NoAttr K (He.ga K "Offer") "_gaps"
  v_Offer_MAX_TRADES : ∃ u, ClX.CVal K (He.ga K "Offer") (.type "type") "MAX_TRADES" (.int 3) u
  v_Offer_MAX_NEEDED : ∃ u, ClX.CVal K (He.ga K "Offer") (.type "type") "MAX_NEEDED" (.int 12) u
  g_Stock : mg "Stock" = some (.ref (He.ga K "Stock"))
  k_Stock : Cls K (He.ga K "Stock")
  na_filled : NoAttr K (He.ga K "Stock") "_filled"
  na_loose : NoAttr K (He.ga K "Stock") "_loose"
  c_MAX_NUMBER : ∃ t, mg "MAX_NUMBER" = some (.int (1000000000000000000) t)
  c_MAX_LABEL_LENGTH : ∃ t, mg "MAX_LABEL_LENGTH" = some (.int (8) t)
  c_DRINK : ∃ t, mg "DRINK" = some (.str "drink" t)
  c_FULL : ∃ t, mg "FULL" = some (.str "full" t)
  c_MAX_TIMES : ∃ t, mg "MAX_TIMES" = some (.int (1000000000) t)
  c_MAX_LEFT : ∃ t, mg "MAX_LEFT" = some (.int (12) t)
  n_len : mg "len" = none
  n_sum : mg "sum" = none
  n_max : mg "max" = none
  n_min : mg "min" = none
  n_all : mg "all" = none
  n_any : mg "any" = none
  n_isinstance : mg "isinstance" = none
  n_range : mg "range" = none
  n_enumerate : mg "enumerate" = none
  n_zip : mg "zip" = none
  n_list : mg "list" = none
  n_tuple : mg "tuple" = none
  n_int : mg "int" = none
  n_bool : mg "bool" = none
  n_str : mg "str" = none
  n_dict : mg "dict" = none
  n_divmod : mg "divmod" = none
  n_sorted : mg "sorted" = none
  sf_Offer : PySem.W.selfFirst K (He.ga K "Offer") = true
  fi_Offer_getitem : PySem.W.fnIn K (a_Offer_getitem K) = true
  sf_Stock : PySem.W.selfFirst K (He.ga K "Stock") = true
  fi_Stock_getitem : PySem.W.fnIn K (a_Stock_getitem K) = true
  bt_Stock_mul : BinT K (He.ga K "Stock") "mul" "int"
  b_gcd : mg "gcd" = some (.builtin "math.gcd")
  b_lcm : mg "lcm" = some (.builtin "math.lcm")
def fas : List He.Fa := [.glo "is_integer",
  .glo "is_number",
  .glo "check_number",
  .glo "is_label",
  .glo "is_kind",
  .glo "after_drinks",
  .glo "most_trades",
  .glo "after_trades",
  .glo "use_up",
  .glo "_check_pieces",
  .mkr "Stock",
  .meth "Stock" "__getitem__",
  .meth "Stock" "__iter__",
  .meth "Stock" "__contains__",
  .meth "Stock" "__bool__",
  .meth "Stock" "__eq__",
  .meth "Stock" "__le__",
  .meth "Stock" "__ge__",
  .meth "Stock" "__add__",
  .meth "Stock" "__sub__",
  .meth "Stock" "__mul__",
  .glo "_never_greater",
  .glo "rest_of",
  .glo "gain_of",
  .glo "cost_of",
  .glo "drinks_of_period",
  .glo "tops_of",
  .glo "firsts_of",
  .glo "gaps_of",
  .glo "value_at",
  .glo "_is_trade",
  .glo "_check_trades",
  .glo "_check_generosity",
  .mkr "Offer",
  .meth "Offer" "_drinks_for",
  .meth "Offer" "_most_within",
  .meth "Offer" "__add__",
  .meth "Offer" "__sub__",
  .meth "Offer" "__getitem__",
  .meth "Offer" "__iter__",
  .meth "Offer" "__bool__",
  .meth "Offer" "__contains__",
  .meth "Offer" "__le__",
  .meth "Offer" "__lt__",
  .meth "Offer" "__ge__",
  .meth "Offer" "__gt__",
  .glo "_slack",
  .glo "_repetition",
  .glo "_never_more",
  .glo "first_difference",
  .glo "_law_start",
  .glo "_law_drawn",
  .glo "_law_same",
  .glo "_law_trades",
  .glo "_law_offer",
  .glo "_law_counts",
  .glo "_law_stock",
  .glo "_law_traded",
  .glo "law",
  .glo "Offer",
  .cls "Offer",
  .noat "Offer" "_trades",
  .noat "Offer" "_period",
  .noat "Offer" "_tops",
  .noat "Offer" "_firsts",
  .noat "Offer" "_gaps",
  .glo "Stock",
  .cls "Stock",
  .noat "Stock" "_filled",
  .noat "Stock" "_loose",
  .int "MAX_NUMBER" (1000000000000000000),
  .int "MAX_LABEL_LENGTH" (8),
  .str "DRINK" "drink",
  .str "FULL" "full",
  .int "MAX_TIMES" (1000000000),
  .int "MAX_LEFT" (12),
  .free "len",
  .free "sum",
  .free "max",
  .free "min",
  .free "all",
  .free "any",
  .free "isinstance",
  .free "range",
  .free "enumerate",
  .free "zip",
  .free "list",
  .free "tuple",
  .free "int",
  .free "bool",
  .free "str",
  .free "dict",
  .free "divmod",
  .free "sorted"]
def mores : List (PySem.W.Frag → Bool) := [fun K => okProp K "Stock" "filled",
  fun K => okProp K "Stock" "loose",
  fun K => okCallO K "Stock",
  fun K => okProp K "Offer" "trades",
  fun K => okProp K "Offer" "kinds",
  fun K => okProp K "Offer" "period",
  fun K => okCallO K "Offer",
  fun K => okRead K "Offer",
  fun K => okCVal K "Offer" "MAX_TRADES" (.int 3),
  fun K => okCVal K "Offer" "MAX_NEEDED" (.int 12),
  fun K => PySem.W.selfFirst K (He.ga K "Offer"),
  fun K => PySem.W.fnIn K (a_Offer_getitem K),
  fun K => PySem.W.selfFirst K (He.ga K "Stock"),
  fun K => PySem.W.fnIn K (a_Stock_getitem K),
  fun K => okBinT K (He.ga K "Stock") "mul" "int",
  fun K => okBlt K "gcd" "math.gcd",
  fun K => okBlt K "lcm" "math.lcm"]
def moreB (K : PySem.W.Frag) : Bool := mores.all fun f => f K
def dds : List DD := [d_is_integer, d_is_number, d_check_number, d_is_label, d_is_kind, d_after_drinks, d_most_trades, d_after_trades, d_use_up, d_check_pieces, d_Stock_init, d_Stock_filled, d_Stock_loose, d_Stock_getitem, d_Stock_iter, d_Stock_contains, d_Stock_bool, d_Stock_eq, d_Stock_le, d_Stock_ge, d_Stock_add, d_Stock_sub, d_Stock_mul, d_Stock_call, d_never_greater, d_rest_of, d_gain_of, d_cost_of, d_drinks_of_period, d_tops_of, d_firsts_of, d_gaps_of, d_value_at, d_is_trade, d_check_trades, d_check_generosity, d_Offer_init, d_Offer_trades, d_Offer_kinds, d_Offer_period, d_Offer_drinks_for, d_Offer_most_within, d_Offer_call, d_Offer_add, d_Offer_sub, d_Offer_getitem, d_Offer_iter, d_Offer_bool, d_Offer_contains, d_Offer_le, d_Offer_lt, d_Offer_ge, d_Offer_gt, d_slack, d_repetition, d_never_more, d_first_difference, d_law_start, d_law_drawn, d_law_same, d_law_trades, d_law_offer, d_law_counts, d_law_stock, d_law_traded, d_law]
theorem more_at {K : PySem.W.Frag} (h : moreB K = true) (i : Nat) {f : PySem.W.Frag → Bool} (e : mores[i]? = some f := by rfl) : f K = true := List.all_eq_true.mp h f (List.mem_of_getElem? e)
theorem tx_of {K : PySem.W.Frag} {h : Heap} {mg : Str → Option Value} (X : K.In h) (G : h.Ns mainGlobals mg) (c : Says fas moreB dds K) : Nonempty (Tx K mg) := by
  obtain ⟨fd_is_integer, F_is_integer⟩ := c.fn 0 (d := d_is_integer) rfl
  obtain ⟨fd_is_number, F_is_number⟩ := c.fn 1 (d := d_is_number) rfl
  obtain ⟨fd_check_number, F_check_number⟩ := c.fn 2 (d := d_check_number) rfl
  obtain ⟨fd_is_label, F_is_label⟩ := c.fn 3 (d := d_is_label) rfl
  obtain ⟨fd_is_kind, F_is_kind⟩ := c.fn 4 (d := d_is_kind) rfl
  obtain ⟨fd_after_drinks, F_after_drinks⟩ := c.fn 5 (d := d_after_drinks) rfl
  obtain ⟨fd_most_trades, F_most_trades⟩ := c.fn 6 (d := d_most_trades) rfl
  obtain ⟨fd_after_trades, F_after_trades⟩ := c.fn 7 (d := d_after_trades) rfl
  obtain ⟨fd_use_up, F_use_up⟩ := c.fn 8 (d := d_use_up) rfl
  obtain ⟨fd_check_pieces, F_check_pieces⟩ := c.fn 9 (d := d_check_pieces) rfl
  obtain ⟨fd_Stock_init, F_Stock_init⟩ := c.fn 10 (d := d_Stock_init) rfl
  obtain ⟨fd_Stock_filled, F_Stock_filled⟩ := c.fn 11 (d := d_Stock_filled) rfl
  obtain ⟨fd_Stock_loose, F_Stock_loose⟩ := c.fn 12 (d := d_Stock_loose) rfl
  obtain ⟨fd_Stock_getitem, F_Stock_getitem⟩ := c.fn 13 (d := d_Stock_getitem) rfl
  obtain ⟨fd_Stock_iter, F_Stock_iter⟩ := c.fn 14 (d := d_Stock_iter) rfl
  obtain ⟨fd_Stock_contains, F_Stock_contains⟩ := c.fn 15 (d := d_Stock_contains) rfl
  obtain ⟨fd_Stock_bool, F_Stock_bool⟩ := c.fn 16 (d := d_Stock_bool) rfl
  obtain ⟨fd_Stock_eq, F_Stock_eq⟩ := c.fn 17 (d := d_Stock_eq) rfl
  obtain ⟨fd_Stock_le, F_Stock_le⟩ := c.fn 18 (d := d_Stock_le) rfl
  obtain ⟨fd_Stock_ge, F_Stock_ge⟩ := c.fn 19 (d := d_Stock_ge) rfl
  obtain ⟨fd_Stock_add, F_Stock_add⟩ := c.fn 20 (d := d_Stock_add) rfl
  obtain ⟨fd_Stock_sub, F_Stock_sub⟩ := c.fn 21 (d := d_Stock_sub) rfl
  obtain ⟨fd_Stock_mul, F_Stock_mul⟩ := c.fn 22 (d := d_Stock_mul) rfl
  obtain ⟨fd_Stock_call, F_Stock_call⟩ := c.fn 23 (d := d_Stock_call) rfl
  obtain ⟨fd_never_greater, F_never_greater⟩ := c.fn 24 (d := d_never_greater) rfl
  obtain ⟨fd_rest_of, F_rest_of⟩ := c.fn 25 (d := d_rest_of) rfl
  obtain ⟨fd_gain_of, F_gain_of⟩ := c.fn 26 (d := d_gain_of) rfl
  obtain ⟨fd_cost_of, F_cost_of⟩ := c.fn 27 (d := d_cost_of) rfl
  obtain ⟨fd_drinks_of_period, F_drinks_of_period⟩ := c.fn 28 (d := d_drinks_of_period) rfl
  obtain ⟨fd_tops_of, F_tops_of⟩ := c.fn 29 (d := d_tops_of) rfl
  obtain ⟨fd_firsts_of, F_firsts_of⟩ := c.fn 30 (d := d_firsts_of) rfl
  obtain ⟨fd_gaps_of, F_gaps_of⟩ := c.fn 31 (d := d_gaps_of) rfl
  obtain ⟨fd_value_at, F_value_at⟩ := c.fn 32 (d := d_value_at) rfl
  obtain ⟨fd_is_trade, F_is_trade⟩ := c.fn 33 (d := d_is_trade) rfl
  obtain ⟨fd_check_trades, F_check_trades⟩ := c.fn 34 (d := d_check_trades) rfl
  obtain ⟨fd_check_generosity, F_check_generosity⟩ := c.fn 35 (d := d_check_generosity) rfl
  obtain ⟨fd_Offer_init, F_Offer_init⟩ := c.fn 36 (d := d_Offer_init) rfl
  obtain ⟨fd_Offer_trades, F_Offer_trades⟩ := c.fn 37 (d := d_Offer_trades) rfl
  obtain ⟨fd_Offer_kinds, F_Offer_kinds⟩ := c.fn 38 (d := d_Offer_kinds) rfl
  obtain ⟨fd_Offer_period, F_Offer_period⟩ := c.fn 39 (d := d_Offer_period) rfl
  obtain ⟨fd_Offer_drinks_for, F_Offer_drinks_for⟩ := c.fn 40 (d := d_Offer_drinks_for) rfl
  obtain ⟨fd_Offer_most_within, F_Offer_most_within⟩ := c.fn 41 (d := d_Offer_most_within) rfl
  obtain ⟨fd_Offer_call, F_Offer_call⟩ := c.fn 42 (d := d_Offer_call) rfl
  obtain ⟨fd_Offer_add, F_Offer_add⟩ := c.fn 43 (d := d_Offer_add) rfl
  obtain ⟨fd_Offer_sub, F_Offer_sub⟩ := c.fn 44 (d := d_Offer_sub) rfl
  obtain ⟨fd_Offer_getitem, F_Offer_getitem⟩ := c.fn 45 (d := d_Offer_getitem) rfl
  obtain ⟨fd_Offer_iter, F_Offer_iter⟩ := c.fn 46 (d := d_Offer_iter) rfl
  obtain ⟨fd_Offer_bool, F_Offer_bool⟩ := c.fn 47 (d := d_Offer_bool) rfl
  obtain ⟨fd_Offer_contains, F_Offer_contains⟩ := c.fn 48 (d := d_Offer_contains) rfl
  obtain ⟨fd_Offer_le, F_Offer_le⟩ := c.fn 49 (d := d_Offer_le) rfl
  obtain ⟨fd_Offer_lt, F_Offer_lt⟩ := c.fn 50 (d := d_Offer_lt) rfl
  obtain ⟨fd_Offer_ge, F_Offer_ge⟩ := c.fn 51 (d := d_Offer_ge) rfl
  obtain ⟨fd_Offer_gt, F_Offer_gt⟩ := c.fn 52 (d := d_Offer_gt) rfl
  obtain ⟨fd_slack, F_slack⟩ := c.fn 53 (d := d_slack) rfl
  obtain ⟨fd_repetition, F_repetition⟩ := c.fn 54 (d := d_repetition) rfl
  obtain ⟨fd_never_more, F_never_more⟩ := c.fn 55 (d := d_never_more) rfl
  obtain ⟨fd_first_difference, F_first_difference⟩ := c.fn 56 (d := d_first_difference) rfl
  obtain ⟨fd_law_start, F_law_start⟩ := c.fn 57 (d := d_law_start) rfl
  obtain ⟨fd_law_drawn, F_law_drawn⟩ := c.fn 58 (d := d_law_drawn) rfl
  obtain ⟨fd_law_same, F_law_same⟩ := c.fn 59 (d := d_law_same) rfl
  obtain ⟨fd_law_trades, F_law_trades⟩ := c.fn 60 (d := d_law_trades) rfl
  obtain ⟨fd_law_offer, F_law_offer⟩ := c.fn 61 (d := d_law_offer) rfl
  obtain ⟨fd_law_counts, F_law_counts⟩ := c.fn 62 (d := d_law_counts) rfl
  obtain ⟨fd_law_stock, F_law_stock⟩ := c.fn 63 (d := d_law_stock) rfl
  obtain ⟨fd_law_traded, F_law_traded⟩ := c.fn 64 (d := d_law_traded) rfl
  obtain ⟨fd_law, F_law⟩ := c.fn 65 (d := d_law) rfl
  have cm := c.bools.2.1
  exact ⟨⟨fd_is_integer,
    F_is_integer,
    He.glo_ok X G (c.fact 0 (f := .glo "is_integer") rfl),
    fd_is_number,
    F_is_number,
    He.glo_ok X G (c.fact 1 (f := .glo "is_number") rfl),
    fd_check_number,
    F_check_number,
    He.glo_ok X G (c.fact 2 (f := .glo "check_number") rfl),
    fd_is_label,
    F_is_label,
    He.glo_ok X G (c.fact 3 (f := .glo "is_label") rfl),
    fd_is_kind,
    F_is_kind,
    He.glo_ok X G (c.fact 4 (f := .glo "is_kind") rfl),
    fd_after_drinks,
    F_after_drinks,
    He.glo_ok X G (c.fact 5 (f := .glo "after_drinks") rfl),
    fd_most_trades,
    F_most_trades,
    He.glo_ok X G (c.fact 6 (f := .glo "most_trades") rfl),
    fd_after_trades,
    F_after_trades,
    He.glo_ok X G (c.fact 7 (f := .glo "after_trades") rfl),
    fd_use_up,
    F_use_up,
    He.glo_ok X G (c.fact 8 (f := .glo "use_up") rfl),
    fd_check_pieces,
    F_check_pieces,
    He.glo_ok X G (c.fact 9 (f := .glo "_check_pieces") rfl),
    fd_Stock_init,
    F_Stock_init,
    He.mkr_ok (c.fact 10 (f := .mkr "Stock") rfl),
    fd_Stock_filled,
    F_Stock_filled,
    okProp_of (more_at cm 0 (f := fun K => okProp K "Stock" "filled") rfl),
    fd_Stock_loose,
    F_Stock_loose,
    okProp_of (more_at cm 1 (f := fun K => okProp K "Stock" "loose") rfl),
    fd_Stock_getitem,
    F_Stock_getitem,
    He.meth_ok (c.fact 11 (f := .meth "Stock" "__getitem__") rfl),
    fd_Stock_iter,
    F_Stock_iter,
    He.meth_ok (c.fact 12 (f := .meth "Stock" "__iter__") rfl),
    fd_Stock_contains,
    F_Stock_contains,
    He.meth_ok (c.fact 13 (f := .meth "Stock" "__contains__") rfl),
    fd_Stock_bool,
    F_Stock_bool,
    He.meth_ok (c.fact 14 (f := .meth "Stock" "__bool__") rfl),
    fd_Stock_eq,
    F_Stock_eq,
    He.meth_ok (c.fact 15 (f := .meth "Stock" "__eq__") rfl),
    fd_Stock_le,
    F_Stock_le,
    He.meth_ok (c.fact 16 (f := .meth "Stock" "__le__") rfl),
    fd_Stock_ge,
    F_Stock_ge,
    He.meth_ok (c.fact 17 (f := .meth "Stock" "__ge__") rfl),
    fd_Stock_add,
    F_Stock_add,
    He.meth_ok (c.fact 18 (f := .meth "Stock" "__add__") rfl),
    fd_Stock_sub,
    F_Stock_sub,
    He.meth_ok (c.fact 19 (f := .meth "Stock" "__sub__") rfl),
    fd_Stock_mul,
    F_Stock_mul,
    He.meth_ok (c.fact 20 (f := .meth "Stock" "__mul__") rfl),
    fd_Stock_call,
    F_Stock_call,
    okCallO_of (more_at cm 2 (f := fun K => okCallO K "Stock") rfl),
    fd_never_greater,
    F_never_greater,
    He.glo_ok X G (c.fact 21 (f := .glo "_never_greater") rfl),
    fd_rest_of,
    F_rest_of,
    He.glo_ok X G (c.fact 22 (f := .glo "rest_of") rfl),
    fd_gain_of,
    F_gain_of,
    He.glo_ok X G (c.fact 23 (f := .glo "gain_of") rfl),
    fd_cost_of,
    F_cost_of,
    He.glo_ok X G (c.fact 24 (f := .glo "cost_of") rfl),
    fd_drinks_of_period,
    F_drinks_of_period,
    He.glo_ok X G (c.fact 25 (f := .glo "drinks_of_period") rfl),
    fd_tops_of,
    F_tops_of,
    He.glo_ok X G (c.fact 26 (f := .glo "tops_of") rfl),
    fd_firsts_of,
    F_firsts_of,
    He.glo_ok X G (c.fact 27 (f := .glo "firsts_of") rfl),
    fd_gaps_of,
    F_gaps_of,
    He.glo_ok X G (c.fact 28 (f := .glo "gaps_of") rfl),
    fd_value_at,
    F_value_at,
    He.glo_ok X G (c.fact 29 (f := .glo "value_at") rfl),
    fd_is_trade,
    F_is_trade,
    He.glo_ok X G (c.fact 30 (f := .glo "_is_trade") rfl),
    fd_check_trades,
    F_check_trades,
    He.glo_ok X G (c.fact 31 (f := .glo "_check_trades") rfl),
    fd_check_generosity,
    F_check_generosity,
    He.glo_ok X G (c.fact 32 (f := .glo "_check_generosity") rfl),
    fd_Offer_init,
    F_Offer_init,
    He.mkr_ok (c.fact 33 (f := .mkr "Offer") rfl),
    fd_Offer_trades,
    F_Offer_trades,
    okProp_of (more_at cm 3 (f := fun K => okProp K "Offer" "trades") rfl),
    fd_Offer_kinds,
    F_Offer_kinds,
    okProp_of (more_at cm 4 (f := fun K => okProp K "Offer" "kinds") rfl),
    fd_Offer_period,
    F_Offer_period,
    okProp_of (more_at cm 5 (f := fun K => okProp K "Offer" "period") rfl),
    fd_Offer_drinks_for,
    F_Offer_drinks_for,
    He.meth_ok (c.fact 34 (f := .meth "Offer" "_drinks_for") rfl),
    fd_Offer_most_within,
    F_Offer_most_within,
    He.meth_ok (c.fact 35 (f := .meth "Offer" "_most_within") rfl),
    fd_Offer_call,
    F_Offer_call,
    okCallO_of (more_at cm 6 (f := fun K => okCallO K "Offer") rfl),
    fd_Offer_add,
    F_Offer_add,
    He.meth_ok (c.fact 36 (f := .meth "Offer" "__add__") rfl),
    fd_Offer_sub,
    F_Offer_sub,
    He.meth_ok (c.fact 37 (f := .meth "Offer" "__sub__") rfl),
    fd_Offer_getitem,
    F_Offer_getitem,
    He.meth_ok (c.fact 38 (f := .meth "Offer" "__getitem__") rfl),
    fd_Offer_iter,
    F_Offer_iter,
    He.meth_ok (c.fact 39 (f := .meth "Offer" "__iter__") rfl),
    fd_Offer_bool,
    F_Offer_bool,
    He.meth_ok (c.fact 40 (f := .meth "Offer" "__bool__") rfl),
    fd_Offer_contains,
    F_Offer_contains,
    He.meth_ok (c.fact 41 (f := .meth "Offer" "__contains__") rfl),
    fd_Offer_le,
    F_Offer_le,
    He.meth_ok (c.fact 42 (f := .meth "Offer" "__le__") rfl),
    fd_Offer_lt,
    F_Offer_lt,
    He.meth_ok (c.fact 43 (f := .meth "Offer" "__lt__") rfl),
    fd_Offer_ge,
    F_Offer_ge,
    He.meth_ok (c.fact 44 (f := .meth "Offer" "__ge__") rfl),
    fd_Offer_gt,
    F_Offer_gt,
    He.meth_ok (c.fact 45 (f := .meth "Offer" "__gt__") rfl),
    fd_slack,
    F_slack,
    He.glo_ok X G (c.fact 46 (f := .glo "_slack") rfl),
    fd_repetition,
    F_repetition,
    He.glo_ok X G (c.fact 47 (f := .glo "_repetition") rfl),
    fd_never_more,
    F_never_more,
    He.glo_ok X G (c.fact 48 (f := .glo "_never_more") rfl),
    fd_first_difference,
    F_first_difference,
    He.glo_ok X G (c.fact 49 (f := .glo "first_difference") rfl),
    fd_law_start,
    F_law_start,
    He.glo_ok X G (c.fact 50 (f := .glo "_law_start") rfl),
    fd_law_drawn,
    F_law_drawn,
    He.glo_ok X G (c.fact 51 (f := .glo "_law_drawn") rfl),
    fd_law_same,
    F_law_same,
    He.glo_ok X G (c.fact 52 (f := .glo "_law_same") rfl),
    fd_law_trades,
    F_law_trades,
    He.glo_ok X G (c.fact 53 (f := .glo "_law_trades") rfl),
    fd_law_offer,
    F_law_offer,
    He.glo_ok X G (c.fact 54 (f := .glo "_law_offer") rfl),
    fd_law_counts,
    F_law_counts,
    He.glo_ok X G (c.fact 55 (f := .glo "_law_counts") rfl),
    fd_law_stock,
    F_law_stock,
    He.glo_ok X G (c.fact 56 (f := .glo "_law_stock") rfl),
    fd_law_traded,
    F_law_traded,
    He.glo_ok X G (c.fact 57 (f := .glo "_law_traded") rfl),
    fd_law,
    F_law,
    He.glo_ok X G (c.fact 58 (f := .glo "law") rfl),
    He.glo_ok X G (c.fact 59 (f := .glo "Offer") rfl),
    He.cls_ok (c.fact 60 (f := .cls "Offer") rfl),
    okRead_of (more_at cm 7 (f := fun K => okRead K "Offer") rfl),
    He.noat_ok (c.fact 61 (f := .noat "Offer" "_trades") rfl),
    He.noat_ok (c.fact 62 (f := .noat "Offer" "_period") rfl),
    He.noat_ok (c.fact 63 (f := .noat "Offer" "_tops") rfl),
    He.noat_ok (c.fact 64 (f := .noat "Offer" "_firsts") rfl),
    He.noat_ok (c.fact 65 (f := .noat "Offer" "_gaps") rfl),
    okCVal_of (more_at cm 8 (f := fun K => okCVal K "Offer" "MAX_TRADES" (.int 3)) rfl),
    okCVal_of (more_at cm 9 (f := fun K => okCVal K "Offer" "MAX_NEEDED" (.int 12)) rfl),
    He.glo_ok X G (c.fact 66 (f := .glo "Stock") rfl),
    He.cls_ok (c.fact 67 (f := .cls "Stock") rfl),
    He.noat_ok (c.fact 68 (f := .noat "Stock" "_filled") rfl),
    He.noat_ok (c.fact 69 (f := .noat "Stock" "_loose") rfl),
    He.int_ok X G (c.fact 70 (f := .int "MAX_NUMBER" (1000000000000000000)) rfl),
    He.int_ok X G (c.fact 71 (f := .int "MAX_LABEL_LENGTH" (8)) rfl),
    He.str_ok X G (c.fact 72 (f := .str "DRINK" "drink") rfl),
    He.str_ok X G (c.fact 73 (f := .str "FULL" "full") rfl),
    He.int_ok X G (c.fact 74 (f := .int "MAX_TIMES" (1000000000)) rfl),
    He.int_ok X G (c.fact 75 (f := .int "MAX_LEFT" (12)) rfl),
    He.free_ok X G (c.fact 76 (f := .free "len") rfl),
    He.free_ok X G (c.fact 77 (f := .free "sum") rfl),
    He.free_ok X G (c.fact 78 (f := .free "max") rfl),
    He.free_ok X G (c.fact 79 (f := .free "min") rfl),
    He.free_ok X G (c.fact 80 (f := .free "all") rfl),
    He.free_ok X G (c.fact 81 (f := .free "any") rfl),
    He.free_ok X G (c.fact 82 (f := .free "isinstance") rfl),
    He.free_ok X G (c.fact 83 (f := .free "range") rfl),
    He.free_ok X G (c.fact 84 (f := .free "enumerate") rfl),
    He.free_ok X G (c.fact 85 (f := .free "zip") rfl),
    He.free_ok X G (c.fact 86 (f := .free "list") rfl),
    He.free_ok X G (c.fact 87 (f := .free "tuple") rfl),
    He.free_ok X G (c.fact 88 (f := .free "int") rfl),
    He.free_ok X G (c.fact 89 (f := .free "bool") rfl),
    He.free_ok X G (c.fact 90 (f := .free "str") rfl),
    He.free_ok X G (c.fact 91 (f := .free "dict") rfl),
    He.free_ok X G (c.fact 92 (f := .free "divmod") rfl),
    He.free_ok X G (c.fact 93 (f := .free "sorted") rfl),
    id (more_at cm 10 (f := fun K => PySem.W.selfFirst K (He.ga K "Offer")) rfl),
    id (more_at cm 11 (f := fun K => PySem.W.fnIn K (a_Offer_getitem K)) rfl),
    id (more_at cm 12 (f := fun K => PySem.W.selfFirst K (He.ga K "Stock")) rfl),
    id (more_at cm 13 (f := fun K => PySem.W.fnIn K (a_Stock_getitem K)) rfl),
    okBinT_of (more_at cm 14 (f := fun K => okBinT K (He.ga K "Stock") "mul" "int") rfl),
    okBlt_of X G (more_at cm 15 (f := fun K => okBlt K "gcd" "math.gcd") rfl),
    okBlt_of X G (more_at cm 16 (f := fun K => okBlt K "lcm" "math.lcm") rfl)⟩⟩
end EB

namespace EB
open PySem PySem.Spec PyProof.Rows L2
abbrev R : PySem.W.OpenRow := PySem.W.OpenLaw.row PySem.Challenge.rw_emptiesback_k42_whole_drinks_of_stocks
abbrev hk : PySem.W.Hook := hook 5 fas moreB dds
def ob (s : PySem.W.SharedT) : Seen := seen fas moreB dds (He.frG (HandSHeadRun.getT s) (cStatics :: He.asD (HandSHeadRun.getT s) 5))
theorem ob_eq (s : PySem.W.SharedT) : ob s = hk.obs s.abs := by
  have e : HandSHeadRun.getT s = s.abs.heap.get? := funext (HandSHeadRun.getT_eq s)
  unfold ob
  rw [e] <;> rfl
def loose0 : List Str := ["_wall", "__name__", "TradeError", "InvalidOffer", "TooGenerous", "UnknownKind", "InvalidNumber", "InvalidKind", "NotEnough", "MAX_NUMBER", "MAX_LABEL_LENGTH", "DRINK", "is_integer", "is_number", "check_number", "is_label", "is_kind", "after_drinks", "most_trades", "after_trades"]
def loose1 : List Str := ["use_up", "FULL", "MAX_TIMES", "_check_pieces", "Stock", "_never_greater", "rest_of", "gain_of", "cost_of", "drinks_of_period", "tops_of", "firsts_of", "gaps_of", "value_at", "MAX_LEFT", "_is_trade", "_check_trades", "_check_generosity", "Offer", "_slack"]
def loose2 : List Str := ["_repetition", "_never_more", "first_difference", "_law_start", "_law_drawn", "_law_same", "_law_trades", "_law_offer", "_law_counts", "_law_stock", "_law_traded"]
def loose : List Str := loose0 ++ loose1 ++ loose2
theorem run (w : World) : HandSHeadRun.RunEqI R (PySem.W.view R.prog [0, 58]) hk ob 12000 loose w := by
  unfold HandSHeadRun.RunEqI
  kernel_rfl
end EB

namespace EB
open PySem PySem.Spec PyProof.Rows L2
/-! ### data -/
/-- one trade -/
structure Tr where
  k : Str
  l : Int
  n : Int
def Tr.vs (t : Tr) : List V := [.str t.k, .int t.l, .int t.n]
def Tr.ok (t : Tr) : Prop := 0 ≤ t.l ∧ t.l ≤ 12 ∧ 1 ≤ t.n ∧ t.n ≤ 12
structure TrAt (K : PySem.W.Frag) (H : Hp) (a : Addr) (ts : List Tr) : Prop where
  ex : ∃ ps : List Addr, SqT K H a (ps.map V.ref) ∧ ps.length = ts.length ∧ ∀ (i : Nat) (p : Addr) (t : Tr), ps[i]? = some p → ts[i]? = some t → SqT K H p t.vs
theorem TrAt.mono {K : PySem.W.Frag} {H H' : Hp} {a : Addr} {ts : List Tr} (s : Same H H') (h : TrAt K H a ts) : TrAt K H' a ts := by
  obtain ⟨ps, h1, h2, h3⟩ := h.ex
  exact ⟨ps, Same.tup s h1, h2, fun i p t a b => Same.tup s (h3 i p t a b)⟩
theorem TrAt.at_ {K : PySem.W.Frag} {H : Hp} {ts : List Tr} {ps : List Addr} {i : Nat} {x : V} (h2 : ps.length = ts.length) (h3 : ∀ (i : Nat) (p : Addr) (t : Tr), ps[i]? = some p → ts[i]? = some t → SqT K H p t.vs)
    (hx : (ps.map V.ref)[i]? = some x) : ∃ (p : Addr) (t : Tr), x = .ref p ∧ ps[i]? = some p ∧ ts[i]? = some t ∧ t ∈ ts ∧ i < ts.length ∧ SqT K H p t.vs := by
  rw [List.getElem?_map] at hx
  cases ep : ps[i]? with
  | none =>
    rw [ep] at hx
    cases hx
  | some p =>
    rw [ep] at hx
    cases hx
    have li : i < ts.length := by
      rw [← h2]
      exact (List.getElem?_eq_some_iff.mp ep).1
    have et : ts[i]? = some ts[i] := List.getElem?_eq_getElem li
    exact ⟨p, ts[i], rfl, rfl, et, List.getElem_mem li, li, h3 i p _ ep et⟩
def buys (ts : List Tr) (d : Int) : Int := (ts.map fun t => t.l * d / t.n).sum
def cost (ts : List Tr) (d : Int) : Int := d - buys ts d
def gds (ts : List Tr) : Prop := ts.length ≤ 3 ∧ ∀ t ∈ ts, t.ok
def perS (d : Nat) (t : Tr) : Nat := d.lcm (t.n / ((t.l.natAbs.gcd t.n.natAbs : Nat) : Int)).natAbs
def per (ts : List Tr) : Nat := ts.foldl perS 1
theorem gcd_pos' {t : Tr} (ht : t.ok) : 0 < ((t.l.natAbs.gcd t.n.natAbs : Nat) : Int) ∧ ((t.l.natAbs.gcd t.n.natAbs : Nat) : Int) ≤ 12 := by
  obtain ⟨_, _, h3, h4⟩ := ht
  have h5 : 0 < t.n.natAbs := by omega
  have h6 : 0 < t.l.natAbs.gcd t.n.natAbs := Nat.gcd_pos_of_pos_right _ h5
  have h7 : t.l.natAbs.gcd t.n.natAbs ≤ t.n.natAbs := Nat.gcd_le_right _ h5
  omega
theorem quo_le {t : Tr} (ht : t.ok) : (t.n / ((t.l.natAbs.gcd t.n.natAbs : Nat) : Int)).natAbs ≤ 12 := by
  have h1 := gcd_pos' ht
  have h2 := ht.2.2.1
  have h3 := ht.2.2.2
  have h4 : 0 ≤ t.n / ((t.l.natAbs.gcd t.n.natAbs : Nat) : Int) := Int.ediv_nonneg (by omega) (by omega)
  have h5 : t.n / ((t.l.natAbs.gcd t.n.natAbs : Nat) : Int) ≤ t.n := Int.ediv_le_self _ (by omega)
  omega
theorem per_le : ∀ (ts : List Tr) (d : Nat), (∀ t ∈ ts, t.ok) → ts.foldl perS d ≤ d * 12 ^ ts.length
  | [], d, _ => by simp
  | t :: ts, d, h => by
    have h1 := per_le ts (perS d t) fun u hu => h u (List.mem_cons_of_mem _ hu)
    have h2 : perS d t ≤ d * 12 := Nat.le_trans (PySem.W.mc_lcm_le _ _) (Nat.mul_le_mul_left _ (quo_le (h t (List.mem_cons_self ..))))
    have h3 : perS d t * 12 ^ ts.length ≤ d * 12 * 12 ^ ts.length := Nat.mul_le_mul_right _ h2
    rw [List.foldl_cons, List.length_cons, Nat.pow_succ]
    rw [Nat.mul_assoc, Nat.mul_comm 12] at h3
    omega
theorem per_most {ts : List Tr} (h : gds ts) (i : Nat) : (ts.take i).foldl perS 1 ≤ 1728 := by
  have h1 := per_le (ts.take i) 1 fun t ht => h.2 t (List.mem_of_mem_take ht)
  have h2 : (ts.take i).length ≤ 3 := by
    rw [List.length_take]
    have := h.1
    omega
  have h3 : 12 ^ (ts.take i).length ≤ 12 ^ 3 := Nat.pow_le_pow_right (by omega) h2
  omega
section
variable {P : Program} {w : World} {K : PySem.W.Frag} {mg : Str → Option Value} {base : Heap} (T : Tx K mg)
include T
/-! ### patterns -/
def spCost (K : PySem.W.Frag) : Sp := fun vs H Q _ => ∃ (a : Addr) (ts : List Tr) (d : Int), vs = [.ref a, .int d] ∧ TrAt K H a ts ∧ gds ts ∧ ∀ H', Same H H' → Q (.int (cost ts d)) H'
theorem ok_cost_of : FnR P w K mg base CX0 1 (a_cost_of K) (spCost K) := by
  refine fnR0 (d := d_cost_of) T.F_cost_of sc_cost_of rfl (fun _ _ _ _ _ _ us hl => match us, hl with | [_, _], _ => rfl) (fun vs H Q E h => ?_) (fun cdv A outer s H vs Q E hr h => ?_)
  · obtain ⟨a, ts, d, rfl, _⟩ := h
    rfl
  obtain ⟨a, ts, d, rfl, hT, ⟨hlen, hok⟩, k⟩ := h
  obtain ⟨ps, h1, h2, h3⟩ := hT.ex
  refine ⟨_, (pss_one (ps_ret (pe_op op_sub (pv 1) (pe_callB (cr_sum rfl) (by rfl) T.n_sum (by decide +kernel) (pa_cons (pe_lc (own := [("_", 2), ("left", 3), ("needed", 4)]) rfl sc_cost_of.nd (pi_tup (pv 0)) (blkOk_by (own := [("_", 2), ("left", 3), ("needed", 4)]) (N := N_cost_of) (sc := defScope s_cost_of) (by decide +kernel)) (fun _ _ _ _ _ => (pg_tupB (n := 3) (pgs_cons (pg_name (i := 2) sc_cost_of.nd rfl (Or.inl rfl) (.inr rfl)) (pgs_cons (pg_name (i := 3) sc_cost_of.nd rfl (Or.inl rfl) (.inr rfl)) (pgs_cons (pg_name (i := 4) sc_cost_of.nd rfl (Or.inl rfl) (.inr rfl)) pgs_nil))))) (fun _ _ _ _ _ => pts_nil) (fun _ _ _ _ _ => (pe_op op_fdiv (pe_op op_mul (pv 3) (pv 1)) (pv 4)))) pa_nil))))), ?_⟩
  refine ⟨_, rfl, _, rfl, a, rfl, ⟨_, h1⟩, fun D hD => ?_⟩
  refine lc_tup (xs := ps.map V.ref) (fun i H1 => Same H H1 ∧ H D = none ∧ H1 D = some (.lst ((ts.take i).map fun t => V.int (t.l * d / t.n)))) ⟨same_new hD, hD, upd_same⟩ (fun i H1 _ q => Same.tup q.1 h1) ?_ ?_
  · rintro i x H1 hx ⟨s1, n1, e1⟩
    obtain ⟨p, t, rfl, ep, et, hm, li, hp⟩ := TrAt.at_ h2 h3 hx
    have ht := hok _ hm
    refine ⟨p, _, rfl, Same.tup s1 hp, rfl, _, _, rfl, _, _, rfl, _, _, rfl, rfl, rfl, ?_⟩
    refine ⟨_, rfl, _, rfl, _, _, rfl, rfl, .inl ⟨by have := ht.1; omega, by have := ht.2.1; omega⟩, _, rfl, _, _, rfl, rfl, ⟨by have := ht.2.2.1; omega, by have := ht.2.2.2; omega⟩, ?_⟩
    refine ⟨_, e1, small3 ?_, same_mut s1 n1, n1, ?_⟩
    · rw [List.length_map, List.length_take]
      omega
    · rw [upd_same, take_at et, List.map_append]
      rfl
  · rintro H1 ⟨s1, n1, e1⟩
    refine ⟨D, ts.map fun t => t.l * d / t.n, rfl, SqL.of ?_, ?_⟩
    · rw [e1, List.length_map, h2, List.take_length, List.map_map]
      rfl
    · exact ⟨_, _, rfl, rfl, k _ s1⟩
def spPer (K : PySem.W.Frag) : Sp := fun vs H Q _ => ∃ (a : Addr) (ts : List Tr), vs = [.ref a] ∧ TrAt K H a ts ∧ gds ts ∧ ∀ H', Same H H' → Q (.int (per ts : Nat)) H'
theorem ok_drinks_of_period : FnR P w K mg base CX0 1 (a_drinks_of_period K) (spPer K) := by
  refine fnR0 (d := d_drinks_of_period) T.F_drinks_of_period sc_drinks_of_period rfl (fun _ _ _ _ _ _ us hl => match us, hl with | [_], _ => rfl) (fun vs H Q E h => ?_) (fun cdv A outer s H vs Q E hr h => ?_)
  · obtain ⟨a, ts, rfl, _⟩ := h
    rfl
  obtain ⟨a, ts, rfl, hT, hg, k⟩ := h
  obtain ⟨ps, h1, h2, h3⟩ := hT.ex
  refine ⟨_, (pss_cons (ps_set (i := 1) sc_drinks_of_period.nd rfl (Or.inl rfl) pe_int) (pss_cons (ps_for PassesOwn.never rfl (pi_tup (pv 0)) (pg_tup rfl (pgs_cons (pg_name (i := 2) sc_drinks_of_period.nd rfl (Or.inl rfl)) (pgs_cons (pg_name (i := 3) sc_drinks_of_period.nd rfl (Or.inl rfl)) (pgs_cons (pg_name (i := 4) sc_drinks_of_period.nd rfl (Or.inl rfl)) pgs_nil)))) (pss_one (ps_set (i := 1) sc_drinks_of_period.nd rfl (Or.inl rfl) (pe_callBfun cr_lcm (by rfl) T.b_lcm (pa_cons (pv 1) (pa_cons (pe_op op_fdiv (pv 4) (pe_callBfun cr_gcd (by rfl) T.b_gcd (pa_cons (pv 3) (pa_cons (pv 4) pa_nil)))) pa_nil)))))) (pss_one (ps_ret (pv 1))))), ?_⟩
  refine ⟨_, rfl, a, rfl, ⟨_, h1⟩, for_tup (xs := ps.map V.ref) (fun i σ H1 => H1 = H ∧ ∃ x2 x3 x4, σ = [some (.ref a), some (.int (((ts.take i).foldl perS 1 : Nat) : Int)), x2, x3, x4]) ⟨rfl, _, _, _, rfl⟩ (fun i σ H1 _ q => by rw [q.1]; exact h1) ?_ ?_⟩
  · rintro i x σ H1 hx ⟨rfl, x2, x3, x4, rfl⟩
    obtain ⟨p, t, rfl, ep, et, hm, li, hp⟩ := TrAt.at_ h2 h3 hx
    have ht := hg.2 _ hm
    have hq := gcd_pos' ht
    refine ⟨p, _, rfl, hp, rfl, _, _, rfl, _, _, rfl, _, _, rfl, rfl, ?_⟩
    refine ⟨_, rfl, _, rfl, _, rfl, _, rfl, _, _, rfl, _, _, rfl, rfl, ⟨hq.1, by omega⟩, _, _, rfl, ?_, ?_, rfl, some (.str t.k), some (.int t.l), some (.int t.n), ?_⟩
    · have := per_most hg i
      exact Nat.lt_of_le_of_lt (by omega : _ ≤ 1728) (by decide)
    · exact Nat.lt_of_le_of_lt (quo_le ht) (by decide)
    · rw [take_at et, List.foldl_append]
      rfl
  · rintro σ H1 ⟨rfl, x2, x3, x4, rfl⟩
    refine ⟨_, rfl, ?_⟩
    have e : (ts.take (ps.map V.ref).length).foldl perS 1 = per ts := by
      rw [List.length_map, h2, List.take_length]
      rfl
    rw [e]
    exact k _ (Same.refl _)
end
end EB

namespace EB
open PySem PySem.Spec PyProof.Rows L2
/-! ### tables -/
def topsF : Int → List Int → List Int
  | _, [] => []
  | m, c :: cs => (if m < c then c else m) :: topsF (if m < c then c else m) cs
def topsM (m : Int) (cs : List Int) : Int := cs.foldl (fun m c => if m < c then c else m) m
theorem topsF_length : ∀ (m : Int) (cs : List Int), (topsF m cs).length = cs.length
  | _, [] => rfl
  | m, c :: cs => by
    show (topsF _ cs).length + 1 = _
    rw [topsF_length]
    rfl
theorem topsF_snoc : ∀ (m : Int) (cs : List Int) (c : Int), topsF m (cs ++ [c]) = topsF m cs ++ [topsM m (cs ++ [c])]
  | m, [], c => rfl
  | m, x :: cs, c => by
    show _ :: topsF _ (cs ++ [c]) = _ :: (topsF _ cs ++ _)
    rw [topsF_snoc]
    rfl
theorem topsM_snoc (m : Int) (cs : List Int) (c : Int) : topsM m (cs ++ [c]) = if topsM m cs < c then c else topsM m cs := by
  unfold topsM
  rw [List.foldl_append]
  rfl
/-- the first place of each value that a table reaches: what is there, what is still to be gone through from place i on -/
def firstsF : Nat → List Int → List Int → List Int
  | _, acc, [] => acc
  | i, acc, t :: ts => firstsF (i + 1) (if t = (acc.length : Int) then acc ++ [(i : Int)] else acc) ts
theorem firstsF_snoc : ∀ (i : Nat) (acc ts : List Int) (t : Int), firstsF i acc (ts ++ [t]) = if t = ((firstsF i acc ts).length : Int) then firstsF i acc ts ++ [((i + ts.length : Nat) : Int)] else firstsF i acc ts
  | i, acc, [], t => rfl
  | i, acc, x :: ts, t => by
    show firstsF (i + 1) _ (ts ++ [t]) = _
    rw [firstsF_snoc]
    have e : i + 1 + ts.length = i + (x :: ts).length := by
      rw [List.length_cons]
      omega
    rw [e]
    rfl
theorem firstsF_length : ∀ (i : Nat) (acc ts : List Int), (firstsF i acc ts).length ≤ acc.length + ts.length
  | _, acc, [] => Nat.le_refl _
  | i, acc, t :: ts => by
    have h := firstsF_length (i + 1) (if t = (acc.length : Int) then acc ++ [(i : Int)] else acc) ts
    have h2 : (if t = (acc.length : Int) then acc ++ [(i : Int)] else acc).length ≤ acc.length + 1 := by
      split
      · rw [List.length_append, List.length_singleton]
        exact Nat.le_refl _
      · exact Nat.le_succ _
    rw [List.length_cons]
    show (firstsF (i + 1) (if t = (acc.length : Int) then acc ++ [(i : Int)] else acc) ts).length ≤ _
    omega
def valueAt (xs : List Int) (at_ span rise : Int) : Int :=
  if at_ < xs.length then xs.getD at_.toNat 0 else xs.getD (at_ - ((at_ - xs.length) / span + 1) * span).toNat 0 + ((at_ - xs.length) / span + 1) * rise
theorem getD_at {xs : List Int} {i : Int} (h0 : 0 ≤ i) (h1 : i < xs.length) : atI (xs.map V.int) i = some (.int (xs.getD i.toNat 0)) := by
  have hi : i.toNat < xs.length := by omega
  refine at_of (j := i.toNat) (by omega) ?_
  rw [List.getElem?_map, List.getElem?_eq_getElem hi, List.getD_eq_getElem?_getD, List.getElem?_eq_getElem hi]
  rfl
/-- the places at which a table of first places does not lead back -/
def gapsF (fs : List Int) : Nat → List Int → List Int
  | _, [] => []
  | i, t :: ts => (if fs.getD t.toNat 0 = (i : Int) then [] else [(i : Int)]) ++ gapsF fs (i + 1) ts
theorem gapsF_snoc (fs : List Int) : ∀ (i : Nat) (ts : List Int) (t : Int), gapsF fs i (ts ++ [t]) = gapsF fs i ts ++ (if fs.getD t.toNat 0 = ((i + ts.length : Nat) : Int) then [] else [((i + ts.length : Nat) : Int)])
  | i, [], t => by
    show (if _ then _ else _) ++ [] = [] ++ _
    rw [List.append_nil, List.nil_append]
    rfl
  | i, x :: ts, t => by
    show _ ++ gapsF fs (i + 1) (ts ++ [t]) = _ ++ gapsF fs (i + 1) ts ++ _
    rw [gapsF_snoc, List.append_assoc]
    have e : i + 1 + ts.length = i + (x :: ts).length := by
      rw [List.length_cons]
      omega
    rw [e]
theorem gapsF_length (fs : List Int) : ∀ (i : Nat) (ts : List Int), (gapsF fs i ts).length ≤ ts.length
  | _, [] => Nat.le_refl _
  | i, t :: ts => by
    show ((if _ then _ else _) ++ gapsF fs (i + 1) ts).length ≤ ts.length + 1
    have := gapsF_length fs (i + 1) ts
    rw [List.length_append]
    split
    · simp only [List.length_nil]
      omega
    · simp only [List.length_singleton]
      omega
section
variable {P : Program} {w : World} {K : PySem.W.Frag} {mg : Str → Option Value} {base : Heap} (T : Tx K mg)
include T
def spTops (K : PySem.W.Frag) : Sp := fun vs H Q _ => ∃ (a : Addr) (cs : List Int), vs = [.ref a] ∧ SqL K H a (cs.map V.int) ∧ cs.length ≤ 10000 ∧ ∀ H' p, Same H H' → H p = none → H' p = some (.lst ((topsF 0 cs).map V.int)) → Q (.ref p) H'
theorem ok_tops_of : FnR P w K mg base CX0 1 (a_tops_of K) (spTops K) := by
  refine fnR0 (d := d_tops_of) T.F_tops_of sc_tops_of rfl (fun _ _ _ _ _ _ us hl => match us, hl with | [_], _ => rfl) (fun vs H Q E h => ?_) (fun cdv A outer s H vs Q E hr h => ?_)
  · obtain ⟨a, cs, rfl, _⟩ := h
    rfl
  obtain ⟨a, cs, rfl, hS, hl, k⟩ := h
  refine ⟨_, (pss_cons (ps_set (i := 1) sc_tops_of.nd rfl (Or.inl rfl) (pe_lst pa_nil)) (pss_cons (ps_set (i := 2) sc_tops_of.nd rfl (Or.inl rfl) pe_int) (pss_cons (ps_for PassesOwn.never rfl (pi_list (pv 0)) (pg_name (i := 3) sc_tops_of.nd rfl (Or.inl rfl)) (pss_cons (ps_if (pt_cmpR op_gt (pv 3) (pv 2) (nomark _)) (pss_one (ps_set (i := 2) sc_tops_of.nd rfl (Or.inl rfl) (pv 3))) pss_nil) (pss_one (ps_expr (pe_bm PySem.F.plainAttrs_list PySem.F.slot_list_append PySem.F.type_list_append mt_append (pv 1) (pa_cons (pv 2) pa_nil)))))) (pss_one (ps_ret (pv 1)))))), ?_⟩
  refine ⟨Nat.zero_le _, fun p hp => ?_⟩
  refine ⟨_, rfl, a, rfl, ⟨_, (same_new hp).seq hS⟩, for_list (K := K) (a := a) (xs := cs.map V.int) (fun i σ H1 => Same H H1 ∧ H1 p = some (.lst ((topsF 0 (cs.take i)).map V.int)) ∧ ∃ x, σ = [some (.ref a), some (.ref p), some (.int (topsM 0 (cs.take i))), x])
    ⟨same_new hp, upd_same, _, rfl⟩ (fun i σ H1 _ q => q.1.seq hS) ?_ ?_⟩
  · rintro i x σ H1 hx ⟨s1, e1, x3, rfl⟩
    obtain ⟨c, ec, rfl⟩ := int_at hx
    have hi := lt_of_at ec
    have e2 : topsM 0 (cs.take (i + 1)) = if topsM 0 (cs.take i) < c then c else topsM 0 (cs.take i) := by rw [take_at ec, topsM_snoc]
    have e3 : topsF 0 (cs.take (i + 1)) = topsF 0 (cs.take i) ++ [topsM 0 (cs.take (i + 1))] := by rw [take_at ec, topsF_snoc]
    have hz : ((topsF 0 (cs.take i)).map V.int).length < sizeLine := small3 (by rw [List.length_map, topsF_length, List.length_take]; omega)
    refine ⟨_, rfl, _, rfl, _, _, rfl, rfl, _, rfl, ite2 (fun hd => ?_) (fun hd => ?_)⟩
    · have hd : topsM 0 (cs.take i) < c := of_decide_eq_true hd
      rw [if_pos hd] at e2
      refine ⟨_, rfl, ?_⟩
      refine ⟨_, rfl, .inl ⟨rfl, _, SqL.of e1⟩, _, rfl, p, _, _, rfl, rfl, e1, hz, same_mut s1 hp, ?_, some (.int c), ?_⟩
      · rw [upd_same, e3, e2, List.map_append]
        rfl
      · rw [e2]
        rfl
    · have hd : ¬ topsM 0 (cs.take i) < c := fun z => hd (decide_eq_true z)
      rw [if_neg hd] at e2
      refine ⟨_, rfl, .inl ⟨rfl, _, SqL.of e1⟩, _, rfl, p, _, _, rfl, rfl, e1, hz, same_mut s1 hp, ?_, some (.int c), ?_⟩
      · rw [upd_same, e3, e2, List.map_append]
        rfl
      · rw [e2]
        rfl
  · rintro σ H1 ⟨s1, e1, x, rfl⟩
    refine ⟨_, rfl, k _ _ s1 hp ?_⟩
    rw [e1, List.length_map, List.take_length]
def spFirsts (K : PySem.W.Frag) : Sp := fun vs H Q _ => ∃ (a : Addr) (ts : List Int), vs = [.ref a] ∧ SqL K H a (ts.map V.int) ∧ ts.length ≤ 10000 ∧ ∀ H' p, Same H H' → H p = none → H' p = some (.lst ((firstsF 0 [] ts).map V.int)) → Q (.ref p) H'
theorem ok_firsts_of : FnR P w K mg base CX0 1 (a_firsts_of K) (spFirsts K) := by
  refine fnR0 (d := d_firsts_of) T.F_firsts_of sc_firsts_of rfl (fun _ _ _ _ _ _ us hl => match us, hl with | [_], _ => rfl) (fun vs H Q E h => ?_) (fun cdv A outer s H vs Q E hr h => ?_)
  · obtain ⟨a, cs, rfl, _⟩ := h
    rfl
  obtain ⟨a, ts, rfl, hS, hl, k⟩ := h
  refine ⟨_, (pss_cons (ps_set (i := 1) sc_firsts_of.nd rfl (Or.inl rfl) (pe_lst pa_nil)) (pss_cons (ps_for PassesOwn.never rfl (pi_enum (by rfl) T.n_enumerate (pa_cons (pv 0) pa_nil)) (pg_tup rfl (pgs_cons (pg_name (i := 2) sc_firsts_of.nd rfl (Or.inl rfl)) (pgs_cons (pg_name (i := 3) sc_firsts_of.nd rfl (Or.inl rfl)) pgs_nil))) (pss_one (ps_if (pt_cmpR op_eq (pv 3) (pe_callB call_len_seq (by rfl) T.n_len PySem.boot_len (pa_cons (pv 1) pa_nil)) (nomark _)) (pss_one (ps_expr (pe_bm PySem.F.plainAttrs_list PySem.F.slot_list_append PySem.F.type_list_append mt_append (pv 1) (pa_cons (pv 2) pa_nil)))) pss_nil))) (pss_one (ps_ret (pv 1))))), ?_⟩
  refine ⟨Nat.zero_le _, fun p hp => ?_⟩
  refine ⟨_, rfl, a, _, rfl, (same_new hp).seq hS, for_it (walk_enum (K := K) (a := a) (xs := ts.map V.int)) (fun i σ H1 => Same H H1 ∧ H1 p = some (.lst ((firstsF 0 [] (ts.take i)).map V.int)) ∧ ∃ x y, σ = [some (.ref a), some (.ref p), x, y])
    ⟨same_new hp, upd_same, _, _, rfl⟩ (fun i σ H1 _ q => q.1.seq hS) ?_ ?_⟩
  · rintro i x σ H1 H2 hi ⟨s1, e1, x2, x3, rfl⟩ ⟨q, u, v, rfl, nq, rfl, eu, ev⟩
    cases eu
    obtain ⟨c, ec, rfl⟩ := int_at ev
    have li := lt_of_at ec
    have hz : (firstsF 0 [] (ts.take i)).length ≤ 10000 := by
      have := firstsF_length 0 [] (ts.take i)
      rw [List.length_take] at this
      simp only [List.length_nil] at this
      omega
    have e3 := firstsF_snoc 0 [] (ts.take i) c
    rw [← take_at ec, List.length_take, Nat.min_eq_left (Nat.le_of_lt li), Nat.zero_add] at e3
    have e1' := upd_old (u := .tup [.int (i : Nat), .int c]) e1 nq
    refine ⟨q, _, rfl, SqT.of upd_same, rfl, _, _, rfl, _, _, rfl, rfl, ?_⟩
    refine ⟨_, rfl, _, rfl, p, _, rfl, .inl (SqL.of e1'), rfl, _, rfl, ?_⟩
    refine ite2 (fun hd => ?_) (fun hd => ?_)
    · have hd2 : c = ((firstsF 0 [] (ts.take i)).length : Int) := by
        have z := of_decide_eq_true hd
        rw [List.length_map] at z
        exact V.int.inj z
      rw [if_pos hd2] at e3
      refine ⟨_, rfl, .inl ⟨rfl, _, SqL.of e1'⟩, _, rfl, p, _, _, rfl, rfl, e1', small3 (by rw [List.length_map]; omega), same_mut (s1.trans (same_new nq)) hp, ?_, _, _, rfl⟩
      rw [upd_same, e3, List.map_append]
      rfl
    · have hd2 : ¬ c = ((firstsF 0 [] (ts.take i)).length : Int) := fun z => hd (decide_eq_true (by rw [List.length_map, z]))
      rw [if_neg hd2] at e3
      exact ⟨s1.trans (same_new nq), by rw [e1', e3], _, _, rfl⟩
  · rintro σ H1 ⟨s1, e1, x, y, rfl⟩
    refine ⟨_, rfl, k _ _ s1 hp ?_⟩
    rw [e1, List.length_map, List.take_length]
def spValue (K : PySem.W.Frag) : Sp := fun vs H Q _ => ∃ (a : Addr) (xs : List Int) (i span rise : Int), vs = [.ref a, .int i, .int span, .int rise] ∧ SqL K H a (xs.map V.int) ∧ 0 ≤ i ∧ 0 < span ∧ span < 10000 ∧ -(10000) < rise ∧ rise < 10000 ∧ span ≤ xs.length ∧
  Q (.int (valueAt xs i span rise)) H
theorem ok_value_at : FnR P w K mg base CX0 1 (a_value_at K) (spValue K) := by
  refine fnR0 (d := d_value_at) T.F_value_at sc_value_at rfl (fun _ _ _ _ _ _ us hl => match us, hl with | [_, _, _, _], _ => rfl) (fun vs H Q E h => ?_) (fun cdv A outer s H vs Q E hr h => ?_)
  · obtain ⟨a, xs, i, span, rise, rfl, _⟩ := h
    rfl
  obtain ⟨a, xs, i, span, rise, rfl, hS, h0, h1, h2, h3, h4, h5, k⟩ := h
  refine ⟨_, (pss_cons (ps_if (pt_cmpR op_lt (pv 1) (pe_callB call_len_seq (by rfl) T.n_len PySem.boot_len (pa_cons (pv 0) pa_nil)) (nomark _)) (pss_one (ps_ret (pe_ix ix_list (pv 0) (pv 1) (fun _ _ => rfl)))) pss_nil) (pss_cons (ps_set (i := 4) sc_value_at.nd rfl (Or.inl rfl) (pe_op op_add (pe_op op_fdiv (pe_op op_sub (pv 1) (pe_callB call_len_seq (by rfl) T.n_len PySem.boot_len (pa_cons (pv 0) pa_nil))) (pv 2)) pe_int)) (pss_one (ps_ret (pe_op op_add (pe_ix ix_list (pv 0) (pe_op op_sub (pv 1) (pe_op op_mul (pv 4) (pv 2))) (fun _ _ => rfl)) (pe_op op_mul (pv 4) (pv 3))))))), ?_⟩
  refine ⟨_, rfl, _, rfl, a, _, rfl, .inl hS, _, _, rfl, rfl, _, rfl, ite2 (fun hd => ?_) (fun hd => ?_)⟩
  · have hd : i < (xs.length : Int) := by
      have z := of_decide_eq_true hd
      rw [List.length_map] at z
      exact z
    refine ⟨_, rfl, _, rfl, a, _, _, _, rfl, rfl, hS, getD_at h0 hd, ?_⟩
    unfold valueAt at k
    rw [if_pos hd] at k
    exact k
  · have hd : ¬ i < (xs.length : Int) := fun z => hd (decide_eq_true (by rw [List.length_map]; exact z))
    unfold valueAt at k
    rw [if_neg hd] at k
    refine ⟨_, rfl, _, rfl, a, _, rfl, .inl hS, _, _, rfl, rfl, _, rfl, _, _, rfl, rfl, ⟨h1, by omega⟩, _, _, rfl, rfl, ?_⟩
    have em : i % span = i - i / span * span := by
      have := Int.emod_add_mul_ediv i span
      rw [Int.mul_comm] at this
      omega
    have f1 : (i - xs.length) / span * span ≤ i - xs.length := by
      have := Int.emod_add_mul_ediv (i - xs.length) span
      have := Int.emod_nonneg (i - xs.length) (show span ≠ 0 by omega)
      rw [Int.mul_comm]
      omega
    have f2 : i - xs.length < (i - xs.length) / span * span + span := by
      have := Int.emod_add_mul_ediv (i - xs.length) span
      have := Int.emod_lt_of_pos (i - xs.length) h1
      rw [Int.mul_comm]
      omega
    have f3 : ((i - xs.length) / span + 1) * span = (i - xs.length) / span * span + span := by rw [Int.add_mul, Int.one_mul]
    refine ⟨_, rfl, _, rfl, _, rfl, _, rfl, _, _, rfl, rfl, .inr ⟨by omega, by omega⟩, _, _, rfl, rfl, a, _, _, .int (xs.getD (i - ((i - (xs.length : Int)) / span + 1) * span).toNat 0), rfl, rfl, hS, ?_, ?_⟩
    · show atI (xs.map V.int) (i - ((i - ((xs.map V.int).length : Int)) / span + 1) * span) = _
      rw [List.length_map]
      refine getD_at ?_ ?_
      · omega
      · omega
    · refine ⟨_, rfl, _, rfl, _, _, rfl, rfl, .inr ⟨by omega, by omega⟩, _, _, rfl, rfl, ?_⟩
      rw [List.length_map]
      exact k
def spGaps (K : PySem.W.Frag) : Sp := fun vs H Q _ => ∃ (a b : Addr) (ts fs : List Int), vs = [.ref a, .ref b] ∧ SqL K H a (ts.map V.int) ∧ SqL K H b (fs.map V.int) ∧ ts.length ≤ 10000 ∧ (∀ t ∈ ts, 0 ≤ t ∧ t < fs.length) ∧
  ∀ H' p, Same H H' → H p = none → H' p = some (.lst ((gapsF fs 0 ts).map V.int)) → Q (.ref p) H'
theorem ok_gaps_of : FnR P w K mg base CX0 1 (a_gaps_of K) (spGaps K) := by
  refine fnR0 (d := d_gaps_of) T.F_gaps_of sc_gaps_of rfl (fun _ _ _ _ _ _ us hl => match us, hl with | [_, _], _ => rfl) (fun vs H Q E h => ?_) (fun cdv A outer s H vs Q E hr h => ?_)
  · obtain ⟨a, b, ts, fs, rfl, _⟩ := h
    rfl
  obtain ⟨a, b, ts, fs, rfl, hS, hF, hl, hb, k⟩ := h
  refine ⟨_, (pss_one (ps_ret (pe_lc (own := [("drinks", 2), ("top", 3)]) rfl sc_gaps_of.nd (pi_enum (by rfl) T.n_enumerate (pa_cons (pv 0) pa_nil)) (blkOk_by (own := [("drinks", 2), ("top", 3)]) (N := N_gaps_of) (sc := defScope s_gaps_of) (by decide +kernel)) (fun _ _ _ _ _ => (pg_tupB (n := 2) (pgs_cons (pg_name (i := 2) sc_gaps_of.nd rfl (Or.inl rfl) (.inr rfl)) (pgs_cons (pg_name (i := 3) sc_gaps_of.nd rfl (Or.inl rfl) (.inr rfl)) pgs_nil)))) (fun _ _ _ _ _ => (pts_one (pt_cmpR op_ne (pe_ix (ix_listK (K := K) rfl) (pv 1) (pv 3) (fun _ _ => rfl)) (pv 2) (nomark _)))) (fun _ _ _ _ _ => (pv 2))))), ?_⟩
  refine ⟨_, rfl, a, _, rfl, hS, fun D hD => ?_⟩
  refine lc_it (walk_enum (K := K) (a := a) (xs := ts.map V.int)) (fun i H1 => Same H H1 ∧ H1 D = some (.lst ((gapsF fs 0 (ts.take i)).map V.int))) ⟨same_new hD, upd_same⟩ (fun i H1 _ q => q.1.seq hS) ?_ ?_
  · rintro i x H1 H2 hi ⟨s1, e1⟩ ⟨q, u, v, rfl, nq, rfl, eu, ev⟩
    cases eu
    obtain ⟨c, ec, rfl⟩ := int_at ev
    have li := lt_of_at ec
    have hc := hb c (List.mem_of_getElem? ec)
    have e1' := upd_old (u := .tup [.int (i : Nat), .int c]) e1 nq
    have e3 := gapsF_snoc fs 0 (ts.take i) c
    rw [← take_at ec, List.length_take, Nat.min_eq_left (Nat.le_of_lt li), Nat.zero_add] at e3
    have hz : (gapsF fs 0 (ts.take i)).length ≤ 10000 := by
      have := gapsF_length fs 0 (ts.take i)
      rw [List.length_take] at this
      omega
    refine ⟨q, _, rfl, SqT.of upd_same, rfl, _, _, rfl, _, _, rfl, rfl, rfl, ?_⟩
    refine ⟨_, rfl, _, rfl, b, _, _, _, rfl, rfl, (s1.trans (same_new nq)).seq hF, getD_at hc.1 hc.2, _, rfl, rfl, _, rfl, ?_⟩
    refine ite2 (fun hd => ?_) (fun hd => ?_)
    · have hd2 : ¬ fs.getD c.toNat 0 = (i : Int) := fun z => by
        rw [z, decide_eq_true rfl] at hd
        cases hd
      rw [if_neg hd2] at e3
      refine ⟨_, rfl, _, e1', small3 (by rw [List.length_map]; omega), same_mut (s1.trans (same_new nq)) hD, ?_⟩
      rw [upd_same, e3, List.map_append]
      rfl
    · have hd2 : fs.getD c.toNat 0 = (i : Int) := by
        apply Classical.byContradiction
        intro z
        apply hd
        rw [decide_eq_false (fun y => z (V.int.inj y))]
        rfl
      rw [if_pos hd2, List.append_nil] at e3
      exact ⟨s1.trans (same_new nq), by rw [e1', e3]⟩
  · rintro H1 ⟨s1, e1⟩
    refine k _ _ s1 hD ?_
    rw [e1, List.length_map, List.take_length]
end
end EB

namespace EB
open PySem PySem.Spec PyProof.Rows L2
/-! ### checks -/
def signOk (c : Nat) : Bool := if (!decide ((⟨#[c]⟩ : Str).cps.toList < ("a" : Str).cps.toList)) = true then (!decide (("z" : Str).cps.toList < (⟨#[c]⟩ : Str).cps.toList)) else false
def labelOk (z : Str) : Bool := if (!(if decide ((1 : Int) ≤ z.length) = true then decide ((z.length : Int) ≤ 8) else false)) = true then false else (z.cps.toList.map signOk).all id
def kindOk (z : Str) : Bool := if labelOk z = true then !decide (z = "drink") else false
def numOk (i lo hi : Int) : Bool := if decide (lo ≤ i) = true then decide (i ≤ hi) else false
theorem numOk_iff {i lo hi : Int} : numOk i lo hi = true ↔ lo ≤ i ∧ i ≤ hi := by
  unfold numOk
  by_cases h : lo ≤ i
  · rw [decide_eq_true h, if_pos rfl]
    exact ⟨fun z => ⟨h, of_decide_eq_true z⟩, fun z => decide_eq_true z.2⟩
  · rw [decide_eq_false h, if_neg Bool.false_ne_true]
    exact ⟨fun z => absurd z Bool.false_ne_true, fun z => absurd z.1 h⟩
section
variable {P : Program} {w : World} {K : PySem.W.Frag} {mg : Str → Option Value} {base : Heap} (T : Tx K mg)
include T
def spIsInt : Sp := fun vs H Q _ => ∃ i : Int, vs = [.int i] ∧ Q (.bl true) H
theorem ok_is_integer : FnR P w K mg base CX0 1 (a_is_integer K) spIsInt := by
  refine fnR0 (d := d_is_integer) T.F_is_integer sc_is_integer rfl (fun _ _ _ _ _ _ us hl => match us, hl with | [_], _ => rfl) (fun vs H Q E h => ?_) (fun cdv A outer s H vs Q E hr h => ?_)
  · obtain ⟨i, rfl, _⟩ := h
    rfl
  obtain ⟨i, rfl, k⟩ := h
  refine ⟨_, (pss_one (ps_ret (pe_and (pe_callB call_isi (by rfl) T.n_isinstance (by decide +kernel) (pa_cons (pv 0) (pa_cons (pe_bltn (v := .ty "int") (u := .type "int") rfl T.n_int (by decide +kernel) rfl) pa_nil))) (pe_one (pe_not (pe_callB call_isi (by rfl) T.n_isinstance (by decide +kernel) (pa_cons (pv 0) (pa_cons (pe_bltn (v := .ty "bool") (u := .type "bool") rfl T.n_bool (by decide +kernel) rfl) pa_nil)))))))), ?_⟩
  refine ⟨_, rfl, .int i, .ty "int", _, _, true, rfl, ClsV.ty "int", .base (.int i), kit_ty (by decide +kernel), true, rfl, iteT ?_⟩
  exact ⟨_, rfl, .int i, .ty "bool", _, _, false, rfl, ClsV.ty "bool", .base (.int i), kit_ty (by decide +kernel), false, rfl, k⟩
def spIsNum : Sp := fun vs H Q _ => ∃ i lo hi : Int, vs = [.int i, .int lo, .int hi] ∧ Q (.bl (numOk i lo hi)) H
theorem ok_is_number : FnR P w K mg base CX0 2 (a_is_number K) spIsNum := by
  refine fnR0 (d := d_is_number) T.F_is_number sc_is_number rfl (fun _ _ _ _ _ _ us hl => match us, hl with | [_, _, _], _ => rfl) (fun vs H Q E h => ?_) (fun cdv A outer s H vs Q E hr h => ?_)
  · obtain ⟨i, lo, hi, rfl, _⟩ := h
    rfl
  obtain ⟨i, lo, hi, rfl, k⟩ := h
  refine ⟨_, (pss_one (ps_ret (pe_and (pe_cR (ok_is_integer T) (hr.mono (by decide)) T.F_is_integer.kp T.g_is_integer pass0 (pa_cons (pv 0) pa_nil)) (pe_one (pe_chain op_le op_le (pv 1) (pv 0) (pv 2)))))), ?_⟩
  refine ⟨_, rfl, i, rfl, true, rfl, iteT ?_⟩
  refine ⟨_, rfl, _, rfl, _, _, rfl, rfl, _, rfl, ?_⟩
  unfold numOk at k
  refine ite2 (fun hd => ?_) (fun hd => ?_)
  · rw [if_pos hd] at k
    exact ⟨_, rfl, _, _, rfl, rfl, k⟩
  · rw [if_neg hd] at k
    exact k
def spIsLabel : Sp := fun vs H Q _ => ∃ z : Str, vs = [.str z] ∧ z.length ≤ 1000 ∧ ∀ H', Same H H' → Q (.bl (labelOk z)) H'
theorem ok_is_label : FnR P w K mg base CX0 1 (a_is_label K) spIsLabel := by
  refine fnR0 (d := d_is_label) T.F_is_label sc_is_label rfl (fun _ _ _ _ _ _ us hl => match us, hl with | [_], _ => rfl) (fun vs H Q E h => ?_) (fun cdv A outer s H vs Q E hr h => ?_)
  · obtain ⟨z, rfl, _⟩ := h
    rfl
  obtain ⟨z, rfl, hz, k⟩ := h
  have hz2 : z.length ≤ sizeLine := Nat.le_trans hz (by decide)
  refine ⟨_, (pss_cons (ps_if (PW.pt (pw_or (pt_not (pt_val (pe_callB call_isi (by rfl) T.n_isinstance (by decide +kernel) (pa_cons (pv 0) (pa_cons (pe_bltn (v := .ty "str") (u := .type "str") rfl T.n_str (by decide +kernel) rfl) pa_nil))))) (pw_or1 (pt_not (pt_chain op_le op_le pe_int (pe_callB call_len_str (by rfl) T.n_len PySem.boot_len (pa_cons (pv 0) pa_nil)) (pe_cI T.c_MAX_LABEL_LENGTH)))))) (pss_one (ps_ret pe_bl)) pss_nil) (pss_one (ps_ret (pe_callB (cr_all rfl) (by rfl) T.n_all (by decide +kernel) (pa_cons (pe_lc (own := [("letter", 1)]) rfl sc_is_label.nd (pi_str (pv 0)) (blkOk_by (own := [("letter", 1)]) (N := N_is_label) (sc := defScope s_is_label) (by decide +kernel)) (fun _ _ _ _ _ => (pg_name (i := 1) sc_is_label.nd rfl (Or.inl rfl) (.inr rfl))) (fun _ _ _ _ _ => pts_nil) (fun _ _ _ _ _ => (pe_chain op_le_str op_le_str pe_str (pv 1) pe_str))) pa_nil))))), ?_⟩
  refine ⟨_, rfl, .str z, .ty "str", _, _, true, rfl, ClsV.ty "str", .base (.str z), kit_ty (by decide +kernel), true, rfl, ?_⟩
  show (if false = true then _ else _)
  refine iteF ?_
  have hlast : ∀ (c : Bool), (if decide ((1 : Int) ≤ z.length) = true then decide ((z.length : Int) ≤ 8) else false) = c → labelOk z = if (!c) = true then false else (z.cps.toList.map signOk).all id := by
    rintro c rfl
    rfl
  refine ⟨_, rfl, z, rfl, hz2, _, _, rfl, rfl, _, rfl, ?_⟩
  refine ite2 (fun h1 => ?_) (fun h1 => ?_)
  · rw [if_pos h1] at hlast
    refine ⟨_, _, rfl, rfl, _, rfl, ?_⟩
    by_cases h2 : (z.length : Int) ≤ 8
    · rw [decide_eq_true h2]
      rw [hlast true (decide_eq_true h2)] at k
      refine iteF ?_
      refine ⟨_, rfl, z, rfl, fun D hD => ?_⟩
      refine lc_it (walk_str (z := z)) (fun i H1 => Same H H1 ∧ H1 D = some (.lst ((z.cps.toList.take i).map fun c => V.bl (signOk c)))) ⟨same_new hD, upd_same⟩ (fun _ _ _ _ => True.intro) ?_ ?_
      · rintro i x H1 H2 hi ⟨s1, e1⟩ ⟨rfl, c, ec, rfl⟩
        have ec2 : z.cps.toList[i]? = some c := by
          rw [Array.getElem?_toList]
          exact ec
        have hz3 : ((z.cps.toList.take i).map fun c => V.bl (signOk c)).length < sizeLine := by
          rw [List.length_map, List.length_take]
          refine small3 ?_
          have h3 : i < z.cps.size := hi
          have h4 : z.cps.size = z.length := rfl
          omega
        refine ⟨rfl, _, rfl, _, _, rfl, rfl, _, rfl, ?_⟩
        have hs : signOk c = if (!decide ((⟨#[c]⟩ : Str).cps.toList < ("a" : Str).cps.toList)) = true then (!decide (("z" : Str).cps.toList < (⟨#[c]⟩ : Str).cps.toList)) else false := rfl
        refine ite2 (fun h5 => ?_) (fun h5 => ?_)
        · rw [if_pos h5] at hs
          refine ⟨_, _, rfl, rfl, _, e1, hz3, same_mut s1 hD, ?_⟩
          rw [upd_same, take_at ec2, List.map_append, ← hs]
          rfl
        · rw [if_neg h5] at hs
          refine ⟨_, e1, hz3, same_mut s1 hD, ?_⟩
          rw [upd_same, take_at ec2, List.map_append, ← hs]
          rfl
      · rintro H1 ⟨s1, e1⟩
        refine ⟨D, z.cps.toList.map signOk, rfl, SqL.of ?_, k _ s1⟩
        rw [e1, ← Array.length_toList, List.take_length, List.map_map]
        rfl
    · rw [decide_eq_false h2]
      rw [hlast false (decide_eq_false h2)] at k
      exact iteT (k _ (Same.refl _))
  · rw [if_neg h1] at hlast
    rw [hlast false rfl] at k
    exact ⟨false, rfl, iteT (k _ (Same.refl _))⟩
def spIsKind : Sp := fun vs H Q _ => ∃ z : Str, vs = [.str z] ∧ z.length ≤ 1000 ∧ ∀ H', Same H H' → Q (.bl (kindOk z)) H'
theorem ok_is_kind : FnR P w K mg base CX0 2 (a_is_kind K) spIsKind := by
  refine fnR0 (d := d_is_kind) T.F_is_kind sc_is_kind rfl (fun _ _ _ _ _ _ us hl => match us, hl with | [_], _ => rfl) (fun vs H Q E h => ?_) (fun cdv A outer s H vs Q E hr h => ?_)
  · obtain ⟨z, rfl, _⟩ := h
    rfl
  obtain ⟨z, rfl, hz, k⟩ := h
  refine ⟨_, (pss_one (ps_ret (pe_and (pe_cR (ok_is_label T) (hr.mono (by decide)) T.F_is_label.kp T.g_is_label pass0 (pa_cons (pv 0) pa_nil)) (pe_one (pe_cmpR op_ne (pv 0) (pe_cS T.c_DRINK) (nomark _)))))), ?_⟩
  refine ⟨_, rfl, z, rfl, hz, fun H1 s1 => ⟨_, rfl, ?_⟩⟩
  unfold kindOk at k
  refine ite2 (fun h1 => ?_) (fun h1 => ?_)
  · rw [if_pos h1] at k
    refine ⟨_, rfl, rfl, ?_⟩
    have e : decide (V.str z = V.str "drink") = decide (z = "drink") := decide_eq_decide.mpr ⟨V.str.inj, fun y => by rw [y]⟩
    show Q (V.bl !decide (V.str z = V.str "drink")) H1
    rw [e]
    exact k _ s1
  · rw [if_neg h1] at k
    exact k _ s1
def spChkNum : Sp := fun vs H Q _ => ∃ i lo hi : Int, vs = [.int i, .int lo, .int hi] ∧ lo ≤ i ∧ i ≤ hi ∧ Q .non H
def spChkNum1 : Sp := fun vs H Q _ => ∃ i : Int, vs = [.int i] ∧ 0 ≤ i ∧ i ≤ 1000000000000000000 ∧ Q .non H
theorem ok_check_number : FnR P w K mg base CX0 3 (a_check_number K) spChkNum1 := by
  refine (fnRD (d := d_check_number) (sp := spChkNum) (k := 2) (ps := ["value", "least", "most"]) T.F_check_number sc_check_number 1 0 (fun z => nomatch z) rfl (fun _ _ _ _ _ _ _ us its hl hi => match us, its, hl, hi with | [_], [_, _], _, _ => ⟨_, rfl, rfl⟩) (fun vs H Q E h => ?_) (fun cdv A outer s H vs Q E hr h => ?_)).imp fun vs H Q E h => ?_
  · obtain ⟨i, lo, hi, rfl, _⟩ := h
    rfl
  · obtain ⟨i, lo, hi, rfl, h1, h2, k⟩ := h
    refine ⟨_, (pss_one (ps_if (pt_not (pt_val (pe_cR (ok_is_number T) (hr.mono (by decide)) T.F_is_number.kp T.g_is_number pass0 (pa_cons (pv 0) (pa_cons (pv 1) (pa_cons (pv 2) pa_nil)))))) (pss_one ps_never) pss_nil)), ?_⟩
    refine ⟨_, rfl, _, rfl, _, rfl, i, lo, hi, rfl, _, rfl, ?_⟩
    rw [numOk_iff.mpr ⟨h1, h2⟩]
    exact iteF k
  · obtain ⟨i, rfl, h1, h2, k⟩ := h
    exact ⟨i, 0, 1000000000000000000, rfl, h1, h2, k⟩
end
end EB

namespace EB
open PySem PySem.Spec PyProof.Rows L2
def trOk (t : Tr) : Bool := if kindOk t.k = true then (if numOk t.l 0 12 = true then numOk t.n 1 12 else false) else false
theorem trOk_of {t : Tr} (h : t.ok) (k : kindOk t.k = true) : trOk t = true := by
  unfold trOk
  rw [if_pos k, if_pos (numOk_iff.mpr ⟨h.1, h.2.1⟩)]
  exact numOk_iff.mpr ⟨h.2.2.1, h.2.2.2⟩
section
variable {P : Program} {w : World} {K : PySem.W.Frag} {mg : Str → Option Value} {base : Heap} (T : Tx K mg)
include T
def spIsTrade : Sp := fun vs H Q _ => ∃ t : Tr, vs = t.vs ∧ t.k.length ≤ 1000 ∧ ∀ H', Same H H' → Q (.bl (trOk t)) H'
theorem ok_is_trade : FnR P w K mg base CX0 3 (a_is_trade K) spIsTrade := by
  refine fnR0 (d := d_is_trade) T.F_is_trade sc_is_trade rfl (fun _ _ _ _ _ _ us hl => match us, hl with | [_, _, _], _ => rfl) (fun vs H Q E h => ?_) (fun cdv A outer s H vs Q E hr h => ?_)
  · obtain ⟨t, rfl, _⟩ := h
    rfl
  obtain ⟨t, rfl, hz, k⟩ := h
  obtain ⟨uE, hE⟩ := T.v_Offer_MAX_NEEDED
  refine ⟨_, (pss_one (ps_ret (pe_and (pe_cR (ok_is_kind T) (hr.mono (by decide)) T.F_is_kind.kp T.g_is_kind pass0 (pa_cons (pv 0) pa_nil)) (pe_and (pe_cR (ok_is_number T) (hr.mono (by decide)) T.F_is_number.kp T.g_is_number pass0 (pa_cons (pv 1) (pa_cons pe_int (pa_cons (pe_cI T.c_MAX_LEFT) pa_nil)))) (pe_one (pe_cR (ok_is_number T) (hr.mono (by decide)) T.F_is_number.kp T.g_is_number pass0 (pa_cons (pv 2) (pa_cons pe_int (pa_cons (ClX.pe_cval (pe_cC T.g_Offer)) pa_nil))))))))), ?_⟩
  refine ⟨_, rfl, t.k, rfl, hz, fun H1 s1 => ⟨_, rfl, ?_⟩⟩
  unfold trOk at k
  refine ite2 (fun h1 => ?_) (fun h1 => ?_)
  · rw [if_pos h1] at k
    refine ⟨_, rfl, t.l, 0, 12, rfl, _, rfl, ite2 (fun h2 => ?_) (fun h2 => ?_)⟩
    · rw [if_pos h2] at k
      exact ⟨_, rfl, He.ga K "Offer", _, _, _, rfl, T.r_Offer, hE, t.n, 1, 12, rfl, k _ s1⟩
    · rw [if_neg h2] at k
      exact k _ s1
  · rw [if_neg h1] at k
    exact k _ s1
end
end EB

namespace EB
open PySem PySem.Spec PyProof.Rows L2
/-! ### the mathematics of offers -/
abbrev cN (ts : List Tr) : Nat → Int := fun d => cost ts (d : Int)
def worth (ts : List Tr) : Int := (ts.map fun t => 27720 / t.n * t.l).sum
/-- a good offer: at most three trades in range, together not too generous -/
structure Fair (ts : List Tr) : Prop where
  g : gds ts
  w : 10 * worth ts ≤ 9 * 27720
theorem dvd_big {n : Int} (h1 : 1 ≤ n) (h2 : n ≤ 12) : n ∣ 27720 := by
  have h : n = 1 ∨ n = 2 ∨ n = 3 ∨ n = 4 ∨ n = 5 ∨ n = 6 ∨ n = 7 ∨ n = 8 ∨ n = 9 ∨ n = 10 ∨ n = 11 ∨ n = 12 := by omega
  rcases h with rfl | rfl | rfl | rfl | rfl | rfl | rfl | rfl | rfl | rfl | rfl | rfl <;> decide
theorem sum_map_le {α : Type} {f g : α → Int} : ∀ {l : List α}, (∀ x ∈ l, f x ≤ g x) → (l.map f).sum ≤ (l.map g).sum
  | [], _ => Int.le_refl _
  | a :: l, h => by
    have h1 := h a (List.mem_cons_self ..)
    have h2 := sum_map_le (l := l) fun x hx => h x (List.mem_cons_of_mem _ hx)
    rw [List.map_cons, List.map_cons, List.sum_cons, List.sum_cons]
    omega
theorem sum_map_eq {α : Type} {f g : α → Int} : ∀ {l : List α}, (∀ x ∈ l, f x = g x) → (l.map f).sum = (l.map g).sum
  | [], _ => rfl
  | a :: l, h => by
    rw [List.map_cons, List.map_cons, List.sum_cons, List.sum_cons, h a (List.mem_cons_self ..), sum_map_eq (l := l) fun x hx => h x (List.mem_cons_of_mem _ hx)]
theorem sum_map_add {α : Type} {f g : α → Int} : ∀ {l : List α}, (l.map fun x => f x + g x).sum = (l.map f).sum + (l.map g).sum
  | [] => rfl
  | a :: l => by
    rw [List.map_cons, List.map_cons, List.map_cons, List.sum_cons, List.sum_cons, List.sum_cons, sum_map_add (l := l)]
    omega
theorem sum_map_mul {α : Type} {f : α → Int} {k : Int} : ∀ {l : List α}, (l.map fun x => f x * k).sum = (l.map f).sum * k
  | [] => by simp
  | a :: l => by
    rw [List.map_cons, List.map_cons, List.sum_cons, List.sum_cons, sum_map_mul (l := l), Int.add_mul]
theorem fl_mono {l n x y : Int} (hl : 0 ≤ l) (hn : 0 < n) (h : x ≤ y) : l * x / n ≤ l * y / n := Int.ediv_le_ediv hn (Int.mul_le_mul_of_nonneg_left h hl)
theorem fl_super {l n x y : Int} (hn : 0 < n) : l * x / n + l * y / n ≤ l * (x + y) / n := by
  rw [Int.mul_add]
  have h1 := Int.ediv_mul_le (l * x) (Int.ne_of_gt hn)
  have h2 := Int.ediv_mul_le (l * y) (Int.ne_of_gt hn)
  refine Int.le_ediv_of_mul_le hn ?_
  rw [Int.add_mul]
  omega
theorem tr_pos {t : Tr} (h : t.ok) : 0 < t.n := by
  have := h.2.2.1
  omega
/-! periods -/
theorem quo_dvd {t : Tr} (h : t.ok) {d : Nat} : (t.n / ((t.l.natAbs.gcd t.n.natAbs : Nat) : Int)).natAbs ∣ d ↔ t.n ∣ t.l * (d : Int) := by
  obtain ⟨l, hl⟩ := Int.eq_ofNat_of_zero_le h.1
  obtain ⟨n, hn⟩ := Int.eq_ofNat_of_zero_le (Int.le_of_lt (tr_pos h))
  have hp := tr_pos h
  rw [hl, hn]
  rw [hn] at hp
  have hp2 : 0 < n := by omega
  simp only [Int.natAbs_natCast]
  have hg : 0 < l.gcd n := Nat.gcd_pos_of_pos_right _ hp2
  rw [← Int.natCast_ediv, Int.natAbs_natCast]
  have e1 : ((n : Int) ∣ (l : Int) * (d : Int)) ↔ n ∣ l * d := by
    rw [← Int.natCast_mul]
    exact Int.natCast_dvd_natCast
  rw [e1]
  have hn2 : n = n / l.gcd n * l.gcd n := (Nat.div_mul_cancel (Nat.gcd_dvd_right l n)).symm
  have hl2 : l = l / l.gcd n * l.gcd n := (Nat.div_mul_cancel (Nat.gcd_dvd_left l n)).symm
  have co : Nat.Coprime (n / l.gcd n) (l / l.gcd n) := (Nat.coprime_div_gcd_div_gcd hg).symm
  constructor
  · rintro ⟨k, rfl⟩
    refine ⟨l / l.gcd n * k, ?_⟩
    have : l * (n / l.gcd n * k) = (l / l.gcd n * l.gcd n) * (n / l.gcd n * k) := by rw [← hl2]
    rw [this]
    have : n * (l / l.gcd n * k) = (n / l.gcd n * l.gcd n) * (l / l.gcd n * k) := by rw [← hn2]
    rw [this]
    simp only [Nat.mul_comm, Nat.mul_left_comm, Nat.mul_assoc]
  · rintro ⟨k, hk⟩
    refine co.dvd_of_dvd_mul_left (⟨k, ?_⟩ : n / l.gcd n ∣ l / l.gcd n * d)
    refine Nat.eq_of_mul_eq_mul_right hg ?_
    have e2 : l / l.gcd n * d * l.gcd n = l / l.gcd n * l.gcd n * d := by simp only [Nat.mul_comm, Nat.mul_left_comm]
    have e3 : n / l.gcd n * k * l.gcd n = n / l.gcd n * l.gcd n * k := by simp only [Nat.mul_comm, Nat.mul_left_comm]
    rw [e2, e3, ← hl2, ← hn2]
    exact hk
theorem perF_dvd : ∀ (ts : List Tr) (p d : Nat), (∀ t ∈ ts, t.ok) → (ts.foldl perS p ∣ d ↔ p ∣ d ∧ ∀ t ∈ ts, t.n ∣ t.l * (d : Int))
  | [], p, d, _ => by simp
  | t :: ts, p, d, h => by
    rw [List.foldl_cons, perF_dvd ts (perS p t) d fun u hu => h u (List.mem_cons_of_mem _ hu)]
    have e : perS p t ∣ d ↔ p ∣ d ∧ t.n ∣ t.l * (d : Int) := by
      unfold perS
      rw [Nat.lcm_dvd_iff, quo_dvd (h t (List.mem_cons_self ..))]
    rw [e]
    constructor
    · rintro ⟨⟨a, b⟩, c⟩
      refine ⟨a, fun u hu => ?_⟩
      rcases List.mem_cons.mp hu with rfl | hu
      · exact b
      · exact c u hu
    · rintro ⟨a, b⟩
      exact ⟨⟨a, b t (List.mem_cons_self ..)⟩, fun u hu => b u (List.mem_cons_of_mem _ hu)⟩
/-- the period divides just the numbers of drinks that leave whole trades -/
theorem per_dvd {ts : List Tr} (h : gds ts) {d : Nat} : per ts ∣ d ↔ ∀ t ∈ ts, t.n ∣ t.l * (d : Int) := by
  unfold per
  rw [perF_dvd ts 1 d h.2]
  exact ⟨fun z => z.2, fun z => ⟨Nat.one_dvd d, z⟩⟩
theorem perF_pos : ∀ (ts : List Tr) (p : Nat), 0 < p → (∀ t ∈ ts, t.ok) → 0 < ts.foldl perS p
  | [], p, hp, _ => hp
  | t :: ts, p, hp, h => by
    rw [List.foldl_cons]
    refine perF_pos ts _ ?_ fun u hu => h u (List.mem_cons_of_mem _ hu)
    have ht := h t (List.mem_cons_self ..)
    refine Nat.lcm_pos hp ?_
    have h1 := gcd_pos' ht
    have hn := tr_pos ht
    have h3 : ((t.l.natAbs.gcd t.n.natAbs : Nat) : Int) ≤ t.n := by
      have := Nat.gcd_le_right t.l.natAbs (show 0 < t.n.natAbs by omega)
      omega
    have h4 : 0 < t.n / ((t.l.natAbs.gcd t.n.natAbs : Nat) : Int) := Int.ediv_pos_of_pos_of_dvd hn (by omega) (by
      have : t.l.natAbs.gcd t.n.natAbs ∣ t.n.natAbs := Nat.gcd_dvd_right _ _
      exact Int.dvd_natAbs.mp (Int.natCast_dvd_natCast.mpr this))
    omega
theorem per_pos {ts : List Tr} (h : gds ts) : 0 < per ts := perF_pos ts 1 (by omega) h.2
/-! costs -/
theorem ten_buys {ts : List Tr} (f : Fair ts) (d : Nat) : 10 * buys ts d ≤ 9 * (d : Int) := by
  have h1 : buys ts d * 27720 ≤ worth ts * d := by
    unfold buys worth
    rw [← sum_map_mul, ← sum_map_mul]
    refine sum_map_le fun t ht => ?_
    have hn := tr_pos (f.g.2 t ht)
    obtain ⟨q, hq⟩ := dvd_big (f.g.2 t ht).2.2.1 (f.g.2 t ht).2.2.2
    have e1 : 27720 / t.n = q := by
      rw [hq]
      exact Int.mul_ediv_cancel_left _ (Int.ne_of_gt hn)
    have hq0 : 0 ≤ q := by
      rw [← e1]
      exact Int.ediv_nonneg (by omega) (by omega)
    rw [e1, hq]
    have h2 := Int.ediv_mul_le (t.l * (d : Int)) (Int.ne_of_gt hn)
    have h3 := Int.mul_le_mul_of_nonneg_right h2 hq0
    have e2 : t.l * (d : Int) / t.n * (t.n * q) = t.l * (d : Int) / t.n * t.n * q := by rw [Int.mul_assoc]
    have e3 : q * t.l * (d : Int) = t.l * (d : Int) * q := by rw [Int.mul_assoc, Int.mul_comm]
    rw [e2, e3]
    exact h3
  have h2 : worth ts * d ≤ 24948 * (d : Int) := Int.mul_le_mul_of_nonneg_right (by have := f.w; omega) (by omega)
  omega
theorem buys_nonneg {ts : List Tr} (f : gds ts) (d : Nat) : 0 ≤ buys ts d := by
  have h : ((ts.map fun _ => (0 : Int))).sum ≤ buys ts d := sum_map_le fun t ht => Int.ediv_nonneg (Int.mul_nonneg (f.2 t ht).1 (by omega)) (Int.le_of_lt (tr_pos (f.2 t ht)))
  have e : ((ts.map fun _ => (0 : Int))).sum = 0 := by
    have : ∀ l : List Tr, ((l.map fun _ => (0 : Int))).sum = 0 := by
      intro l
      induction l with
      | nil => rfl
      | cons a l ih => rw [List.map_cons, List.sum_cons, ih]; rfl
    exact this ts
  omega
/-- the bottles of a period -/
def perB (ts : List Tr) : Nat := (cN ts (per ts)).toNat
theorem cf {ts : List Tr} (f : Fair ts) : CF (cN ts) (per ts) (perB ts) where
  zero := by
    show (0 : Int) - buys ts 0 = 0
    have : buys ts 0 = 0 := by
      unfold buys
      have e : (ts.map fun t => t.l * 0 / t.n).sum = ((ts.map fun _ => (0 : Int) * 0)).sum := sum_map_eq fun t _ => by rw [Int.mul_zero, Int.zero_ediv]; rfl
      rw [e, sum_map_mul, Int.mul_zero]
    omega
  step := fun d => by
    show ((d + 1 : Nat) : Int) - buys ts ((d + 1 : Nat) : Int) ≤ (d : Int) - buys ts d + 1
    have h : buys ts d ≤ buys ts ((d + 1 : Nat) : Int) := sum_map_le fun t ht => fl_mono (f.g.2 t ht).1 (tr_pos (f.g.2 t ht)) (by omega)
    omega
  per := fun d => by
    have e : buys ts ((d + per ts : Nat) : Int) = buys ts d + buys ts (per ts) := by
      unfold buys
      rw [← sum_map_add]
      refine sum_map_eq fun t ht => ?_
      have hd := (per_dvd f.g (d := per ts)).mp (Nat.dvd_refl _) t ht
      rw [Int.natCast_add, Int.mul_add]
      exact Int.add_ediv_of_dvd_right hd
    have h10 := ten_buys f (per ts)
    have hB : ((perB ts : Nat) : Int) = (per ts : Int) - buys ts (per ts) := by
      unfold perB cN cost
      omega
    show ((d + per ts : Nat) : Int) - buys ts ((d + per ts : Nat) : Int) = (d : Int) - buys ts d + (perB ts : Int)
    rw [e, hB]
    omega
  ppos := per_pos f.g
  ten := fun d => by
    have := ten_buys f d
    show (d : Int) ≤ 10 * ((d : Int) - buys ts d)
    omega
  sub := fun x y => by
    have e : buys ts x + buys ts y ≤ buys ts ((x + y : Nat) : Int) := by
      unfold buys
      rw [← sum_map_add]
      refine sum_map_le fun t ht => ?_
      rw [Int.natCast_add]
      exact fl_super (tr_pos (f.g.2 t ht))
    show ((x + y : Nat) : Int) - buys ts ((x + y : Nat) : Int) ≤ (x : Int) - buys ts x + ((y : Int) - buys ts y)
    omega
theorem perB_eq {ts : List Tr} (f : Fair ts) : ((perB ts : Nat) : Int) = cost ts (per ts) := by
  have h := (cf f).nonneg (per ts)
  unfold perB
  exact Int.toNat_of_nonneg h
theorem perB_le {ts : List Tr} (f : Fair ts) : perB ts ≤ per ts := by
  have h : cost ts (per ts) ≤ (per ts : Int) := (cf f).le_self (per ts)
  have e := perB_eq f
  omega
/-! tables -/
theorem tops_eq {c : Nat → Int} (h0 : c 0 = 0) : ∀ n : Nat, topsF 0 ((List.range (n + 1)).map c) = (List.range (n + 1)).map (T c) ∧ topsM 0 ((List.range (n + 1)).map c) = T c n
  | 0 => by
    constructor
    · show [if (0 : Int) < c 0 then c 0 else 0] = [c 0]
      rw [h0]
      rfl
    · show (if (0 : Int) < c 0 then c 0 else 0) = c 0
      rw [h0]
      rfl
  | n + 1 => by
    obtain ⟨h1, h2⟩ := tops_eq h0 n
    have e : topsM 0 ((List.range (n + 1 + 1)).map c) = T c (n + 1) := by
      rw [List.range_succ, List.map_append, List.map_singleton, topsM_snoc, h2]
      rfl
    refine ⟨?_, e⟩
    rw [List.range_succ, List.map_append, List.map_append, List.map_singleton, List.map_singleton, topsF_snoc, h1, ← e]
    rw [List.range_succ (n := n + 1), List.map_append, List.map_singleton]
theorem firsts_eq {c : Nat → Int} {P B : Nat} (h : CF c P B) : ∀ n : Nat, firstsF 0 [] ((List.range (n + 1)).map (T c)) = (List.range ((T c n).toNat + 1)).map fun k => ((D c k : Nat) : Int)
  | 0 => by
    have e : T c 0 = 0 := h.zero
    show (if T c 0 = ((([] : List Int)).length : Int) then [] ++ [((0 : Nat) : Int)] else []) = _
    rw [e]
    show [((0 : Nat) : Int)] = [((D c 0 : Nat) : Int)]
    rw [h.D_zero]
  | n + 1 => by
    have ih := firsts_eq h n
    have hs := h.T_step n
    have hm := CF.T_mono c (Nat.le_add_right n 1)
    have hn := h.T_nonneg n
    rw [List.range_succ, List.map_append, List.map_singleton, firstsF_snoc, ih]
    simp only [List.length_map, List.length_range, Nat.zero_add]
    by_cases q : T c (n + 1) = (((T c n).toNat + 1 : Nat) : Int)
    · rw [if_pos q]
      have e1 : (T c (n + 1)).toNat = (T c n).toNat + 1 := by omega
      rw [e1, List.range_succ (n := (T c n).toNat + 1), List.map_append, List.map_singleton]
      have e2 : D c ((T c n).toNat + 1) = n + 1 := by
        refine h.D_eq ⟨?_, fun j hj => ?_⟩
        · obtain ⟨j, hj, ej⟩ := CF.T_at c (n + 1)
          rcases Nat.lt_or_eq_of_le hj with z | z
          · have := CF.T_ge c (d := n) (j := j) (by omega)
            omega
          · rw [z] at ej
            omega
        · have := CF.T_ge c (d := n) (j := j) (by omega)
          push_cast
          omega
      rw [e2]
    · rw [if_neg q]
      have e1 : (T c (n + 1)).toNat = (T c n).toNat := by
        push_cast at q
        omega
      rw [e1]
theorem getD_map {f : Nat → Int} {n i : Nat} (h : i < n) : ((List.range n).map f).getD i 0 = f i := by
  rw [List.getD_eq_getElem?_getD, List.getElem?_map, List.getElem?_range h]
  rfl
/-- behind its end the table of the greatest costs goes on as it is said -/
theorem value_tops {c : Nat → Int} {P B : Nat} (h : CF c P B) (d : Nat) : valueAt ((List.range (2 * P)).map (T c)) d P B = T c d := by
  have hp := h.ppos
  unfold valueAt
  simp only [List.length_map, List.length_range]
  by_cases q : (d : Int) < ((2 * P : Nat) : Int)
  · rw [if_pos q, Int.toNat_natCast, getD_map (by omega)]
  · rw [if_neg q]
    obtain ⟨e, he⟩ : ∃ e, d = 2 * P + e := ⟨d - 2 * P, by omega⟩
    have e1 : (d : Int) - ((2 * P : Nat) : Int) = (e : Int) := by omega
    rw [e1, ← Int.natCast_ediv]
    have h1 := Nat.div_add_mod e P
    have h2 := Nat.mod_lt e hp
    have h3 : (e / P + 1) * P = P * (e / P) + P := by rw [Nat.add_mul, Nat.one_mul, Nat.mul_comm]
    have e2 : (d : Int) - (((e / P : Nat) : Int) + 1) * (P : Int) = ((P + e % P : Nat) : Int) := by
      have : (((e / P : Nat) : Int) + 1) * (P : Int) = (((e / P + 1) * P : Nat) : Int) := by push_cast; rfl
      rw [this]
      omega
    rw [e2, Int.toNat_natCast, getD_map (by omega)]
    have e3 : d = P + e % P + (e / P + 1) * P := by omega
    have h5 := h.T_perk (d := P + e % P) (by omega) (e / P + 1)
    rw [← e3] at h5
    rw [h5]
    push_cast
    rfl
theorem value_firsts {c : Nat → Int} {P B : Nat} (h : CF c P B) (n : Nat) : valueAt ((List.range ((T c (2 * P - 1)).toNat + 1)).map fun k => ((D c k : Nat) : Int)) n B P = ((D c n : Nat) : Int) := by
  have hp := h.ppos
  have hb := h.bpos
  have ht : T c (2 * P - 1) = T c (P - 1) + B := by
    have := h.T_per (d := P - 1) (by omega)
    rw [show P - 1 + P = 2 * P - 1 by omega] at this
    exact this
  have h0 := h.T_nonneg (P - 1)
  generalize hL : (T c (2 * P - 1)).toNat + 1 = L
  unfold valueAt
  simp only [List.length_map, List.length_range]
  by_cases q : (n : Int) < (L : Int)
  · rw [if_pos q, Int.toNat_natCast, getD_map (by omega)]
  · rw [if_neg q]
    obtain ⟨e, he⟩ : ∃ e, n = L + e := ⟨n - L, by omega⟩
    have e1 : (n : Int) - (L : Int) = (e : Int) := by omega
    rw [e1, ← Int.natCast_ediv]
    have h1 := Nat.div_add_mod e B
    have h2 := Nat.mod_lt e hb
    have h3 : (e / B + 1) * B = B * (e / B) + B := by rw [Nat.add_mul, Nat.one_mul, Nat.mul_comm]
    obtain ⟨g, hg⟩ : ∃ g, L = B + g := ⟨L - B, by omega⟩
    have e2 : (n : Int) - (((e / B : Nat) : Int) + 1) * (B : Int) = ((g + e % B : Nat) : Int) := by
      have : (((e / B : Nat) : Int) + 1) * (B : Int) = (((e / B + 1) * B : Nat) : Int) := by push_cast; rfl
      rw [this]
      omega
    rw [e2, Int.toNat_natCast, getD_map (by omega)]
    have e3 : n = g + e % B + (e / B + 1) * B := by omega
    have h5 := h.D_perk (n := g + e % B) (by omega) (e / B + 1)
    rw [← e3] at h5
    rw [h5]
    push_cast
    rfl
end EB

namespace EB
open PySem PySem.Spec PyProof.Rows L2
/-! ### what an offer is -/
def nmOk (ts : List Tr) : Prop := (ts.map Tr.k).Nodup ∧ ∀ t ∈ ts, kindOk t.k = true ∧ t.k.length ≤ 1000
def wholeS (d : Nat) (t : Tr) : Nat := d.lcm t.n.natAbs
def wholeF (ts : List Tr) : Nat := ts.foldl wholeS 1
theorem wholeF_le : ∀ (ts : List Tr) (d : Nat), (∀ t ∈ ts, t.ok) → ts.foldl wholeS d ≤ d * 12 ^ ts.length
  | [], d, _ => by simp
  | t :: ts, d, h => by
    have h1 := wholeF_le ts (wholeS d t) fun u hu => h u (List.mem_cons_of_mem _ hu)
    have ht := h t (List.mem_cons_self ..)
    have h2 : wholeS d t ≤ d * 12 := Nat.le_trans (PySem.W.mc_lcm_le _ _) (Nat.mul_le_mul_left _ (by have := ht.2.2.1; have := ht.2.2.2; omega))
    have h3 : wholeS d t * 12 ^ ts.length ≤ d * 12 * 12 ^ ts.length := Nat.mul_le_mul_right _ h2
    rw [List.foldl_cons, List.length_cons, Nat.pow_succ]
    rw [Nat.mul_assoc, Nat.mul_comm 12] at h3
    omega
theorem wholeF_most {ts : List Tr} (h : gds ts) (i : Nat) : (ts.take i).foldl wholeS 1 ≤ 1728 := by
  have h1 := wholeF_le (ts.take i) 1 fun t ht => h.2 t (List.mem_of_mem_take ht)
  have h2 : (ts.take i).length ≤ 3 := by
    rw [List.length_take]
    have := h.1
    omega
  have h3 : 12 ^ (ts.take i).length ≤ 12 ^ 3 := Nat.pow_le_pow_right (by omega) h2
  omega
theorem wholeF_dvd : ∀ (ts : List Tr) (d m : Nat), (ts.foldl wholeS d ∣ m ↔ d ∣ m ∧ ∀ t ∈ ts, t.n.natAbs ∣ m)
  | [], d, m => by simp
  | t :: ts, d, m => by
    rw [List.foldl_cons, wholeF_dvd ts (wholeS d t) m]
    unfold wholeS
    rw [Nat.lcm_dvd_iff]
    constructor
    · rintro ⟨⟨a, b⟩, c⟩
      refine ⟨a, fun u hu => ?_⟩
      rcases List.mem_cons.mp hu with rfl | hu
      · exact b
      · exact c u hu
    · rintro ⟨a, b⟩
      exact ⟨⟨a, b t (List.mem_cons_self ..)⟩, fun u hu => b u (List.mem_cons_of_mem _ hu)⟩
def parts (ts : List Tr) : Int := (ts.map fun t => (wholeF ts : Int) / t.n * t.l).sum
theorem parts_fair {ts : List Tr} (g : gds ts) : 10 * parts ts ≤ 9 * (wholeF ts : Int) ↔ 10 * worth ts ≤ 9 * 27720 := by
  have hd : wholeF ts ∣ 27720 := by
    refine (wholeF_dvd ts 1 27720).mpr ⟨Nat.one_dvd _, fun t ht => ?_⟩
    have := dvd_big (g.2 t ht).2.2.1 (g.2 t ht).2.2.2
    exact Int.natAbs_dvd_natAbs.mpr this
  obtain ⟨k, hk⟩ := hd
  have hk0 : 0 < k := by
    rcases Nat.eq_zero_or_pos k with z | z
    · rw [z] at hk
      omega
    · exact z
  have hw : worth ts = parts ts * k := by
    unfold worth parts
    rw [← sum_map_mul]
    refine sum_map_eq fun t ht => ?_
    have hn := tr_pos (g.2 t ht)
    have h1 : t.n.natAbs ∣ wholeF ts := ((wholeF_dvd ts 1 (wholeF ts)).mp (Nat.dvd_refl _)).2 t ht
    obtain ⟨q, hq⟩ := h1
    have hq2 : (wholeF ts : Int) = t.n * (q : Int) := by
      rw [hq]
      push_cast
      rw [Int.natAbs_of_nonneg (Int.le_of_lt hn)]
    have e1 : (wholeF ts : Int) / t.n = q := by
      rw [hq2]
      exact Int.mul_ediv_cancel_left _ (Int.ne_of_gt hn)
    have e2 : (27720 : Int) / t.n = (q : Int) * k := by
      have : (27720 : Int) = t.n * ((q : Int) * k) := by
        have z : (27720 : Int) = ((wholeF ts * k : Nat) : Int) := by rw [← hk]; rfl
        rw [z]
        push_cast
        rw [hq2, Int.mul_assoc]
      rw [this]
      exact Int.mul_ediv_cancel_left _ (Int.ne_of_gt hn)
    rw [e1, e2, Int.mul_assoc, Int.mul_assoc, Int.mul_comm (k : Int)]
  have hz : (27720 : Int) = (wholeF ts : Int) * k := by
    have z : (27720 : Int) = ((wholeF ts * k : Nat) : Int) := by rw [← hk]; rfl
    rw [z]
    push_cast
    rfl
  have hk1 : (0 : Int) < k := by omega
  rw [hw, hz]
  constructor
  · intro h
    have := Int.mul_le_mul_of_nonneg_right h (Int.le_of_lt hk1)
    rw [Int.mul_assoc, Int.mul_assoc] at this
    exact this
  · intro h
    refine Int.le_of_mul_le_mul_right ?_ hk1
    rw [Int.mul_assoc, Int.mul_assoc]
    exact h
/-- the tables of an offer -/
abbrev topsL (ts : List Tr) : List Int := (List.range (2 * per ts)).map (T (cN ts))
noncomputable abbrev firstsL (ts : List Tr) : List Int := (List.range ((T (cN ts) (2 * per ts - 1)).toNat + 1)).map fun k => ((D (cN ts) k : Nat) : Int)
noncomputable abbrev gapsL (ts : List Tr) : List Int := gapsF (firstsL ts) 0 (topsL ts)
def ofs (t p o f g : Addr) : List (Str × V) := [("_trades", .ref t), ("_period", .ref p), ("_tops", .ref o), ("_firsts", .ref f), ("_gaps", .ref g)]
/-- at a an offer of these trades -/
structure OfAt (K : PySem.W.Frag) (H : Hp) (a : Addr) (ts : List Tr) : Prop where
  ex : ∃ dx t p o f g, H a = some (.ins (He.ga K "Offer") dx (ofs t p o f g)) ∧ TrAt K H t ts ∧ SqT K H p [.int (perB ts : Nat), .int (per ts : Nat)] ∧ SqL K H o ((topsL ts).map V.int) ∧ SqL K H f ((firstsL ts).map V.int) ∧ SqL K H g ((gapsL ts).map V.int)
theorem OfAt.mono {K : PySem.W.Frag} {H H' : Hp} {a : Addr} {ts : List Tr} (s : Same H H') (h : OfAt K H a ts) : OfAt K H' a ts := by
  obtain ⟨dx, t, p, o, f, g, h1, h2, h3, h4, h5, h6⟩ := h.ex
  exact ⟨dx, t, p, o, f, g, s _ _ h1, h2.mono s, Same.tup s h3, s.seq h4, s.seq h5, s.seq h6⟩
section
variable {P : Program} {w : World} {K : PySem.W.Frag} {mg : Str → Option Value} {base : Heap} (T' : Tx K mg)
theorem inV_str {z : Str} {l : List Str} (h : z ∉ l) : inV (.str z) (l.map V.str) = false := by
  unfold inV
  rw [List.any_eq_false]
  intro y hy
  obtain ⟨x, hx, rfl⟩ := List.mem_map.mp hy
  show ¬ ((x == z) = true)
  intro e
  exact h (eq_of_beq e ▸ hx)
theorem flat_str (l : List Str) : (l.map V.str).all flatV = true := by
  rw [List.all_eq_true]
  intro y hy
  obtain ⟨x, hx, rfl⟩ := List.mem_map.mp hy
  rfl
end
section
variable {P : Program} {w : World} {K : PySem.W.Frag} {mg : Str → Option Value} {base : Heap} (T : Tx K mg)
include T
def spChkTr (K : PySem.W.Frag) : Sp := fun vs H Q _ => ∃ (a : Addr) (ts : List Tr), vs = [.ref a] ∧ TrAt K H a ts ∧ gds ts ∧ ts ≠ [] ∧ nmOk ts ∧ ∀ H', Same H H' → Q .non H'
theorem ok_check_trades : FnR P w K mg base CX0 4 (a_check_trades K) (spChkTr K) := by
  refine fnR0 (d := d_check_trades) T.F_check_trades sc_check_trades rfl (fun _ _ _ _ _ _ us hl => match us, hl with | [_], _ => rfl) (fun vs H Q E h => ?_) (fun cdv A outer s H vs Q E hr h => ?_)
  · obtain ⟨a, ts, rfl, _⟩ := h
    rfl
  obtain ⟨a, ts, rfl, hT, hg, hne, hnm, k⟩ := h
  obtain ⟨ps, h1, h2, h3⟩ := hT.ex
  obtain ⟨uE, hE⟩ := T.v_Offer_MAX_TRADES
  refine ⟨_, (pss_cons (ps_if (pt_not (pt_truth (pv 0) (by intro _; rfl))) (pss_one ps_never) pss_nil) (pss_cons (ps_set (i := 1) sc_check_trades.nd rfl (Or.inl rfl) (pe_lst pa_nil)) (pss_one (ps_for PassesOwn.never rfl (pi_enumT (by rfl) T.n_enumerate (pa_cons (pv 0) pa_nil)) (pg_tup rfl (pgs_cons (pg_name (i := 2) sc_check_trades.nd rfl (Or.inl rfl)) (pgs_cons (pg_tup rfl (pgs_cons (pg_name (i := 3) sc_check_trades.nd rfl (Or.inl rfl)) (pgs_cons (pg_name (i := 4) sc_check_trades.nd rfl (Or.inl rfl)) (pgs_cons (pg_name (i := 5) sc_check_trades.nd rfl (Or.inl rfl)) pgs_nil)))) pgs_nil))) (pss_cons (ps_if (PW.pt (pw_or (pt_cmpR op_eq (pv 2) (ClX.pe_cval (pe_cC T.g_Offer)) (nomark _)) (pw_or (pt_cmpR op_in_seq (pv 3) (pv 1) rfl) (pw_or1 (pt_not (pt_val (pe_cR (ok_is_trade T) (hr.mono (by decide)) T.F_is_trade.kp T.g_is_trade pass0 (pa_cons (pv 3) (pa_cons (pv 4) (pa_cons (pv 5) pa_nil)))))))))) (pss_one ps_never) pss_nil) (pss_one (ps_expr (pe_bm PySem.F.plainAttrs_list PySem.F.slot_list_append PySem.F.type_list_append mt_append (pv 1) (pa_cons (pv 3) pa_nil))))))))), ?_⟩
  have hps : (ps.map V.ref).isEmpty = false := by
    cases ps with
    | nil =>
      cases ts with
      | nil => exact absurd rfl hne
      | cons _ _ => cases h2
    | cons _ _ => rfl
  refine ⟨_, rfl, true, .inr (.inl ⟨_, h1, by rw [hps]; rfl⟩), iteF ?_⟩
  refine ⟨Nat.zero_le _, fun p hp => ?_⟩
  refine ⟨_, rfl, a, _, rfl, Same.tup (same_new hp) h1, for_it (walk_enumT (K := K) (a := a) (xs := ps.map V.ref)) (fun i σ H1 => Same H H1 ∧ H1 p = some (.lst (((ts.take i).map Tr.k).map V.str)) ∧ ∃ x2 x3 x4 x5, σ = [some (.ref a), some (.ref p), x2, x3, x4, x5])
    ⟨same_new hp, upd_same, _, _, _, _, rfl⟩ (fun i σ H1 _ q => Same.tup q.1 h1) ?_ ?_⟩
  · rintro i x σ H1 H2 hi ⟨s1, e1, x2, x3, x4, x5, rfl⟩ ⟨q, u, v, rfl, nq, rfl, eu, ev⟩
    cases eu
    obtain ⟨pt, t, rfl, ep, et, hm, li, hpt⟩ := TrAt.at_ h2 h3 ev
    have s2 : Same H (upd H1 q (.tup [.int (i : Nat), .ref pt])) := s1.trans (same_new nq)
    have e2 := upd_old (u := .tup [.int (i : Nat), .ref pt]) e1 nq
    have ht := hg.2 _ hm
    have hk := hnm.2 _ hm
    refine ⟨q, _, rfl, SqT.of upd_same, rfl, _, _, rfl, _, _, rfl, ⟨pt, _, rfl, Same.tup s2 hpt, rfl, _, _, rfl, _, _, rfl, _, _, rfl, rfl, rfl, ?_⟩⟩
    refine ⟨_, rfl, He.ga K "Offer", _, _, _, rfl, T.r_Offer, hE, rfl, _, rfl, ite2 (fun hd => ?_) (fun _ => ?_)⟩
    · have hd := V.int.inj (of_decide_eq_true hd)
      have := hg.1
      omega
    have hnotin : t.k ∉ (ts.take i).map Tr.k := by
      intro hin
      have hnd : ((ts.take (i + 1)).map Tr.k).Nodup := (hnm.1.sublist ((List.take_sublist _ _).map _))
      rw [take_at et, List.map_append, List.nodup_append] at hnd
      exact hnd.2.2 _ hin _ (List.mem_singleton.mpr rfl) rfl
    refine ⟨_, rfl, _, rfl, p, _, rfl, .inl (SqL.of e2), rfl, flat_str _, _, rfl, ite2 (fun hd => ?_) (fun _ => ?_)⟩
    · rw [if_neg Bool.false_ne_true, inV_str hnotin] at hd
      cases hd
    refine ⟨_, rfl, _, rfl, _, rfl, t, rfl, hk.2, fun H3 s3 => ⟨_, rfl, ?_⟩⟩
    rw [trOk_of ht hk.1]
    refine iteF ?_
    have e3 := s3 _ _ e2
    refine ⟨_, rfl, .inl ⟨rfl, _, SqL.of e3⟩, _, rfl, p, _, _, rfl, rfl, e3, small3 ?_, same_mut (s2.trans s3) hp, ?_, _, _, _, _, rfl⟩
    · rw [List.length_map, List.length_map, List.length_take]
      have := hg.1
      omega
    · rw [upd_same, take_at et, List.map_append, List.map_append]
      rfl
  · rintro σ H1 ⟨s1, e1, x2, x3, x4, x5, rfl⟩
    exact k _ s1
def spChkGen (K : PySem.W.Frag) : Sp := fun vs H Q _ => ∃ (a : Addr) (ts : List Tr), vs = [.ref a] ∧ TrAt K H a ts ∧ Fair ts ∧ ∀ H', Same H H' → Q .non H'
theorem ok_check_generosity : FnR P w K mg base CX0 1 (a_check_generosity K) (spChkGen K) := by
  refine fnR0 (d := d_check_generosity) T.F_check_generosity sc_check_generosity rfl (fun _ _ _ _ _ _ us hl => match us, hl with | [_], _ => rfl) (fun vs H Q E h => ?_) (fun cdv A outer s H vs Q E hr h => ?_)
  · obtain ⟨a, ts, rfl, _⟩ := h
    rfl
  obtain ⟨a, ts, rfl, hT, hf, k⟩ := h
  obtain ⟨ps, h1, h2, h3⟩ := hT.ex
  refine ⟨_, (pss_cons (ps_set (i := 1) sc_check_generosity.nd rfl (Or.inr rfl) pe_int) (pss_cons (ps_for PassesOwn.never rfl (pi_tup (pv 0)) (pg_tup rfl (pgs_cons (pg_name (i := 2) sc_check_generosity.nd rfl (Or.inl rfl)) (pgs_cons (pg_name (i := 2) sc_check_generosity.nd rfl (Or.inl rfl)) (pgs_cons (pg_name (i := 3) sc_check_generosity.nd rfl (Or.inl rfl)) pgs_nil)))) (pss_one (ps_set (i := 1) sc_check_generosity.nd rfl (Or.inr rfl) (pe_callBfun cr_lcm (by rfl) T.b_lcm (pa_cons (pv 1) (pa_cons (pv 3) pa_nil)))))) (pss_cons (ps_set (i := 4) sc_check_generosity.nd rfl (Or.inl rfl) (pe_callB (cr_sum rfl) (by rfl) T.n_sum (by decide +kernel) (pa_cons (pe_lc (own := [("_", 2), ("left", 5), ("needed", 3)]) rfl sc_check_generosity.nd (pi_tup (pv 0)) (blkOk_by (own := [("_", 2), ("left", 5), ("needed", 3)]) (N := N_check_generosity) (sc := defScope s_check_generosity) (by decide +kernel)) (fun _ _ _ _ _ => (pg_tupB (n := 3) (pgs_cons (pg_name (i := 2) sc_check_generosity.nd rfl (Or.inl rfl) (.inr rfl)) (pgs_cons (pg_name (i := 5) sc_check_generosity.nd rfl (Or.inl rfl) (.inr rfl)) (pgs_cons (pg_name (i := 3) sc_check_generosity.nd rfl (Or.inl rfl) (.inr rfl)) pgs_nil))))) (fun _ _ _ _ _ => pts_nil) (fun _ _ _ _ _ => (pe_op op_mul (pe_op op_fdiv (pv 1) (pv 3)) (pv 5)))) pa_nil))) (pss_one (ps_if (pt_cmpR op_gt (pe_op op_mul pe_int (pv 4)) (pe_op op_mul pe_int (pv 1)) (nomark _)) (pss_one ps_never) pss_nil))))), ?_⟩
  refine ⟨_, rfl, a, rfl, ⟨_, h1⟩, for_tup (xs := ps.map V.ref) (fun i σ H1 => H1 = H ∧ ∃ x2 x3 x4 x5, σ = [some (.ref a), some (.int (((ts.take i).foldl wholeS 1 : Nat) : Int)), x2, x3, x4, x5]) ⟨rfl, _, _, _, _, rfl⟩ (fun i σ H1 _ q => by rw [q.1]; exact h1) ?_ ?_⟩
  · rintro i x σ H1 hx ⟨rfl, x2, x3, x4, x5, rfl⟩
    obtain ⟨p, t, rfl, ep, et, hm, li, hp⟩ := TrAt.at_ h2 h3 hx
    have ht := hf.g.2 _ hm
    refine ⟨p, _, rfl, hp, rfl, _, _, rfl, _, _, rfl, _, _, rfl, rfl, ?_⟩
    refine ⟨_, rfl, _, rfl, _, _, rfl, ?_, ?_, rfl, some (.int t.l), some (.int t.n), x4, x5, ?_⟩
    · have := wholeF_most hf.g i
      exact Nat.lt_of_le_of_lt (by omega : _ ≤ 1728) (by decide)
    · have := ht.2.2.1
      have := ht.2.2.2
      exact Nat.lt_of_le_of_lt (by omega : _ ≤ 12) (by decide)
    · rw [take_at et, List.foldl_append]
      rfl
  · rintro σ H1 ⟨rfl, x2, x3, x4, x5, rfl⟩
    have ew : (ts.take (ps.map V.ref).length).foldl wholeS 1 = wholeF ts := by
      rw [List.length_map, h2, List.take_length]
      rfl
    rw [ew]
    have hw : wholeF ts ≤ 1728 := by
      have := wholeF_most hf.g ts.length
      rw [List.take_length] at this
      exact this
    refine ⟨_, rfl, a, rfl, ⟨_, h1⟩, fun D hD => ?_⟩
    refine lc_tup (xs := ps.map V.ref) (fun i H2 => Same H1 H2 ∧ H1 D = none ∧ H2 D = some (.lst ((ts.take i).map fun t => V.int ((wholeF ts : Int) / t.n * t.l)))) ⟨same_new hD, hD, upd_same⟩ (fun i H2 _ q => Same.tup q.1 h1) ?_ ?_
    · rintro i x H2 hx ⟨s1, n1, e1⟩
      obtain ⟨p, t, rfl, ep, et, hm, li, hp⟩ := TrAt.at_ h2 h3 hx
      have ht := hf.g.2 _ hm
      refine ⟨p, _, rfl, Same.tup s1 hp, rfl, _, _, rfl, _, _, rfl, _, _, rfl, rfl, rfl, ?_⟩
      refine ⟨_, rfl, _, rfl, _, _, rfl, rfl, ⟨by have := ht.2.2.1; omega, by have := ht.2.2.2; omega⟩, _, rfl, _, _, rfl, rfl, .inr ⟨by have := ht.1; omega, by have := ht.2.1; omega⟩, ?_⟩
      refine ⟨_, e1, small3 ?_, same_mut s1 n1, n1, ?_⟩
      · rw [List.length_map, List.length_take]
        have := hf.g.1
        omega
      · rw [upd_same, take_at et, List.map_append]
        rfl
    · rintro H2 ⟨s1, n1, e1⟩
      refine ⟨D, ts.map fun t => (wholeF ts : Int) / t.n * t.l, rfl, SqL.of ?_, ?_⟩
      · rw [e1, List.length_map, h2, List.take_length, List.map_map]
        rfl
      · refine ⟨_, rfl, _, _, rfl, rfl, .inl ⟨by decide, by decide⟩, _, rfl, _, _, rfl, rfl, .inl ⟨by decide, by decide⟩, _, _, rfl, rfl, _, rfl, ite2 (fun hd => ?_) (fun _ => k _ s1)⟩
        have hd : 9 * (wholeF ts : Int) < 10 * parts ts := of_decide_eq_true hd
        have := (parts_fair hf.g).mpr hf.w
        omega
end
end EB

namespace EB
open PySem PySem.Spec PyProof.Rows L2
/-! ### a heap with one object left out -/
theorem put1 {a : V} : putF "_trades" a [] = ([("_trades", a)] : List (Str × V)) := rfl
theorem put2 {a b : V} : putF "_period" b ([("_trades", a)] : List (Str × V)) = ([("_trades", a), ("_period", b)] : List (Str × V)) := by
  rw [putF_ne (by decide +kernel)]
  rfl
theorem put3 {a b c : V} : putF "_tops" c ([("_trades", a), ("_period", b)] : List (Str × V)) = ([("_trades", a), ("_period", b), ("_tops", c)] : List (Str × V)) := by
  rw [putF_ne (by decide +kernel), putF_ne (by decide +kernel)]
  rfl
theorem put4 {a b c d : V} : putF "_firsts" d ([("_trades", a), ("_period", b), ("_tops", c)] : List (Str × V)) = ([("_trades", a), ("_period", b), ("_tops", c), ("_firsts", d)] : List (Str × V)) := by
  rw [putF_ne (by decide +kernel), putF_ne (by decide +kernel), putF_ne (by decide +kernel)]
  rfl
theorem put5 {a b c d e : V} : putF "_gaps" e ([("_trades", a), ("_period", b), ("_tops", c), ("_firsts", d)] : List (Str × V)) = ([("_trades", a), ("_period", b), ("_tops", c), ("_firsts", d), ("_gaps", e)] : List (Str × V)) := by
  rw [putF_ne (by decide +kernel), putF_ne (by decide +kernel), putF_ne (by decide +kernel), putF_ne (by decide +kernel)]
  rfl
theorem lk_tops {a b c : V} {r : List (Str × V)} : (("_trades", a) :: ("_period", b) :: ("_tops", c) :: r : List (Str × V)).lookup ("_tops" : Str) = some c := by
  rw [lkN (by decide +kernel), lkN (by decide +kernel), lkY]
theorem lk_firsts {a b c d : V} {r : List (Str × V)} : (("_trades", a) :: ("_period", b) :: ("_tops", c) :: ("_firsts", d) :: r : List (Str × V)).lookup ("_firsts" : Str) = some d := by
  rw [lkN (by decide +kernel), lkN (by decide +kernel), lkN (by decide +kernel), lkY]
theorem lk_gaps {a b c d e : V} {r : List (Str × V)} : (("_trades", a) :: ("_period", b) :: ("_tops", c) :: ("_firsts", d) :: ("_gaps", e) :: r : List (Str × V)).lookup ("_gaps" : Str) = some e := by
  rw [lkN (by decide +kernel), lkN (by decide +kernel), lkN (by decide +kernel), lkN (by decide +kernel), lkY]
theorem lk_period {a b : V} {r : List (Str × V)} : (("_trades", a) :: ("_period", b) :: r : List (Str × V)).lookup ("_period" : Str) = some b := by
  rw [lkN (by decide +kernel), lkY]
theorem lk_trades {a : V} {r : List (Str × V)} : (("_trades", a) :: r : List (Str × V)).lookup ("_trades" : Str) = some a := lkY
theorem lk_no {t p o f g : Addr} {m : Str} (h : ((m == "_trades") || ((m == "_period") || ((m == "_tops") || ((m == "_firsts") || (m == "_gaps"))))) = false) : (ofs t p o f g).lookup m = none := by
  obtain ⟨h1, h⟩ := Bool.or_eq_false_iff.mp h
  obtain ⟨h2, h⟩ := Bool.or_eq_false_iff.mp h
  obtain ⟨h3, h⟩ := Bool.or_eq_false_iff.mp h
  obtain ⟨h4, h5⟩ := Bool.or_eq_false_iff.mp h
  unfold ofs
  rw [lkN h1, lkN h2, lkN h3, lkN h4, lkN h5]
  rfl
theorem per_le' {ts : List Tr} (g : gds ts) : per ts ≤ 1728 := by
  have := per_most g ts.length
  rw [List.take_length] at this
  exact this
theorem tops_in {ts : List Tr} (f : Fair ts) : ∀ t ∈ topsL ts, 0 ≤ t ∧ t < (firstsL ts).length := by
  intro t ht
  obtain ⟨d, hd, rfl⟩ := List.mem_map.mp ht
  have h1 := List.mem_range.mp hd
  have h2 := (cf f).T_nonneg d
  have h3 := CF.T_mono (cN ts) (show d ≤ 2 * per ts - 1 by omega)
  refine ⟨h2, ?_⟩
  rw [List.length_map, List.length_range]
  omega
/-- an offer at a whose tables were not there ahead of it -/
structure OfNew (K : PySem.W.Frag) (H0 H : Hp) (a : Addr) (ts : List Tr) : Prop where
  ex : ∃ dx t p o f g, H a = some (.ins (He.ga K "Offer") dx (ofs t p o f g)) ∧ TrAt K H t ts ∧ SqT K H p [.int (perB ts : Nat), .int (per ts : Nat)] ∧ SqL K H o ((topsL ts).map V.int) ∧ SqL K H f ((firstsL ts).map V.int) ∧ SqL K H g ((gapsL ts).map V.int) ∧
    H0 o = none ∧ H0 f = none ∧ H0 g = none
section
variable {P : Program} {w : World} {K : PySem.W.Frag} {mg : Str → Option Value} {base : Heap} (T : Tx K mg)
include T
def spInit (K : PySem.W.Frag) : Sp := fun vs H Q _ => ∃ (x p : Addr) (H0 : Hp) (dx : Addr) (ts : List Tr), vs = [.ref x, .ref p] ∧ Same H0 H ∧ H0 x = none ∧ H x = some (.ins (He.ga K "Offer") dx []) ∧ TrAt K H0 p ts ∧ Fair ts ∧ ts ≠ [] ∧ nmOk ts ∧
  ∀ H', Same H0 H' → OfNew K H0 H' x ts → Q .non H'
theorem ok_Offer_init : FnR P w K mg base CX0 5 (a_Offer_init K) (fun vs H Q E => ∃ ws rest, vs = ws ++ rest ∧ ws.length = 1 ∧ rest.length ≤ sizeLine ∧ ∀ p, H p = none → spInit K (ws ++ [V.ref p]) (upd H p (.tup rest)) Q E) := by
  refine fnRS (d := d_Offer_init) (ps := ["self"]) T.F_Offer_init sc_Offer_init rfl (fun kV doc pm an cdv ct => StX.bind_star1 (B := fun us => bindArgs (PySem.W.fnOf d_Offer_init.nm d_Offer_init.ql (defArgs d_Offer_init.st) (defBody d_Offer_init.st) (defScope d_Offer_init.st) .none kV doc pm an cdv ct) ⟨us, []⟩) (fun _ => rfl) (fun _ _ _ => rfl)) (fun cdv A outer s H vs Q E hr h => ?_)
  obtain ⟨x, p, H0, dx, ts, rfl, s0, n0, hx, hT0, hf, hne, hnm, k⟩ := h
  refine ⟨_, (pss_cons (ps_expr (pe_cR (ok_check_trades T) (hr.mono (by decide)) T.F_check_trades.kp T.g_check_trades pass0 (pa_cons (pv 1) pa_nil))) (pss_cons (ps_expr (pe_cR (ok_check_generosity T) (hr.mono (by decide)) T.F_check_generosity.kp T.g_check_generosity pass0 (pa_cons (pv 1) pa_nil))) (pss_cons (ps_fld (pv 0) (pe_callTy call_tuple_of (by rfl) T.n_tuple (by decide +kernel) (pa_cons (pe_lc (own := [("kind", 3), ("left", 4), ("needed", 5)]) rfl sc_Offer_init.nd (pi_tup (pv 1)) (blkOk_by (own := [("kind", 3), ("left", 4), ("needed", 5)]) (N := N_Offer_init) (sc := defScope s_Offer_init) (by decide +kernel)) (fun _ _ _ _ _ => (pg_tupB (n := 3) (pgs_cons (pg_name (i := 3) sc_Offer_init.nd rfl (Or.inl rfl) (.inr rfl)) (pgs_cons (pg_name (i := 4) sc_Offer_init.nd rfl (Or.inl rfl) (.inr rfl)) (pgs_cons (pg_name (i := 5) sc_Offer_init.nd rfl (Or.inl rfl) (.inr rfl)) pgs_nil))))) (fun _ _ _ _ _ => pts_nil) (fun _ _ _ _ _ => (pe_tup (pa_cons (pv 3) (pa_cons (pv 4) (pa_cons (pv 5) pa_nil)))))) pa_nil)) rfl) (pss_cons (ps_set (i := 2) sc_Offer_init.nd rfl (Or.inl rfl) (pe_cR (ok_drinks_of_period T) (hr.mono (by decide)) T.F_drinks_of_period.kp T.g_drinks_of_period pass0 (pa_cons (pv 1) pa_nil))) (pss_cons (ps_fld (pv 0) (pe_tup (pa_cons (pe_cR (ok_cost_of T) (hr.mono (by decide)) T.F_cost_of.kp T.g_cost_of pass0 (pa_cons (pv 1) (pa_cons (pv 2) pa_nil))) (pa_cons (pv 2) pa_nil))) rfl) (pss_cons (ps_fld (pv 0) (pe_cR (ok_tops_of T) (hr.mono (by decide)) T.F_tops_of.kp T.g_tops_of pass0 (pa_cons (pe_lc (own := [("count", 6)]) rfl sc_Offer_init.nd (pi_range1 rfl T.n_range (pa_cons (pe_op op_mul pe_int (pv 2)) pa_nil)) (blkOk_by (own := [("count", 6)]) (N := N_Offer_init) (sc := defScope s_Offer_init) (by decide +kernel)) (fun _ _ _ _ _ => (pg_name (i := 6) sc_Offer_init.nd rfl (Or.inl rfl) (.inr rfl))) (fun _ _ _ _ _ => pts_nil) (fun _ _ _ _ _ => (pe_cR (ok_cost_of T) (hr.mono (by decide)) T.F_cost_of.kp T.g_cost_of pass0 (pa_cons (pv 1) (pa_cons (pv 6) pa_nil))))) pa_nil)) rfl) (pss_cons (ps_fld (pv 0) (pe_cR (ok_firsts_of T) (hr.mono (by decide)) T.F_firsts_of.kp T.g_firsts_of pass0 (pa_cons (pe_fld (pv 0) rfl) pa_nil)) rfl) (pss_one (ps_fld (pv 0) (pe_cR (ok_gaps_of T) (hr.mono (by decide)) T.F_gaps_of.kp T.g_gaps_of pass0 (pa_cons (pe_fld (pv 0) rfl) (pa_cons (pe_fld (pv 0) rfl) pa_nil))) rfl))))))))), ?_⟩
  -- the checks
  refine ⟨_, rfl, p, ts, rfl, hT0.mono s0, hf.g, hne, hnm, fun H1 s1 => ?_⟩
  refine ⟨_, rfl, p, ts, rfl, hT0.mono (s0.trans s1), hf, fun H2 s2 => ?_⟩
  have s02 : Same H0 H2 := s0.trans (s1.trans s2)
  have hx2 : H2 x = some (.ins (He.ga K "Offer") dx []) := s2 _ _ (s1 _ _ hx)
  obtain ⟨ps, h1, h2, h3⟩ := (hT0.mono s02).ex
  -- the trades
  refine ⟨_, rfl, p, rfl, ⟨_, h1⟩, fun D hD => ?_⟩
  refine lc_tup (xs := ps.map V.ref) (fun i H3 => Same H2 H3 ∧ ∃ qs : List Addr, qs.length = i ∧ H3 D = some (.lst (qs.map V.ref)) ∧ ∀ (j : Nat) (q : Addr) (t : Tr), qs[j]? = some q → ts[j]? = some t → H3 q = some (.tup t.vs))
    ⟨same_new hD, [], rfl, upd_same, fun j q t hq => by cases hq⟩ (fun i H3 _ q => Same.tup q.1 h1) ?_ ?_
  · rintro i y H3 hy ⟨s3, qs, hq1, e3, hq2⟩
    obtain ⟨pt, t, rfl, ep, et, hm, li, hpt⟩ := TrAt.at_ h2 h3 hy
    refine ⟨pt, _, rfl, Same.tup s3 hpt, rfl, _, _, rfl, _, _, rfl, _, _, rfl, rfl, rfl, ?_⟩
    refine ⟨_, rfl, _, rfl, _, rfl, by show 3 ≤ sizeLine; decide, fun q nq => ?_⟩
    have nD : D ≠ q := ne_of_none e3 nq
    refine ⟨_, upd_old e3 nq, small3 (by rw [List.length_map, hq1]; have := hf.g.1; omega), same_mut (s3.trans (same_new nq)) hD, qs ++ [q], by rw [List.length_append, hq1]; rfl, by rw [upd_same, List.map_append]; rfl, fun j q' t' hj ht' => ?_⟩
    rcases Nat.lt_or_ge j qs.length with z | z
    · rw [List.getElem?_append_left z] at hj
      have e4 := upd_old (u := .tup t.vs) (hq2 j q' t' hj ht') nq
      rw [upd_ne (ne_of (upd_old (u := .tup t.vs) (hq2 j q' t' hj ht') nq) (upd_old (u := .tup t.vs) e3 nq) (by intro z; cases z))]
      exact e4
    · rw [List.getElem?_append_right z] at hj
      have ej : j = qs.length := by
        have := lt_of_at hj
        simp only [List.length_singleton] at this
        omega
      rw [ej, Nat.sub_self] at hj
      have eq : q = q' := Option.some.inj hj
      subst eq
      rw [ej, hq1, et] at ht'
      have ett : t = t' := Option.some.inj ht'
      subst ett
      rw [upd_ne nD.symm]
      exact upd_same
  rintro H3 ⟨s3, qs, hq1, e3, hq2⟩
  rw [List.length_map] at hq1
  refine ⟨D, _, rfl, .inl ⟨SqL.of e3, fun l hl => ?_⟩⟩
  have hx3 : H3 x = some (.ins (He.ga K "Offer") dx []) := s3 _ _ hx2
  have hx4 := upd_old (u := .tup (qs.map V.ref)) hx3 hl
  have s04 : Same H0 (upd H3 l (.tup (qs.map V.ref))) := s02.trans (s3.trans (same_new hl))
  refine ⟨_, rfl, x, _, dx, [], rfl, hx4, T.k_Offer, T.na_trades, by show 0 < 1000; decide, ?_⟩
  -- the period
  generalize hH4 : upd H3 l (.tup (qs.map V.ref)) = H4 at hx4 s04
  have e4 : H4 l = some (.tup (qs.map V.ref)) := by rw [← hH4]; exact upd_same
  have q4 : ∀ (j : Nat) (q : Addr) (t : Tr), qs[j]? = some q → ts[j]? = some t → H4 q = some (.tup t.vs) := fun j q t a b => by
    rw [← hH4]
    exact upd_old (hq2 j q t a b) hl
  -- B4: all but the offer itself
  have sB4 : Same H0 (hid H4 x) := same_hid s04 n0
  have tB4 : TrAt K (hid H4 x) l ts := by
    refine ⟨qs, SqT.of (hid_old e4 hx4 (by intro z; cases z)), by rw [hq1, h2], fun j q t a b => SqT.of (hid_old (q4 j q t a b) hx4 (by intro z; cases z))⟩
  have pB4 : TrAt K (hid H4 x) p ts := hT0.mono sB4
  generalize hB4 : hid H4 x = B4 at sB4 tB4 pB4
  have nB4 : B4 x = none := by rw [← hB4]; exact hid_x
  rw [put1]
  have sb5 : Same B4 (upd H4 x (.ins (He.ga K "Offer") dx [("_trades", .ref l)])) := by
    rw [← hB4]
    exact same_mut hid_same hid_x
  generalize hH5 : upd H4 x (.ins (He.ga K "Offer") dx [("_trades", .ref l)]) = H5 at sb5
  have hx5 : H5 x = some (.ins (He.ga K "Offer") dx [("_trades", .ref l)]) := by rw [← hH5]; exact upd_same
  refine ⟨_, rfl, p, ts, rfl, pB4.mono sb5, hf.g, fun H6 s6 => ?_⟩
  refine ⟨_, rfl, _, rfl, p, ts, _, rfl, pB4.mono (sb5.trans s6), hf.g, fun H7 s7 => ⟨_, rfl, by show 2 ≤ sizeLine; decide, fun pp hpp => ?_⟩⟩
  have hx8 := upd_old (u := .tup [.int (cost ts (per ts : Nat)), .int (per ts : Nat)]) (s7 _ _ (s6 _ _ hx5)) hpp
  have sb8 : Same B4 (upd H7 pp (.tup [.int (cost ts (per ts : Nat)), .int (per ts : Nat)])) := sb5.trans (s6.trans (s7.trans (same_new hpp)))
  refine ⟨_, rfl, x, _, dx, _, rfl, hx8, T.k_Offer, T.na_period, by show 1 < 1000; decide, ?_⟩
  rw [put2]
  generalize hH8 : upd H7 pp (.tup [.int (cost ts (per ts : Nat)), .int (per ts : Nat)]) = H8 at hx8 sb8
  have e8 : H8 pp = some (.tup [.int (perB ts : Nat), .int (per ts : Nat)]) := by rw [← hH8, upd_same, perB_eq hf]
  have sB8 : Same B4 (hid H8 x) := same_hid sb8 nB4
  have eB8 : hid H8 x pp = some (.tup [.int (perB ts : Nat), .int (per ts : Nat)]) := hid_old e8 hx8 (by intro z; cases z)
  generalize hB8 : hid H8 x = B8 at sB8 eB8
  have nB8 : B8 x = none := by rw [← hB8]; exact hid_x
  have sb9 : Same B8 (upd H8 x (.ins (He.ga K "Offer") dx [("_trades", .ref l), ("_period", .ref pp)])) := by
    rw [← hB8]
    exact same_mut hid_same hid_x
  generalize hH9 : upd H8 x (.ins (He.ga K "Offer") dx [("_trades", .ref l), ("_period", .ref pp)]) = H9 at sb9
  have hx9 : H9 x = some (.ins (He.ga K "Offer") dx [("_trades", .ref l), ("_period", .ref pp)]) := by rw [← hH9]; exact upd_same
  have hp := per_le' hf.g
  have pB8 : TrAt K B8 p ts := pB4.mono sB8
  -- the tops
  refine ⟨_, rfl, _, _, rfl, rfl, .inl ⟨by decide, by decide⟩, _, rfl, ?_, ?_, fun D2 hD2 => ?_⟩
  · omega
  · omega
  refine lc_range (lo := 0) (n := (2 * (per ts : Int)).toNat) (fun i H10 => Same H9 H10 ∧ H10 D2 = some (.lst (((List.range i).map (cN ts)).map V.int))) ⟨same_new hD2, upd_same⟩ ?_ ?_
  · rintro i H10 hi ⟨s10, e10⟩
    refine ⟨rfl, _, rfl, _, rfl, p, ts, _, rfl, pB8.mono (sb9.trans s10), hf.g, fun H11 s11 => ⟨_, s11 _ _ e10, small3 ?_, same_mut (s10.trans s11) hD2, ?_⟩⟩
    · rw [List.length_map, List.length_map, List.length_range]
      omega
    · rw [upd_same, List.range_succ, List.map_append, List.map_append]
      show _ = some (HO.lst (_ ++ [V.int (cost ts (i : Int))]))
      rw [Int.zero_add]
  rintro H10 ⟨s10, e10⟩
  have en : (2 * (per ts : Int)).toNat = 2 * per ts := by omega
  rw [en] at e10
  obtain ⟨m, hm⟩ : ∃ m, 2 * per ts = m + 1 := ⟨2 * per ts - 1, by have := per_pos hf.g; omega⟩
  have etops : topsF 0 ((List.range (2 * per ts)).map (cN ts)) = topsL ts := by
    unfold topsL
    rw [hm]
    exact (tops_eq (cf hf).zero m).1
  refine ⟨D2, _, rfl, SqL.of e10, by rw [List.length_map, List.length_range]; omega, fun H11 o s11 no e11 => ?_⟩
  rw [etops] at e11
  have hx11 : H11 x = some (.ins (He.ga K "Offer") dx [("_trades", .ref l), ("_period", .ref pp)]) := s11 _ _ (s10 _ _ hx9)
  have sb11 : Same B8 H11 := sb9.trans (s10.trans s11)
  refine ⟨_, rfl, x, _, dx, _, rfl, hx11, T.k_Offer, T.na_tops, by show 2 < 1000; decide, ?_⟩
  rw [put3]
  have sB11 : Same B8 (hid H11 x) := same_hid sb11 nB8
  have eB11 : hid H11 x o = some (.lst ((topsL ts).map V.int)) := hid_old e11 hx11 (by intro z; cases z)
  generalize hB11 : hid H11 x = B11 at sB11 eB11
  have nB11 : B11 x = none := by rw [← hB11]; exact hid_x
  have sb12 : Same B11 (upd H11 x (.ins (He.ga K "Offer") dx [("_trades", .ref l), ("_period", .ref pp), ("_tops", .ref o)])) := by
    rw [← hB11]
    exact same_mut hid_same hid_x
  generalize hH12 : upd H11 x (.ins (He.ga K "Offer") dx [("_trades", .ref l), ("_period", .ref pp), ("_tops", .ref o)]) = H12 at sb12
  have hx12 : H12 x = some (.ins (He.ga K "Offer") dx [("_trades", .ref l), ("_period", .ref pp), ("_tops", .ref o)]) := by rw [← hH12]; exact upd_same
  -- the firsts
  have efirsts : firstsF 0 [] (topsL ts) = firstsL ts := by
    show firstsF 0 [] ((List.range (2 * per ts)).map (EB.T (cN ts))) = (List.range ((EB.T (cN ts) (2 * per ts - 1)).toNat + 1)).map _
    rw [hm]
    exact firsts_eq (cf hf) m
  have ltop : (topsL ts).length ≤ 10000 := by
    rw [List.length_map, List.length_range]
    omega
  refine ⟨_, rfl, x, _, dx, _, _, rfl, hx12, T.k_Offer, T.na_tops, lk_tops, o, topsL ts, rfl, SqL.of (sb12 _ _ eB11), ltop, fun H13 f s13 nf e13 => ?_⟩
  rw [efirsts] at e13
  have hx13 := s13 _ _ hx12
  refine ⟨_, rfl, x, _, dx, _, rfl, hx13, T.k_Offer, T.na_firsts, by show 3 < 1000; decide, ?_⟩
  rw [put4]
  have sB13 : Same B11 (hid H13 x) := same_hid (sb12.trans s13) nB11
  have eB13 : hid H13 x f = some (.lst ((firstsL ts).map V.int)) := hid_old e13 hx13 (by intro z; cases z)
  generalize hB13 : hid H13 x = B13 at sB13 eB13
  have nB13 : B13 x = none := by rw [← hB13]; exact hid_x
  have sb14 : Same B13 (upd H13 x (.ins (He.ga K "Offer") dx [("_trades", .ref l), ("_period", .ref pp), ("_tops", .ref o), ("_firsts", .ref f)])) := by
    rw [← hB13]
    exact same_mut hid_same hid_x
  generalize hH14 : upd H13 x (.ins (He.ga K "Offer") dx [("_trades", .ref l), ("_period", .ref pp), ("_tops", .ref o), ("_firsts", .ref f)]) = H14 at sb14
  have hx14 : H14 x = some (.ins (He.ga K "Offer") dx [("_trades", .ref l), ("_period", .ref pp), ("_tops", .ref o), ("_firsts", .ref f)]) := by rw [← hH14]; exact upd_same
  -- the gaps
  refine ⟨_, rfl, x, _, dx, _, _, rfl, hx14, T.k_Offer, T.na_tops, lk_tops, _, rfl, x, _, dx, _, _, rfl, hx14, T.k_Offer, T.na_firsts, lk_firsts, o, f, topsL ts, firstsL ts, rfl, SqL.of (sb14 _ _ (sB13 _ _ eB11)), SqL.of (sb14 _ _ eB13), ltop, tops_in hf, fun H15 g s15 ng e15 => ?_⟩
  have hx15 := s15 _ _ hx14
  refine ⟨_, rfl, x, _, dx, _, rfl, hx15, T.k_Offer, T.na_gaps, by show 4 < 1000; decide, ?_⟩
  rw [put5]
  have s16 : Same B13 (upd H15 x (.ins (He.ga K "Offer") dx (ofs l pp o f g))) := same_mut (sb14.trans s15) nB13
  have s017 : Same H0 B13 := sB4.trans (sB8.trans (sB11.trans sB13))
  refine k _ (s017.trans s16) ⟨dx, l, pp, o, f, g, upd_same, tB4.mono (sB8.trans (sB11.trans (sB13.trans s16))), SqT.of (s16 _ _ (sB13 _ _ (sB11 _ _ eB8))), SqL.of (s16 _ _ (sB13 _ _ eB11)), SqL.of (s16 _ _ eB13), SqL.of ?_, Same.free (sB4.trans (sB8.trans (sb9.trans s10))) no, Same.free (sB4.trans (sB8.trans (sB11.trans sb12))) nf, Same.free (s017.trans sb14) ng⟩
  rw [upd_ne (ne_of e15 hx15 (by intro z; cases z))]
  exact e15
end
end EB

namespace EB
open PySem PySem.Spec PyProof.Rows L2
/-! ### the source of draws: a list at h, its cells at l -/
def hid2 (H : Hp) (h l : Addr) : Hp := fun b => if b = h ∨ b = l then none else H b
theorem hid2_h {H : Hp} {h l : Addr} : hid2 H h l h = none := if_pos (.inl rfl)
theorem hid2_l {H : Hp} {h l : Addr} : hid2 H h l l = none := if_pos (.inr rfl)
theorem hid2_ne {H : Hp} {h l b : Addr} (h1 : b ≠ h) (h2 : b ≠ l) : hid2 H h l b = H b := if_neg fun z => z.elim h1 h2
theorem hid2_same {H : Hp} {h l : Addr} : Same (hid2 H h l) H := fun b o e => by
  by_cases q : b = h ∨ b = l
  · unfold hid2 at e
    rw [if_pos q] at e
    cases e
  · unfold hid2 at e
    rw [if_neg q] at e
    exact e
theorem same_hid2 {H0 H : Hp} {h l : Addr} (s : Same H0 H) (n1 : H0 h = none) (n2 : H0 l = none) : Same H0 (hid2 H h l) := fun b o e => by
  rw [hid2_ne (ne_of_none e n1) (ne_of_none e n2)]
  exact s b o e
/-- the state of the draws; H0 knows nothing of it -/
structure HS (H0 H : Hp) (h l : Addr) : Prop where
  same : Same H0 H
  nh : H0 h = none
  nl : H0 l = none
  ne : h ≠ l
  ex : ∃ (m i : Int) (ns : List Int), H h = some (.lst [.int m, .ref l, .int i]) ∧ H l = some (.lst (ns.map V.int)) ∧ 0 ≤ m ∧ m < 2147483647 ∧ 0 ≤ i ∧ ns.length ≤ 63
theorem HS.grow {H0 H H' : Hp} {h l : Addr} (x : HS H0 H h l) (s : Same H H') : HS H0 H' h l := by
  obtain ⟨m, i, ns, e1, e2, r⟩ := x.ex
  exact ⟨x.same.trans s, x.nh, x.nl, x.ne, m, i, ns, s _ _ e1, s _ _ e2, r⟩
theorem HS.re {H0 H : Hp} {h l : Addr} (x : HS H0 H h l) : HS (hid2 H h l) H h l := ⟨hid2_same, hid2_h, hid2_l, x.ne, x.ex⟩
theorem HS.sub {H0 H : Hp} {h l : Addr} (x : HS H0 H h l) : Same H0 (hid2 H h l) := same_hid2 x.same x.nh x.nl
theorem HS.tup {K : PySem.W.Frag} {H0 H : Hp} {h l a : Addr} {xs : List V} (x : HS H0 H h l) (t : SqT K H a xs) : SqT K (hid2 H h l) a xs := by
  obtain ⟨m, i, ns, e1, e2, _⟩ := x.ex
  rcases t with (t | ⟨o, t⟩) | t
  · exact .inl (.inl (by rw [hid2_ne (ne_of t e1 (by intro z; cases z)) (ne_of t e2 (by intro z; cases z))]; exact t))
  · exact .inl (.inr ⟨o, by rw [hid2_ne (ne_of t e1 (by intro z; cases z)) (ne_of t e2 (by intro z; cases z))]; exact t⟩)
  · exact .inr t
theorem HS.tr {K : PySem.W.Frag} {H0 H : Hp} {h l a : Addr} {ts : List Tr} (x : HS H0 H h l) (t : TrAt K H a ts) : TrAt K (hid2 H h l) a ts := by
  obtain ⟨ps, h1, h2, h3⟩ := t.ex
  exact ⟨ps, x.tup h1, h2, fun i p t a b => x.tup (h3 i p t a b)⟩
theorem HS.lst {K : PySem.W.Frag} {H0 H : Hp} {h l a : Addr} {xs : List V} (x : HS H0 H h l) (t : SqL K H a xs) (n1 : a ≠ h) (n2 : a ≠ l) : SqL K (hid2 H h l) a xs := by
  rcases t with (t | ⟨o, t⟩) | t
  · exact .inl (.inl (by rw [hid2_ne n1 n2]; exact t))
  · exact .inl (.inr ⟨o, by rw [hid2_ne n1 n2]; exact t⟩)
  · exact .inr t
theorem HS.of_ {K : PySem.W.Frag} {H0 H H1 : Hp} {h l a : Addr} {ts : List Tr} (x : HS H0 H h l) (s : Same H H1) (t : OfNew K H H1 a ts) : OfAt K (hid2 H1 h l) a ts := by
  obtain ⟨dx, t, p, o, f, g, h1, h2, h3, h4, h5, h6, n1, n2, n3⟩ := t.ex
  have y := x.grow s
  obtain ⟨m, i, ns, e1, e2, _⟩ := x.ex
  have q : ∀ b, H b = none → b ≠ h ∧ b ≠ l := fun b n => ⟨(ne_of_none e1 n).symm, (ne_of_none e2 n).symm⟩
  refine ⟨dx, t, p, o, f, g, ?_, y.tr h2, y.tup h3, y.lst h4 (q o n1).1 (q o n1).2, y.lst h5 (q f n2).1 (q f n2).2, y.lst h6 (q g n3).1 (q g n3).2⟩
  rw [hid2_ne (ne_of h1 (s _ _ e1) (by intro z; cases z)) (ne_of h1 (s _ _ e2) (by intro z; cases z))]
  exact h1
theorem ixN_int {n : Nat} {i : Int} (h0 : 0 ≤ i) (h1 : i < n) : ixN n i = some i.toNat := by
  unfold ixN
  rw [if_pos h0, if_pos h1]
section
variable {P : Program} {w : World} {K : PySem.W.Frag} {mg : Str → Option Value} {base : Heap} (T : Tx K mg)
include T
end
end EB

namespace EB
open PySem PySem.Spec PyProof.Rows L2
theorem HS.keep {H0 H : Hp} {h l b : Addr} {o : HO} (e : H b = some o) (n1 : b ≠ h) (n2 : b ≠ l) : hid2 H h l b = some o := by
  rw [hid2_ne n1 n2]
  exact e
theorem HS.new {H0 H : Hp} {h l b : Addr} (x : HS H0 H h l) (n : H b = none) : b ≠ h ∧ b ≠ l := by
  obtain ⟨m, i, ns, e1, e2, _⟩ := x.ex
  exact ⟨(ne_of_none e1 n).symm, (ne_of_none e2 n).symm⟩
theorem HS.mut {H0 H : Hp} {h l b : Addr} {o : HO} (x : HS H0 H h l) (n : H0 b = none) (n1 : b ≠ h) (n2 : b ≠ l) : HS H0 (upd H b o) h l := by
  obtain ⟨m, i, ns, e1, e2, r⟩ := x.ex
  exact ⟨same_mut x.same n, x.nh, x.nl, x.ne, m, i, ns, by rw [upd_ne n1.symm]; exact e1, by rw [upd_ne n2.symm]; exact e2, r⟩
theorem HS.down {H0 H H' : Hp} {h l : Addr} (x : HS H0 H h l) (y : HS (hid2 H h l) H' h l) : HS H0 H' h l := ⟨x.sub.trans y.same, x.nh, x.nl, x.ne, y.ex⟩
def kinds3 : List Str := ["empty", "cap", "label"]
/-- trades as the law draws them -/
structure Drawn (ts : List Tr) (most largest : Int) : Prop where
  ks : ts.map Tr.k = kinds3.take ts.length
  len : (ts.length : Int) ≤ most
  len3 : ts.length ≤ 3
  each : ∀ t ∈ ts, t.ok ∧ t.n ≤ largest ∧ t.l ≤ t.n
  w : 10 * worth ts ≤ 9 * 27720
theorem Drawn.fair {ts : List Tr} {a b : Int} (d : Drawn ts a b) : Fair ts := ⟨⟨d.len3, fun t ht => (d.each t ht).1⟩, d.w⟩
theorem Drawn.nm {ts : List Tr} {a b : Int} (d : Drawn ts a b) : nmOk ts := by
  have hk : ∀ k ∈ kinds3, kindOk k = true ∧ k.length ≤ 1000 := by decide +kernel
  have hn : kinds3.Nodup := by decide +kernel
  refine ⟨by rw [d.ks]; exact hn.sublist (List.take_sublist _ _), fun t ht => ?_⟩
  have : t.k ∈ ts.map Tr.k := List.mem_map.mpr ⟨t, ht, rfl⟩
  rw [d.ks] at this
  exact hk _ (List.mem_of_mem_take this)
theorem worth_snoc (ts : List Tr) (t : Tr) : worth (ts ++ [t]) = worth ts + 27720 / t.n * t.l := by
  unfold worth
  rw [List.map_append, List.sum_append]
  simp
/-- new tuples, one for each trade -/
def NewTr (H : Hp) (qs : List Addr) (ts : List Tr) : Prop := qs.length = ts.length ∧ ∀ (j : Nat) (q : Addr) (t : Tr), qs[j]? = some q → ts[j]? = some t → H q = some (.tup t.vs)
theorem NewTr.at_ {K : PySem.W.Frag} {H : Hp} {qs : List Addr} {ts : List Tr} {p : Addr} (n : NewTr H qs ts) (h : SqT K H p (qs.map V.ref)) : TrAt K H p ts := ⟨qs, h, n.1, fun i q t a b => SqT.of (n.2 i q t a b)⟩
theorem NewTr.mono {H H' : Hp} {qs : List Addr} {ts : List Tr} (n : NewTr H qs ts) (h : ∀ q xs, H q = some (.tup xs) → H' q = some (.tup xs)) : NewTr H' qs ts := ⟨n.1, fun j q t a b => h _ _ (n.2 j q t a b)⟩
theorem NewTr.snoc {H : Hp} {qs : List Addr} {ts : List Tr} {q : Addr} {t : Tr} (n : NewTr H qs ts) (h : H q = some (.tup t.vs)) : NewTr H (qs ++ [q]) (ts ++ [t]) := by
  refine ⟨by rw [List.length_append, List.length_append, n.1]; rfl, fun j q' t' hj ht' => ?_⟩
  rcases Nat.lt_or_ge j qs.length with z | z
  · rw [List.getElem?_append_left z] at hj
    rw [List.getElem?_append_left (by rw [← n.1]; exact z)] at ht'
    exact n.2 j q' t' hj ht'
  · rw [List.getElem?_append_right z] at hj
    rw [List.getElem?_append_right (by rw [← n.1]; exact z)] at ht'
    have ej : j - qs.length = 0 := by
      have := lt_of_at hj
      simp only [List.length_singleton] at this
      omega
    rw [ej] at hj
    rw [← n.1, ej] at ht'
    cases Option.some.inj hj
    cases Option.some.inj ht'
    exact h
theorem HS.keepT {H : Hp} {h l q : Addr} {xs : List V} {H0 : Hp} (x : HS H0 H h l) (e : H q = some (.tup xs)) : hid2 H h l q = some (.tup xs) := by
  obtain ⟨m, i, ns, e1, e2, _⟩ := x.ex
  exact HS.keep (H0 := H0) e (ne_of e e1 (by intro z; cases z)) (ne_of e e2 (by intro z; cases z))
section
variable {P : Program} {w : World} {K : PySem.W.Frag} {mg : Str → Option Value} {base : Heap} (T : Tx K mg)
include T
end
end EB

namespace EB
open PySem PySem.Spec PyProof.Rows L2
theorem upd_none {H : Hp} {a b : Addr} {o : HO} (h : upd H a o b = none) : b ≠ a ∧ H b = none := by
  have n : b ≠ a := fun z => by
    rw [z, upd_same] at h
    cases h
  rw [upd_ne n] at h
  exact ⟨n, h⟩
/-- what a new offer asks, its trades handed on one by one -/
theorem make_ok {K : PySem.W.Frag} {H : Hp} {ts : List Tr} {ps : List Addr} {Q : VK} {E : XK} {x dx : Addr} (h2 : ps.length = ts.length) (h3 : ∀ (i : Nat) (p : Addr) (t : Tr), ps[i]? = some p → ts[i]? = some t → SqT K H p t.vs)
    (hf : Fair ts) (hne : ts ≠ []) (hnm : nmOk ts) (nx : H x = none) (nd : H dx = none) (ned : dx ≠ x) (k : ∀ H', Same H H' → OfNew K H H' x ts → Q (.ref x) H') :
    ∃ ws rest, (V.ref x :: ps.map V.ref) = ws ++ rest ∧ ws.length = 1 ∧ rest.length ≤ sizeLine ∧ ∀ p, (upd (upd H dx (.own x)) x (.ins (He.ga K "Offer") dx [])) p = none →
      spInit K (ws ++ [V.ref p]) (upd (upd (upd H dx (.own x)) x (.ins (He.ga K "Offer") dx [])) p (.tup rest)) (fun v H2 => v = .non ∧ Q (.ref x) H2) E := by
  refine ⟨[.ref x], ps.map V.ref, rfl, rfl, ?_, fun p hp => ?_⟩
  · rw [List.length_map, h2]
    exact Nat.le_trans hf.g.1 (by decide)
  obtain ⟨npx, hp1⟩ := upd_none hp
  obtain ⟨npd, hp2⟩ := upd_none hp1
  have sH : Same H (upd H p (.tup (ps.map V.ref))) := same_new hp2
  refine ⟨x, p, upd H p (.tup (ps.map V.ref)), dx, ts, rfl, fun b o e => ?_, by rw [upd_ne npx.symm]; exact nx, by rw [upd_ne npx.symm]; exact upd_same, ⟨ps, SqT.of upd_same, h2, fun i q t a b => Same.tup sH (h3 i q t a b)⟩, hf, hne, hnm, fun H' s' o' => ⟨rfl, ?_⟩⟩
  · by_cases z : b = p
    · rw [z, upd_same] at e
      rw [z, upd_same]
      exact e
    · rw [upd_ne z] at e
      rw [upd_ne z, upd_ne (ne_of_none e nx), upd_ne (ne_of_none e nd)]
      exact e
  · obtain ⟨d, t, q, o, f, g, e1, e2, e3, e4, e5, e6, n1, n2, n3⟩ := o'.ex
    exact k _ (sH.trans s') ⟨d, t, q, o, f, g, e1, e2, e3, e4, e5, e6, (upd_none n1).2, (upd_none n2).2, (upd_none n3).2⟩
section
variable {P : Program} {w : World} {K : PySem.W.Frag} {mg : Str → Option Value} {base : Heap} (T : Tx K mg)
include T
/-! ### an offer's methods -/
def spDF (K : PySem.W.Frag) : Sp := fun vs H Q _ => ∃ (a : Addr) (ts : List Tr) (n : Nat), vs = [.ref a, .int (n : Nat)] ∧ OfAt K H a ts ∧ Fair ts ∧ Q (.int (D (cN ts) n : Nat)) H
theorem ok_Offer_drinks_for : FnR P w K mg base CX0 2 (a_Offer_drinks_for K) (spDF K) := by
  refine fnR0 (d := d_Offer_drinks_for) T.F_Offer_drinks_for sc_Offer_drinks_for rfl (fun _ _ _ _ _ _ us hl => match us, hl with | [_, _], _ => rfl) (fun vs H Q E h => ?_) (fun cdv A outer s H vs Q E hr h => ?_)
  · obtain ⟨a, ts, n, rfl, _⟩ := h
    rfl
  obtain ⟨a, ts, n, rfl, ho, hf, k⟩ := h
  obtain ⟨dx, t, p, o, f, g, e1, e2, e3, e4, e5, e6⟩ := ho.ex
  refine ⟨_, (pss_cons (ps_asg (pe_fld (pv 0) rfl) (pg_tup rfl (pgs_cons (pg_name (i := 2) sc_Offer_drinks_for.nd rfl (Or.inl rfl)) (pgs_cons (pg_name (i := 3) sc_Offer_drinks_for.nd rfl (Or.inl rfl)) pgs_nil)))) (pss_one (ps_ret (pe_cR (ok_value_at T) (hr.mono (by decide)) T.F_value_at.kp T.g_value_at pass0 (pa_cons (pe_fld (pv 0) rfl) (pa_cons (pv 1) (pa_cons (pv 2) (pa_cons (pv 3) pa_nil)))))))), ?_⟩
  refine ⟨_, rfl, a, _, dx, _, _, rfl, e1, T.k_Offer, T.na_period, lk_period, p, _, rfl, e3, rfl, _, _, rfl, _, _, rfl, rfl, ?_⟩
  refine ⟨_, rfl, a, _, dx, _, _, rfl, e1, T.k_Offer, T.na_firsts, lk_firsts, _, rfl, _, rfl, _, rfl, f, firstsL ts, n, perB ts, per ts, rfl, e5, by omega, ?_, ?_, ?_, ?_, ?_, ?_⟩
  all_goals have hp := per_le' hf.g
  all_goals have hb := (cf hf).bpos
  all_goals have hB := perB_le hf
  · omega
  · omega
  · omega
  · omega
  · have ht := (cf hf).T_per (d := per ts - 1) (by have := per_pos hf.g; omega)
    have h0 := (cf hf).T_nonneg (per ts - 1)
    have e : per ts - 1 + per ts = 2 * per ts - 1 := by have := per_pos hf.g; omega
    rw [e] at ht
    rw [List.length_map, List.length_range]
    omega
  · rw [value_firsts (cf hf)]
    exact k
def spCall (K : PySem.W.Frag) : Sp := fun vs H Q _ => ∃ (a : Addr) (ts : List Tr) (n : Nat), vs = [.ref a, .int (n : Nat)] ∧ OfAt K H a ts ∧ Fair ts ∧ n ≤ 1000000000000000000 ∧ Q (.int (D (cN ts) n : Nat)) H
theorem ok_Offer_call : FnR P w K mg base CX0 4 (a_Offer_call K) (spCall K) := by
  refine fnR0 (d := d_Offer_call) T.F_Offer_call sc_Offer_call rfl (fun _ _ _ _ _ _ us hl => match us, hl with | [_, _], _ => rfl) (fun vs H Q E h => ?_) (fun cdv A outer s H vs Q E hr h => ?_)
  · obtain ⟨a, ts, n, rfl, _⟩ := h
    rfl
  obtain ⟨a, ts, n, rfl, ho, hf, hn, k⟩ := h
  obtain ⟨dx, t, p, o, f, g, e1, e2, e3, e4, e5, e6⟩ := ho.ex
  refine ⟨_, (pss_cons (ps_expr (pe_cR (ok_check_number T) (hr.mono (by decide)) T.F_check_number.kp T.g_check_number pass0 (pa_cons (pv 1) pa_nil))) (pss_one (ps_ret (pe_methR (pv 0) T.k_Offer T.m_Offer_drinks_for (ok_Offer_drinks_for T) (hr.mono (by decide)) pass0 (pa_cons (pv 1) pa_nil))))), ?_⟩
  refine ⟨_, rfl, n, rfl, by omega, by omega, ?_⟩
  exact ⟨_, rfl, a, dx, _, rfl, e1, lk_no (by decide +kernel), _, rfl, a, ts, n, rfl, ho, hf, k⟩
end
end EB

namespace EB
open PySem PySem.Spec PyProof.Rows L2
/-! ### the other source of draws: a list at q that holds the script, a place, a seed, the rest of a large cell -/
def hq (H : Hp) (q : Addr) : Hp := fun b => if b = q then none else H b
theorem hq_q {H : Hp} {q : Addr} : hq H q q = none := if_pos rfl
theorem hq_ne {H : Hp} {q b : Addr} (h : b ≠ q) : hq H q b = H b := if_neg h
theorem hq_same {H : Hp} {q : Addr} : Same (hq H q) H := fun b o e => by
  by_cases z : b = q
  · rw [z, hq_q] at e
    cases e
  · rw [hq_ne z] at e
    exact e
structure DS (K : PySem.W.Frag) (H0 H : Hp) (q a : Addr) (ns : List Int) : Prop where
  same : Same H0 H
  nq : H0 q = none
  sc : SqL K H0 a (ns.map V.int)
  ex : ∃ i m r : Int, H q = some (.lst [.ref a, .int i, .int m, .int r]) ∧ 0 ≤ i ∧ 0 ≤ m ∧ m < 2147483647 ∧ 0 ≤ r
theorem DS.grow {K : PySem.W.Frag} {H0 H H' : Hp} {q a : Addr} {ns : List Int} (x : DS K H0 H q a ns) (s : Same H H') : DS K H0 H' q a ns := by
  obtain ⟨i, m, r, e, h⟩ := x.ex
  exact ⟨x.same.trans s, x.nq, x.sc, i, m, r, s _ _ e, h⟩
theorem DS.sub {K : PySem.W.Frag} {H0 H : Hp} {q a : Addr} {ns : List Int} (x : DS K H0 H q a ns) : Same H0 (hq H q) := fun b o e => by
  rw [hq_ne (ne_of_none e x.nq)]
  exact x.same b o e
theorem DS.re {K : PySem.W.Frag} {H0 H : Hp} {q a : Addr} {ns : List Int} (x : DS K H0 H q a ns) : DS K (hq H q) H q a ns := ⟨hq_same, hq_q, x.sub.seq x.sc, x.ex⟩
theorem DS.down {K : PySem.W.Frag} {H0 H H' : Hp} {q a : Addr} {ns : List Int} (x : DS K H0 H q a ns) (y : DS K (hq H q) H' q a ns) : DS K H0 H' q a ns := ⟨x.sub.trans y.same, x.nq, x.sc, y.ex⟩
theorem DS.new {K : PySem.W.Frag} {H0 H : Hp} {q a b : Addr} {ns : List Int} (x : DS K H0 H q a ns) (n : H b = none) : b ≠ q := by
  obtain ⟨i, m, r, e, _⟩ := x.ex
  exact (ne_of_none e n).symm
theorem DS.keep {H : Hp} {q b : Addr} {o : HO} (e : H b = some o) (n : b ≠ q) : hq H q b = some o := by
  rw [hq_ne n]
  exact e
theorem DS.keepO {K : PySem.W.Frag} {H0 H : Hp} {q a b : Addr} {ns : List Int} {o : HO} (x : DS K H0 H q a ns) (e : H b = some o) (h : ∀ xs, o ≠ .lst xs) : hq H q b = some o := by
  obtain ⟨i, m, r, e', _⟩ := x.ex
  exact DS.keep e (ne_of e e' (h _))
theorem DS.mut {K : PySem.W.Frag} {H0 H : Hp} {q a b : Addr} {ns : List Int} {o : HO} (x : DS K H0 H q a ns) (n : H0 b = none) (h : b ≠ q) : DS K H0 (upd H b o) q a ns := by
  obtain ⟨i, m, r, e, z⟩ := x.ex
  exact ⟨same_mut x.same n, x.nq, x.sc, i, m, r, by rw [upd_ne h.symm]; exact e, z⟩
section
variable {P : Program} {w : World} {K : PySem.W.Frag} {mg : Str → Option Value} {base : Heap} (T : Tx K mg)
include T
def spStart (K : PySem.W.Frag) : Sp := fun vs H Q _ => ∃ (a : Addr) (ns : List Int), vs = [.ref a] ∧ SqL K H a (ns.map V.int) ∧ ∀ H' q, DS K H H' q a ns → Q (.ref q) H'
theorem ok_law_start : FnR P w K mg base CX0 1 (a_law_start K) (spStart K) := by
  refine fnR0 (d := d_law_start) T.F_law_start sc_law_start rfl (fun _ _ _ _ _ _ us hl => match us, hl with | [_], _ => rfl) (fun vs H Q E h => ?_) (fun cdv A outer s H vs Q E hr h => ?_)
  · obtain ⟨a, ns, rfl, _⟩ := h
    rfl
  obtain ⟨a, ns, rfl, hS, k⟩ := h
  refine ⟨_, (pss_cons (ps_set (i := 1) sc_law_start.nd rfl (Or.inl rfl) pe_int) (pss_cons (ps_for PassesOwn.never rfl (pi_list (pv 0)) (pg_name (i := 2) sc_law_start.nd rfl (Or.inl rfl)) (pss_one (ps_set (i := 1) sc_law_start.nd rfl (Or.inl rfl) (pe_op op_mod (pe_op op_add (pe_op op_add (pe_op op_mul (pv 1) pe_int) (pv 2)) pe_int) pe_int)))) (pss_one (ps_ret (pe_lst (pa_cons (pv 0) (pa_cons pe_int (pa_cons (pv 1) (pa_cons pe_int pa_nil))))))))), ?_⟩
  refine ⟨_, rfl, a, rfl, ⟨_, hS⟩, for_list (K := K) (a := a) (xs := ns.map V.int) (fun i σ H1 => H1 = H ∧ ∃ (m : Int) (x : Option V), 0 ≤ m ∧ m < 2147483647 ∧ σ = [some (.ref a), some (.int m), x]) ⟨rfl, 1, none, by decide, by decide, rfl⟩ (fun i σ H1 _ q => by rw [q.1]; exact hS) ?_ ?_⟩
  · rintro i x σ H1 hx ⟨rfl, m, x3, m0, m1, rfl⟩
    obtain ⟨c, ec, rfl⟩ := int_at hx
    refine ⟨_, rfl, _, _, rfl, rfl, .inr ⟨by decide, by decide⟩, _, rfl, _, _, rfl, rfl, _, _, rfl, rfl, _, _, rfl, rfl, by show (0 : Int) < 2147483647; decide, rfl, _, some (.int c), ?_, ?_, rfl⟩
    · exact Int.emod_nonneg _ (by decide)
    · exact Int.emod_lt_of_pos _ (by decide)
  · rintro σ H1 ⟨rfl, m, x3, m0, m1, rfl⟩
    refine ⟨_, rfl, _, rfl, by show 4 ≤ sizeLine; decide, fun q nq => k _ q ⟨same_new nq, nq, hS, 0, m, 0, upd_same, by decide, m0, m1, by decide⟩⟩
def spDrawn (K : PySem.W.Frag) : Sp := fun vs H Q _ => ∃ (q a : Addr) (ns : List Int) (lim : Int) (H0 : Hp), vs = [.ref q, .int lim] ∧ 0 < lim ∧ lim ≤ 2000000000000000000 ∧ DS K H0 H q a ns ∧ ∀ H' r, DS K H0 H' q a ns → 0 ≤ r → r < lim → Q (.int r) H'
theorem ok_law_drawn : FnR P w K mg base CX0 1 (a_law_drawn K) (spDrawn K) := by
  refine fnR0 (d := d_law_drawn) T.F_law_drawn sc_law_drawn rfl (fun _ _ _ _ _ _ us hl => match us, hl with | [_, _], _ => rfl) (fun vs H Q E h => ?_) (fun cdv A outer s H vs Q E hr h => ?_)
  · obtain ⟨q, a, ns, lim, H0, rfl, _⟩ := h
    rfl
  obtain ⟨q, a, ns, lim, H0, rfl, l0, l1, x, k⟩ := h
  obtain ⟨i, m, r, e, i0, m0, m1, r0⟩ := x.ex
  refine ⟨_, (pss_cons (ps_if (pt_cmpR op_gt (pe_ix ix_list (pv 0) pe_int (fun _ _ => rfl)) pe_int (nomark _)) (pss_cons (ps_set (i := 2) sc_law_drawn.nd rfl (Or.inl rfl) (pe_op op_mod (pe_ix ix_list (pv 0) pe_int (fun _ _ => rfl)) (pv 1))) (pss_cons (ps_asg (pe_op op_fdivW (pe_ix ix_list (pv 0) pe_int (fun _ _ => rfl)) (pv 1)) (pg_sub (pv 0) pe_int set_list)) (pss_one (ps_ret (pv 2))))) pss_nil) (pss_cons (ps_asg (pe_op op_add (pe_ix ix_list (pv 0) pe_int (fun _ _ => rfl)) pe_int) (pg_sub (pv 0) pe_int set_list)) (pss_cons (ps_if (pt_cmpR op_le (pe_ix ix_list (pv 0) pe_int (fun _ _ => rfl)) (pe_callB call_len_seq (by rfl) T.n_len PySem.boot_len (pa_cons (pe_ix ix_list (pv 0) pe_int (fun _ _ => rfl)) pa_nil)) (nomark _)) (pss_cons (ps_set (i := 3) sc_law_drawn.nd rfl (Or.inl rfl) (pe_ix ix_list (pe_ix ix_list (pv 0) pe_int (fun _ _ => rfl)) (pe_op op_sub (pe_ix ix_list (pv 0) pe_int (fun _ _ => rfl)) pe_int) (fun _ _ => rfl))) (pss_cons (ps_asg (pe_ifExp (pt_cmpR op_ge (pv 3) (pe_op op_pow pe_int pe_int) (nomark _)) (pe_op op_fdivW (pv 3) (pv 1)) pe_int) (pg_sub (pv 0) pe_int set_list)) (pss_one (ps_ret (pe_op op_mod (pv 3) (pv 1)))))) pss_nil) (pss_cons (ps_asg (pe_op op_mod (pe_op op_add (pe_op op_mul (pe_ix ix_list (pv 0) pe_int (fun _ _ => rfl)) pe_int) pe_int) pe_int) (pg_sub (pv 0) pe_int set_list)) (pss_one (ps_ret (pe_op op_mod (pe_op op_fdiv (pe_ix ix_list (pv 0) pe_int (fun _ _ => rfl)) pe_int) (pv 1)))))))), ?_⟩
  have wdv : ∀ z : Int, CDivW z lim := fun z => wide_div l0 (b := 64) (Nat.lt_of_le_of_lt (show lim.natAbs ≤ 2000000000000000000 by omega) (by decide)) (by decide) (by decide)
  refine ⟨_, rfl, q, _, 3, _, rfl, rfl, SqL.of e, rfl, _, _, rfl, rfl, _, rfl, ite2 (fun hd => ?_) (fun hd => ?_)⟩
  · refine ⟨_, rfl, q, _, 3, _, rfl, rfl, SqL.of e, rfl, _, rfl, _, _, rfl, rfl, l0, ?_⟩
    refine ⟨_, rfl, q, _, 3, _, rfl, rfl, SqL.of e, rfl, _, rfl, _, _, rfl, rfl, wdv _, _, rfl, q, _, 3, 3, rfl, rfl, e, rfl, ?_⟩
    refine ⟨_, rfl, k _ _ ⟨same_mut x.same x.nq, x.nq, x.sc, i, m, r / lim, upd_same, i0, m0, m1, Int.ediv_nonneg r0 (Int.le_of_lt l0)⟩ (Int.emod_nonneg _ (Int.ne_of_gt l0)) (Int.emod_lt_of_pos _ l0)⟩
  refine ⟨_, rfl, q, _, 1, _, rfl, rfl, SqL.of e, rfl, _, _, rfl, rfl, _, rfl, q, _, 1, 1, rfl, rfl, e, rfl, ?_⟩
  have s1 : Same H0 (upd H q (.lst ([V.ref a, .int i, .int m, .int r].set 1 (.int (i + 1))))) := same_mut x.same x.nq
  have e1 : upd H q (.lst ([V.ref a, .int i, .int m, .int r].set 1 (.int (i + 1)))) q = some (.lst [V.ref a, .int (i + 1), .int m, .int r]) := upd_same
  dsimp only
  generalize upd H q (.lst ([V.ref a, .int i, .int m, .int r].set 1 (.int (i + 1)))) = H1 at s1 e1
  have hS := s1.seq x.sc
  refine ⟨_, rfl, q, _, 1, _, rfl, rfl, SqL.of e1, rfl, _, rfl, q, _, 0, _, rfl, rfl, SqL.of e1, rfl, a, _, rfl, .inl hS, _, _, rfl, rfl, _, rfl, ite2 (fun hc => ?_) (fun hc => ?_)⟩
  · have hc : i + 1 ≤ ((ns.map V.int).length : Int) := of_decide_eq_true hc
    rw [List.length_map] at hc
    obtain ⟨c, ec⟩ : ∃ c, ns[i.toNat]? = some c := ⟨_, List.getElem?_eq_getElem (by omega)⟩
    refine ⟨_, rfl, q, _, 0, _, rfl, rfl, SqL.of e1, rfl, _, rfl, q, _, 1, _, rfl, rfl, SqL.of e1, rfl, _, _, rfl, rfl, a, _, _, _, rfl, rfl, hS, at_of (j := i.toNat) (by omega) (by rw [List.getElem?_map, ec]; rfl), ?_⟩
    refine ⟨_, rfl, _, _, rfl, rfl, ⟨by decide, by decide, by decide⟩, _, _, rfl, rfl, _, rfl, ite2 (fun hg => ?_) (fun hg => ?_)⟩
    · have hg : (10 : Int) ^ (18 : Int).toNat ≤ c := of_decide_eq_true hg
      have hc0 : 0 ≤ c := Int.le_trans (by decide) hg
      refine ⟨_, rfl, _, rfl, _, _, rfl, rfl, wdv _, _, rfl, q, _, 3, 3, rfl, rfl, e1, rfl, ?_⟩
      exact ⟨_, rfl, _, rfl, _, _, rfl, rfl, l0, k _ _ ⟨same_mut s1 x.nq, x.nq, x.sc, i + 1, m, c / lim, upd_same, by omega, m0, m1, Int.ediv_nonneg hc0 (Int.le_of_lt l0)⟩ (Int.emod_nonneg _ (Int.ne_of_gt l0)) (Int.emod_lt_of_pos _ l0)⟩
    · refine ⟨_, rfl, q, _, 3, 3, rfl, rfl, e1, rfl, ?_⟩
      exact ⟨_, rfl, _, rfl, _, _, rfl, rfl, l0, k _ _ ⟨same_mut s1 x.nq, x.nq, x.sc, i + 1, m, 0, upd_same, by omega, m0, m1, Int.le_refl _⟩ (Int.emod_nonneg _ (Int.ne_of_gt l0)) (Int.emod_lt_of_pos _ l0)⟩
  · refine ⟨_, rfl, q, _, 2, _, rfl, rfl, SqL.of e1, rfl, _, _, rfl, rfl, .inr ⟨by decide, by decide⟩, _, _, rfl, rfl, _, _, rfl, rfl, by show (0 : Int) < 2147483647; decide, _, rfl, q, _, 2, 2, rfl, rfl, e1, rfl, ?_⟩
    have b0 : 0 ≤ (m * 48271 + 11) % 2147483647 := Int.emod_nonneg _ (by decide)
    have b1 : (m * 48271 + 11) % 2147483647 < 2147483647 := Int.emod_lt_of_pos _ (by decide)
    have e3 : upd H1 q (.lst ([V.ref a, .int (i + 1), .int m, .int r].set 2 (.int ((m * 48271 + 11) % 2147483647)))) q = some (.lst [V.ref a, .int (i + 1), .int ((m * 48271 + 11) % 2147483647), .int r]) := upd_same
    refine ⟨_, rfl, q, _, 2, _, rfl, rfl, SqL.of e3, rfl, _, _, rfl, rfl, ⟨by decide, by decide⟩, _, rfl, _, _, rfl, rfl, l0, ?_⟩
    exact k _ _ ⟨same_mut s1 x.nq, x.nq, x.sc, i + 1, _, r, e3, by omega, b0, b1, r0⟩ (Int.emod_nonneg _ (Int.ne_of_gt l0)) (Int.emod_lt_of_pos _ l0)
end
end EB

namespace EB
open PySem PySem.Spec PyProof.Rows L2
theorem gather_all : ∀ (l e : List (Str × Value)) (s : List (Str × Value)), l.foldl (fun (b : List (Str × Value) × List (Str × Value)) (a : Str × Value) => (b.1, b.2 ++ [(a.1, a.2)])) (s, e) = (s, e ++ l)
  | [], e, s => by rw [List.append_nil]; rfl
  | a :: l, e, s => by
    rw [List.foldl_cons, gather_all l, List.append_assoc]
    rfl
theorem bind_stock (Tt : Addr) (kV doc pm : Value) (an : Option Addr) (cdv ct u0 u1 x0 : Value) (kws : List (Str × Value)) (h : ∀ p ∈ kws, p.1 ∉ (["this_stock", "full"] : List Str)) (hl : kws.length ≤ 1000) :
    ∃ k, bindArgs (PySem.W.fnOf d_Stock_init.nm d_Stock_init.ql (defArgs d_Stock_init.st) (defBody d_Stock_init.st) (defScope d_Stock_init.st) (.ref Tt) kV doc pm an cdv ct) ⟨[u0, u1], kws⟩ = seqItems? (.ref Tt) >>= k ∧ k (some [x0].toArray) = EBW.kwTail kws [("this_stock", u0), ("full", u1)] "pieces" := by
  have e1 : (defArgs d_Stock_init.st).posonlyargs.map (·.arg) = [] := by kernel_rfl
  have e2 : (defArgs d_Stock_init.st).args.map (·.arg) = (["this_stock", "full"] : List Str) := by kernel_rfl
  have e3 : (defArgs d_Stock_init.st).kwonlyargs.map (·.arg) = [] := by kernel_rfl
  have e4 : (defArgs d_Stock_init.st).vararg = none := by kernel_rfl
  obtain ⟨pa, e5, e6⟩ : ∃ a, (defArgs d_Stock_init.st).kwarg = some a ∧ a.arg = "pieces" := by
    refine ⟨_, rfl, ?_⟩
    kernel_rfl
  unfold bindArgs
  simp only [PySem.W.fnOf, e1, e2, e3, e4, e5, e6, List.nil_append, List.append_nil]
  rw [EBW.forIn_gather (g := fun (b : List (Str × Value) × List (Str × Value)) (a : Str × Value) => (b.1, b.2 ++ [(a.1, a.2)])) kws _ fun a m b => ?hstep]
  case hstep =>
    have hn : ((["this_stock", "full"] : List Str).contains a.1 || ([] : List Str).contains a.1) = false := by
      have := h a m
      rw [Bool.or_eq_false_iff]
      refine ⟨?_, rfl⟩
      rw [Bool.eq_false_iff]
      intro z
      exact this (List.contains_iff_mem.mp z)
    rw [hn]
    rfl
  rw [gather_all]
  refine ⟨_, rfl, ?_⟩
  have z : ¬ (kws.length > sizeLine + 1) := by
    have h2 : (1000 : Nat) ≤ sizeLine := by decide
    omega
  simp only [List.nil_append, eq_false z, if_false]
  rfl
end EB

namespace EB
open PySem PySem.Spec PyProof.Rows L2
/-! ### stocks -/
/-- a dict of numbers of pieces -/
def mK (M : List (Str × Int)) : List (Key × V) := M.map fun p => (.inr p.1, .int p.2)
def stkF (n : Int) (d : Addr) : List (Str × V) := [("_filled", .int n), ("_loose", .ref d)]
structure StkAt (K : PySem.W.Frag) (H : Hp) (x : Addr) (n : Int) (M : List (Str × Int)) : Prop where
  ex : ∃ dx d, H x = some (.ins (He.ga K "Stock") dx (stkF n d)) ∧ Rd H d (.dK (mK M))
structure StkNew (K : PySem.W.Frag) (H0 H : Hp) (x : Addr) (n : Int) (M : List (Str × Int)) : Prop where
  ex : ∃ dx d, H x = some (.ins (He.ga K "Stock") dx (stkF n d)) ∧ H d = some (.dK (mK M)) ∧ H0 d = none
/-- the number of pieces of a kind -/
def vL (L : List (Str × Int)) (k : Str) : Int := (L.lookup k).getD 0
/-- numbers of pieces that a stock takes -/
def okL (L : List (Str × Int)) : Prop := (L.map (·.1)).Nodup ∧ ∀ p ∈ L, kindOk p.1 = true ∧ p.1.length ≤ 1000 ∧ 0 ≤ p.2 ∧ p.2 ≤ 1000000000000000000
/-- what the stock keeps of them -/
def IsM (L M : List (Str × Int)) : Prop := ∃ ys : List Str, ys.Perm (L.map (·.1)) ∧ sortedS ys = true ∧ M = (ys.map fun k => (k, vL L k)).filter fun p => decide (0 < p.2)
theorem mK_val {k : Str} : ∀ {L : List (Str × Int)}, k ∈ L.map (·.1) → valV (mK L) (.inr k) = some (.int (vL L k))
  | [], h => by cases h
  | p :: L, h => by
    by_cases e : p.1 = k
    · unfold vL
      rw [List.lookup_cons, show (k == p.1) = true from beq_iff_eq.mpr e.symm]
      exact valV_pos (p := ((Sum.inr p.1 : Key), V.int p.2)) (by rw [e])
    · rw [List.map_cons] at h
      have h1 : k ∈ L.map (·.1) := by
        rcases List.mem_cons.mp h with z | z
        · exact absurd z.symm e
        · exact z
      have h2 : vL (p :: L) k = vL L k := by
        unfold vL
        rw [List.lookup_cons, show (k == p.1) = false from beq_eq_false_iff_ne.mpr (Ne.symm e)]
      rw [h2, ← mK_val h1]
      exact valV_neg (p := ((Sum.inr p.1 : Key), V.int p.2)) fun z => e (Sum.inr.inj z)
theorem vL_of : ∀ {L : List (Str × Int)} {p : Str × Int}, (L.map (·.1)).Nodup → p ∈ L → vL L p.1 = p.2
  | q :: L, p, hn, h => by
    rw [List.map_cons, List.nodup_cons] at hn
    unfold vL
    rw [List.lookup_cons]
    rcases List.mem_cons.mp h with rfl | h
    · rw [show (p.1 == p.1) = true from beq_self_eq_true _]
      rfl
    · have ne : p.1 ≠ q.1 := fun e => hn.1 (by rw [← e]; exact List.mem_map.mpr ⟨p, h, rfl⟩)
      rw [show (p.1 == q.1) = false from beq_eq_false_iff_ne.mpr ne]
      exact vL_of hn.2 h
/-- the entries of a list of kinds that are not nothing -/
def mF (L : List (Str × Int)) (ys : List Str) : List (Str × Int) := (ys.map fun k => (k, vL L k)).filter fun p => decide (0 < p.2)
theorem mF_snoc (L : List (Str × Int)) (ys : List Str) (y : Str) : mF L (ys ++ [y]) = if 0 < vL L y then mF L ys ++ [(y, vL L y)] else mF L ys := by
  unfold mF
  rw [List.map_append, List.filter_append, List.map_cons, List.map_nil]
  by_cases h : 0 < vL L y
  · rw [if_pos h, List.filter_cons_of_pos (by show decide (0 < vL L y) = true; exact decide_eq_true h), List.filter_nil]
  · rw [if_neg h, List.filter_cons_of_neg (by show ¬ decide (0 < vL L y) = true; intro z; exact h (of_decide_eq_true z)), List.filter_nil, List.append_nil]
theorem mF_keys {L : List (Str × Int)} {ys : List Str} {k : Str} (h : k ∈ (mF L ys).map (·.1)) : k ∈ ys := by
  obtain ⟨p, hp, rfl⟩ := List.mem_map.mp h
  obtain ⟨z, hz, rfl⟩ := List.mem_map.mp (List.mem_filter.mp hp).1
  exact hz
theorem mF_len (L : List (Str × Int)) (ys : List Str) : (mF L ys).length ≤ ys.length := by
  unfold mF
  refine Nat.le_trans (List.length_filter_le _ _) ?_
  rw [List.length_map]
  exact Nat.le_refl _
theorem mK_put {M : List (Str × Int)} {k : Str} {v : Int} (h : k ∉ M.map (·.1)) : putK (mK M) (.inr k) (.int v) = mK (M ++ [(k, v)]) := by
  rw [L2.putK_new (.int v) (k := (Sum.inr k : Key)) (kvs := mK M) ?_]
  · unfold mK
    rw [List.map_append]
    rfl
  · induction M with
    | nil => rfl
    | cons p M ih =>
      rw [List.map_cons, List.mem_cons, not_or] at h
      show valV (((Sum.inr p.1 : Key), V.int p.2) :: mK M) _ = _
      rw [valV_neg fun z => h.1 (Sum.inr.inj z).symm]
      exact ih h.2
section
variable {P : Program} {w : World} {K : PySem.W.Frag} {mg : Str → Option Value} {base : Heap} (T : Tx K mg)
include T
def spChkP (K : PySem.W.Frag) : Sp := fun vs H Q _ => ∃ (a d : Addr) (ys : List Str) (L : List (Str × Int)), vs = [.ref a, .ref d] ∧ SqL K H a (ys.map V.str) ∧ H d = some (.dK (mK L)) ∧ okL L ∧ (∀ y ∈ ys, y ∈ L.map (·.1)) ∧ ∀ H', Same H H' → Q .non H'
theorem ok_check_pieces : FnR P w K mg base CX0 4 (a_check_pieces K) (spChkP K) := by
  refine fnR0 (d := d_check_pieces) T.F_check_pieces sc_check_pieces rfl (fun _ _ _ _ _ _ us hl => match us, hl with | [_, _], _ => rfl) (fun vs H Q E h => ?_) (fun cdv A outer s H vs Q E hr h => ?_)
  · obtain ⟨a, d, ys, L, rfl, _⟩ := h
    rfl
  obtain ⟨a, d, ys, L, rfl, hS, hd, hL, hy, k⟩ := h
  refine ⟨_, (pss_one (ps_for PassesOwn.never rfl (pi_list (pv 0)) (pg_name (i := 2) sc_check_pieces.nd rfl (Or.inl rfl)) (pss_cons (ps_if (pt_not (pt_val (pe_cR (ok_is_kind T) (hr.mono (by decide)) T.F_is_kind.kp T.g_is_kind pass0 (pa_cons (pv 2) pa_nil)))) (pss_one ps_never) pss_nil) (pss_one (ps_expr (pe_cR (ok_check_number T) (hr.mono (by decide)) T.F_check_number.kp T.g_check_number pass0 (pa_cons (pe_dget (hu_of hr) (pv 1) (pv 2) (fun _ _ => rfl)) pa_nil))))))), ?_⟩
  refine ⟨_, rfl, a, rfl, ⟨_, hS⟩, for_list (K := K) (a := a) (xs := ys.map V.str) (fun i σ H1 => Same H H1 ∧ ∃ x, σ = [some (.ref a), some (.ref d), x]) ⟨Same.refl _, none, rfl⟩ (fun i σ H1 _ q => q.1.seq hS) ?_ ?_⟩
  · rintro i x σ H1 hx ⟨s1, x3, rfl⟩
    rw [List.getElem?_map] at hx
    obtain ⟨y, ey, rfl⟩ := Option.map_eq_some_iff.mp hx
    obtain ⟨p, hp, e⟩ := List.mem_map.mp (hy y (List.mem_of_getElem? ey))
    have hk := hL.2 p hp
    rw [e] at hk
    have hv : vL L y = p.2 := by
      rw [← e]
      exact vL_of hL.1 hp
    refine ⟨_, rfl, y, rfl, hk.2.1, fun H2 s2 => ⟨_, rfl, ?_⟩⟩
    rw [hk.1]
    refine iteF ?_
    have hg := DGet.k (k := .inr y) ((s1.trans s2) _ _ hd)
    rw [mK_val (hy y (List.mem_of_getElem? ey)), hv] at hg
    exact ⟨_, rfl, _, rfl, d, .int p.2, rfl, hg, p.2, rfl, hk.2.2.1, hk.2.2.2, s1.trans s2, _, rfl⟩
  · rintro σ H1 ⟨s1, x3, rfl⟩
    exact k _ s1
def spStkI (K : PySem.W.Frag) : Sp := fun vs H Q _ => ∃ (x d dx : Addr) (n : Int) (L : List (Str × Int)) (H0 : Hp), vs = [.ref x, .int n, .ref d] ∧ Same H0 H ∧ H0 x = none ∧ H x = some (.ins (He.ga K "Stock") dx []) ∧ H d = some (.dK (mK L)) ∧ H0 d = none ∧ okL L ∧ L.length < 64 ∧ 0 ≤ n ∧ n ≤ 1000000000000000000 ∧
  ∀ H' M, Same H0 H' → StkNew K H0 H' x n M → IsM L M → Q .non H'
theorem stk_body (cdv : Value) (A : Around) (outer : List Env) (s : Shared) (H : Hp) (vs : List V) (Q : VK) (E : XK) (hr : Room 4 (A.deeper (envOfC d_Stock_init.ql (defScope d_Stock_init.st) s.heap.objs.size (d_Stock_init.adr K) cdv))) (h : spStkI K vs H Q E) :
    ∃ t, PSs (cxOf L2.CX0 P w K mg base N_Stock_init d_Stock_init.ql (defScope d_Stock_init.st) (d_Stock_init.adr K) cdv A outer s H E).nox (defBody d_Stock_init.st) t ∧ t { nx := fun _ H' => Q .non H', rt := Q } (start N_Stock_init vs) H := by
  obtain ⟨x, d, dx, n, L, H0, rfl, s0, nx, hx, hd, nd, hL, h64, h0, h1, k⟩ := h
  refine ⟨_, (pss_cons (ps_expr (pe_cR (ok_check_number T) (hr.mono (by decide)) T.F_check_number.kp T.g_check_number pass0 (pa_cons (pv 1) pa_nil))) (pss_cons (ps_set (i := 3) sc_Stock_init.nd rfl (Or.inl rfl) (pe_callB cr_sortedS (by rfl) T.n_sorted (by decide +kernel) (pa_cons (pe_lock (pe_lc (own := [("kind", 4)]) rfl sc_Stock_init.nd (pi_keys (pv 2)) (blkOk_by (own := [("kind", 4)]) (N := N_Stock_init) (sc := defScope s_Stock_init) (by decide +kernel)) (fun _ _ _ _ _ => (pg_name (i := 4) sc_Stock_init.nd rfl (Or.inl rfl) (.inr rfl))) (fun _ _ _ _ _ => pts_nil) (fun _ _ _ _ _ => (pe_callTy SkE.call_str_str (by rfl) T.n_str (by decide +kernel) (pa_cons (pv 4) pa_nil))))) pa_nil))) (pss_cons (ps_expr (pe_cR (ok_check_pieces T) (hr.mono (by decide)) T.F_check_pieces.kp T.g_check_pieces pass0 (pa_cons (pv 3) (pa_cons (pv 2) pa_nil)))) (pss_cons (ps_fld (pv 0) (pv 1) rfl) (pss_one (ps_fld (pv 0) (pe_dc (own := [("kind", 4)]) rfl sc_Stock_init.nd (pi_list (pv 3)) (blkOk_by (own := [("kind", 4)]) (N := N_Stock_init) (sc := defScope s_Stock_init) (by decide +kernel)) (fun _ _ _ _ _ => (pg_name (i := 4) sc_Stock_init.nd rfl (Or.inl rfl) (.inr rfl))) (fun _ _ _ _ _ => (pts_one (pt_cmpR op_gt (pe_dget (hu_of hr) (pv 2) (pv 4) (fun _ _ => rfl)) pe_int (nomark _)))) (fun _ _ _ _ _ => (pv 4)) (fun _ _ _ _ _ => (pe_dget (hu_of hr) (pv 2) (pv 4) (fun _ _ => rfl)))) rfl)))))), ?_⟩
  refine ⟨_, rfl, n, rfl, h0, h1, ?_⟩
  refine ⟨d, .dK (mK L), hd, trivial, fun od => ?_⟩
  refine ⟨_, rfl, d, od, rfl, .inl ⟨mK L, upd_same, fun D nD => ?_⟩⟩
  refine lc_it (walk_keys (d := d) (o := od) (kvs := mK L)) (fun i H2 => Same (upd H d (.frz od (.dK (mK L)))) H2 ∧ H2 D = some (.lst ((L.take i).map fun p => V.str p.1))) ⟨same_new nD, upd_same⟩ (fun i H2 _ q => q.1 _ _ upd_same) ?_ ?_
  · rintro i y H2 H2' hi ⟨s2, e2⟩ ⟨rfl, kk, v, ek, rfl⟩
    unfold mK at ek hi
    rw [List.getElem?_map] at ek
    obtain ⟨p, ep, e3⟩ := Option.map_eq_some_iff.mp ek
    cases e3
    have hm := List.mem_of_getElem? ep
    refine ⟨rfl, _, rfl, p.1, rfl, _, e2, small3 ?_, same_mut s2 nD, ?_⟩
    · rw [List.length_map, List.length_take]
      omega
    · rw [upd_same, take_at ep, List.map_append]
      rfl
  rintro H2 ⟨s2, e2⟩
  rw [show (mK L).length = L.length from List.length_map _, List.take_length] at e2
  refine ⟨s2 _ _ upd_same, ?_⟩
  have s3 := unlock_same hd s2
  have nDd : D ≠ d := fun z => by
    rw [z, upd_same] at nD
    cases nD
  have e3 : upd H2 d (.dK (mK L)) D = some (.lst ((L.map (·.1)).map V.str)) := by
    rw [upd_ne nDd, e2, List.map_map]
    rfl
  generalize upd H2 d (.dK (mK L)) = H3 at s3 e3
  refine ⟨D, L.map (·.1), rfl, SqL.of e3, by rw [List.length_map]; exact h64, fun ys kp hp hsrt nk => ?_⟩
  have s4 := s3.trans (same_new (u := .lst (ys.map V.str)) nk)
  have ek : upd H3 kp (.lst (ys.map V.str)) kp = some (.lst (ys.map V.str)) := upd_same
  generalize upd H3 kp (.lst (ys.map V.str)) = H4 at s4 ek
  refine ⟨_, rfl, _, rfl, kp, d, ys, L, rfl, SqL.of ek, s4 _ _ hd, hL, fun y hy => hp.mem_iff.mp hy, fun H5 s5 => ?_⟩
  have s05 := s4.trans s5
  clear s3 e3 e2 s2 nD nDd
  dsimp only [gName]
  have hx5 := s05 _ _ hx
  have hd5 := s05 _ _ hd
  refine ⟨_, rfl, _, rfl, x, _, dx, _, rfl, hx5, T.k_Stock, T.na_filled, by show 0 < 1000; decide, ?_⟩
  have nys : ys.Nodup := hp.nodup_iff.mpr hL.1
  have lys : ys.length < 64 := by rw [hp.length_eq, List.length_map]; exact h64
  have s06 : Same H0 (upd H5 x (.ins (He.ga K "Stock") dx [("_filled", .int n)])) := same_mut (s0.trans s05) nx
  have hx6 : upd H5 x (.ins (He.ga K "Stock") dx [("_filled", .int n)]) x = some (.ins (He.ga K "Stock") dx [("_filled", .int n)]) := upd_same
  have hd6 : upd H5 x (.ins (He.ga K "Stock") dx [("_filled", .int n)]) d = some (.dK (mK L)) := by rw [upd_ne (ne_of hd5 hx5 (by intro z; cases z))]; exact hd5
  have ek6 : upd H5 x (.ins (He.ga K "Stock") dx [("_filled", .int n)]) kp = some (.lst (ys.map V.str)) := by rw [upd_ne (ne_of (s5 _ _ ek) hx5 (by intro z; cases z))]; exact s5 _ _ ek
  rw [show putF "_filled" (V.int n) [] = ([("_filled", .int n)] : List (Str × V)) from rfl]
  generalize upd H5 x (.ins (He.ga K "Stock") dx [("_filled", .int n)]) = H6 at s06 hx6 hd6 ek6
  refine ⟨_, rfl, kp, rfl, ⟨_, SqL.of ek6⟩, fun W nW => ?_⟩
  refine dc_walk (walk_list (K := K) (a := kp) (xs := ys.map V.str)) (fun i H2 => Same H6 H2 ∧ H2 W = some (.dK (mK (mF L (ys.take i))))) ⟨same_new nW, upd_same⟩ (fun i H2 _ q => SqL.of (q.1 _ _ ek6)) ?_ ?_
  · rintro i y H2 H2' hi ⟨s2, e2⟩ ⟨rfl, ey⟩
    rw [List.getElem?_map] at ey
    obtain ⟨k2, ek2, rfl⟩ := Option.map_eq_some_iff.mp ey
    have hm := List.mem_of_getElem? ek2
    have hg := DGet.k (k := .inr k2) (s2 _ _ hd6)
    rw [mK_val (hp.mem_iff.mp hm)] at hg
    have hlt := lt_of_at ek2
    refine ⟨rfl, _, rfl, _, rfl, d, .int (vL L k2), rfl, hg, _, _, rfl, rfl, _, rfl, ite2 (fun hc => ?_) (fun hc => ?_)⟩
    · have hc : 0 < vL L k2 := of_decide_eq_true hc
      refine ⟨_, rfl, _, rfl, _, rfl, d, .int (vL L k2), rfl, hg, _, .inr k2, rfl, e2, small3 ?_, same_mut s2 nW, ?_⟩
      · unfold mK
        rw [List.length_map]
        have := mF_len L (ys.take i)
        rw [List.length_take] at this
        omega
      · rw [upd_same, mK_put, take_at ek2, mF_snoc, if_pos hc]
        intro z
        have h1 := mF_keys z
        rw [List.mem_take_iff_getElem] at h1
        obtain ⟨j, hj, e⟩ := h1
        have : j = i := nd_ix nys (i := j) (j := i) (by rw [List.getElem?_eq_getElem (by omega), e]) ek2
        omega
    · have hc : ¬ 0 < vL L k2 := fun z => hc (decide_eq_true z)
      refine ⟨s2, ?_⟩
      rw [e2, take_at ek2, mF_snoc, if_neg hc]
  rintro H7 ⟨s7, e7⟩
  rw [List.length_map, List.take_length] at e7
  refine ⟨_, rfl, x, _, dx, _, rfl, s7 _ _ hx6, T.k_Stock, T.na_loose, by show 1 < 1000; decide, ?_⟩
  have nW0 : H0 W = none := s06.free nW
  have hxW : W ≠ x := (ne_of_none hx6 nW).symm
  exact k _ (mF L ys) (same_mut (s06.trans s7) nx) ⟨dx, W, upd_same, by rw [upd_ne hxW]; exact e7, nW0⟩ ⟨ys, hp, hsrt, rfl⟩
theorem ok_Stock_init : EBW.FnRK P w K mg base CX0 5 (a_Stock_init K) (fun vs kvs H Q E => vs.length = 2 ∧ (kvs.map (·.1)).Nodup ∧ (∀ p ∈ kvs, p.1 ∉ (["this_stock", "full"] : List Str)) ∧ kvs.length ≤ 1000 ∧ ∀ q, H q = none → spStkI K (vs ++ [V.ref q]) (upd H q (.dK (EBW.kwK kvs))) Q E) := by
  refine (EBW.fnRK0 (d := d_Stock_init) (sp := spStkI K) (k := 4) (ps := ["this_stock", "full"]) (pd := "pieces") T.F_Stock_init sc_Stock_init 2 1 (fun z => nomatch z) rfl (fun Tt kV doc pm an cdv ct us its kws hl hi hk hz => match us, its, hl, hi with | [u0, u1], [x0], _, _ => bind_stock Tt kV doc pm an cdv ct u0 u1 x0 kws hk hz) (stk_body T)).imp fun vs kvs H Q E h => ?_
  refine ⟨h.1, h.2.1, h.2.2.1, h.2.2.2.1, fun q nq => ?_⟩
  have z := h.2.2.2.2 q nq
  rw [show (d_Stock_init.df.map (He.Dv.v K)).drop 1 = [] from rfl, List.append_nil]
  exact z
end
end EB

namespace EB
open PySem PySem.Spec PyProof.Rows L2
/-! ### stocks: what they hold, their sums and multiples -/
/-- a stock's pieces -/
def okM (M : List (Str × Int)) : Prop := (M.map (·.1)).Nodup ∧ ∀ p ∈ M, kindOk p.1 = true ∧ p.1.length ≤ 1000 ∧ p.1 ≠ "full" ∧ 0 < p.2 ∧ p.2 ≤ 1000000000000000000
/-- a stock whose dict is not walked -/
structure StkE (K : PySem.W.Frag) (H : Hp) (x : Addr) (n : Int) (M : List (Str × Int)) : Prop where
  ex : ∃ dx d, H x = some (.ins (He.ga K "Stock") dx (stkF n d)) ∧ H d = some (.dK (mK M))
theorem StkE.at_ {K : PySem.W.Frag} {H : Hp} {x : Addr} {n : Int} {M : List (Str × Int)} (h : StkE K H x n M) : StkAt K H x n M := by
  obtain ⟨dx, d, h1, h2⟩ := h.ex
  exact ⟨dx, d, h1, .inl h2⟩
theorem StkE.mono {K : PySem.W.Frag} {H H' : Hp} {x : Addr} {n : Int} {M : List (Str × Int)} (s : Same H H') (h : StkE K H x n M) : StkE K H' x n M := by
  obtain ⟨dx, d, h1, h2⟩ := h.ex
  exact ⟨dx, d, s _ _ h1, s _ _ h2⟩
theorem StkNew.e {K : PySem.W.Frag} {H0 H : Hp} {x : Addr} {n : Int} {M : List (Str × Int)} (h : StkNew K H0 H x n M) : StkE K H x n M := by
  obtain ⟨dx, d, h1, h2, _⟩ := h.ex
  exact ⟨dx, d, h1, h2⟩
theorem mK_at (M : List (Str × Int)) (k : Str) : valV (mK M) (.inr k) = (M.lookup k).map V.int := by
  induction M with
  | nil => rfl
  | cons p M ih =>
    rw [List.lookup_cons]
    by_cases e : p.1 = k
    · rw [show (k == p.1) = true from beq_iff_eq.mpr e.symm]
      exact valV_pos (p := ((Sum.inr p.1 : Key), V.int p.2)) (by rw [e])
    · rw [show (k == p.1) = false from beq_eq_false_iff_ne.mpr (Ne.symm e)]
      show valV (((Sum.inr p.1 : Key), V.int p.2) :: mK M) _ = _
      rw [valV_neg fun z => e (Sum.inr.inj z)]
      exact ih
theorem lk_key {M : List (Str × Int)} {k : Str} {v : Int} (h : M.lookup k = some v) : (k, v) ∈ M := by
  induction M with
  | nil => cases h
  | cons p M ih =>
    rw [List.lookup_cons] at h
    by_cases e : (k == p.1) = true
    · rw [e] at h
      have e1 := beq_iff_eq.mp e
      cases h
      rw [e1]
      exact List.mem_cons_self ..
    · rw [Bool.not_eq_true] at e
      rw [e] at h
      exact List.mem_cons_of_mem _ (ih h)
theorem vL_none {M : List (Str × Int)} {k : Str} (h : k ∉ M.map (·.1)) : vL M k = 0 := by
  unfold vL
  cases e : M.lookup k with
  | none => rfl
  | some v => exact absurd (List.mem_map.mpr ⟨_, lk_key e, rfl⟩) h
theorem vL_val (M : List (Str × Int)) (k : Str) : vL M k = 0 ∨ (k, vL M k) ∈ M := by
  unfold vL
  cases e : M.lookup k with
  | none => exact .inl rfl
  | some v => exact .inr (lk_key e)
theorem okM.le {M : List (Str × Int)} (h : okM M) (k : Str) : 0 ≤ vL M k ∧ vL M k ≤ 1000000000000000000 := by
  rcases vL_val M k with e | e
  · rw [e]
    exact ⟨Int.le_refl _, by decide⟩
  · have := h.2 _ e
    exact ⟨Int.le_of_lt this.2.2.2.1, this.2.2.2.2⟩
theorem okM.pos {M : List (Str × Int)} (h : okM M) {k : Str} : k ∈ M.map (·.1) ↔ 0 < vL M k := by
  constructor
  · intro hk
    obtain ⟨p, hp, rfl⟩ := List.mem_map.mp hk
    rw [vL_of h.1 hp]
    exact (h.2 p hp).2.2.2.1
  · intro hp
    by_cases e : k ∈ M.map (·.1)
    · exact e
    · rw [vL_none e] at hp
      exact absurd hp (Int.lt_irrefl _)
/-- what is kept has the same numbers -/
theorem IsM.val {L M : List (Str × Int)} (hL : okL L) (hf : ∀ p ∈ L, p.1 ≠ "full") (h : IsM L M) : okM M ∧ (∀ k, vL M k = vL L k) ∧ M.length ≤ L.length := by
  obtain ⟨ys, hp, _, rfl⟩ := h
  have hnd : ys.Nodup := hp.nodup_iff.mpr hL.1
  have hkeys : (((ys.map fun k => (k, vL L k)).filter fun p => decide (0 < p.2)).map (·.1)).Nodup := by
    refine List.Sublist.nodup (List.Sublist.map _ List.filter_sublist) ?_
    rw [List.map_map]
    show (ys.map fun k => k).Nodup
    rw [List.map_id']
    exact hnd
  have hmem : ∀ p ∈ (ys.map fun k => (k, vL L k)).filter fun p => decide (0 < p.2), p.1 ∈ ys ∧ p.2 = vL L p.1 ∧ 0 < p.2 := fun p h => by
    obtain ⟨h1, h2⟩ := List.mem_filter.mp h
    obtain ⟨y, hy, rfl⟩ := List.mem_map.mp h1
    exact ⟨hy, rfl, of_decide_eq_true h2⟩
  refine ⟨⟨hkeys, fun p h => ?_⟩, fun k => ?_, ?_⟩
  · obtain ⟨h1, h2, h3⟩ := hmem p h
    obtain ⟨q, hq, e⟩ := List.mem_map.mp (hp.mem_iff.mp h1)
    have h4 := hL.2 q hq
    have h5 := hf q hq
    rw [e] at h4 h5
    refine ⟨h4.1, h4.2.1, h5, h3, ?_⟩
    rw [h2, ← e, vL_of hL.1 hq]
    exact h4.2.2.2
  · by_cases hk : k ∈ ys ∧ 0 < vL L k
    · exact vL_of hkeys (p := (k, vL L k)) (List.mem_filter.mpr ⟨List.mem_map.mpr ⟨k, hk.1, rfl⟩, decide_eq_true hk.2⟩)
    · rw [vL_none]
      · by_cases hy : k ∈ ys
        · have h1 : ¬ 0 < vL L k := fun z => hk ⟨hy, z⟩
          obtain ⟨q, hq, e⟩ := List.mem_map.mp (hp.mem_iff.mp hy)
          have h2 := vL_of hL.1 hq
          rw [e] at h2
          have h3 := (hL.2 q hq).2.2.1
          omega
        · exact (vL_none fun z => hy (hp.mem_iff.mpr z)).symm
      · intro z
        obtain ⟨p, h1, rfl⟩ := List.mem_map.mp z
        obtain ⟨a, b, c⟩ := hmem p h1
        exact hk ⟨a, by rw [← b]; exact c⟩
  · refine Nat.le_trans (List.length_filter_le _ _) ?_
    rw [List.length_map, hp.length_eq, List.length_map]
    exact Nat.le_refl _
/-- numbers of pieces as a call's keywords -/
def kwV (L : List (Str × Int)) : List (Str × V) := L.map fun p => (p.1, V.int p.2)
theorem kwV_K (L : List (Str × Int)) : EBW.kwK (kwV L) = mK L := by
  unfold EBW.kwK kwV mK
  rw [List.map_map]
  rfl
theorem kind_ts {k : Str} (h : kindOk k = true) : k ≠ "this_stock" := by
  intro e
  rw [e] at h
  revert h
  decide +kernel
theorem mkS_ok {K : PySem.W.Frag} {H : Hp} {L : List (Str × Int)} {n : Int} {Q : VK} {E : XK} (hL : okL L) (hf : ∀ p ∈ L, p.1 ≠ "full") (h64 : L.length < 64) (h0 : 0 ≤ n) (h1 : n ≤ 1000000000000000000)
    (x dx : Addr) (nx : H x = none) (nd : H dx = none) (ne : dx ≠ x) (k : ∀ H' R, Same H H' → StkNew K H H' x n R → okM R → (∀ j, vL R j = vL L j) → R.length ≤ L.length → Q .non H') :
    (fun (vs : List V) (kvs : List (Str × V)) (H : Hp) (Q : VK) (E : XK) => vs.length = 2 ∧ (kvs.map (·.1)).Nodup ∧ (∀ p ∈ kvs, p.1 ∉ (["this_stock", "full"] : List Str)) ∧ kvs.length ≤ 1000 ∧ ∀ q, H q = none → spStkI K (vs ++ [V.ref q]) (upd H q (.dK (EBW.kwK kvs))) Q E)
      (V.ref x :: [V.int n]) (kwV L) (upd (upd H dx (.own x)) x (.ins (He.ga K "Stock") dx [])) Q E := by
  refine ⟨rfl, ?_, fun p hp => ?_, ?_, fun q nq => ?_⟩
  · unfold kwV
    rw [List.map_map]
    exact hL.1
  · obtain ⟨r, hr, rfl⟩ := List.mem_map.mp hp
    have h2 := hL.2 r hr
    have h3 := hf r hr
    intro z
    rcases List.mem_cons.mp z with z | z
    · exact kind_ts h2.1 z
    · exact h3 (List.mem_singleton.mp z)
  · unfold kwV
    rw [List.length_map]
    omega
  have nq' : q ≠ x ∧ q ≠ dx ∧ H q = none := by
    have a : q ≠ x := fun z => by
      rw [z, upd_same] at nq
      cases nq
    rw [upd_ne a] at nq
    have b : q ≠ dx := fun z => by
      rw [z, upd_same] at nq
      cases nq
    rw [upd_ne b] at nq
    exact ⟨a, b, nq⟩
  rw [kwV_K]
  refine ⟨x, q, dx, n, L, H, rfl, fun b o e => ?_, nx, ?_, upd_same, nq'.2.2, hL, h64, h0, h1, fun H' M s' hn hi => ?_⟩
  · rw [upd_ne (ne_of_none e nq'.2.2), upd_ne (ne_of_none e nx), upd_ne (ne_of_none e nd)]
    exact e
  · rw [upd_ne nq'.1.symm]
    exact upd_same
  · obtain ⟨a, b, c⟩ := IsM.val hL hf hi
    exact k H' M s' hn a b c
end EB

namespace EB
open PySem PySem.Spec PyProof.Rows L2
section
variable {P : Program} {w : World} {K : PySem.W.Frag} {mg : Str → Option Value} {base : Heap} (T : Tx K mg)
theorem bnd0 {d : DD} {fd : FuncData} {N ps : List Str} (F : FnP K d fd) (S : FnScope N ps (defScope d.st)) (e : d.df = [])
    (b : ∀ (kV doc pm : Value) (an : Option Addr) (cdv ct : Value) (us : List Value), us.length = ps.length → bindArgs (PySem.W.fnOf d.nm d.ql (defArgs d.st) (defBody d.st) (defScope d.st) .none kV doc pm an cdv ct) ⟨us, []⟩ = pure (ps.zip us)) : Binds K fd ps [] := by
  have F2 : FunD K d.nm d.ql (defArgs d.st) (defBody d.st) (defScope d.st) [] [] (d.adr K) fd := by
    have z : FnP K d fd := F
    unfold FnP at z
    rw [e] at z
    exact z
  exact F2.bindsN b
include T
theorem b_Offer_period : Binds K T.fd_Offer_period ["self"] [] := bnd0 T.F_Offer_period sc_Offer_period rfl (fun _ _ _ _ _ _ us hl => match us, hl with | [_], _ => rfl)
def spPeriod (K : PySem.W.Frag) : Sp := fun vs H Q _ => ∃ (a : Addr) (ts : List Tr), vs = [.ref a] ∧ OfAt K H a ts ∧ ∀ p, SqT K H p [.int (perB ts : Nat), .int (per ts : Nat)] → Q (.ref p) H
theorem ok_Offer_period : FnOk P w K mg base CX0 1 (a_Offer_period K) T.fd_Offer_period ["self"] (spPeriod K) := by
  refine fnK0 (d := d_Offer_period) T.F_Offer_period sc_Offer_period (fun vs H Q E h => ?_) (fun cdv A outer s H vs Q E hr h => ?_)
  · obtain ⟨a, ts, rfl, _⟩ := h
    rfl
  obtain ⟨a, ts, rfl, ho, k⟩ := h
  obtain ⟨dx, t, p, o, f, g, e1, e2, e3, e4, e5, e6⟩ := ho.ex
  refine ⟨_, (pss_one (ps_ret (pe_fld (pv 0) rfl))), ?_⟩
  exact ⟨_, rfl, a, _, dx, _, _, rfl, e1, T.k_Offer, T.na_period, lk_period, k _ e3⟩
end
end EB

namespace EB
open PySem PySem.Spec PyProof.Rows L2
theorem lk_filled {n : Int} {d : Addr} : (stkF n d).lookup ("_filled" : Str) = some (.int n) := lkY
theorem lk_loose {n : Int} {d : Addr} : (stkF n d).lookup ("_loose" : Str) = some (.ref d) := by
  unfold stkF
  rw [lkN (by decide +kernel), lkY]
section
variable {P : Program} {w : World} {K : PySem.W.Frag} {mg : Str → Option Value} {base : Heap} (T : Tx K mg)
include T
def spFilled (K : PySem.W.Frag) : Sp := fun vs H Q _ => ∃ (x : Addr) (n : Int) (M : List (Str × Int)), vs = [.ref x] ∧ StkAt K H x n M ∧ Q (.int n) H
theorem b_Stock_filled : Binds K T.fd_Stock_filled ["self"] [] := bnd0 T.F_Stock_filled sc_Stock_filled rfl (fun _ _ _ _ _ _ us hl => match us, hl with | [_], _ => rfl)
theorem ok_Stock_filled : FnOk P w K mg base CX0 1 (a_Stock_filled K) T.fd_Stock_filled ["self"] (spFilled K) := by
  refine fnK0 (d := d_Stock_filled) T.F_Stock_filled sc_Stock_filled (fun vs H Q E h => ?_) (fun cdv A outer s H vs Q E hr h => ?_)
  · obtain ⟨x, n, M, rfl, _⟩ := h
    rfl
  obtain ⟨x, n, M, rfl, hs, k⟩ := h
  obtain ⟨dx, d, e1, e2⟩ := hs.ex
  refine ⟨_, (pss_one (ps_ret (pe_fld (pv 0) rfl))), ?_⟩
  exact ⟨_, rfl, x, _, dx, _, _, rfl, e1, T.k_Stock, T.na_filled, lk_filled, k⟩
def spLoose (K : PySem.W.Frag) : Sp := fun vs H Q _ => ∃ (x : Addr) (n : Int) (M : List (Str × Int)), vs = [.ref x] ∧ StkAt K H x n M ∧ ∀ p, H p = none → Q (.ref p) (upd H p (.dK (mK M)))
theorem b_Stock_loose : Binds K T.fd_Stock_loose ["self"] [] := bnd0 T.F_Stock_loose sc_Stock_loose rfl (fun _ _ _ _ _ _ us hl => match us, hl with | [_], _ => rfl)
theorem ok_Stock_loose : FnOk P w K mg base CX0 1 (a_Stock_loose K) T.fd_Stock_loose ["self"] (spLoose K) := by
  refine fnK0 (d := d_Stock_loose) T.F_Stock_loose sc_Stock_loose (fun vs H Q E h => ?_) (fun cdv A outer s H vs Q E hr h => ?_)
  · obtain ⟨x, n, M, rfl, _⟩ := h
    rfl
  obtain ⟨x, n, M, rfl, hs, k⟩ := h
  obtain ⟨dx, d, e1, e2⟩ := hs.ex
  refine ⟨_, (pss_one (ps_ret (pe_callTy call_dictD (by rfl) T.n_dict (by decide +kernel) (pa_cons (pe_fld (pv 0) rfl) pa_nil)))), ?_⟩
  exact ⟨_, rfl, x, _, dx, _, _, rfl, e1, T.k_Stock, T.na_loose, lk_loose, d, mK M, rfl, e2, k⟩
/-- the number of a kind, "full" that of the bottles -/
def nL (n : Int) (M : List (Str × Int)) (k : Str) : Int := if k = "full" then n else vL M k
def spGetS (K : PySem.W.Frag) : Sp := fun vs H Q _ => ∃ (x : Addr) (n : Int) (M : List (Str × Int)) (k : Str), vs = [.ref x, .str k] ∧ StkAt K H x n M ∧ Q (.int (nL n M k)) H
theorem ok_Stock_getitem : FnR P w K mg base CX0 1 (a_Stock_getitem K) (spGetS K) := by
  refine fnR0 (d := d_Stock_getitem) T.F_Stock_getitem sc_Stock_getitem rfl (fun _ _ _ _ _ _ us hl => match us, hl with | [_, _], _ => rfl) (fun vs H Q E h => ?_) (fun cdv A outer s H vs Q E hr h => ?_)
  · obtain ⟨x, n, M, j, rfl, _⟩ := h
    rfl
  obtain ⟨x, n, M, j, rfl, hs, k⟩ := h
  obtain ⟨dx, d, e1, e2⟩ := hs.ex
  refine ⟨_, (pss_cons (ps_if (pt_cmpR op_eq (pv 1) (pe_cS T.c_FULL) (nomark _)) (pss_one (ps_ret (pe_fld (pv 0) rfl))) pss_nil) (pss_one (ps_ret (pe_dget2 (hu_of hr) (pe_fld (pv 0) rfl) (pv 1) pe_int ⟨rfl, rfl, rfl, rfl⟩)))), ?_⟩
  unfold nL at k
  refine ⟨_, rfl, rfl, _, rfl, ite2 (fun hd => ?_) (fun hd => ?_)⟩
  · have hd : j = "full" := V.str.inj (of_decide_eq_true hd)
    rw [if_pos hd] at k
    exact ⟨_, rfl, x, _, dx, _, _, rfl, e1, T.k_Stock, T.na_filled, lk_filled, k⟩
  · have hd : ¬ j = "full" := fun z => hd (decide_eq_true (by rw [z]))
    rw [if_neg hd] at k
    refine ⟨_, rfl, x, _, dx, _, _, rfl, e1, T.k_Stock, T.na_loose, lk_loose, d, rfl, .inl ⟨_, e2⟩, _, rfl, _, .inl ⟨mK M, .inr j, e2, rfl, rfl⟩, ?_⟩
    rw [mK_at]
    unfold vL at k
    cases e : M.lookup j with
    | none =>
      rw [e] at k
      exact k
    | some v =>
      rw [e] at k
      exact k
end
end EB

namespace EB
open PySem PySem.Spec PyProof.Rows L2
/-- a dict that is being filled by a function of its keys -/
structure FillK (f : Str → Int) (ks : List Str) (L : List (Str × Int)) : Prop where
  nd : (L.map (·.1)).Nodup
  mem : ∀ k, k ∈ L.map (·.1) ↔ k ∈ ks
  val : ∀ p ∈ L, p.2 = f p.1
  len : L.length ≤ ks.length
theorem FillK.nil (f : Str → Int) : FillK f [] [] := ⟨List.nodup_nil, fun k => Iff.rfl, fun p h => (by cases h), Nat.le_refl _⟩
theorem mK_any {L : List (Str × Int)} {k : Str} : ((mK L).any fun kv => decide (kv.1 = Sum.inr k)) = true ↔ k ∈ L.map (·.1) := by
  unfold mK
  rw [List.any_map, List.any_eq_true]
  constructor
  · rintro ⟨p, hp, e⟩
    exact List.mem_map.mpr ⟨p, hp, Sum.inr.inj (of_decide_eq_true e)⟩
  · intro h
    obtain ⟨p, hp, e⟩ := List.mem_map.mp h
    exact ⟨p, hp, decide_eq_true (congrArg Sum.inr e)⟩
theorem FillK.put {f : Str → Int} {ks : List Str} {L : List (Str × Int)} (h : FillK f ks L) (k : Str) : ∃ L', putK (mK L) (.inr k) (.int (f k)) = mK L' ∧ FillK f (ks ++ [k]) L' := by
  by_cases hk : k ∈ L.map (·.1)
  · refine ⟨L, ?_, h.nd, fun j => ?_, h.val, Nat.le_trans h.len (by rw [List.length_append]; exact Nat.le_add_right _ _)⟩
    · unfold putK
      rw [if_pos (mK_any.mpr hk)]
      refine (List.map_congr_left (g := id) fun kv hkv => ?_).trans (List.map_id _)
      obtain ⟨p, hp, rfl⟩ := List.mem_map.mp hkv
      by_cases e : (Sum.inr p.1 : Key) = Sum.inr k
      · rw [if_pos e, ← Sum.inr.inj e, ← h.val p hp]
        rfl
      · rw [if_neg e]
        rfl
    · rw [List.mem_append, h.mem]
      constructor
      · exact .inl
      · rintro (z | z)
        · exact z
        · rw [List.mem_singleton.mp z]
          exact (h.mem k).mp hk
  · refine ⟨L ++ [(k, f k)], mK_put hk, ?_, fun j => ?_, fun p hp => ?_, ?_⟩
    · rw [List.map_append, List.nodup_append]
      refine ⟨h.nd, by simp, fun a ha b hb => ?_⟩
      rw [List.map_cons, List.map_nil, List.mem_singleton] at hb
      exact fun e => hk (by rw [← (show a = k from e.trans hb)]; exact ha)
    · rw [List.map_append, List.mem_append, List.mem_append, h.mem]
      rfl
    · rcases List.mem_append.mp hp with hp | hp
      · exact h.val p hp
      · rw [List.mem_singleton.mp hp]
    · rw [List.length_append, List.length_append]
      exact Nat.add_le_add_right h.len _
theorem FillK.vL {f : Str → Int} {ks : List Str} {L : List (Str × Int)} (h : FillK f ks L) {k : Str} (hk : k ∈ ks) : vL L k = f k := by
  obtain ⟨p, hp, rfl⟩ := List.mem_map.mp ((h.mem k).mpr hk)
  rw [vL_of h.nd hp, h.val p hp]
theorem FillK.v0 {f : Str → Int} {ks : List Str} {L : List (Str × Int)} (h : FillK f ks L) {k : Str} (hk : k ∉ ks) : EB.vL L k = 0 := vL_none fun z => hk ((h.mem k).mp z)
section
variable {P : Program} {w : World} {K : PySem.W.Frag} {mg : Str → Option Value} {base : Heap} (T : Tx K mg)
include T
def spAddS (K : PySem.W.Frag) : Sp := fun vs H Q _ => ∃ (x y : Addr) (n m : Int) (M N : List (Str × Int)), vs = [.ref x, .ref y] ∧ StkE K H x n M ∧ StkE K H y m N ∧ okM M ∧ okM N ∧ 0 ≤ n ∧ 0 ≤ m ∧ n + m ≤ 1000000000000000000 ∧ (∀ k, vL M k + vL N k ≤ 1000000000000000000) ∧ M.length + N.length < 64 ∧
  ∀ H' z R, Same H H' → StkNew K H H' z (n + m) R → H z = none → okM R → (∀ k, vL R k = vL M k + vL N k) → Q (.ref z) H'
theorem ok_Stock_add : FnR P w K mg base CX0 7 (a_Stock_add K) (spAddS K) := by
  refine fnR0 (d := d_Stock_add) T.F_Stock_add sc_Stock_add rfl (fun _ _ _ _ _ _ us hl => match us, hl with | [_, _], _ => rfl) (fun vs H Q E h => ?_) (fun cdv A outer s H vs Q E hr h => ?_)
  · obtain ⟨x, y, n, m, M, N, rfl, _⟩ := h
    rfl
  obtain ⟨x, y, n, m, M, N, rfl, hx, hy, hM, hN, n0, m0, nm, hs, h64, k⟩ := h
  obtain ⟨dx, d, x1, x2⟩ := hx.ex
  obtain ⟨dy, e, y1, y2⟩ := hy.ex
  refine ⟨_, (pss_cons (ps_set (i := 2) sc_Stock_add.nd rfl (Or.inl rfl) (pe_op op_add (pe_fld (pv 0) rfl) (pe_fld (pv 1) rfl))) (pss_cons (ps_setDc (i := 3) (own := [("kind", 4)]) rfl sc_Stock_add.nd rfl rfl (sw_trueD rfl rfl rfl (by decide +kernel)) (pi_list (pe_lst (EBW.pa_starD rfl (pe_fld (pv 0) rfl) (EBW.pa_starD rfl (pe_fld (pv 1) rfl) pa_nil)))) (blkOk_by (own := [("kind", 4)]) (N := N_Stock_add) (sc := defScope s_Stock_add) (by decide +kernel)) (fun _ _ _ _ _ => (pg_name (i := 4) sc_Stock_add.nd rfl (Or.inl rfl) (.inr rfl))) (fun _ _ _ _ _ => pts_nil) (fun _ _ _ _ _ => (pv 4)) (fun _ _ _ _ _ => (pe_op op_add (pe_ixO T.m_Stock_getitem.at_ T.fi_Stock_getitem T.m_Stock_getitem.fn (ok_Stock_getitem T) (hr.mono (by decide)) pass0 (pv 0) (pv 4)) (pe_ixO T.m_Stock_getitem.at_ T.fi_Stock_getitem T.m_Stock_getitem.fn (ok_Stock_getitem T) (hr.mono (by decide)) pass0 (pv 1) (pv 4))))) (pss_one (ps_ret (EBW.pe_makeD T.mk_Stock (ok_Stock_init T) (hr.mono (by decide)) (by rfl) T.g_Stock pass0 (pa_cons (pv 2) pa_nil) (pv 3)))))), ?_⟩
  refine ⟨_, rfl, x, _, dx, _, _, rfl, x1, T.k_Stock, T.na_filled, lk_filled, _, rfl, y, _, dy, _, _, rfl, y1, T.k_Stock, T.na_filled, lk_filled, _, _, rfl, rfl, ?_⟩
  refine ⟨_, rfl, x, _, dx, _, _, rfl, x1, T.k_Stock, T.na_loose, lk_loose, d, mK M, rfl, .inl x2, _, rfl, y, _, dy, _, _, rfl, y1, T.k_Stock, T.na_loose, lk_loose, e, mK N, rfl, .inl y2, ?_⟩
  have eks : ((mK M).map fun kv => kV kv.1) ++ (((mK N).map fun kv => kV kv.1) ++ []) = (M.map (·.1) ++ N.map (·.1)).map V.str := by
    rw [List.append_nil, List.map_append]
    unfold mK
    rw [List.map_map, List.map_map, List.map_map, List.map_map]
    rfl
  dsimp only [tNil]
  rw [eks]
  have lks : (M.map (·.1) ++ N.map (·.1)).length < 64 := by
    rw [List.length_append, List.length_map, List.length_map]
    exact h64
  have hks : ∀ j ∈ M.map (·.1) ++ N.map (·.1), kindOk j = true ∧ j.length ≤ 1000 ∧ j ≠ "full" := fun j hj => by
    rcases List.mem_append.mp hj with hj | hj
    · obtain ⟨p, hp, rfl⟩ := List.mem_map.mp hj
      have := hM.2 p hp
      exact ⟨this.1, this.2.1, this.2.2.1⟩
    · obtain ⟨p, hp, rfl⟩ := List.mem_map.mp hj
      have := hN.2 p hp
      exact ⟨this.1, this.2.1, this.2.2.1⟩
  have hnone : ∀ j, j ∉ M.map (·.1) ++ N.map (·.1) → vL M j + vL N j = 0 := fun j hj => by
    rw [List.mem_append, not_or] at hj
    rw [vL_none hj.1, vL_none hj.2]
    rfl
  generalize M.map (·.1) ++ N.map (·.1) = ks at lks hks hnone
  refine ⟨by rw [List.length_map]; exact Nat.le_trans (Nat.le_of_lt lks) (by decide), fun l hl => ?_⟩
  have s1 : Same H (upd H l (.lst (ks.map V.str))) := same_new hl
  have el : upd H l (.lst (ks.map V.str)) l = some (.lst (ks.map V.str)) := upd_same
  generalize upd H l (.lst (ks.map V.str)) = H1 at s1 el
  refine ⟨l, rfl, ⟨_, SqL.of el⟩, fun W nW => ?_⟩
  refine dc_walk (walk_list (K := K) (a := l) (xs := ks.map V.str)) (fun i H2 => Same H1 H2 ∧ ∃ L, H2 W = some (.dK (mK L)) ∧ FillK (fun j => vL M j + vL N j) (ks.take i) L) ⟨same_new nW, [], upd_same, FillK.nil _⟩ (fun i H2 _ q => SqL.of (q.1 _ _ el)) ?_ ?_
  · rintro i u H2 H2' hi ⟨s2, L, e2, hF⟩ ⟨rfl, ey⟩
    rw [List.getElem?_map] at ey
    obtain ⟨j, ej, rfl⟩ := Option.map_eq_some_iff.mp ey
    have hj := hks j (List.mem_of_getElem? ej)
    have hlt := lt_of_at ej
    have sH := s1.trans s2
    have eM : nL n M j = vL M j := if_neg hj.2.2
    have eN : nL m N j = vL N j := if_neg hj.2.2
    refine ⟨rfl, _, rfl, _, rfl, _, rfl, x, dx, _, rfl, sH _ _ x1, x, n, M, j, rfl, (hx.mono sH).at_, _, rfl, _, rfl, y, dy, _, rfl, sH _ _ y1, y, m, N, j, rfl, (hy.mono sH).at_, _, _, rfl, rfl, _, .inr j, rfl, e2, small3 ?_, same_mut s2 nW, ?_⟩
    · unfold mK
      rw [List.length_map]
      have := hF.len
      rw [List.length_take] at this
      omega
    · obtain ⟨L', e4, hF'⟩ := hF.put j
      refine ⟨L', ?_, by rw [take_at ej]; exact hF'⟩
      rw [upd_same, eM, eN, ← e4]
  rintro H3 ⟨s3, L, e3, hF⟩
  rw [List.length_map, List.take_length] at hF
  have sH := s1.trans s3
  have hval : ∀ j, vL L j = vL M j + vL N j := fun j => by
    by_cases hj : j ∈ ks
    · exact hF.vL hj
    · rw [hF.v0 hj, hnone j hj]
  refine ⟨_, rfl, fun q nq => ⟨_, rfl, W, kwV L, rfl, (ne_of_none e3 nq).symm, upd_same, .inl (by rw [kwV_K]; exact upd_old e3 nq), fun z dz nz ndz nez => ?_⟩⟩
  have sq : Same H (upd (upd H3 q (.dK [])) q (.dK (EBW.kwK (kwV L)))) := same_mut (sH.trans (same_new nq)) (sH.free nq)
  refine mkS_ok (K := K) ⟨hF.nd, fun p hp => ?_⟩ (fun p hp => ?_) (by have := hF.len; omega) (by omega) nm z dz nz ndz nez (fun H' R s' hn a b c => ⟨rfl, ?_⟩)
  · have h1 := hks p.1 ((hF.mem _).mp (List.mem_map.mpr ⟨p, hp, rfl⟩))
    have h2 := hF.val p hp
    have h3 := (hM.le p.1).1
    have h4 := (hN.le p.1).1
    have h5 := hs p.1
    exact ⟨h1.1, h1.2.1, by omega, by omega⟩
  · exact (hks p.1 ((hF.mem _).mp (List.mem_map.mpr ⟨p, hp, rfl⟩))).2.2
  · obtain ⟨dz', d', z1, z2, z3⟩ := hn.ex
    exact k H' z R (sq.trans s') ⟨dz', d', z1, z2, sq.free z3⟩ (sq.free nz) a fun j => by rw [b, hval]
end
end EB

namespace EB
open PySem PySem.Spec PyProof.Rows L2
section
variable {P : Program} {w : World} {K : PySem.W.Frag} {mg : Str → Option Value} {base : Heap} (T : Tx K mg)
include T
theorem ok_check_number3 : FnR P w K mg base CX0 3 (a_check_number K) spChkNum := by
  refine (fnRD (d := d_check_number) (sp := spChkNum) (k := 2) (ps := ["value", "least", "most"]) T.F_check_number sc_check_number 3 2 (fun z => nomatch z) rfl (fun _ _ _ _ _ _ _ us its hl hi => match us, its, hl, hi with | [_, _, _], [_, _], _, _ => ⟨_, rfl, rfl⟩) (fun vs H Q E h => ?_) (fun cdv A outer s H vs Q E hr h => ?_)).imp fun vs H Q E h => ?_
  · obtain ⟨i, lo, hi, rfl, _⟩ := h
    rfl
  · obtain ⟨i, lo, hi, rfl, h1, h2, k⟩ := h
    refine ⟨_, (pss_one (ps_if (pt_not (pt_val (pe_cR (ok_is_number T) (hr.mono (by decide)) T.F_is_number.kp T.g_is_number pass0 (pa_cons (pv 0) (pa_cons (pv 1) (pa_cons (pv 2) pa_nil)))))) (pss_one ps_never) pss_nil)), ?_⟩
    refine ⟨_, rfl, _, rfl, _, rfl, i, lo, hi, rfl, _, rfl, ?_⟩
    rw [numOk_iff.mpr ⟨h1, h2⟩]
    exact iteF k
  · obtain ⟨i, lo, hi, rfl, h1, h2, k⟩ := h
    exact ⟨i, lo, hi, rfl, h1, h2, k⟩
def spMulS (K : PySem.W.Frag) : Sp := fun vs H Q _ => ∃ (x : Addr) (n c : Int) (M : List (Str × Int)), vs = [.ref x, .int c] ∧ StkE K H x n M ∧ okM M ∧ 0 ≤ n ∧ 0 ≤ c ∧ c ≤ 1000000000 ∧ n * c ≤ 1000000000000000000 ∧ (∀ k, vL M k * c ≤ 1000000000000000000) ∧ M.length < 64 ∧
  ∀ H' z R, Same H H' → StkNew K H H' z (n * c) R → H z = none → okM R → (∀ k, vL R k = vL M k * c) → Q (.ref z) H'
theorem ok_Stock_mul : FnR P w K mg base CX0 7 (a_Stock_mul K) (spMulS K) := by
  refine fnR0 (d := d_Stock_mul) T.F_Stock_mul sc_Stock_mul rfl (fun _ _ _ _ _ _ us hl => match us, hl with | [_, _], _ => rfl) (fun vs H Q E h => ?_) (fun cdv A outer s H vs Q E hr h => ?_)
  · obtain ⟨x, n, c, M, rfl, _⟩ := h
    rfl
  obtain ⟨x, n, c, M, rfl, hx, hM, n0, c0, c9, nm, hs, h64, k⟩ := h
  obtain ⟨dx, d, x1, x2⟩ := hx.ex
  refine ⟨_, (pss_cons (ps_expr (pe_cR (ok_check_number3 T) (hr.mono (by decide)) T.F_check_number.kp T.g_check_number pass0 (pa_cons (pv 1) (pa_cons pe_int (pa_cons (pe_cI T.c_MAX_TIMES) pa_nil))))) (pss_cons (ps_set (i := 2) sc_Stock_mul.nd rfl (Or.inl rfl) (pe_op op_mul (pe_fld (pv 0) rfl) (pv 1))) (pss_cons (ps_lock ((ps_setDc (i := 3) (own := [("kind", 4)]) rfl sc_Stock_mul.nd rfl rfl (sw_trueD rfl rfl rfl (by decide +kernel)) (pi_keys (pe_fld (pv 0) rfl)) (blkOk_by (own := [("kind", 4)]) (N := N_Stock_mul) (sc := defScope s_Stock_mul) (by decide +kernel)) (fun _ _ _ _ _ => (pg_name (i := 4) sc_Stock_mul.nd rfl (Or.inl rfl) (.inr rfl))) (fun _ _ _ _ _ => pts_nil) (fun _ _ _ _ _ => (pv 4)) (fun _ _ _ _ _ => (pe_op op_mul (pe_ixO T.m_Stock_getitem.at_ T.fi_Stock_getitem T.m_Stock_getitem.fn (ok_Stock_getitem T) (hr.mono (by decide)) pass0 (pv 0) (pv 4)) (pv 1)))))) (pss_one (ps_ret (EBW.pe_makeD T.mk_Stock (ok_Stock_init T) (hr.mono (by decide)) (by rfl) T.g_Stock pass0 (pa_cons (pv 2) pa_nil) (pv 3))))))), ?_⟩
  refine ⟨_, rfl, c, 0, 1000000000, rfl, c0, c9, ?_⟩
  refine ⟨_, rfl, x, _, dx, _, _, rfl, x1, T.k_Stock, T.na_filled, lk_filled, _, rfl, _, _, rfl, rfl, .inr ⟨by omega, by omega⟩, ?_⟩
  refine ⟨d, .dK (mK M), x2, trivial, fun od => ?_⟩
  have nxd : x ≠ d := ne_of x1 x2 (by intro z; cases z)
  have xL : upd H d (.frz od (.dK (mK M))) x = some (.ins (He.ga K "Stock") dx (stkF n d)) := by
    rw [upd_ne nxd]
    exact x1
  have dL : upd H d (.frz od (.dK (mK M))) d = some (.frz od (.dK (mK M))) := upd_same
  refine ⟨_, rfl, x, _, dx, _, _, rfl, xL, T.k_Stock, T.na_loose, lk_loose, d, od, rfl, .inl ⟨mK M, dL, fun W nW => ?_⟩⟩
  have nWd : W ≠ d := (ne_of_none dL nW).symm
  refine dc_walk (walk_keys (d := d) (o := od) (kvs := mK M)) (fun i H2 => Same (upd H d (.frz od (.dK (mK M)))) H2 ∧ ∃ L, H2 W = some (.dK (mK L)) ∧ FillK (fun j => vL M j * c) ((M.map (·.1)).take i) L) ⟨same_new nW, [], upd_same, FillK.nil _⟩ (fun i H2 _ q => q.1 _ _ dL) ?_ ?_
  · rintro i u H2 H2' hi ⟨s2, L, e2, hF⟩ ⟨rfl, kk, v, ek, rfl⟩
    unfold mK at ek
    rw [List.getElem?_map] at ek
    obtain ⟨p, ep, e3⟩ := Option.map_eq_some_iff.mp ek
    cases e3
    have hm := List.mem_of_getElem? ep
    have hj := hM.2 p hm
    have hlt := lt_of_at ep
    have eM : nL n M p.1 = vL M p.1 := if_neg hj.2.2.1
    have hat : StkAt K _ x n M := ⟨dx, d, s2 _ _ xL, .inr ⟨od, s2 _ _ dL⟩⟩
    refine ⟨rfl, _, rfl, _, rfl, _, rfl, x, dx, _, rfl, s2 _ _ xL, x, n, M, p.1, rfl, hat, _, rfl, _, _, rfl, rfl, .inr ⟨by omega, by omega⟩, _, .inr p.1, rfl, e2, small3 ?_, same_mut s2 nW, ?_⟩
    · unfold mK
      rw [List.length_map]
      have := hF.len
      rw [List.length_take] at this
      omega
    · obtain ⟨L', e4, hF'⟩ := hF.put p.1
      refine ⟨L', ?_, ?_⟩
      · rw [upd_same, eM, ← e4]
      · have : (M.map (·.1))[i]? = some p.1 := by rw [List.getElem?_map, ep]; rfl
        rw [take_at this]
        exact hF'
  rintro H3 ⟨s3, L, e3, hF⟩
  have elen : (mK M).length = (M.map (·.1)).length := by
    unfold mK
    rw [List.length_map, List.length_map]
  rw [elen, List.take_length] at hF
  refine ⟨s3 _ _ dL, ?_⟩
  have sH := unlock_same x2 s3
  have e3' : upd H3 d (.dK (mK M)) W = some (.dK (mK L)) := by
    rw [upd_ne nWd]
    exact e3
  generalize upd H3 d (.dK (mK M)) = H4 at sH e3'
  have hval : ∀ j, vL L j = vL M j * c := fun j => by
    by_cases hj : j ∈ M.map (·.1)
    · exact hF.vL hj
    · rw [hF.v0 hj, vL_none hj, Int.zero_mul]
  have lM : (M.map (·.1)).length = M.length := List.length_map _
  refine ⟨_, rfl, fun q nq => ⟨_, rfl, W, kwV L, rfl, (ne_of_none e3' nq).symm, upd_same, .inl (by rw [kwV_K]; exact upd_old e3' nq), fun z dz nz ndz nez => ?_⟩⟩
  have sq : Same H (upd (upd H4 q (.dK [])) q (.dK (EBW.kwK (kwV L)))) := same_mut (sH.trans (same_new nq)) (sH.free nq)
  refine mkS_ok (K := K) ⟨hF.nd, fun p hp => ?_⟩ (fun p hp => ?_) (by have := hF.len; omega) (Int.mul_nonneg n0 c0) nm z dz nz ndz nez (fun H' R s' hn a b e => ⟨rfl, ?_⟩)
  · obtain ⟨r, hr, er⟩ := List.mem_map.mp ((hF.mem _).mp (List.mem_map.mpr ⟨p, hp, rfl⟩))
    have h1 := hM.2 r hr
    rw [er] at h1
    have h2 := hF.val p hp
    have h3 := Int.mul_nonneg (hM.le p.1).1 c0
    have h5 := hs p.1
    exact ⟨h1.1, h1.2.1, by omega, by omega⟩
  · obtain ⟨r, hr, er⟩ := List.mem_map.mp ((hF.mem _).mp (List.mem_map.mpr ⟨p, hp, rfl⟩))
    have h1 := hM.2 r hr
    rw [er] at h1
    exact h1.2.2.1
  · obtain ⟨dz', d', z1, z2, z3⟩ := hn.ex
    exact k H' z R (sq.trans s') ⟨dz', d', z1, z2, sq.free z3⟩ (sq.free nz) a fun j => by rw [b, hval]
end
end EB

namespace EB
open PySem PySem.Spec PyProof.Rows L2
/-! ### counts as a law draws them, and their stocks -/
def kinds5 : List Str := ["cap", "empty", "label", "rag", "z"]
/-- counts: the bottles, the pieces -/
structure Cnt (high : Int) (f : Int) (M : List (Str × Int)) : Prop where
  f0 : 0 ≤ f
  f1 : f ≤ high
  ks : (M.map (·.1)).Sublist kinds5
  each : ∀ p ∈ M, 0 ≤ p.2 ∧ (p.2 ≤ 5 ∨ p.2 ≤ high)
def cK (f : Int) (M : List (Str × Int)) : List (Key × V) := mK (("full", f) :: M)
section
variable {P : Program} {w : World} {K : PySem.W.Frag} {mg : Str → Option Value} {base : Heap} (T : Tx K mg)
include T
def spCounts (K : PySem.W.Frag) : Sp := fun vs H Q _ => ∃ (q a : Addr) (ns : List Int) (high : Int) (H0 : Hp), vs = [.ref q, .int high] ∧ 0 ≤ high ∧ high ≤ 1000000000000000000 ∧ DS K H0 H q a ns ∧
  ∀ H' c f M, DS K H0 H' q a ns → H' c = some (.dK (cK f M)) → H0 c = none → c ≠ q → Cnt high f M → Q (.ref c) H'
theorem ok_law_counts : FnR P w K mg base CX0 2 (a_law_counts K) (spCounts K) := by
  refine fnR0 (d := d_law_counts) T.F_law_counts sc_law_counts rfl (fun _ _ _ _ _ _ us hl => match us, hl with | [_, _], _ => rfl) (fun vs H Q E h => ?_) (fun cdv A outer s H vs Q E hr h => ?_)
  · obtain ⟨q, a, ns, high, H0, rfl, _⟩ := h
    rfl
  obtain ⟨q, a, ns, high, H0, rfl, h0, h1, x, k⟩ := h
  refine ⟨_, (pss_cons (ps_set (i := 2) sc_law_counts.nd rfl (Or.inl rfl) (pe_disp (pps_cons pe_str (pe_cR (ok_law_drawn T) (hr.mono (by decide)) T.F_law_drawn.kp T.g_law_drawn pass0 (pa_cons (pv 0) (pa_cons (pe_op op_add (pv 1) pe_int) pa_nil))) pps_nil) rfl rfl (by decide) (by decide))) (pss_cons (ps_for PassesOwn.never rfl (pi_list (pe_lst (pa_cons pe_str (pa_cons pe_str (pa_cons pe_str (pa_cons pe_str (pa_cons pe_str pa_nil))))))) (pg_name (i := 3) sc_law_counts.nd rfl (Or.inl rfl)) (pss_one (ps_if (pt_cmpR op_eq (pe_cR (ok_law_drawn T) (hr.mono (by decide)) T.F_law_drawn.kp T.g_law_drawn pass0 (pa_cons (pv 0) (pa_cons pe_int pa_nil))) pe_int (nomark _)) (pss_one (ps_asg (pe_cR (ok_law_drawn T) (hr.mono (by decide)) T.F_law_drawn.kp T.g_law_drawn pass0 (pa_cons (pv 0) (pa_cons (pe_ix ix_list (pe_lst (pa_cons pe_int (pa_cons (pe_op op_add (pv 1) pe_int) pa_nil))) (pe_cR (ok_law_drawn T) (hr.mono (by decide)) T.F_law_drawn.kp T.g_law_drawn pass0 (pa_cons (pv 0) (pa_cons pe_int pa_nil))) (fun _ _ => rfl)) pa_nil))) (pg_sub (pv 2) (pv 3) (set_dict (hu_of hr))))) pss_nil))) (pss_one (ps_ret (pv 2))))), ?_⟩
  refine fun c nc => ?_
  have ncq := x.new nc
  have n0c := x.same.free nc
  have xA := x.grow (same_new (u := .dK []) nc)
  have eA : upd H c (.dK []) c = some (.dK []) := upd_same
  generalize upd H c (.dK []) = HA at xA eA
  refine ⟨_, rfl, _, rfl, _, _, rfl, rfl, q, a, ns, high + 1, hq HA q, rfl, by omega, by omega, xA.re, fun HB r xB r0 r1 => ?_⟩
  have eB : HB c = some (.dK []) := xB.same _ _ (DS.keep eA ncq)
  have xB' := xA.down xB
  refine ⟨eB, [(.inr "full", .int r)], rfl, by show 1 ≤ 15; decide, ?_⟩
  rw [show mergeK [] [((Sum.inr "full" : Key), V.int r)] = cK r [] from rfl]
  have xC : DS K H0 (upd HB c (.dK (cK r []))) q a ns := xB'.mut n0c ncq
  have eC : upd HB c (.dK (cK r [])) c = some (.dK (cK r [])) := upd_same
  generalize upd HB c (.dK (cK r [])) = HC at xC eC
  refine ⟨by decide, fun l nl => ?_⟩
  have nlq := xC.new nl
  have nlc : c ≠ l := ne_of_none eC nl
  have xD := xC.grow (same_new (u := .lst [.str "cap", .str "empty", .str "label", .str "rag", .str "z"]) nl)
  have eD : upd HC l (.lst [.str "cap", .str "empty", .str "label", .str "rag", .str "z"]) c = some (.dK (cK r [])) := upd_old eC nl
  have lD : upd HC l (.lst [.str "cap", .str "empty", .str "label", .str "rag", .str "z"]) l = some (.lst (kinds5.map V.str)) := upd_same
  generalize upd HC l (.lst [.str "cap", .str "empty", .str "label", .str "rag", .str "z"]) = HD at xD eD lD
  refine ⟨l, rfl, ⟨_, SqL.of lD⟩, for_list (K := K) (a := l) (xs := kinds5.map V.str) (fun i σ H1 => DS K H0 H1 q a ns ∧ H1 l = some (.lst (kinds5.map V.str)) ∧ ∃ (M : List (Str × Int)) (x3 : Option V), H1 c = some (.dK (cK r M)) ∧ (M.map (·.1)).Sublist (kinds5.take i) ∧
      (∀ p ∈ M, 0 ≤ p.2 ∧ (p.2 ≤ 5 ∨ p.2 ≤ high)) ∧ σ = [some (.ref q), some (.int high), some (.ref c), x3])
    ⟨xD, lD, [], none, eD, List.Sublist.refl _, fun p hp => (by cases hp), rfl⟩ (fun i σ H1 _ z => SqL.of z.2.1) ?_ ?_⟩
  · rintro i u σ H1 hx ⟨x1, l1, M, x3, c1, hsub, hall, rfl⟩
    rw [List.getElem?_map] at hx
    obtain ⟨kd, ekd, rfl⟩ := Option.map_eq_some_iff.mp hx
    refine ⟨_, rfl, q, a, ns, 2, hq H1 q, rfl, by decide, by decide, x1.re, fun H2 r2 x2 r20 r21 => ?_⟩
    have x2' := x1.down x2
    have c2 := x2.same _ _ (DS.keep c1 ncq)
    have l2 := x2.same _ _ (DS.keep l1 nlq)
    have hkd := List.mem_of_getElem? ekd
    have hkf : kd ≠ "full" := fun z => by
      rw [z] at hkd
      exact absurd hkd (by decide +kernel)
    have hkn : kd ∉ M.map (·.1) := fun z => by
      have h3 := hsub.subset z
      rw [List.mem_take_iff_getElem] at h3
      obtain ⟨j, hj, e⟩ := h3
      have : j = i := nd_ix (show kinds5.Nodup by decide +kernel) (i := j) (j := i) (by rw [List.getElem?_eq_getElem (by omega), e]) ekd
      omega
    refine ⟨rfl, _, rfl, ite2 (fun hd => ?_) (fun hd => ?_)⟩
    · refine ⟨_, rfl, _, rfl, _, _, rfl, rfl, by show 2 ≤ sizeLine; decide, fun t nt => ?_⟩
      have ntq := x2'.new nt
      have ntc : c ≠ t := ne_of_none c2 nt
      have ntl : l ≠ t := ne_of_none l2 nt
      have x3' := x2'.grow (same_new (u := .lst [.int 6, .int (high + 1)]) nt)
      have c3 := upd_old (u := .lst [.int 6, .int (high + 1)]) c2 nt
      have l3 := upd_old (u := .lst [.int 6, .int (high + 1)]) l2 nt
      have t3 : upd H2 t (.lst [.int 6, .int (high + 1)]) t = some (.lst [.int 6, .int (high + 1)]) := upd_same
      generalize upd H2 t (.lst [.int 6, .int (high + 1)]) = H3 at x3' c3 l3 t3
      refine ⟨_, rfl, q, a, ns, 2, hq H3 q, rfl, by decide, by decide, x3'.re, fun H4 r4 x4 r40 r41 => ?_⟩
      have x4' := x3'.down x4
      have c4 := x4.same _ _ (DS.keep c3 ncq)
      have l4 := x4.same _ _ (DS.keep l3 nlq)
      have t4 := x4.same _ _ (DS.keep t3 ntq)
      obtain ⟨lim, elim, hlim⟩ : ∃ lim : Int, [V.int 6, V.int (high + 1)][r4.toNat]? = some (.int lim) ∧ (lim = 6 ∨ lim = high + 1) := by
        rcases (show r4 = 0 ∨ r4 = 1 by omega) with rfl | rfl
        · exact ⟨6, rfl, .inl rfl⟩
        · exact ⟨high + 1, rfl, .inr rfl⟩
      refine ⟨t, _, r4, .int lim, rfl, rfl, SqL.of t4, at_of (j := r4.toNat) (by omega) elim, q, a, ns, lim, hq H4 q, rfl, by omega, by omega, x4'.re, fun H5 r5 x5 r50 r51 => ?_⟩
      have x5' := x4'.down x5
      have c5 := x5.same _ _ (DS.keep c4 ncq)
      have l5 := x5.same _ _ (DS.keep l4 nlq)
      have lM : M.length ≤ 5 := by
        have h3 := hsub.length_le
        rw [List.length_map] at h3
        exact Nat.le_trans h3 (Nat.le_trans (List.length_take_le _ _) (Nat.le_of_lt (lt_of_at ekd)))
      refine ⟨_, rfl, _, rfl, c, _, rfl, DPut.k (k := .inr kd) c5 (small3 (by show (mK _).length ≤ _; unfold mK; rw [List.length_map, List.length_cons]; omega)), ?_⟩
      rw [show putK (cK r M) (.inr kd) (.int r5) = cK r (M ++ [(kd, r5)]) from mK_put (by rw [List.map_cons, List.mem_cons, not_or]; exact ⟨hkf, hkn⟩)]
      refine ⟨x5'.mut n0c ncq, by rw [upd_ne nlc.symm]; exact l5, M ++ [(kd, r5)], some (.str kd), upd_same, ?_, fun p hp => ?_, rfl⟩
      · rw [take_at ekd, List.map_append]
        exact hsub.append (List.Sublist.refl _)
      · rcases List.mem_append.mp hp with hp | hp
        · exact hall p hp
        · rw [List.mem_singleton.mp hp]
          exact ⟨r50, by show r5 ≤ 5 ∨ r5 ≤ high; omega⟩
    · exact ⟨x2', l2, M, some (.str kd), c2, hsub.trans (List.take_sublist_take_left (Nat.le_succ _)), hall, rfl⟩
  · rintro σ H1 ⟨x1, l1, M, x3, c1, hsub, hall, rfl⟩
    exact ⟨_, rfl, k H1 c r M x1 c1 n0c ncq ⟨r0, by omega, hsub, hall⟩⟩
end
end EB

namespace EB
open PySem PySem.Spec PyProof.Rows L2
theorem nodup_sub_len : ∀ {xs ys : List Str}, xs.Nodup → (∀ x ∈ xs, x ∈ ys) → xs.length ≤ ys.length
  | [], _, _, _ => Nat.zero_le _
  | x :: xs, ys, hn, h => by
    rw [List.nodup_cons] at hn
    have h1 : x ∈ ys := h x (List.mem_cons_self ..)
    have h2 : xs.length ≤ (ys.erase x).length := nodup_sub_len hn.2 fun y hy => (List.mem_erase_of_ne fun e => hn.1 (by rw [← e]; exact hy)).mpr (h y (List.mem_cons_of_mem _ hy))
    rw [List.length_erase_of_mem h1] at h2
    have h3 := List.length_pos_of_mem h1
    rw [List.length_cons]
    omega
theorem okM.len {R : List (Str × Int)} (h : okM R) {ks : List Str} (hk : ∀ j, 0 < vL R j → j ∈ ks) : R.length ≤ ks.length := by
  have := nodup_sub_len h.1 fun j hj => hk j (h.pos.mp hj)
  rw [List.length_map] at this
  exact this
/-- one piece of a kind -/
def unitM (kd : Str) (R : List (Str × Int)) : Prop := okM R ∧ ∀ j, vL R j = if j = kd then 1 else 0
theorem kinds5_ok : ∀ k ∈ kinds5, kindOk k = true ∧ k.length ≤ 1000 ∧ k ≠ "full" := by decide +kernel
theorem unit_ok {K : PySem.W.Frag} {H : Hp} {kd : Str} {Q : VK} {E : XK} (hk : kd ∈ kinds5) (x dx : Addr) (nx : H x = none) (nd : H dx = none) (ne : dx ≠ x) (k : ∀ H' R, Same H H' → StkNew K H H' x 0 R → unitM kd R → Q .non H') :
    (fun (vs : List V) (kvs : List (Str × V)) (H : Hp) (Q : VK) (E : XK) => vs.length = 2 ∧ (kvs.map (·.1)).Nodup ∧ (∀ p ∈ kvs, p.1 ∉ (["this_stock", "full"] : List Str)) ∧ kvs.length ≤ 1000 ∧ ∀ q, H q = none → spStkI K (vs ++ [V.ref q]) (upd H q (.dK (EBW.kwK kvs))) Q E)
      (V.ref x :: [V.int 0]) (kwV [(kd, 1)]) (upd (upd H dx (.own x)) x (.ins (He.ga K "Stock") dx [])) Q E := by
  have hj := kinds5_ok kd hk
  refine mkS_ok (K := K) ⟨by simp, fun p hp => ?_⟩ (fun p hp => ?_) (by show 1 < 64; decide) (Int.le_refl _) (by decide) x dx nx nd ne (fun H' R s' hn a b e => k H' R s' hn ⟨a, fun j => ?_⟩)
  · rw [List.mem_singleton.mp hp]
    exact ⟨hj.1, hj.2.1, by show (0 : Int) ≤ 1; decide, by show (1 : Int) ≤ 1000000000000000000; decide⟩
  · rw [List.mem_singleton.mp hp]
    exact hj.2.2
  · rw [b]
    by_cases e : j = kd
    · rw [if_pos e, e]
      unfold vL
      rw [List.lookup_cons, beq_self_eq_true]
      rfl
    · rw [if_neg e]
      exact vL_none fun z => e (List.mem_singleton.mp z)
theorem hq_mono {H H' : Hp} {m : Addr} (s : Same H H') : Same (hq H m) (hq H' m) := fun b o e => by
  by_cases z : b = m
  · rw [z, hq_q] at e
    cases e
  · rw [hq_ne z] at e ⊢
    exact s b o e
theorem hq_upd {H : Hp} {m : Addr} {o : HO} : hq (upd H m o) m = hq H m := funext fun b => by
  by_cases z : b = m
  · rw [z, hq_q, hq_q]
  · rw [hq_ne z, hq_ne z, upd_ne z]
theorem hq_new {H : Hp} {m : Addr} {o : HO} (n : H m = none) : Same H (hq (upd H m o) m) := fun b u e => by
  rw [hq_upd, hq_ne (ne_of_none e n)]
  exact e
theorem StkNew.mono {K : PySem.W.Frag} {H0 H H' : Hp} {x : Addr} {n : Int} {M : List (Str × Int)} (s : Same H H') (h : StkNew K H0 H x n M) : StkNew K H0 H' x n M := by
  obtain ⟨dx, d, h1, h2, h3⟩ := h.ex
  exact ⟨dx, d, s _ _ h1, s _ _ h2, h3⟩
theorem StkNew.low {K : PySem.W.Frag} {H0 H1 H : Hp} {x : Addr} {n : Int} {M : List (Str × Int)} (s : Same H0 H1) (h : StkNew K H1 H x n M) : StkNew K H0 H x n M := by
  obtain ⟨dx, d, h1, h2, h3⟩ := h.ex
  exact ⟨dx, d, h1, h2, s.free h3⟩
theorem StkE.ins {K : PySem.W.Frag} {H : Hp} {x : Addr} {n : Int} {M : List (Str × Int)} (h : StkE K H x n M) : ∃ dx fs, H x = some (.ins (He.ga K "Stock") dx fs) := by
  obtain ⟨dx, d, h1, _⟩ := h.ex
  exact ⟨dx, _, h1⟩
theorem get0 (C : List (Str × Int)) (k : Str) : (valV (mK C) (.inr k)).getD (V.int 0) = V.int (vL C k) := by
  rw [mK_at]
  unfold vL
  cases C.lookup k <;> rfl
/-- a new stock is none of what is hidden -/
theorem StkNew.hid {K : PySem.W.Frag} {H H' : Hp} {x m : Addr} {n : Int} {M : List (Str × Int)} {o : HO} (h : StkNew K H H' x n M) (nx : H x = none) (e : H m = some o) : StkE K (hq H' m) x n M := by
  obtain ⟨dx, d, h1, h2, h3⟩ := h.ex
  exact ⟨dx, d, by rw [hq_ne (ne_of_none e nx).symm]; exact h1, by rw [hq_ne (ne_of_none e h3).symm]; exact h2⟩
theorem mergeK_nd : ∀ (more kvs : List (Key × V)), ((kvs ++ more).map (·.1)).Nodup → mergeK kvs more = kvs ++ more
  | [], kvs, _ => by rw [List.append_nil]; rfl
  | p :: more, kvs, h => by
    have h2 : p.1 ∉ kvs.map (·.1) := fun z => by
      rw [List.map_append, List.nodup_append] at h
      exact h.2.2 _ z _ (List.mem_map.mpr ⟨p, List.mem_cons_self .., rfl⟩) rfl
    have e : putK kvs p.1 p.2 = kvs ++ [p] := by
      unfold putK
      rw [if_neg]
      rw [List.any_eq_true]
      rintro ⟨q, hq, z⟩
      exact h2 (List.mem_map.mpr ⟨q, hq, of_decide_eq_true z⟩)
    show mergeK (putK kvs p.1 p.2) more = _
    rw [e, mergeK_nd more (kvs ++ [p]) (by rw [List.append_assoc]; exact h), List.append_assoc]
    rfl
/-- the dict of units -/
def moreK (x1 x2 x3 x4 x5 : Addr) : List (Key × V) := [(.inr "cap", .ref x1), (.inr "empty", .ref x2), (.inr "label", .ref x3), (.inr "rag", .ref x4), (.inr "z", .ref x5)]
structure MoreAt (K : PySem.W.Frag) (H : Hp) (m : Addr) : Prop where
  ex : ∃ mk : List (Key × V), H m = some (.dK mk) ∧ ∀ k ∈ kinds5, ∃ x R, valV mk (.inr k) = some (.ref x) ∧ StkE K H x 0 R ∧ unitM k R
theorem MoreAt.mono {K : PySem.W.Frag} {H H' : Hp} {m : Addr} (s : Same H H') (h : MoreAt K H m) : MoreAt K H' m := by
  obtain ⟨mk, h1, h2⟩ := h.ex
  refine ⟨mk, s _ _ h1, fun k hk => ?_⟩
  obtain ⟨x, R, a, b, c⟩ := h2 k hk
  exact ⟨x, R, a, b.mono s, c⟩
section
variable {P : Program} {w : World} {K : PySem.W.Frag} {mg : Str → Option Value} {base : Heap} (T : Tx K mg)
include T
def spStockL (K : PySem.W.Frag) : Sp := fun vs H Q _ => ∃ (c : Addr) (C : List (Str × Int)), vs = [.ref c] ∧ H c = some (.dK (mK C)) ∧ ("full" : Str) ∈ C.map (·.1) ∧ (∀ k, 0 ≤ vL C k ∧ vL C k ≤ 1000000000000000000) ∧
  ∀ H' z R, Same H H' → StkNew K H H' z (vL C "full") R → H z = none → okM R → (∀ k, vL R k = if k ∈ kinds5 then vL C k else 0) → Q (.ref z) H'
theorem ok_law_stock : FnR P w K mg base CX0 9 (a_law_stock K) (spStockL K) := by
  refine fnR0 (d := d_law_stock) T.F_law_stock sc_law_stock rfl (fun _ _ _ _ _ _ us hl => match us, hl with | [_], _ => rfl) (fun vs H Q E h => ?_) (fun cdv A outer s H vs Q E hr h => ?_)
  · obtain ⟨c, C, rfl, _⟩ := h
    rfl
  obtain ⟨c, C, rfl, hc, hf, hb, k⟩ := h
  refine ⟨_, (pss_cons (ps_set (i := 1) sc_law_stock.nd rfl (Or.inl rfl) (EBW.pe_makeK (ks := []) T.mk_Stock (ok_Stock_init T) (hr.mono (by decide)) (by rfl) T.g_Stock pass0 (pa_cons (pe_dget (hu_of hr) (pv 0) pe_str (fun _ _ => rfl)) pa_nil) pk_nil)) (pss_cons (ps_set (i := 2) sc_law_stock.nd rfl (Or.inl rfl) (pe_disp (pps_cons pe_str (EBW.pe_makeK (ks := ["cap"]) T.mk_Stock (ok_Stock_init T) (hr.mono (by decide)) (by rfl) T.g_Stock pass0 (pa_cons pe_int pa_nil) (pk_cons pe_int pk_nil)) (pps_cons pe_str (EBW.pe_makeK (ks := ["empty"]) T.mk_Stock (ok_Stock_init T) (hr.mono (by decide)) (by rfl) T.g_Stock pass0 (pa_cons pe_int pa_nil) (pk_cons pe_int pk_nil)) (pps_cons pe_str (EBW.pe_makeK (ks := ["label"]) T.mk_Stock (ok_Stock_init T) (hr.mono (by decide)) (by rfl) T.g_Stock pass0 (pa_cons pe_int pa_nil) (pk_cons pe_int pk_nil)) (pps_cons pe_str (EBW.pe_makeK (ks := ["rag"]) T.mk_Stock (ok_Stock_init T) (hr.mono (by decide)) (by rfl) T.g_Stock pass0 (pa_cons pe_int pa_nil) (pk_cons pe_int pk_nil)) pps_nil)))) rfl rfl (by decide) (by decide))) (pss_cons (ps_asg (EBW.pe_makeK (ks := ["z"]) T.mk_Stock (ok_Stock_init T) (hr.mono (by decide)) (by rfl) T.g_Stock pass0 (pa_cons pe_int pa_nil) (pk_cons pe_int pk_nil)) (pg_sub (pv 2) pe_str (set_dict (hu_of hr)))) (pss_cons (ps_for PassesOwn.never rfl (pi_list (pe_callB cr_sortedS (by rfl) T.n_sorted (by decide +kernel) (pa_cons (pe_lst (pa_cons pe_str (pa_cons pe_str (pa_cons pe_str (pa_cons pe_str (pa_cons pe_str pa_nil)))))) pa_nil))) (pg_name (i := 3) sc_law_stock.nd rfl (Or.inl rfl)) (pss_cons (ps_set (i := 4) sc_law_stock.nd rfl (Or.inl rfl) (pe_dget2 (hu_of hr) (pv 0) (pv 3) pe_int ⟨rfl, rfl, rfl, rfl⟩)) (pss_cons (ps_set (i := 1) sc_law_stock.nd rfl (Or.inl rfl) (pe_op (op_binI T.sf_Stock T.m_Stock_add.at_ T.m_Stock_add.fn (ok_Stock_add T) (hr.mono (by decide)) pass0) (pv 1) (pe_op (op_binN T.bt_Stock_mul T.m_Stock_mul.at_ T.m_Stock_mul.fn (ok_Stock_mul T) (hr.mono (by decide)) pass0) (pe_dget (hu_of hr) (pv 2) (pv 3) (fun _ _ => rfl)) (pe_op op_mod (pv 4) (pe_op op_pow pe_int pe_int))))) (pss_one (ps_set (i := 1) sc_law_stock.nd rfl (Or.inl rfl) (pe_op (op_binI T.sf_Stock T.m_Stock_add.at_ T.m_Stock_add.fn (ok_Stock_add T) (hr.mono (by decide)) pass0) (pv 1) (pe_op (op_binN T.bt_Stock_mul T.m_Stock_mul.at_ T.m_Stock_mul.fn (ok_Stock_mul T) (hr.mono (by decide)) pass0) (pe_op (op_binN T.bt_Stock_mul T.m_Stock_mul.at_ T.m_Stock_mul.fn (ok_Stock_mul T) (hr.mono (by decide)) pass0) (pe_dget (hu_of hr) (pv 2) (pv 3) (fun _ _ => rfl)) (pe_op op_pow pe_int pe_int)) (pe_op op_fdiv (pv 4) (pe_op op_pow pe_int pe_int))))))))) (pss_one (ps_ret (pv 1))))))), ?_⟩
  have hg := DGet.k (k := .inr "full") hc
  rw [mK_val hf] at hg
  refine ⟨_, rfl, c, .int (vL C "full"), rfl, hg, rfl, fun r dr nr ndr ner => ?_⟩
  refine mkS_ok (K := K) (L := []) ⟨List.nodup_nil, fun p hp => (by cases hp)⟩ (fun p hp => (by cases hp)) (by decide) (hb _).1 (hb _).2 r dr nr ndr ner (fun H1 R0 s1 hn1 a1 b1 _ => ⟨rfl, ?_⟩)
  refine fun m nm => ?_
  have s1m := s1.trans (same_new (u := .dK []) nm)
  have em : upd H1 m (.dK []) m = some (.dK []) := upd_same
  have hr1 : StkNew K H (hq (upd H1 m (.dK [])) m) r (vL C "full") R0 := hn1.mono (hq_new nm)
  generalize upd H1 m (.dK []) = H2 at s1m em hr1
  refine ⟨rfl, fun x1 d1 nx1 nd1 ne1 => unit_ok (K := K) (by decide +kernel) x1 d1 nx1 nd1 ne1 fun H3 R1 s3 h3 u3 => ⟨rfl, ?_⟩⟩
  refine ⟨rfl, fun x2 d2 nx2 nd2 ne2 => unit_ok (K := K) (by decide +kernel) x2 d2 nx2 nd2 ne2 fun H4 R2 s4 h4 u4 => ⟨rfl, ?_⟩⟩
  refine ⟨rfl, fun x3 d3 nx3 nd3 ne3 => unit_ok (K := K) (by decide +kernel) x3 d3 nx3 nd3 ne3 fun H5 R3 s5 h5 u5 => ⟨rfl, ?_⟩⟩
  refine ⟨rfl, fun x4 d4 nx4 nd4 ne4 => unit_ok (K := K) (by decide +kernel) x4 d4 nx4 nd4 ne4 fun H6 R4 s6 h6 u6 => ⟨rfl, ?_⟩⟩
  have s24 := s3.trans s4
  have s25 := s24.trans s5
  have s26 := s25.trans s6
  have k1 : StkE K (hq H6 m) x1 0 R1 := (h3.hid nx1 em).mono (hq_mono ((s4.trans s5).trans s6))
  have k2 : StkE K (hq H6 m) x2 0 R2 := (h4.hid nx2 (s3 _ _ em)).mono (hq_mono (s5.trans s6))
  have k3 : StkE K (hq H6 m) x3 0 R3 := (h5.hid nx3 (s24 _ _ em)).mono (hq_mono s6)
  have k4 : StkE K (hq H6 m) x4 0 R4 := h6.hid nx4 (s25 _ _ em)
  have hr6 : StkNew K H (hq H6 m) r (vL C "full") R0 := hr1.mono (hq_mono s26)
  refine ⟨s26 _ _ em, [(.inr "cap", .ref x1), (.inr "empty", .ref x2), (.inr "label", .ref x3), (.inr "rag", .ref x4)], rfl, by show 4 ≤ 15; decide, ?_⟩
  rw [mergeK_nd _ _ (by show ([.inr "cap", .inr "empty", .inr "label", .inr "rag"] : List Key).Nodup; decide +kernel), List.nil_append]
  have sm : Same H (upd H6 m (.dK [(.inr "cap", .ref x1), (.inr "empty", .ref x2), (.inr "label", .ref x3), (.inr "rag", .ref x4)])) := same_mut (s1m.trans s26) (s1.free nm)
  rw [← hq_upd (o := .dK [(.inr "cap", .ref x1), (.inr "empty", .ref x2), (.inr "label", .ref x3), (.inr "rag", .ref x4)])] at k1 k2 k3 k4 hr6
  have e7 : upd H6 m (.dK [(.inr "cap", .ref x1), (.inr "empty", .ref x2), (.inr "label", .ref x3), (.inr "rag", .ref x4)]) m = some (.dK [(.inr "cap", .ref x1), (.inr "empty", .ref x2), (.inr "label", .ref x3), (.inr "rag", .ref x4)]) := upd_same
  generalize upd H6 m (.dK [(.inr "cap", .ref x1), (.inr "empty", .ref x2), (.inr "label", .ref x3), (.inr "rag", .ref x4)]) = H7 at k1 k2 k3 k4 hr6 sm e7
  refine ⟨rfl, fun x5 d5 nx5 nd5 ne5 => unit_ok (K := K) (by decide +kernel) x5 d5 nx5 nd5 ne5 fun H8 R5 s8 h8 u8 => ⟨rfl, ?_⟩⟩
  have k5 := h8.hid nx5 e7
  refine ⟨_, rfl, m, _, rfl, DPut.k (k := .inr "z") (s8 _ _ e7) (by show 4 < sizeLine; decide), ?_⟩
  rw [show putK [((.inr "cap" : Key), V.ref x1), (.inr "empty", .ref x2), (.inr "label", .ref x3), (.inr "rag", .ref x4)] (.inr "z") (.ref x5) = moreK x1 x2 x3 x4 x5 from
    mergeK_nd [((.inr "z" : Key), V.ref x5)] [(.inr "cap", .ref x1), (.inr "empty", .ref x2), (.inr "label", .ref x3), (.inr "rag", .ref x4)] (by show ([.inr "cap", .inr "empty", .inr "label", .inr "rag", .inr "z"] : List Key).Nodup; decide +kernel)]
  have s9 : Same H (upd H8 m (.dK (moreK x1 x2 x3 x4 x5))) := same_mut (sm.trans s8) (s1.free nm)
  have up : ∀ {x : Addr} {n : Int} {M : List (Str × Int)}, StkE K (hq H7 m) x n M → StkE K (upd H8 m (.dK (moreK x1 x2 x3 x4 x5))) x n M := fun h => by
    have := h.mono (hq_mono s8)
    rw [← hq_upd (o := .dK (moreK x1 x2 x3 x4 x5))] at this
    exact this.mono hq_same
  have hr9 : StkNew K H (upd H8 m (.dK (moreK x1 x2 x3 x4 x5))) r (vL C "full") R0 := by
    have := hr6.mono (hq_mono s8)
    rw [← hq_upd (o := .dK (moreK x1 x2 x3 x4 x5))] at this
    exact this.mono hq_same
  have k5' : StkE K (upd H8 m (.dK (moreK x1 x2 x3 x4 x5))) x5 0 R5 := by
    rw [← hq_upd (o := .dK (moreK x1 x2 x3 x4 x5))] at k5
    exact k5.mono hq_same
  have hm9 : MoreAt K (upd H8 m (.dK (moreK x1 x2 x3 x4 x5))) m := by
    refine ⟨_, upd_same, fun j hj => ?_⟩
    rcases List.mem_cons.mp hj with rfl | hj
    · exact ⟨x1, R1, by rfl, up k1, u3⟩
    rcases List.mem_cons.mp hj with rfl | hj
    · exact ⟨x2, R2, by rfl, up k2, u4⟩
    rcases List.mem_cons.mp hj with rfl | hj
    · exact ⟨x3, R3, by rfl, up k3, u5⟩
    rcases List.mem_cons.mp hj with rfl | hj
    · exact ⟨x4, R4, by rfl, up k4, u6⟩
    rcases List.mem_cons.mp hj with rfl | hj
    · exact ⟨x5, R5, by rfl, k5', u8⟩
    · cases hj
  clear k1 k2 k3 k4 k5 k5' hr6 up
  generalize upd H8 m (.dK (moreK x1 x2 x3 x4 x5)) = H9 at s9 hr9 hm9
  refine ⟨by show 5 ≤ sizeLine; decide, fun l nl => ?_⟩
  refine ⟨l, kinds5, rfl, SqL.of upd_same, by show 5 < 64; decide, fun ys kp hp hsrt nk => ?_⟩
  have sA : Same H9 (upd (upd H9 l (.lst [.str "cap", .str "empty", .str "label", .str "rag", .str "z"])) kp (.lst (ys.map V.str))) := (same_new nl).trans (same_new nk)
  have eA : upd (upd H9 l (.lst [.str "cap", .str "empty", .str "label", .str "rag", .str "z"])) kp (.lst (ys.map V.str)) kp = some (.lst (ys.map V.str)) := upd_same
  generalize upd (upd H9 l (.lst [.str "cap", .str "empty", .str "label", .str "rag", .str "z"])) kp (.lst (ys.map V.str)) = HA at sA eA
  have e9 : (10 : Int) ^ (9 : Int).toNat = 1000000000 := by decide
  refine ⟨kp, rfl, ⟨_, SqL.of eA⟩, for_list (K := K) (a := kp) (xs := ys.map V.str) (fun i σ H1 => Same HA H1 ∧ ∃ (z : Addr) (R : List (Str × Int)) (x3 x4 : Option V), StkNew K H H1 z (vL C "full") R ∧ H z = none ∧ okM R ∧ (∀ k, vL R k = if k ∈ ys.take i then vL C k else 0) ∧ σ = [some (.ref c), some (.ref z), some (.ref m), x3, x4])
    ⟨Same.refl _, r, R0, none, none, hr9.mono sA, nr, a1, fun k => by rw [b1]; rfl, rfl⟩ (fun i σ H1 _ q => SqL.of (q.1 _ _ eA)) ?_ ?_⟩
  · rintro i u σ H1 hx ⟨s1', z, R, y3, y4, hz, nz, oR, vR, rfl⟩
    rw [List.getElem?_map] at hx
    obtain ⟨kd, ekd, rfl⟩ := Option.map_eq_some_iff.mp hx
    have hkd : kd ∈ kinds5 := hp.mem_iff.mp (List.mem_of_getElem? ekd)
    have sH1 := (s9.trans sA).trans s1'
    have c1 := sH1 _ _ hc
    obtain ⟨mk, m1, m2⟩ := (hm9.mono (sA.trans s1')).ex
    obtain ⟨xk, Rk, v1, v2, v3, v4⟩ := m2 kd hkd
    have hbk := hb kd
    have lk : Rk.length ≤ 5 := v3.len (ks := kinds5) fun j hj => by
      rw [v4] at hj
      by_cases e : j = kd
      · rw [e]; exact hkd
      · rw [if_neg e] at hj; exact absurd hj (Int.lt_irrefl _)
    have lR : R.length ≤ 5 := oR.len (ks := kinds5) fun j hj => by
      rw [vR] at hj
      by_cases e : j ∈ ys.take i
      · exact hp.mem_iff.mp (List.mem_of_mem_take e)
      · rw [if_neg e] at hj; exact absurd hj (Int.lt_irrefl _)
    have nin : kd ∉ ys.take i := fun z => by
      rw [List.mem_take_iff_getElem] at z
      obtain ⟨j, hj, e⟩ := z
      have : j = i := nd_ix (hp.nodup_iff.mpr (show kinds5.Nodup by decide +kernel)) (i := j) (j := i) (by rw [List.getElem?_eq_getElem (by omega), e]) ekd
      omega
    refine ⟨_, rfl, c, rfl, .inl ⟨_, .inl c1⟩, _, rfl, _, .inl ⟨mK C, .inr kd, .inl c1, rfl, rfl⟩, ?_⟩
    rw [get0]
    have hgk := DGet.k (k := .inr kd) m1
    rw [v1] at hgk
    obtain ⟨dxk, fxk, ixk⟩ := v2.ins
    have hmod := Int.emod_nonneg (vL C kd) (show (1000000000 : Int) ≠ 0 by decide)
    have hmod2 := Int.emod_lt_of_pos (vL C kd) (show (0 : Int) < 1000000000 by decide)
    have hdiv : 0 ≤ vL C kd / 1000000000 ∧ vL C kd / 1000000000 ≤ 1000000000 := ⟨by omega, by omega⟩
    have hsum : vL C kd % 1000000000 + 1000000000 * (vL C kd / 1000000000) = vL C kd := by omega
    have lmul : ∀ (g : Int) (Rw : List (Str × Int)), okM Rw → (∀ j, vL Rw j = vL Rk j * g) → Rw.length ≤ 5 := fun g Rw ow vw => ow.len (ks := kinds5) fun j hj => by
      rw [vw, v4] at hj
      by_cases e : j = kd
      · rw [e]; exact hkd
      · rw [if_neg e, Int.zero_mul] at hj; exact absurd hj (Int.lt_irrefl _)
    refine ⟨_, rfl, _, rfl, _, rfl, m, _, rfl, hgk, _, rfl, _, _, rfl, rfl, ⟨by decide, by decide, by decide⟩, _, _, rfl, rfl, by rw [e9]; show (0 : Int) < 1000000000; decide, xk, dxk, fxk, rfl, ixk, ⟨_, rfl⟩, ?_⟩
    refine ⟨xk, 0, vL C kd % 1000000000, Rk, congrArg (fun t => [V.ref xk, V.int (vL C kd % t)]) e9, v2, v3, Int.le_refl _, hmod, by omega, by rw [Int.zero_mul]; decide, fun j => ?_, by omega, fun H2 w Rw s2 hw nw ow vw => ?_⟩
    · rw [v4]
      by_cases e : j = kd
      · rw [if_pos e, Int.one_mul]; omega
      · rw [if_neg e, Int.zero_mul]; decide
    rw [Int.zero_mul] at hw
    have hz2 := hz.mono s2
    obtain ⟨dz, fz, iz⟩ := hz2.e.ins
    obtain ⟨dw, fw, iw⟩ := hw.e.ins
    have lw := lmul _ Rw ow vw
    have val1 : ∀ j, vL R j + vL Rw j = (if j ∈ ys.take i then vL C j else 0) + (if j = kd then vL C kd % 1000000000 else 0) := fun j => by
      rw [vR, vw, v4]
      by_cases e : j = kd
      · rw [if_pos e, if_pos e, Int.one_mul]
      · rw [if_neg e, if_neg e, Int.zero_mul]
    refine ⟨z, dz, fz, w, dw, fw, rfl, rfl, iz, iw, z, w, vL C "full", 0, R, Rw, rfl, hz2.e, hw.e, oR, ow, (hb _).1, Int.le_refl _, by rw [Int.add_zero]; exact (hb _).2, fun j => ?_, by omega, fun H3 z3 R3 s3 h3 nz3 o3 v3' => ?_⟩
    · rw [val1]
      have := hb j
      by_cases e : j = kd
      · rw [e, if_neg nin, if_pos rfl]; omega
      · rw [if_neg e]
        by_cases e2 : j ∈ ys.take i
        · rw [if_pos e2]; omega
        · rw [if_neg e2]; decide
    rw [Int.add_zero] at h3
    have s13 := s2.trans s3
    have l3 : R3.length ≤ 5 := o3.len (ks := kinds5) fun j hj => by
      rw [v3', val1] at hj
      by_cases e : j = kd
      · rw [e]; exact hkd
      · rw [if_neg e] at hj
        by_cases e2 : j ∈ ys.take i
        · exact hp.mem_iff.mp (List.mem_of_mem_take e2)
        · rw [if_neg e2] at hj; exact absurd hj (by decide)
    have hgk3 := DGet.k (k := .inr kd) (s13 _ _ m1)
    rw [v1] at hgk3
    have v23 := v2.mono s13
    refine ⟨_, rfl, _, rfl, _, rfl, m, _, rfl, hgk3, _, _, rfl, rfl, ⟨by decide, by decide, by decide⟩, xk, dxk, fxk, rfl, s13 _ _ ixk, ⟨_, rfl⟩, ?_⟩
    refine ⟨xk, 0, 1000000000, Rk, congrArg (fun t => [V.ref xk, V.int t]) e9, v23, v3, Int.le_refl _, by decide, by decide, by decide, fun j => ?_, by omega, fun H4 u Ru s4 hu nu ou vu => ?_⟩
    · rw [v4]
      by_cases e : j = kd
      · rw [if_pos e]; decide
      · rw [if_neg e]; decide
    rw [Int.zero_mul] at hu
    obtain ⟨du, fu, iu⟩ := hu.e.ins
    have lu := lmul _ Ru ou vu
    refine ⟨_, rfl, _, _, rfl, rfl, ⟨by decide, by decide, by decide⟩, _, _, rfl, rfl, ⟨by rw [e9]; decide, by rw [e9]; decide⟩, u, du, fu, rfl, iu, ⟨_, rfl⟩, ?_⟩
    have vu2 : ∀ j, vL Ru j * (vL C kd / 1000000000) = if j = kd then 1000000000 * (vL C kd / 1000000000) else 0 := fun j => by
      rw [vu, v4]
      by_cases e : j = kd
      · rw [if_pos e, if_pos e, Int.one_mul]
      · rw [if_neg e, if_neg e, Int.zero_mul, Int.zero_mul]
    refine ⟨u, 0, vL C kd / 1000000000, Ru, congrArg (fun t => [V.ref u, V.int (vL C kd / t)]) e9, hu.e, ou, Int.le_refl _, hdiv.1, hdiv.2, by rw [Int.zero_mul]; decide, fun j => ?_, by omega, fun H5 y Ry s5 hy ny oy vy => ?_⟩
    · rw [vu2]
      by_cases e : j = kd
      · rw [if_pos e]; omega
      · rw [if_neg e]; decide
    rw [Int.zero_mul] at hy
    have s35 := s4.trans s5
    have h35 := h3.mono s35
    obtain ⟨d3, f3, i3⟩ := h35.e.ins
    obtain ⟨dy, fy, iy⟩ := hy.e.ins
    have ly : Ry.length ≤ 5 := oy.len (ks := kinds5) fun j hj => by
      rw [vy, vu2] at hj
      by_cases e : j = kd
      · rw [e]; exact hkd
      · rw [if_neg e] at hj; exact absurd hj (Int.lt_irrefl _)
    have val2 : ∀ j, vL R3 j + vL Ry j = if j ∈ ys.take i ++ [kd] then vL C j else 0 := fun j => by
      rw [v3', val1, vy, vu2]
      by_cases e : j = kd
      · rw [e, if_neg nin, if_pos rfl, if_pos rfl, if_pos (List.mem_append.mpr (.inr (List.mem_singleton.mpr rfl)))]
        omega
      · rw [if_neg e, if_neg e]
        by_cases e2 : j ∈ ys.take i
        · rw [if_pos e2, if_pos (List.mem_append.mpr (.inl e2))]
          omega
        · rw [if_neg e2, if_neg fun z => (List.mem_append.mp z).elim e2 fun z => e (List.mem_singleton.mp z)]
          rfl
    refine ⟨z3, d3, f3, y, dy, fy, rfl, rfl, i3, iy, z3, y, vL C "full", 0, R3, Ry, rfl, h35.e, hy.e, o3, oy, (hb _).1, Int.le_refl _, by rw [Int.add_zero]; exact (hb _).2, fun j => ?_, by omega, fun H6 z6 R6 s6' h6 nz6 o6 v6 => ?_⟩
    · rw [val2]
      by_cases e : j ∈ ys.take i ++ [kd]
      · rw [if_pos e]; exact (hb j).2
      · rw [if_neg e]; decide
    rw [Int.add_zero] at h6
    have sH5 := (sH1.trans s13).trans s35
    exact ⟨((s1'.trans s13).trans s35).trans s6', z6, R6, some (.str kd), some (.int (vL C kd)), h6.low sH5, sH5.free nz6, o6, fun j => by rw [v6, val2, take_at ekd], rfl⟩
  · rintro σ H1 ⟨s1', z, R, y3, y4, hz, nz, oR, vR, rfl⟩
    refine ⟨_, rfl, k H1 z R ((s9.trans sA).trans s1') hz nz oR fun j => ?_⟩
    rw [vR, List.length_map, List.take_length]
    by_cases e : j ∈ kinds5
    · rw [if_pos e, if_pos (hp.mem_iff.mpr e)]
    · rw [if_neg e, if_neg fun z => e (hp.mem_iff.mp z)]
end
end EB

namespace EB
open PySem PySem.Spec PyProof.Rows L2
def kindsA : List Str := ["cap", "empty", "label", "rag", "z", "a"]
theorem kindsA_ok : ∀ k ∈ kindsA, kindOk k = true ∧ k.length ≤ 1000 ∧ k ≠ "full" := by decide +kernel
/-- trades as the stocks' laws draw them -/
structure TrD (ts : List Tr) : Prop where
  ne : ts ≠ []
  fair : Fair ts
  nm : nmOk ts
  ks : ∀ t ∈ ts, t.k ∈ kindsA
def kind3 : List (List Str) := [["cap", "empty", "label"], ["empty", "cap", "rag"], ["z", "a", "empty"]]
theorem kind3_ok : ∀ ks ∈ kind3, ks.length = 3 ∧ ks.Nodup ∧ ∀ k ∈ ks, k ∈ kindsA := by decide +kernel
namespace TD
def trD (t : Tr) : PyData := .tuple [.str t.k, .int t.l, .int t.n]
theorem trs_lay : ∀ ts : List Tr, (∀ t ∈ ts, PyData.strOk t.k = true) → PyData.canLayAll0 (ts.map trD) = true ∧ PyData.depthAll (ts.map trD) ≤ 4
  | [], _ => ⟨rfl, by simp [PyData.depthAll]⟩
  | t :: ts, q => by
    have h := trs_lay ts fun z m => q z (List.mem_cons_of_mem _ m)
    have ht := q t (List.mem_cons_self ..)
    rw [List.map_cons]
    refine ⟨by simp only [PyData.canLayAll0, trD, PyData.canLay0, h.1, ht, Bool.and_true, Bool.true_and], ?_⟩
    simp only [PyData.depthAll, trD, PyData.depth]
    omega
theorem trs_shaped {ts : List Tr} (q : ∀ t ∈ ts, PyData.strOk t.k = true) : SeqAt.shaped (PyData.list (ts.map trD)) = true := by
  have h := trs_lay ts q
  unfold SeqAt.shaped
  rw [Bool.and_eq_true, decide_eq_true_eq]
  refine ⟨by rw [PyData.canLay0]; exact h.1, ?_⟩
  rw [PyData.depth]
  omega
theorem trs_eqv (ts : List Tr) : PyData.eqv (PyData.list (ts.map trD)) (.list []) = decide (ts = []) := by
  cases ts with
  | nil => rfl
  | cons k ks =>
    rw [decide_eq_false (by simp)]
    simp [PyData.eqv, PyData.eqvAll]
theorem trs_dpl {K : PySem.W.Frag} {H : Hp} : ∀ {ps : List Addr} {ts : List Tr}, ps.length = ts.length → (∀ (i : Nat) (p : Addr) (t : Tr), ps[i]? = some p → ts[i]? = some t → SqT K H p t.vs) → DpAll K H (ps.map V.ref) (ts.map trD)
  | [], [], _, _ => .nil
  | [], _ :: _, h, _ => nomatch h
  | _ :: _, [], h, _ => nomatch h
  | a :: ps, t :: ts, h, k => .cons (.tup (k 0 a t rfl rfl) (.cons (.str _) (.cons (.int _) (.cons (.int _) .nil)))) (trs_dpl (Nat.succ.inj h) fun j b u e1 e2 => k (j + 1) b u e1 e2)
theorem kA_str : ∀ k ∈ kindsA, PyData.strOk k = true := by decide +kernel
theorem shN : SeqAt.shaped (PyData.list []) = true := by decide +kernel
end TD
theorem NewTr.dsm {K : PySem.W.Frag} {H0 H H' : Hp} {q a : Addr} {ns : List Int} {ps : List Addr} {ts : List Tr} (n : NewTr H ps ts) (x : DS K H0 H q a ns) (s : Same (hq H q) H') : NewTr H' ps ts := ⟨n.1, fun j p t a b => s _ _ (x.keepO (n.2 j p t a b) fun xs z => by cases z)⟩
section
variable {P : Program} {w : World} {K : PySem.W.Frag} {mg : Str → Option Value} {base : Heap} (T : Tx K mg)
include T
def spTrD (K : PySem.W.Frag) : Sp := fun vs H Q _ => ∃ (q a : Addr) (ns : List Int) (H0 : Hp), vs = [.ref q] ∧ DS K H0 H q a ns ∧
  ∀ H' p ts ps, DS K H0 H' q a ns → H' p = some (.lst (ps.map V.ref)) → p ≠ q → H0 p = none → NewTr H' ps ts → TrD ts → Q (.ref p) H'
theorem ok_law_trades : FnR P w K mg base CX0 2 (a_law_trades K) (spTrD K) := by
  refine fnR0 (d := d_law_trades) T.F_law_trades sc_law_trades rfl (fun _ _ _ _ _ _ us hl => match us, hl with | [_], _ => rfl) (fun vs H Q E h => ?_) (fun cdv A outer s H vs Q E hr h => ?_)
  · obtain ⟨q, a, ns, H0, rfl, _⟩ := h
    rfl
  obtain ⟨q, a, ns, H0, rfl, x, k⟩ := h
  refine ⟨_, (pss_cons (ps_set (i := 1) sc_law_trades.nd rfl (Or.inl rfl) (pe_ix ix_list (pe_lst (pa_cons (pe_lst (pa_cons pe_str (pa_cons pe_str (pa_cons pe_str pa_nil)))) (pa_cons (pe_lst (pa_cons pe_str (pa_cons pe_str (pa_cons pe_str pa_nil)))) (pa_cons (pe_lst (pa_cons pe_str (pa_cons pe_str (pa_cons pe_str pa_nil)))) pa_nil)))) (pe_cR (ok_law_drawn T) (hr.mono (by decide)) T.F_law_drawn.kp T.g_law_drawn pass0 (pa_cons (pv 0) (pa_cons pe_int pa_nil))) (fun _ _ => rfl))) (pss_cons (ps_par (i := 2) (j := 3) (by rfl) sc_law_trades.nd rfl rfl (by decide) rfl rfl (pa_cons (pe_lst pa_nil) (pa_cons pe_int pa_nil)) (by rfl)) (pss_cons (ps_for PassesOwn.never rfl (pi_range1 rfl T.n_range (pa_cons (pe_op op_add pe_int (pe_cR (ok_law_drawn T) (hr.mono (by decide)) T.F_law_drawn.kp T.g_law_drawn pass0 (pa_cons (pv 0) (pa_cons pe_int pa_nil)))) pa_nil)) (pg_name (i := 4) sc_law_trades.nd rfl (Or.inl rfl)) (pss_cons (ps_set (i := 5) sc_law_trades.nd rfl (Or.inl rfl) (pe_op op_add pe_int (pe_cR (ok_law_drawn T) (hr.mono (by decide)) T.F_law_drawn.kp T.g_law_drawn pass0 (pa_cons (pv 0) (pa_cons (pe_ix ix_list (pe_lst (pa_cons pe_int (pa_cons pe_int pa_nil))) (pe_cR (ok_law_drawn T) (hr.mono (by decide)) T.F_law_drawn.kp T.g_law_drawn pass0 (pa_cons (pv 0) (pa_cons pe_int pa_nil))) (fun _ _ => rfl)) pa_nil))))) (pss_cons (ps_set (i := 6) sc_law_trades.nd rfl (Or.inl rfl) (pe_cR (ok_law_drawn T) (hr.mono (by decide)) T.F_law_drawn.kp T.g_law_drawn pass0 (pa_cons (pv 0) (pa_cons pe_int pa_nil)))) (pss_one (ps_if (pt_cmpR op_le (pe_op op_add (pv 3) (pe_op op_fdiv (pe_op op_mul (pv 6) pe_int) (pv 5))) pe_int (nomark _)) (pss_cons (ps_set (i := 3) sc_law_trades.nd rfl (Or.inl rfl) (pe_op op_add (pv 3) (pe_op op_fdiv (pe_op op_mul (pv 6) pe_int) (pv 5)))) (pss_one (ps_expr (pe_bm PySem.F.plainAttrs_list PySem.F.slot_list_append PySem.F.type_list_append mt_append (pv 2) (pa_cons (pe_tup (pa_cons (pe_ix ix_list (pv 1) (pv 4) (fun _ _ => rfl)) (pa_cons (pv 6) (pa_cons (pv 5) pa_nil)))) pa_nil))))) pss_nil))))) (pss_one (ps_ret (pe_ifExp (pt_cmpR (op_neD hr.units) (pv 2) (pe_lst pa_nil) (nomark _)) (pv 2) (pe_lst (pa_cons (pe_tup (pa_cons pe_str (pa_cons pe_int (pa_cons pe_int pa_nil)))) pa_nil)))))))), ?_⟩
  refine ⟨by show 3 ≤ sizeLine; decide, fun l1 n1 => ⟨by show 3 ≤ sizeLine; decide, fun l2 n2 => ⟨by show 3 ≤ sizeLine; decide, fun l3 n3 => ⟨by show 3 ≤ sizeLine; decide, fun L nL => ?_⟩⟩⟩⟩
  have sL : Same H (upd (upd (upd (upd H l1 (.lst [.str "cap", .str "empty", .str "label"])) l2 (.lst [.str "empty", .str "cap", .str "rag"])) l3 (.lst [.str "z", .str "a", .str "empty"])) L (.lst [.ref l1, .ref l2, .ref l3])) := (((same_new n1).trans (same_new n2)).trans (same_new n3)).trans (same_new nL)
  have a1 := upd_old (u := .lst [.ref l1, .ref l2, .ref l3]) (upd_old (u := .lst [.str "z", .str "a", .str "empty"]) (upd_old (u := .lst [.str "empty", .str "cap", .str "rag"]) (upd_same (H := H) (a := l1) (o := .lst [.str "cap", .str "empty", .str "label"])) n2) n3) nL
  have a2 := upd_old (u := .lst [.ref l1, .ref l2, .ref l3]) (upd_old (u := .lst [.str "z", .str "a", .str "empty"]) (upd_same (H := upd H l1 (.lst [.str "cap", .str "empty", .str "label"])) (a := l2) (o := .lst [.str "empty", .str "cap", .str "rag"])) n3) nL
  have a3 := upd_old (u := .lst [.ref l1, .ref l2, .ref l3]) (upd_same (H := upd (upd H l1 (.lst [.str "cap", .str "empty", .str "label"])) l2 (.lst [.str "empty", .str "cap", .str "rag"])) (a := l3) (o := .lst [.str "z", .str "a", .str "empty"])) nL
  have q1 := x.new n1
  have q2 := (x.grow (same_new (u := .lst [.str "cap", .str "empty", .str "label"]) n1)).new n2
  have q3 := (x.grow ((same_new (u := .lst [.str "cap", .str "empty", .str "label"]) n1).trans (same_new (u := .lst [.str "empty", .str "cap", .str "rag"]) n2))).new n3
  have qL := (x.grow (((same_new (u := .lst [.str "cap", .str "empty", .str "label"]) n1).trans (same_new (u := .lst [.str "empty", .str "cap", .str "rag"]) n2)).trans (same_new (u := .lst [.str "z", .str "a", .str "empty"]) n3))).new nL
  have xL := x.grow sL
  have aL := upd_same (H := upd (upd (upd H l1 (.lst [.str "cap", .str "empty", .str "label"])) l2 (.lst [.str "empty", .str "cap", .str "rag"])) l3 (.lst [.str "z", .str "a", .str "empty"])) (a := L) (o := .lst [.ref l1, .ref l2, .ref l3])
  generalize upd (upd (upd (upd H l1 (.lst [.str "cap", .str "empty", .str "label"])) l2 (.lst [.str "empty", .str "cap", .str "rag"])) l3 (.lst [.str "z", .str "a", .str "empty"])) L (.lst [.ref l1, .ref l2, .ref l3]) = HL at xL a1 a2 a3 aL
  clear sL n1 n2 n3 nL
  refine ⟨_, rfl, q, a, ns, 3, hq HL q, rfl, by decide, by decide, xL.re, fun H2 r x2 r0 r1 => ?_⟩
  have b1 := x2.same _ _ (DS.keep a1 q1)
  have b2 := x2.same _ _ (DS.keep a2 q2)
  have b3 := x2.same _ _ (DS.keep a3 q3)
  have bL := x2.same _ _ (DS.keep aL qL)
  have x2' := xL.down x2
  obtain ⟨li, ks, eli, hks, hli, nli⟩ : ∃ (li : Addr) (ks : List Str), [V.ref l1, V.ref l2, V.ref l3][r.toNat]? = some (.ref li) ∧ ks ∈ kind3 ∧ H2 li = some (.lst (ks.map V.str)) ∧ li ≠ q := by
    rcases (show r = 0 ∨ r = 1 ∨ r = 2 by omega) with rfl | rfl | rfl
    · exact ⟨l1, ["cap", "empty", "label"], rfl, by decide +kernel, b1, q1⟩
    · exact ⟨l2, ["empty", "cap", "rag"], rfl, by decide +kernel, b2, q2⟩
    · exact ⟨l3, ["z", "a", "empty"], rfl, by decide +kernel, b3, q3⟩
  obtain ⟨k3, knd, kin⟩ := kind3_ok ks hks
  refine ⟨L, _, r, .ref li, rfl, rfl, SqL.of bL, at_of (j := r.toNat) (by omega) eli, ?_⟩
  refine ⟨Nat.zero_le _, fun F nF => ⟨_, _, rfl, ?_⟩⟩
  have qF := x2'.new nF
  have nFl : li ≠ F := ne_of_none hli nF
  have n0F := x2'.same.free nF
  have x3 := x2'.grow (same_new (u := .lst []) nF)
  have l3' := upd_old (u := .lst []) hli nF
  have f3 : upd H2 F (.lst []) F = some (.lst []) := upd_same
  generalize upd H2 F (.lst []) = H3 at x3 l3' f3
  refine ⟨_, rfl, q, a, ns, 3, hq H3 q, rfl, by decide, by decide, x3.re, fun H4 r4 x4 r40 r41 => ⟨_, _, rfl, rfl, _, rfl, by omega, by omega, ?_⟩⟩
  have x4' := x3.down x4
  have l4 := x4.same _ _ (DS.keep l3' nli)
  have f4 := x4.same _ _ (DS.keep f3 qF)
  refine for_range (n := (1 + r4).toNat) (fun i σ H1 => DS K H0 H1 q a ns ∧ H1 li = some (.lst (ks.map V.str)) ∧ ∃ (ts : List Tr) (qs : List Addr) (y4 y5 y6 : Option V), H1 F = some (.lst (qs.map V.ref)) ∧ NewTr H1 qs ts ∧ (ts.map Tr.k).Sublist (ks.take i) ∧ (∀ t ∈ ts, t.ok) ∧ worth ts ≤ 24948 ∧ 0 ≤ worth ts ∧
      σ = [some (.ref q), some (.ref li), some (.ref F), some (.int (worth ts)), y4, y5, y6])
    ⟨x4', l4, [], [], none, none, none, f4, ⟨rfl, fun j p t a => (by cases a)⟩, List.Sublist.refl _, fun t ht => (by cases ht), by decide, by decide, rfl⟩ ?_ ?_
  · rintro i σ H5 hi ⟨x5, l5, ts, qs, y4, y5, y6, f5, hN, hsub, hok, hw, hw0, rfl⟩
    have hi3 : i < 3 := by omega
    obtain ⟨kd, ekd⟩ : ∃ kd, ks[i]? = some kd := ⟨_, List.getElem?_eq_getElem (by omega)⟩
    refine ⟨_, rfl, by show 2 ≤ sizeLine; decide, fun t nt => ?_⟩
    have qt := x5.new nt
    have x6 := x5.grow (same_new (u := .lst [.int 4, .int 12]) nt)
    have l6 := upd_old (u := .lst [.int 4, .int 12]) l5 nt
    have f6 := upd_old (u := .lst [.int 4, .int 12]) f5 nt
    have hN6 := hN.mono fun p xs e => upd_old (u := .lst [.int 4, .int 12]) e nt
    have t6 : upd H5 t (.lst [.int 4, .int 12]) t = some (.lst [.int 4, .int 12]) := upd_same
    generalize upd H5 t (.lst [.int 4, .int 12]) = H6 at x6 l6 f6 hN6 t6
    refine ⟨_, rfl, q, a, ns, 2, hq H6 q, rfl, by decide, by decide, x6.re, fun H7 r7 x7 r70 r71 => ?_⟩
    have x7' := x6.down x7
    have l7 := x7.same _ _ (DS.keep l6 nli)
    have f7 := x7.same _ _ (DS.keep f6 qF)
    have t7 := x7.same _ _ (DS.keep t6 qt)
    have hN7 := hN6.dsm x6 x7.same
    obtain ⟨lim, elim, hlim⟩ : ∃ lim : Int, [V.int 4, V.int 12][r7.toNat]? = some (.int lim) ∧ (lim = 4 ∨ lim = 12) := by
      rcases (show r7 = 0 ∨ r7 = 1 by omega) with rfl | rfl
      · exact ⟨4, rfl, .inl rfl⟩
      · exact ⟨12, rfl, .inr rfl⟩
    refine ⟨t, _, r7, .int lim, rfl, rfl, SqL.of t7, at_of (j := r7.toNat) (by omega) elim, q, a, ns, lim, hq H7 q, rfl, by omega, by omega, x7'.re, fun H8 r8 x8 r80 r81 => ⟨_, _, rfl, rfl, ?_⟩⟩
    have x8' := x7'.down x8
    have l8 := x8.same _ _ (DS.keep l7 nli)
    have f8 := x8.same _ _ (DS.keep f7 qF)
    have hN8 := hN7.dsm x7' x8.same
    refine ⟨_, rfl, q, a, ns, 3, hq H8 q, rfl, by decide, by decide, x8'.re, fun H9 lf x9 lf0 lf1 => ?_⟩
    have x9' := x8'.down x9
    have l9 := x9.same _ _ (DS.keep l8 nli)
    have f9 := x9.same _ _ (DS.keep f8 qF)
    have hN9 := hN8.dsm x8' x9.same
    obtain ⟨nd, hnd⟩ : ∃ nd : Int, nd = 1 + r8 := ⟨_, rfl⟩
    have nd1 : 1 ≤ nd := by omega
    have nd2 : nd ≤ 12 := by omega
    obtain ⟨q0, hq0⟩ := dvd_big nd1 nd2
    have eq1 : lf * 27720 / nd = q0 * lf := by
      rw [hq0, show lf * (nd * q0) = nd * (q0 * lf) by rw [Int.mul_left_comm, Int.mul_comm lf q0]]
      exact Int.mul_ediv_cancel_left _ (by omega)
    have eq2 : (27720 : Int) / nd = q0 := by
      rw [hq0]
      exact Int.mul_ediv_cancel_left _ (by omega)
    have hq00 : 0 ≤ q0 := by
      rw [← eq2]
      exact Int.ediv_nonneg (by decide) (by omega)
    have hql : 0 ≤ q0 * lf := Int.mul_nonneg hq00 lf0
    have ewt : worth (ts ++ [⟨kd, lf, nd⟩]) = worth ts + lf * 27720 / nd := by
      rw [worth_snoc, eq1]
      show worth ts + 27720 / nd * lf = _
      rw [eq2]
    dsimp only [gName]
    rw [← hnd]
    have lts : ts.length ≤ 3 := by
      have h3 := hsub.length_le
      rw [List.length_map, List.length_take] at h3
      omega
    refine ⟨_, rfl, _, rfl, _, _, rfl, rfl, .inr ⟨by decide, by decide⟩, _, rfl, _, _, rfl, rfl, ⟨by omega, by omega⟩, _, _, rfl, rfl, _, _, rfl, rfl, _, rfl, ite2 (fun hd => ?_) (fun hd => ?_)⟩
    · have hd : worth ts + lf * 27720 / nd ≤ 24948 := of_decide_eq_true hd
      refine ⟨_, rfl, _, rfl, _, _, rfl, rfl, .inr ⟨by decide, by decide⟩, _, rfl, _, _, rfl, rfl, ⟨by omega, by omega⟩, _, _, rfl, rfl, ?_⟩
      refine ⟨_, rfl, .inl ⟨rfl, _, SqL.of f9⟩, _, rfl, _, rfl, li, _, _, .str kd, rfl, rfl, SqL.of l9, at_of (j := i) (by omega) (by rw [List.getElem?_map, ekd]; rfl), _, rfl, _, rfl, by show 3 ≤ sizeLine; decide, fun p np => ?_⟩
      have fA := upd_old (u := .tup [.str kd, .int lf, .int nd]) f9 np
      have qp := x9'.new np
      have nFp : F ≠ p := ne_of_none f9 np
      refine ⟨F, _, _, rfl, rfl, fA, small3 (by rw [List.length_map, hN9.1]; omega), ?_⟩
      refine ⟨(x9'.grow (same_new np)).mut n0F qF, by rw [upd_ne nFl]; exact upd_old l9 np, ts ++ [⟨kd, lf, nd⟩], qs ++ [p], some (.int (0 + (i : Nat))), some (.int nd), some (.int lf), ?_, ?_, ?_, fun u hu => ?_, ?_, ?_, ?_⟩
      · rw [upd_same, List.map_append]
        rfl
      · refine NewTr.snoc (hN9.mono fun p' xs e => ?_) ?_
        · rw [upd_ne (ne_of e f9 (by intro z; cases z))]
          exact upd_old e np
        · rw [upd_ne nFp.symm]
          exact upd_same
      · rw [List.map_append, take_at ekd]
        exact hsub.append (List.Sublist.refl _)
      · rcases List.mem_append.mp hu with hu | hu
        · exact hok u hu
        · rw [List.mem_singleton.mp hu]
          exact ⟨lf0, by show lf ≤ 12; omega, nd1, nd2⟩
      · rw [ewt]
        exact hd
      · rw [ewt, eq1]
        omega
      · rw [ewt]
        rfl
    · exact ⟨x9', l9, ts, qs, some (.int (0 + (i : Nat))), some (.int nd), some (.int lf), f9, hN9, hsub.trans (List.take_sublist_take_left (Nat.le_succ _)), hok, hw, hw0, rfl⟩
  · rintro σ H5 ⟨x5, l5, ts, qs, y4, y5, y6, f5, hN, hsub, hok, hw, hw0, rfl⟩
    have hsub' : (ts.map Tr.k).Sublist ks := hsub.trans (List.take_sublist _ _)
    have hkA : ∀ t ∈ ts, t.k ∈ kindsA := fun t ht => kin _ (hsub'.subset (List.mem_map.mpr ⟨t, ht, rfl⟩))
    refine ⟨_, rfl, Nat.zero_le _, fun e ne => ?_⟩
    have f6 := upd_old (u := .lst []) f5 ne
    have x6 := x5.grow (same_new (u := .lst []) ne)
    have hN6 := hN.mono fun p xs ep => upd_old (u := .lst []) ep ne
    have e6 : upd H5 e (.lst []) e = some (.lst []) := upd_same
    generalize upd H5 e (.lst []) = H6 at f6 x6 hN6 e6
    refine ⟨.list (ts.map TD.trD), .list [], .lst (SqL.of f6) (TD.trs_dpl hN6.1 fun i p t a b => SqT.of (hN6.2 i p t a b)), .lst (SqL.of e6) .nil, TD.trs_shaped fun t ht => TD.kA_str _ (hkA t ht), TD.shN, _, rfl, ?_⟩
    rw [TD.trs_eqv]
    refine ite2 (fun hd => ?_) (fun hd => ?_)
    · have hd : ts ≠ [] := fun z => by rw [z] at hd; exact absurd hd (by decide)
      refine ⟨_, rfl, k H6 F ts qs x6 f6 qF n0F hN6 ⟨hd, ⟨⟨?_, hok⟩, by omega⟩, ⟨hsub'.nodup knd, fun t ht => ?_⟩, hkA⟩⟩
      · have h3 := hsub'.length_le
        rw [List.length_map] at h3
        omega
      · have := kindsA_ok _ (hkA t ht)
        exact ⟨this.1, this.2.1⟩
    · refine ⟨by show 3 ≤ sizeLine; decide, fun p np => ⟨by show 1 ≤ sizeLine; decide, fun g ng => ?_⟩⟩
      have x8 := (x6.grow (same_new (u := .tup [.str "empty", .int 1, .int 3]) np)).grow (same_new (u := .lst [.ref p]) ng)
      refine k _ g [⟨"empty", 1, 3⟩] [p] x8 upd_same ((x6.grow (same_new np)).new ng) ((x6.grow (same_new np)).same.free ng) ⟨rfl, fun j p' t' hj ht' => ?_⟩ ⟨by simp, ⟨⟨by decide, fun t ht => ?_⟩, by decide +kernel⟩, ⟨by decide +kernel, fun t ht => ?_⟩, fun t ht => ?_⟩
      · cases j with
        | zero =>
          cases Option.some.inj hj
          cases Option.some.inj ht'
          exact upd_old upd_same ng
        | succ j => cases hj
      · rw [List.mem_singleton.mp ht]
        exact ⟨by decide, by decide, by decide, by decide⟩
      · rw [List.mem_singleton.mp ht]
        exact ⟨by decide +kernel, by decide +kernel⟩
      · rw [List.mem_singleton.mp ht]
        decide +kernel
end
end EB

/-! Drinking and trading: whatever is done in which order, the end is the same. -/
namespace EB
open PySem PySem.Spec PyProof.Rows L2
/-- the bottles that pieces buy, after so many drinks -/
def byF (ts : List Tr) (p : Str → Int) (d : Int) : Int := (ts.map fun t => (p t.k + t.l * d) / t.n).sum
/-- so many drinks there are in the end -/
def IsDr (ts : List Tr) (F : Int) (p : Str → Int) (d : Int) : Prop := 0 ≤ d ∧ F + byF ts p d = d ∧ ∀ U, 0 ≤ U → F + byF ts p U ≤ U → d ≤ U
theorem IsDr.uniq {ts : List Tr} {F : Int} {p : Str → Int} {d e : Int} (h : IsDr ts F p d) (g : IsDr ts F p e) : d = e := by
  have h1 := h.2.2 e g.1 (Int.le_of_eq g.2.1)
  have h2 := g.2.2 d h.1 (Int.le_of_eq h.2.1)
  omega
theorem byF_mono {ts : List Tr} {p : Str → Int} (g : gds ts) {d e : Int} (h : d ≤ e) : byF ts p d ≤ byF ts p e := by
  unfold byF
  refine sum_map_le fun t ht => Int.ediv_le_ediv (tr_pos (g.2 t ht)) ?_
  have := Int.mul_le_mul_of_nonneg_left h (g.2 t ht).1
  omega
theorem byF_nonneg {ts : List Tr} {p : Str → Int} (g : gds ts) (hp : ∀ k, 0 ≤ p k) {d : Int} (h : 0 ≤ d) : 0 ≤ byF ts p d := by
  have : ((ts.map fun _ => (0 : Int)).sum) = 0 := by
    induction ts with
    | nil => rfl
    | cons t r ih => rw [List.map_cons, List.sum_cons, ih ⟨by have := g.1; rw [List.length_cons] at this; omega, fun u hu => g.2 u (List.mem_cons_of_mem _ hu)⟩]; rfl
  rw [← this]
  unfold byF
  refine sum_map_le fun t ht => Int.ediv_nonneg ?_ (Int.le_of_lt (tr_pos (g.2 t ht)))
  have := Int.mul_nonneg (g.2 t ht).1 h
  have := hp t.k
  omega
/-- more than there can ever be -/
def most (ts : List Tr) (F : Int) (p : Str → Int) : Int := 10 * (F + (ts.map fun t => p t.k).sum)
theorem most_nn {ts : List Tr} {F : Int} {p : Str → Int} (hF : 0 ≤ F) (hp : ∀ k, 0 ≤ p k) : 0 ≤ most ts F p := by
  have : 0 ≤ (ts.map fun t => p t.k).sum := by
    induction ts with
    | nil => exact Int.le_refl _
    | cons t r ih =>
      rw [List.map_cons, List.sum_cons]
      have := hp t.k
      omega
  unfold most
  omega
theorem most_ok {ts : List Tr} {F : Int} {p : Str → Int} (f : Fair ts) (hF : 0 ≤ F) (hp : ∀ k, 0 ≤ p k) : F + byF ts p (most ts F p) ≤ most ts F p := by
  have h0 := most_nn (ts := ts) hF hp
  obtain ⟨u, hu⟩ : ∃ u : Nat, most ts F p = (u : Int) := ⟨(most ts F p).toNat, by omega⟩
  have h1 := ten_buys f u
  have h2 : byF ts p u ≤ (ts.map fun t => p t.k).sum + buys ts u := by
    unfold byF buys
    rw [← sum_map_add]
    refine sum_map_le fun t ht => ?_
    have hn := tr_pos (f.g.2 t ht)
    have h3 : (p t.k + t.l * (u : Int)) / t.n ≤ (p t.k * t.n + t.l * (u : Int)) / t.n := by
      refine Int.ediv_le_ediv hn ?_
      have := Int.mul_le_mul_of_nonneg_left (show 1 ≤ t.n by omega) (hp t.k)
      omega
    rw [Int.add_comm (p t.k * t.n), Int.add_mul_ediv_right _ _ (Int.ne_of_gt hn)] at h3
    omega
  have h4 : most ts F p = 10 * (F + (ts.map fun t => p t.k).sum) := rfl
  rw [hu] at h4 ⊢
  omega
/-- the pieces that a drink leaves, by their kind -/
def lOf (ts : List Tr) (k : Str) : Int := match ts.find? fun t => decide (t.k = k) with
  | some t => t.l
  | none => 0
theorem lOf_at {ts : List Tr} {t : Tr} (hn : (ts.map Tr.k).Nodup) (h : t ∈ ts) : lOf ts t.k = t.l := by
  have : (ts.find? fun u => decide (u.k = t.k)) = some t := by
    induction ts with
    | nil => cases h
    | cons u r ih =>
      rw [List.map_cons, List.nodup_cons] at hn
      by_cases e : u.k = t.k
      · rw [List.find?_cons_of_pos (by rw [e]; exact decide_eq_true rfl)]
        rcases List.mem_cons.mp h with rfl | m
        · rfl
        · exact absurd (List.mem_map.mpr ⟨t, m, e.symm⟩) hn.1
      · rw [List.find?_cons_of_neg (by rw [decide_eq_false e]; exact Bool.false_ne_true)]
        rcases List.mem_cons.mp h with rfl | m
        · exact absurd rfl e
        · exact ih hn.2 m
  unfold lOf
  rw [this]
theorem lOf_not {ts : List Tr} {k : Str} (h : k ∉ ts.map Tr.k) : lOf ts k = 0 := by
  unfold lOf
  rw [List.find?_eq_none.mpr fun u m e => h (List.mem_map.mpr ⟨u, m, of_decide_eq_true e⟩)]
/-- what has been done: the bottles, the pieces, the drinks so far -/
structure Drun (ts : List Tr) (F : Int) (p : Str → Int) (f : Int) (q : Str → Int) (d : Int) : Prop where
  d0 : 0 ≤ d
  f0 : 0 ≤ f
  md : ∃ m : Tr → Int, (∀ t ∈ ts, q t.k = p t.k + t.l * d - t.n * m t ∧ 0 ≤ q t.k) ∧ f = F + (ts.map m).sum - d
  low : ∀ U, 0 ≤ U → F + byF ts p U ≤ U → d ≤ U
  oth : ∀ k, k ∉ ts.map Tr.k → q k = p k
theorem Drun.start {ts : List Tr} {F : Int} {p : Str → Int} (hF : 0 ≤ F) (hp : ∀ k, 0 ≤ p k) : Drun ts F p F p 0 := by
  refine ⟨Int.le_refl _, hF, ⟨fun _ => 0, fun t ht => ⟨by simp, hp _⟩, ?_⟩, fun U h _ => h, fun _ _ => rfl⟩
  have : (ts.map fun _ : Tr => (0 : Int)).sum = 0 := by
    induction ts with
    | nil => rfl
    | cons t r ih => rw [List.map_cons, List.sum_cons, ih]; rfl
  rw [this]
  omega
theorem Drun.upto {ts : List Tr} {F f d : Int} {p q : Str → Int} (g : gds ts) (r : Drun ts F p f q d) {U : Int} (h0 : 0 ≤ U) (h : F + byF ts p U ≤ U) : d + f ≤ U := by
  obtain ⟨m, h1, h2⟩ := r.md
  have h3 : (ts.map m).sum ≤ byF ts p d := by
    unfold byF
    refine sum_map_le fun t ht => ?_
    obtain ⟨a, b⟩ := h1 t ht
    have hn := tr_pos (g.2 t ht)
    rw [Int.le_ediv_iff_mul_le hn, Int.mul_comm]
    omega
  have h4 := byF_mono (p := p) g (r.low U h0 h)
  omega
theorem Drun.drink {ts : List Tr} {F f d : Int} {p q : Str → Int} (g : gds ts) (hn : (ts.map Tr.k).Nodup) (r : Drun ts F p f q d) {c : Int} (c0 : 0 ≤ c) (c1 : c ≤ f) {q' : Str → Int} (hq : ∀ k, q' k = q k + lOf ts k * c) : Drun ts F p (f - c) q' (d + c) := by
  obtain ⟨m, h1, h2⟩ := r.md
  refine ⟨by have := r.d0; omega, by omega, ⟨m, fun t ht => ?_, by omega⟩, fun U h0 h => ?_, fun k hk => ?_⟩
  · obtain ⟨a, b⟩ := h1 t ht
    rw [hq, lOf_at hn ht, a]
    have := Int.mul_nonneg (g.2 t ht).1 c0
    refine ⟨?_, by omega⟩
    rw [Int.mul_add]
    omega
  · have := r.upto g h0 h
    omega
  · rw [hq, lOf_not hk, Int.zero_mul, Int.add_zero]
    exact r.oth k hk
/-- trades, of each kind some -/
theorem Drun.trade {ts : List Tr} {F f d : Int} {p q : Str → Int} (g : gds ts) (r : Drun ts F p f q d) (c : Tr → Int) (c0 : ∀ t ∈ ts, 0 ≤ c t) (c1 : ∀ t ∈ ts, c t * t.n ≤ q t.k) {q' : Str → Int} (hq : ∀ t ∈ ts, q' t.k = q t.k - c t * t.n) (ho : ∀ k, k ∉ ts.map Tr.k → q' k = q k) :
    Drun ts F p (f + (ts.map c).sum) q' d := by
  obtain ⟨m, h1, h2⟩ := r.md
  have hc : 0 ≤ (ts.map c).sum := by
    have hz : ∀ l : List Tr, (∀ t ∈ l, 0 ≤ c t) → 0 ≤ (l.map c).sum := fun l => by
      induction l with
      | nil => exact fun _ => Int.le_refl _
      | cons t r ih =>
        intro h
        rw [List.map_cons, List.sum_cons]
        have := h t (List.mem_cons_self ..)
        have := ih fun u hu => h u (List.mem_cons_of_mem _ hu)
        omega
    exact hz ts c0
  refine ⟨r.d0, by have := r.f0; omega, ⟨fun t => m t + c t, fun t ht => ?_, ?_⟩, r.low, fun k hk => (ho k hk).trans (r.oth k hk)⟩
  · obtain ⟨a, b⟩ := h1 t ht
    have := c1 t ht
    rw [hq t ht]
    refine ⟨?_, by omega⟩
    rw [a, Int.mul_add, Int.mul_comm t.n (c t)]
    omega
  · rw [sum_map_add]
    omega
theorem Drun.done {ts : List Tr} {F d : Int} {p q : Str → Int} (g : gds ts) (r : Drun ts F p 0 q d) (h : ∀ t ∈ ts, q t.k < t.n) : IsDr ts F p d ∧ ∀ t ∈ ts, q t.k = (p t.k + t.l * d) % t.n := by
  obtain ⟨m, h1, h2⟩ := r.md
  have hm : ∀ t ∈ ts, m t = (p t.k + t.l * d) / t.n ∧ q t.k = (p t.k + t.l * d) % t.n := fun t ht => by
    obtain ⟨a, b⟩ := h1 t ht
    have hn := tr_pos (g.2 t ht)
    have e : p t.k + t.l * d = q t.k + t.n * m t := by omega
    rw [e]
    refine ⟨?_, ?_⟩
    · rw [Int.add_mul_ediv_left _ _ (Int.ne_of_gt hn), Int.ediv_eq_zero_of_lt b (h t ht), Int.zero_add]
    · rw [Int.add_mul_emod_self_left, Int.emod_eq_of_lt b (h t ht)]
  refine ⟨⟨r.d0, ?_, r.low⟩, fun t ht => (hm t ht).2⟩
  have : byF ts p d = (ts.map m).sum := by
    unfold byF
    exact sum_map_eq fun t ht => (hm t ht).1.symm
  rw [this]
  omega
/-- together there are at least as many as apart -/
theorem IsDr.super {ts : List Tr} (g : gds ts) {F G d e u : Int} {p q : Str → Int} (h : IsDr ts F p d) (k : IsDr ts G q e) (w : IsDr ts (F + G) (fun j => p j + q j) u) (hF : 0 ≤ F) (hp : ∀ j, 0 ≤ p j) : d + e ≤ u := by
  have hge : byF ts q u ≤ byF ts (fun j => p j + q j) u := by
    unfold byF
    refine sum_map_le fun t ht => Int.ediv_le_ediv (tr_pos (g.2 t ht)) ?_
    have := hp t.k
    show q t.k + t.l * u ≤ p t.k + q t.k + t.l * u
    omega
  have h1 : e ≤ u := k.2.2 u w.1 (by have := w.2.1; omega)
  have h2 : byF ts p (u - e) + byF ts q e ≤ byF ts (fun j => p j + q j) u := by
    unfold byF
    rw [← sum_map_add]
    refine sum_map_le fun t ht => ?_
    have hn := tr_pos (g.2 t ht)
    have e1 : p t.k + q t.k + t.l * u = (p t.k + t.l * (u - e)) + (q t.k + t.l * e) := by
      rw [Int.mul_sub]
      omega
    show _ ≤ (p t.k + q t.k + t.l * u) / t.n
    rw [e1]
    rw [Int.le_ediv_iff_mul_le hn, Int.add_mul]
    have a := Int.ediv_mul_le (p t.k + t.l * (u - e)) (Int.ne_of_gt hn)
    have b := Int.ediv_mul_le (q t.k + t.l * e) (Int.ne_of_gt hn)
    omega
  have h3 := h.2.2 (u - e) (by omega) (by have := w.2.1; have := k.2.1; omega)
  omega
end EB

namespace EB
open PySem PySem.Spec PyProof.Rows L2
section
variable {P : Program} {w : World} {K : PySem.W.Frag} {mg : Str → Option Value} {base : Heap} (T : Tx K mg)
include T
theorem b_Offer_trades : Binds K T.fd_Offer_trades ["self"] [] := bnd0 T.F_Offer_trades sc_Offer_trades rfl (fun _ _ _ _ _ _ us hl => match us, hl with | [_], _ => rfl)
/-- the property trades: the offer's own tuple -/
def spOwn (K : PySem.W.Frag) : Sp := fun vs H Q _ => ∃ (a : Addr) (ts : List Tr), vs = [.ref a] ∧ OfAt K H a ts ∧ ∀ p, TrAt K H p ts → Q (.ref p) H
theorem ok_Offer_trades : FnOk P w K mg base CX0 1 (a_Offer_trades K) T.fd_Offer_trades ["self"] (spOwn K) := by
  refine fnK0 (d := d_Offer_trades) T.F_Offer_trades sc_Offer_trades (fun vs H Q E h => ?_) (fun cdv A outer s H vs Q E hr h => ?_)
  · obtain ⟨a, ts, rfl, _⟩ := h
    rfl
  obtain ⟨a, ts, rfl, ho, k⟩ := h
  obtain ⟨dx, t, p, o, f, g, e1, e2, e3, e4, e5, e6⟩ := ho.ex
  refine ⟨_, (pss_one (ps_ret (pe_fld (pv 0) rfl))), ?_⟩
  exact ⟨_, rfl, a, _, dx, _, _, rfl, e1, T.k_Offer, T.na_trades, lk_trades, k _ e2⟩
theorem b_Offer_kinds : Binds K T.fd_Offer_kinds ["self"] [] := bnd0 T.F_Offer_kinds sc_Offer_kinds rfl (fun _ _ _ _ _ _ us hl => match us, hl with | [_], _ => rfl)
/-- the property kinds: a new tuple -/
def spKinds (K : PySem.W.Frag) : Sp := fun vs H Q _ => ∃ (a : Addr) (ts : List Tr), vs = [.ref a] ∧ OfAt K H a ts ∧ ts.length ≤ 3 ∧ ∀ H' p, Same H H' → SqT K H' p ((ts.map Tr.k).map V.str) → Q (.ref p) H'
theorem ok_Offer_kinds : FnOk P w K mg base CX0 1 (a_Offer_kinds K) T.fd_Offer_kinds ["self"] (spKinds K) := by
  refine fnK0 (d := d_Offer_kinds) T.F_Offer_kinds sc_Offer_kinds (fun vs H Q E h => ?_) (fun cdv A outer s H vs Q E hr h => ?_)
  · obtain ⟨a, ts, rfl, _⟩ := h
    rfl
  obtain ⟨a, ts, rfl, ho, hl, k⟩ := h
  obtain ⟨dx, t, p, o, f, g, e1, e2, e3, e4, e5, e6⟩ := ho.ex
  obtain ⟨ps, h1, h2, h3⟩ := e2.ex
  refine ⟨_, (pss_one (ps_ret (pe_callTy call_tuple_of (by rfl) T.n_tuple (by decide +kernel) (pa_cons (pe_lc (own := [("kind", 1), ("_", 2)]) rfl sc_Offer_kinds.nd (pi_tup (pe_fld (pv 0) rfl)) (blkOk_by (own := [("kind", 1), ("_", 2)]) (N := N_Offer_kinds) (sc := defScope s_Offer_kinds) (by decide +kernel)) (fun _ _ _ _ _ => (pg_tupB (n := 3) (pgs_cons (pg_name (i := 1) sc_Offer_kinds.nd rfl (Or.inl rfl) (.inr rfl)) (pgs_cons (pg_name (i := 2) sc_Offer_kinds.nd rfl (Or.inl rfl) (.inr rfl)) (pgs_cons (pg_name (i := 2) sc_Offer_kinds.nd rfl (Or.inl rfl) (.inr rfl)) pgs_nil))))) (fun _ _ _ _ _ => pts_nil) (fun _ _ _ _ _ => (pv 1))) pa_nil)))), ?_⟩
  refine ⟨_, rfl, a, _, dx, _, _, rfl, e1, T.k_Offer, T.na_trades, lk_trades, t, rfl, ⟨_, h1⟩, fun D hD => ?_⟩
  refine lc_tup (xs := ps.map V.ref) (fun i H2 => Same H H2 ∧ H2 D = some (.lst (((ts.take i).map Tr.k).map V.str))) ⟨same_new hD, upd_same⟩ (fun i H2 _ q => Same.tup q.1 h1) ?_ ?_
  · rintro i x H2 hx ⟨s1, e7⟩
    obtain ⟨pt, u, rfl, ep, et, hm, li, hpt⟩ := TrAt.at_ h2 h3 hx
    refine ⟨pt, _, rfl, Same.tup s1 hpt, rfl, _, _, rfl, _, _, rfl, _, _, rfl, rfl, rfl, ?_⟩
    refine ⟨_, rfl, _, e7, small3 ?_, same_mut s1 hD, ?_⟩
    · rw [List.length_map, List.length_map, List.length_take]
      omega
    · rw [upd_same, take_at et, List.map_append, List.map_append]
      rfl
  · rintro H2 ⟨s1, e7⟩
    rw [List.length_map, h2, List.take_length] at e7
    exact ⟨D, _, rfl, .inl ⟨SqL.of e7, fun q hq => k _ q (s1.trans (same_new hq)) (SqT.of upd_same)⟩⟩
end
end EB

namespace EB
open PySem PySem.Spec PyProof.Rows L2
/-! ### drinking up -/
theorem nodup_len : ∀ {xs ys : List Str}, xs.Nodup → (∀ x ∈ xs, x ∈ ys) → xs.length ≤ ys.length
  | [], _, _, _ => Nat.zero_le _
  | x :: xs, ys, hn, h => by
    rw [List.nodup_cons] at hn
    have h1 : x ∈ ys := h x (List.mem_cons_self ..)
    have h2 : xs.length ≤ (ys.erase x).length := nodup_len hn.2 fun y hy => (List.mem_erase_of_ne fun e => hn.1 (by rw [← e]; exact hy)).mpr (h y (List.mem_cons_of_mem _ hy))
    rw [List.length_erase_of_mem h1] at h2
    have h3 := List.length_pos_of_mem h1
    rw [List.length_cons]
    omega
theorem mK_set {P : List (Str × Int)} (hn : (P.map (·.1)).Nodup) (k : Str) (v : Int) : ∃ P', putK (mK P) (.inr k) (.int v) = mK P' ∧ (P'.map (·.1)).Nodup ∧ (∀ j, j ∈ P'.map (·.1) ↔ j ∈ P.map (·.1) ∨ j = k) ∧ ∀ j, vL P' j = if j = k then v else vL P j := by
  by_cases hk : k ∈ P.map (·.1)
  · have ek : (P.map fun p => if p.1 = k then (p.1, v) else p).map (·.1) = P.map (·.1) := by
      rw [List.map_map]
      refine List.map_congr_left fun p _ => ?_
      show (if p.1 = k then (p.1, v) else p).1 = p.1
      by_cases e : p.1 = k
      · rw [if_pos e]
      · rw [if_neg e]
    refine ⟨P.map fun p => if p.1 = k then (p.1, v) else p, ?_, by rw [ek]; exact hn, fun j => by rw [ek]; exact ⟨.inl, fun h => h.elim id fun e => by rw [e]; exact hk⟩, fun j => ?_⟩
    · unfold putK
      rw [if_pos (mK_any.mpr hk)]
      unfold mK
      rw [List.map_map, List.map_map]
      refine List.map_congr_left fun p _ => ?_
      show (if (Sum.inr p.1 : Key) = Sum.inr k then (Sum.inr p.1, V.int v) else (Sum.inr p.1, V.int p.2)) = (fun q : Str × Int => ((Sum.inr q.1 : Key), V.int q.2)) (if p.1 = k then (p.1, v) else p)
      by_cases e : p.1 = k
      · rw [if_pos e, if_pos (congrArg Sum.inr e)]
      · rw [if_neg e, if_neg fun z => e (Sum.inr.inj z)]
    · by_cases e : j = k
      · rw [if_pos e, e]
        obtain ⟨p, hp, ep⟩ := List.mem_map.mp hk
        refine vL_of (p := (k, v)) (by rw [ek]; exact hn) (List.mem_map.mpr ⟨p, hp, ?_⟩)
        rw [if_pos ep, ep]
      · rw [if_neg e]
        by_cases hj : j ∈ P.map (·.1)
        · obtain ⟨p, hp, ep⟩ := List.mem_map.mp hj
          have h1 := vL_of hn hp
          have h2 := vL_of (L := P.map fun p => if p.1 = k then (p.1, v) else p) (p := p) (by rw [ek]; exact hn) (List.mem_map.mpr ⟨p, hp, by rw [if_neg fun z => e (by rw [← ep, z])]⟩)
          rw [ep] at h1 h2
          rw [h1, h2]
        · rw [vL_none hj, vL_none (by rw [ek]; exact hj)]
  · refine ⟨P ++ [(k, v)], mK_put hk, ?_, fun j => ?_, fun j => ?_⟩
    · rw [List.map_append, List.nodup_append]
      refine ⟨hn, by simp, fun a ha b hb => ?_⟩
      rw [List.map_cons, List.map_nil, List.mem_singleton] at hb
      exact fun e => hk (by rw [← (show a = k from e.trans hb)]; exact ha)
    · rw [List.map_append, List.mem_append]
      show _ ∨ j ∈ [k] ↔ _
      rw [List.mem_singleton]
    · have hn' : ((P ++ [(k, v)]).map (·.1)).Nodup := by
        rw [List.map_append, List.nodup_append]
        refine ⟨hn, by simp, fun a ha b hb => ?_⟩
        rw [List.map_cons, List.map_nil, List.mem_singleton] at hb
        exact fun e => hk (by rw [← (show a = k from e.trans hb)]; exact ha)
      by_cases e : j = k
      · rw [if_pos e, e]
        exact vL_of (p := (k, v)) hn' (List.mem_append.mpr (.inr (List.mem_singleton.mpr rfl)))
      · rw [if_neg e]
        by_cases hj : j ∈ P.map (·.1)
        · obtain ⟨p, hp, ep⟩ := List.mem_map.mp hj
          have h1 := vL_of hn hp
          have h2 := vL_of hn' (p := p) (List.mem_append.mpr (.inl hp))
          rw [ep] at h1 h2
          rw [h1, h2]
        · rw [vL_none hj, vL_none]
          rw [List.map_append, List.mem_append]
          exact fun z => z.elim hj fun z => e (List.mem_singleton.mp z)
theorem sqT_upd {K : PySem.W.Frag} {H : Hp} {p a : Addr} {xs : List V} {kvs : List (Key × V)} {u : HO} (h : SqT K H p xs) (e : H a = some (.dK kvs)) : SqT K (upd H a u) p xs := by
  have : Same (hq H a) (upd H a u) := fun b o eb => by
    by_cases z : b = a
    · rw [z, hq_q] at eb
      cases eb
    · rw [hq_ne z] at eb
      rw [upd_ne z]
      exact eb
  refine Same.tup this ?_
  rcases h with (h | ⟨o, h⟩) | h
  · exact .inl (.inl (by rw [hq_ne (ne_of h e (by intro z; cases z))]; exact h))
  · exact .inl (.inr ⟨o, by rw [hq_ne (ne_of h e (by intro z; cases z))]; exact h⟩)
  · exact .inr h
/-- a dict of pieces that has been changed -/
structure PUpd (P P' : List (Str × Int)) (ks : List Str) : Prop where
  nd : (P'.map (·.1)).Nodup
  mem : ∀ k, k ∈ P'.map (·.1) ↔ k ∈ P.map (·.1) ∨ k ∈ ks
theorem PUpd.len {P P' : List (Str × Int)} {ks : List Str} (h : PUpd P P' ks) : P'.length ≤ P.length + ks.length := by
  have : (P'.map (·.1)).length ≤ (P.map (·.1) ++ ks).length := nodup_len h.nd fun j hj => List.mem_append.mpr ((h.mem j).mp hj)
  rw [List.length_map, List.length_append, List.length_map] at this
  exact this
section
variable {P : Program} {w : World} {K : PySem.W.Frag} {mg : Str → Option Value} {base : Heap} (T : Tx K mg)
include T
def spAfterD (K : PySem.W.Frag) : Sp := fun vs H Q _ => ∃ (o d : Addr) (n : Int) (ts : List Tr) (M : List (Str × Int)), vs = [.ref o, .ref d, .int n] ∧ OfAt K H o ts ∧ gds ts ∧ (ts.map Tr.k).Nodup ∧ Rd H d (.dK (mK M)) ∧ (M.map (·.1)).Nodup ∧ M.length ≤ 1000 ∧
  ∀ H' a M', Same H H' → H' a = some (.dK (mK M')) → H a = none → PUpd M M' (ts.map Tr.k) → (∀ k, vL M' k = vL M k + lOf ts k * n) → Q (.ref a) H'
theorem ok_after_drinks : FnR P w K mg base CX0 4 (a_after_drinks K) (spAfterD K) := by
  refine fnR0 (d := d_after_drinks) T.F_after_drinks sc_after_drinks rfl (fun _ _ _ _ _ _ us hl => match us, hl with | [_, _, _], _ => rfl) (fun vs H Q E h => ?_) (fun cdv A outer s H vs Q E hr h => ?_)
  · obtain ⟨o, d, n, ts, M, rfl, _⟩ := h
    rfl
  obtain ⟨o, d, n, ts, M, rfl, ho, hg, hnd, hd, hM, lM, k⟩ := h
  obtain ⟨dx, t, p, oo, f, g, e1, e2, e3, e4, e5, e6⟩ := ho.ex
  refine ⟨_, (pss_cons (ps_set (i := 3) sc_after_drinks.nd rfl (Or.inl rfl) (pe_callTy call_dictD (by rfl) T.n_dict (by decide +kernel) (pa_cons (pv 1) pa_nil))) (pss_cons (ps_for PassesOwn.never rfl (pi_tup (pe_prop (pv 0) T.k_Offer T.p_Offer_trades (ok_Offer_trades T) (hr.mono (by decide)) (b_Offer_trades T) .nil pass0 rfl)) (pg_tup rfl (pgs_cons (pg_name (i := 4) sc_after_drinks.nd rfl (Or.inl rfl)) (pgs_cons (pg_name (i := 5) sc_after_drinks.nd rfl (Or.inl rfl)) (pgs_cons (pg_name (i := 6) sc_after_drinks.nd rfl (Or.inl rfl)) pgs_nil)))) (pss_one (ps_asg (pe_op op_add (pe_dget2 (hu_of hr) (pv 3) (pv 4) pe_int ⟨rfl, rfl, rfl, rfl⟩) (pe_op op_mul (pv 5) (pv 2))) (pg_sub (pv 3) (pv 4) (set_dict (hu_of hr)))))) (pss_one (ps_ret (pv 3))))), ?_⟩
  refine ⟨_, rfl, d, mK M, rfl, hd, fun a na => ?_⟩
  have sA : Same H (upd H a (.dK (mK M))) := same_new na
  have eA : upd H a (.dK (mK M)) a = some (.dK (mK M)) := upd_same
  generalize upd H a (.dK (mK M)) = HA at sA eA
  refine ⟨_, rfl, o, dx, _, rfl, sA _ _ e1, o, ts, rfl, ho.mono sA, fun pt hT => ?_⟩
  obtain ⟨ps, h1, h2, h3⟩ := hT.ex
  refine ⟨pt, rfl, ⟨_, h1⟩, for_tup (K := K) (a := pt) (xs := ps.map V.ref) (fun i σ H1 => Same H H1 ∧ SqT K H1 pt (ps.map V.ref) ∧ (∀ (i : Nat) (p : Addr) (t : Tr), ps[i]? = some p → ts[i]? = some t → SqT K H1 p t.vs) ∧ ∃ (M' : List (Str × Int)) (x4 x5 x6 : Option V), H1 a = some (.dK (mK M')) ∧ PUpd M M' ((ts.take i).map Tr.k) ∧
      (∀ k, vL M' k = vL M k + if k ∈ (ts.take i).map Tr.k then lOf ts k * n else 0) ∧ σ = [some (.ref o), some (.ref d), some (.int n), some (.ref a), x4, x5, x6])
    ⟨sA, h1, h3, M, none, none, none, eA, ⟨hM, fun k => ⟨.inl, fun z => z.elim id fun z => (by cases z)⟩⟩, fun k => by rw [if_neg (by exact fun z => by cases z), Int.add_zero], rfl⟩ (fun i σ H1 _ q => q.2.1) ?_ ?_⟩
  · rintro i x σ H1 hx ⟨s1, hp1, hq1, M', x4, x5, x6, a1, hU, hv, rfl⟩
    obtain ⟨q, u, rfl, ep, eu, hm, li, hq⟩ := TrAt.at_ h2 hq1 hx
    refine ⟨q, _, rfl, hq, rfl, _, _, rfl, _, _, rfl, _, _, rfl, rfl, ?_⟩
    refine ⟨_, rfl, a, rfl, .inl ⟨_, .inl a1⟩, _, rfl, _, .inl ⟨_, .inr u.k, .inl a1, rfl, rfl⟩, ?_⟩
    rw [get0]
    have hnin : u.k ∉ (ts.take i).map Tr.k := fun hin => by
      have hnd' : ((ts.take (i + 1)).map Tr.k).Nodup := (hnd.sublist ((List.take_sublist _ _).map _))
      rw [take_at eu, List.map_append, List.nodup_append] at hnd'
      exact hnd'.2.2 _ hin _ (List.mem_singleton.mpr rfl) rfl
    have hu := hg.2 u hm
    obtain ⟨M2, eM, nM, mM, vM⟩ := mK_set hU.nd u.k (vL M' u.k + u.l * n)
    have lM' := hU.len
    have l3 : ((ts.take i).map Tr.k).length ≤ 3 := by
      rw [List.length_map, List.length_take]
      have := hg.1
      omega
    refine ⟨_, rfl, _, rfl, _, _, rfl, rfl, .inl ⟨by have := hu.1; omega, by have := hu.2.1; omega⟩, _, _, rfl, rfl, _, rfl, _, rfl, a, _, rfl, DPut.k (k := .inr u.k) a1 (small3 (by unfold mK; rw [List.length_map]; omega)), ?_⟩
    rw [eM]
    refine ⟨same_mut s1 na, sqT_upd hp1 a1, fun i p t x y => sqT_upd (hq1 i p t x y) a1, M2, some (.str u.k), some (.int u.l), some (.int u.n), upd_same, ⟨nM, fun j => ?_⟩, fun j => ?_, rfl⟩
    · rw [mM, hU.mem, take_at eu, List.map_append, List.mem_append]
      show _ ↔ _ ∨ _ ∨ j ∈ [u.k]
      rw [List.mem_singleton, or_assoc]
    · have hin1 : u.k ∈ (ts.take i).map Tr.k ++ List.map Tr.k [u] := List.mem_append.mpr (.inr (List.mem_singleton.mpr rfl))
      rw [vM, take_at eu, List.map_append]
      by_cases e : j = u.k
      · rw [if_pos e, e, if_pos hin1, hv, if_neg hnin, lOf_at hnd hm, Int.add_zero]
      · rw [if_neg e, hv]
        by_cases e2 : j ∈ (ts.take i).map Tr.k
        · rw [if_pos e2, if_pos (List.mem_append.mpr (.inl e2))]
        · have hnj : j ∉ (ts.take i).map Tr.k ++ List.map Tr.k [u] := fun z => (List.mem_append.mp z).elim e2 fun z => e (List.mem_singleton.mp z)
          rw [if_neg e2, if_neg hnj]
  · rintro σ H1 ⟨s1, hp1, hq1, M', x4, x5, x6, a1, hU, hv, rfl⟩
    have elen : (ps.map V.ref).length = ts.length := by rw [List.length_map, h2]
    rw [elen, List.take_length] at hU hv
    refine ⟨_, rfl, k H1 a M' s1 a1 na hU fun j => ?_⟩
    rw [hv]
    by_cases e : j ∈ ts.map Tr.k
    · rw [if_pos e]
    · rw [if_neg e, lOf_not e, Int.zero_mul]
/-- how many trades each kind suffices for -/
def cts (ts : List Tr) (M : List (Str × Int)) : List (Str × Int) := ts.map fun t => (t.k, vL M t.k / t.n)
def spMostT (K : PySem.W.Frag) : Sp := fun vs H Q _ => ∃ (o d : Addr) (ts : List Tr) (M : List (Str × Int)), vs = [.ref o, .ref d] ∧ OfAt K H o ts ∧ gds ts ∧ (ts.map Tr.k).Nodup ∧ Rd H d (.dK (mK M)) ∧ (∀ t ∈ ts, t.k ∈ M.map (·.1)) ∧
  ∀ H' a, Same H H' → H' a = some (.dK (mK (cts ts M))) → H a = none → Q (.ref a) H'
theorem ok_most_trades : FnR P w K mg base CX0 4 (a_most_trades K) (spMostT K) := by
  refine fnR0 (d := d_most_trades) T.F_most_trades sc_most_trades rfl (fun _ _ _ _ _ _ us hl => match us, hl with | [_, _], _ => rfl) (fun vs H Q E h => ?_) (fun cdv A outer s H vs Q E hr h => ?_)
  · obtain ⟨o, d, ts, M, rfl, _⟩ := h
    rfl
  obtain ⟨o, d, ts, M, rfl, ho, hg, hnd, hd, hM, k⟩ := h
  obtain ⟨dx, t, p, oo, f, g, e1, e2, e3, e4, e5, e6⟩ := ho.ex
  refine ⟨_, (pss_one (ps_ret (pe_dc (own := [("kind", 2), ("_", 3), ("needed", 4)]) rfl sc_most_trades.nd (pi_tup (pe_prop (pv 0) T.k_Offer T.p_Offer_trades (ok_Offer_trades T) (hr.mono (by decide)) (b_Offer_trades T) .nil pass0 rfl)) (blkOk_by (own := [("kind", 2), ("_", 3), ("needed", 4)]) (N := N_most_trades) (sc := defScope s_most_trades) (by decide +kernel)) (fun _ _ _ _ _ => (pg_tupB (n := 3) (pgs_cons (pg_name (i := 2) sc_most_trades.nd rfl (Or.inl rfl) (.inr rfl)) (pgs_cons (pg_name (i := 3) sc_most_trades.nd rfl (Or.inl rfl) (.inr rfl)) (pgs_cons (pg_name (i := 4) sc_most_trades.nd rfl (Or.inl rfl) (.inr rfl)) pgs_nil))))) (fun _ _ _ _ _ => pts_nil) (fun _ _ _ _ _ => (pv 2)) (fun _ _ _ _ _ => (pe_op op_fdiv (pe_dget (hu_of hr) (pv 1) (pv 2) (fun _ _ => rfl)) (pv 4)))))), ?_⟩
  refine ⟨_, rfl, o, dx, _, rfl, e1, o, ts, rfl, ho, fun pt hT => ?_⟩
  obtain ⟨ps, h1, h2, h3⟩ := hT.ex
  refine ⟨pt, rfl, ⟨_, h1⟩, fun W nW => ?_⟩
  refine dc_tup (fun i H2 => Same H H2 ∧ H2 W = some (.dK (mK (cts (ts.take i) M)))) ⟨same_new nW, upd_same⟩ (fun i H2 _ q => Same.tup q.1 h1) ?_ ?_
  · rintro i x H2 hx ⟨s2, w2⟩
    obtain ⟨q, u, rfl, ep, eu, hm, li, hq⟩ := TrAt.at_ h2 h3 hx
    have hu := hg.2 u hm
    have hgk : DGet H2 d (kV (.inr u.k)) (some (.int (vL M u.k))) := by
      rw [← mK_val (hM u hm)]
      rcases hd with hd | ⟨o, hd⟩
      · exact .inl ⟨mK M, .inr u.k, .inl (s2 _ _ hd), rfl, rfl⟩
      · exact .inl ⟨mK M, .inr u.k, .inr ⟨o, s2 _ _ hd⟩, rfl, rfl⟩
    refine ⟨q, _, rfl, Same.tup s2 hq, rfl, _, _, rfl, _, _, rfl, _, _, rfl, rfl, rfl, ?_⟩
    refine ⟨_, rfl, _, rfl, _, rfl, d, _, rfl, hgk, _, rfl, _, _, rfl, rfl, ⟨by have := hu.2.2.1; omega, by have := hu.2.2.2; omega⟩, _, .inr u.k, rfl, w2, small3 ?_, same_mut s2 nW, ?_⟩
    · unfold mK cts
      rw [List.length_map, List.length_map, List.length_take]
      have := hg.1
      omega
    · have hnin : u.k ∉ (cts (ts.take i) M).map (·.1) := fun hin => by
        unfold cts at hin
        rw [List.map_map] at hin
        have hnd' : ((ts.take (i + 1)).map Tr.k).Nodup := (hnd.sublist ((List.take_sublist _ _).map _))
        rw [take_at eu, List.map_append, List.nodup_append] at hnd'
        exact hnd'.2.2 _ hin _ (List.mem_singleton.mpr rfl) rfl
      rw [upd_same, mK_put hnin, take_at eu]
      unfold cts
      rw [List.map_append]
      rfl
  · rintro H2 ⟨s2, w2⟩
    rw [List.length_map, h2, List.take_length] at w2
    exact k H2 W s2 w2 nW
def spAfterT (K : PySem.W.Frag) : Sp := fun vs H Q _ => ∃ (o d c : Addr) (ts : List Tr) (M : List (Str × Int)), vs = [.ref o, .ref d, .ref c] ∧ OfAt K H o ts ∧ gds ts ∧ (ts.map Tr.k).Nodup ∧ Rd H d (.dK (mK M)) ∧ H c = some (.dK (mK (cts ts M))) ∧ (M.map (·.1)).Nodup ∧ M.length ≤ 1000 ∧ (∀ t ∈ ts, t.k ∈ M.map (·.1)) ∧
  ∀ H' a M', Same H H' → H' a = some (.dK (mK M')) → H a = none → PUpd M M' (ts.map Tr.k) → (∀ t ∈ ts, vL M' t.k = vL M t.k - vL M t.k / t.n * t.n) → (∀ k, k ∉ ts.map Tr.k → vL M' k = vL M k) → Q (.ref a) H'
theorem ok_after_trades : FnR P w K mg base CX0 4 (a_after_trades K) (spAfterT K) := by
  refine fnR0 (d := d_after_trades) T.F_after_trades sc_after_trades rfl (fun _ _ _ _ _ _ us hl => match us, hl with | [_, _, _], _ => rfl) (fun vs H Q E h => ?_) (fun cdv A outer s H vs Q E hr h => ?_)
  · obtain ⟨o, d, c, ts, M, rfl, _⟩ := h
    rfl
  obtain ⟨o, d, c, ts, M, rfl, ho, hg, hnd, hd, hc, hM, lM, hin, k⟩ := h
  obtain ⟨dx, t, p, oo, f, g, e1, e2, e3, e4, e5, e6⟩ := ho.ex
  refine ⟨_, (pss_cons (ps_set (i := 3) sc_after_trades.nd rfl (Or.inl rfl) (pe_callTy call_dictD (by rfl) T.n_dict (by decide +kernel) (pa_cons (pv 1) pa_nil))) (pss_cons (ps_for PassesOwn.never rfl (pi_tup (pe_prop (pv 0) T.k_Offer T.p_Offer_trades (ok_Offer_trades T) (hr.mono (by decide)) (b_Offer_trades T) .nil pass0 rfl)) (pg_tup rfl (pgs_cons (pg_name (i := 4) sc_after_trades.nd rfl (Or.inl rfl)) (pgs_cons (pg_name (i := 5) sc_after_trades.nd rfl (Or.inl rfl)) (pgs_cons (pg_name (i := 6) sc_after_trades.nd rfl (Or.inl rfl)) pgs_nil)))) (pss_one (ps_asg (pe_op op_sub (pe_dget (hu_of hr) (pv 3) (pv 4) (fun _ _ => rfl)) (pe_op op_mul (pe_dget (hu_of hr) (pv 2) (pv 4) (fun _ _ => rfl)) (pv 6))) (pg_sub (pv 3) (pv 4) (set_dict (hu_of hr)))))) (pss_one (ps_ret (pv 3))))), ?_⟩
  refine ⟨_, rfl, d, mK M, rfl, hd, fun a na => ?_⟩
  have sA : Same H (upd H a (.dK (mK M))) := same_new na
  have eA : upd H a (.dK (mK M)) a = some (.dK (mK M)) := upd_same
  generalize upd H a (.dK (mK M)) = HA at sA eA
  refine ⟨_, rfl, o, dx, _, rfl, sA _ _ e1, o, ts, rfl, ho.mono sA, fun pt hT => ?_⟩
  obtain ⟨ps, h1, h2, h3⟩ := hT.ex
  have cnd : ((cts ts M).map (·.1)).Nodup := by
    unfold cts
    rw [List.map_map]
    exact hnd
  refine ⟨pt, rfl, ⟨_, h1⟩, for_tup (K := K) (a := pt) (xs := ps.map V.ref) (fun i σ H1 => Same H H1 ∧ SqT K H1 pt (ps.map V.ref) ∧ (∀ (i : Nat) (p : Addr) (t : Tr), ps[i]? = some p → ts[i]? = some t → SqT K H1 p t.vs) ∧ ∃ (M' : List (Str × Int)) (x4 x5 x6 : Option V), H1 a = some (.dK (mK M')) ∧ PUpd M M' ((ts.take i).map Tr.k) ∧
      (∀ t ∈ ts.take i, vL M' t.k = vL M t.k - vL M t.k / t.n * t.n) ∧ (∀ k, k ∉ (ts.take i).map Tr.k → vL M' k = vL M k) ∧ σ = [some (.ref o), some (.ref d), some (.ref c), some (.ref a), x4, x5, x6])
    ⟨sA, h1, h3, M, none, none, none, eA, ⟨hM, fun k => ⟨.inl, fun z => z.elim id fun z => (by cases z)⟩⟩, fun t ht => (by cases ht), fun k _ => rfl, rfl⟩ (fun i σ H1 _ q => q.2.1) ?_ ?_⟩
  · rintro i x σ H1 hx ⟨s1, hp1, hq1, M', x4, x5, x6, a1, hU, hv, hv2, rfl⟩
    obtain ⟨q, u, rfl, ep, eu, hm, li, hq⟩ := TrAt.at_ h2 hq1 hx
    have hnin : u.k ∉ (ts.take i).map Tr.k := fun hin => by
      have hnd' : ((ts.take (i + 1)).map Tr.k).Nodup := (hnd.sublist ((List.take_sublist _ _).map _))
      rw [take_at eu, List.map_append, List.nodup_append] at hnd'
      exact hnd'.2.2 _ hin _ (List.mem_singleton.mpr rfl) rfl
    have hu := hg.2 u hm
    have g1 := DGet.k (k := .inr u.k) a1
    rw [mK_val ((hU.mem _).mpr (.inl (hin u hm))), hv2 _ hnin] at g1
    have g2 := DGet.k (k := .inr u.k) (s1 _ _ hc)
    have hcm : (u.k, vL M u.k / u.n) ∈ cts ts M := List.mem_map.mpr ⟨u, hm, rfl⟩
    rw [mK_val (List.mem_map.mpr ⟨_, hcm, rfl⟩), vL_of cnd hcm] at g2
    obtain ⟨M2, eM, nM, mM, vM⟩ := mK_set hU.nd u.k (vL M u.k - vL M u.k / u.n * u.n)
    have lM' := hU.len
    have l3 : ((ts.take i).map Tr.k).length ≤ 3 := by
      rw [List.length_map, List.length_take]
      have := hg.1
      omega
    refine ⟨q, _, rfl, hq, rfl, _, _, rfl, _, _, rfl, _, _, rfl, rfl, ?_⟩
    refine ⟨_, rfl, _, rfl, a, _, rfl, g1, _, rfl, _, rfl, c, _, rfl, g2, _, rfl, _, _, rfl, rfl, .inr ⟨by have := hu.2.2.1; omega, by have := hu.2.2.2; omega⟩, _, _, rfl, rfl, _, rfl, _, rfl, a, _, rfl, DPut.k (k := .inr u.k) a1 (small3 (by unfold mK; rw [List.length_map]; omega)), ?_⟩
    rw [eM]
    refine ⟨same_mut s1 na, sqT_upd hp1 a1, fun i p t x y => sqT_upd (hq1 i p t x y) a1, M2, some (.str u.k), some (.int u.l), some (.int u.n), upd_same, ⟨nM, fun j => ?_⟩, fun v hv' => ?_, fun j hj => ?_, rfl⟩
    · rw [mM, hU.mem, take_at eu, List.map_append, List.mem_append]
      show _ ↔ _ ∨ _ ∨ j ∈ [u.k]
      rw [List.mem_singleton, or_assoc]
    · rw [take_at eu] at hv'
      rw [vM]
      rcases List.mem_append.mp hv' with z | z
      · have ne : v.k ≠ u.k := fun e => hnin (by rw [← e]; exact List.mem_map.mpr ⟨v, z, rfl⟩)
        rw [if_neg ne]
        exact hv v z
      · rw [List.mem_singleton.mp z, if_pos rfl]
    · rw [take_at eu, List.map_append] at hj
      have h4 : j ∉ (ts.take i).map Tr.k := fun z => hj (List.mem_append.mpr (.inl z))
      have h5 : j ≠ u.k := fun z => hj (List.mem_append.mpr (.inr (List.mem_singleton.mpr z)))
      rw [vM, if_neg h5]
      exact hv2 j h4
  · rintro σ H1 ⟨s1, hp1, hq1, M', x4, x5, x6, a1, hU, hv, hv2, rfl⟩
    have elen : (ps.map V.ref).length = ts.length := by rw [List.length_map, h2]
    rw [elen, List.take_length] at hU hv hv2
    exact ⟨_, rfl, k H1 a M' s1 a1 na hU hv hv2⟩
end
end EB

namespace EB
open PySem PySem.Spec PyProof.Rows L2
/-- the pieces in the end -/
structure EndP (ts : List Tr) (p q : Str → Int) (d : Int) : Prop where
  at_ : ∀ t ∈ ts, q t.k = (p t.k + t.l * d) % t.n
  oth : ∀ k, k ∉ ts.map Tr.k → q k = p k
section
variable {P : Program} {w : World} {K : PySem.W.Frag} {mg : Str → Option Value} {base : Heap} (T : Tx K mg)
include T
def spUse (K : PySem.W.Frag) : Sp := fun vs H Q _ => ∃ (o d : Addr) (n : Int) (ts : List Tr) (M : List (Str × Int)), vs = [.ref o, .int n, .ref d] ∧ OfAt K H o ts ∧ Fair ts ∧ (ts.map Tr.k).Nodup ∧ Rd H d (.dK (mK M)) ∧ (M.map (·.1)).Nodup ∧ M.length ≤ 100 ∧ 0 ≤ n ∧ (∀ k, 0 ≤ vL M k) ∧
  ∀ H' b a M' dr, Same H H' → SqT K H' b [.int dr, .ref a] → H' a = some (.dK (mK M')) → H a = none → PUpd M M' (ts.map Tr.k) → IsDr ts n (vL M) dr → EndP ts (vL M) (vL M') dr → Q (.ref b) H'
theorem ok_use_up : FnR P w K mg base CX0 6 (a_use_up K) (spUse K) := by
  refine fnR0 (d := d_use_up) T.F_use_up sc_use_up rfl (fun _ _ _ _ _ _ us hl => match us, hl with | [_, _, _], _ => rfl) (fun vs H Q E h => ?_) (fun cdv A outer s H vs Q E hr h => ?_)
  · obtain ⟨o, d, n, ts, M, rfl, _⟩ := h
    rfl
  obtain ⟨o, d, n, ts, M, rfl, ho, hf, hnd, hd, hM, lM, n0, hp, k⟩ := h
  have hg := hf.g
  have hU0 := most_nn (ts := ts) n0 hp
  have hU1 := most_ok hf n0 hp
  refine ⟨_, (pss_cons (ps_set (i := 3) sc_use_up.nd rfl (Or.inl rfl) pe_int) (pss_one (ps_while PassesOwn.never (pt_val pe_bl) (pss_cons (ps_set (i := 2) sc_use_up.nd rfl (Or.inl rfl) (pe_cR (ok_after_drinks T) (hr.mono (by decide)) T.F_after_drinks.kp T.g_after_drinks pass0 (pa_cons (pv 0) (pa_cons (pv 2) (pa_cons (pv 1) pa_nil))))) (pss_cons (ps_set (i := 3) sc_use_up.nd rfl (Or.inl rfl) (pe_op op_add (pv 3) (pv 1))) (pss_cons (ps_set (i := 4) sc_use_up.nd rfl (Or.inl rfl) (pe_cR (ok_most_trades T) (hr.mono (by decide)) T.F_most_trades.kp T.g_most_trades pass0 (pa_cons (pv 0) (pa_cons (pv 2) pa_nil)))) (pss_cons (ps_set (i := 2) sc_use_up.nd rfl (Or.inl rfl) (pe_cR (ok_after_trades T) (hr.mono (by decide)) T.F_after_trades.kp T.g_after_trades pass0 (pa_cons (pv 0) (pa_cons (pv 2) (pa_cons (pv 4) pa_nil))))) (pss_cons (ps_set (i := 1) sc_use_up.nd rfl (Or.inl rfl) (pe_callB (cr_sum rfl) (by rfl) T.n_sum (by decide +kernel) (pa_cons (EBW.pe_listValues rfl (pv 4) (by rfl) T.n_list (by decide +kernel)) pa_nil))) (pss_one (ps_if (pt_cmpR op_eq (pv 1) pe_int (nomark _)) (pss_one (ps_ret (pe_tup (pa_cons (pv 3) (pa_cons (pv 2) pa_nil))))) pss_nil)))))))))), ?_⟩
  refine ⟨fun m σ H1 => Same H H1 ∧ ∃ (D : Addr) (f dr : Int) (M' : List (Str × Int)) (x4 : Option V), Rd H1 D (.dK (mK M')) ∧ (M'.map (·.1)).Nodup ∧ (∀ k, k ∈ M'.map (·.1) → k ∈ M.map (·.1) ∨ k ∈ ts.map Tr.k) ∧ (∀ k ∈ M.map (·.1), k ∈ M'.map (·.1)) ∧ Drun ts n (vL M) f (vL M') dr ∧ m = (most ts n (vL M) - (dr + f)).toNat ∧
      σ = [some (.ref o), some (.int f), some (.ref D), some (.int dr), x4], ⟨_, Same.refl _, d, n, 0, M, none, hd, hM, fun k => .inl, fun k => id, Drun.start n0 hp, rfl, rfl⟩, ?_⟩
  rintro m σ H1 ⟨s1, D, f, dr, M1, x4, hD, nM1, sM1, tM1, hR, rfl, rfl⟩
  refine ⟨true, rfl, iteT ⟨_, fun σ' H' z => z, ?_⟩⟩
  have lts : (ts.map Tr.k).length ≤ 3 := by
    rw [List.length_map]
    exact hg.1
  have lM1 : M1.length ≤ 103 := by
    have := nodup_len nM1 fun j hj => List.mem_append.mpr (sM1 j hj)
    rw [List.length_map, List.length_append, List.length_map] at this
    omega
  refine ⟨_, rfl, _, rfl, _, rfl, o, D, f, ts, M1, rfl, ho.mono s1, hg, hnd, hD, nM1, by omega, fun H2 a2 M2 s2 e2 n2 U2 v2 => ?_⟩
  have s12 := s1.trans s2
  have lM2 := U2.len
  have tin : ∀ t ∈ ts, t.k ∈ M2.map (·.1) := fun t ht => (U2.mem _).mpr (.inr (List.mem_map.mpr ⟨t, ht, rfl⟩))
  refine ⟨_, rfl, _, rfl, _, _, rfl, rfl, ?_⟩
  refine ⟨_, rfl, _, rfl, o, a2, ts, M2, rfl, ho.mono s12, hg, hnd, .inl e2, tin, fun H3 c3 s3 e3 n3 => ?_⟩
  have s13 := s12.trans s3
  refine ⟨_, rfl, _, rfl, _, rfl, o, a2, c3, ts, M2, rfl, ho.mono s13, hg, hnd, .inl (s3 _ _ e2), e3, U2.nd, by omega, tin, fun H4 a4 M4 s4 e4 n4 U4 v4 w4 => ?_⟩
  have s14 := s13.trans s4
  refine ⟨_, rfl, c3, _, rfl, .inl (s4 _ _ e3), fun l nl => ?_⟩
  have evals : (mK (cts ts M2)).map (·.2) = (ts.map fun t => vL M2 t.k / t.n).map V.int := by
    unfold mK cts
    rw [List.map_map, List.map_map, List.map_map]
    rfl
  refine ⟨l, ts.map fun t => vL M2 t.k / t.n, rfl, SqL.of (by rw [upd_same, evals]), ?_⟩
  have s15 : Same H (upd H4 l (.lst ((mK (cts ts M2)).map (·.2)))) := s14.trans (same_new nl)
  have e5 : upd H4 l (.lst ((mK (cts ts M2)).map (·.2))) a4 = some (.dK (mK M4)) := upd_old e4 nl
  generalize upd H4 l (.lst ((mK (cts ts M2)).map (·.2))) = H5 at s15 e5
  have r1 := hR.drink hg hnd hR.f0 (Int.le_refl f) v2
  obtain ⟨md, h1, h2⟩ := r1.md
  have q0 : ∀ t ∈ ts, 0 ≤ vL M2 t.k := fun t ht => (h1 t ht).2
  have r2 := r1.trade hg (fun t => vL M2 t.k / t.n) (fun t ht => Int.ediv_nonneg (q0 t ht) (Int.le_of_lt (tr_pos (hg.2 t ht)))) (fun t ht => Int.ediv_mul_le _ (Int.ne_of_gt (tr_pos (hg.2 t ht)))) v4 w4
  have hC0 : 0 ≤ (ts.map fun t => vL M2 t.k / t.n).sum := by
    have := r2.f0
    omega
  rw [show f - f + (ts.map fun t => vL M2 t.k / t.n).sum = (ts.map fun t => vL M2 t.k / t.n).sum by omega] at r2
  have hup := r2.upto hg hU0 hU1
  have hmem : ∀ j, j ∈ M4.map (·.1) ↔ j ∈ M.map (·.1) ∨ j ∈ ts.map Tr.k := fun j => by
    rw [U4.mem, U2.mem]
    constructor
    · rintro ((z | z) | z)
      · exact sM1 j z
      · exact .inr z
      · exact .inr z
    · rintro (z | z)
      · exact .inl (.inl (tM1 j z))
      · exact .inr z
  generalize (ts.map fun t => vL M2 t.k / t.n).sum = C at r2 hC0 hup
  refine ⟨_, rfl, rfl, _, rfl, ite2 (fun hd => ?_) (fun hd => ?_)⟩
  · have hd : C = 0 := V.int.inj (of_decide_eq_true hd)
    rw [hd] at r2
    obtain ⟨d1, d2⟩ := r2.done hg fun t ht => by
      rw [v4 t ht]
      have h3 := Int.emod_lt_of_pos (vL M2 t.k) (tr_pos (hg.2 t ht))
      have h4 := Int.emod_add_mul_ediv (vL M2 t.k) t.n
      rw [Int.mul_comm] at h4
      omega
    exact ⟨_, rfl, _, rfl, by show 2 ≤ sizeLine; decide, fun b nb => k _ b a4 M4 (dr + f) (s15.trans (same_new nb)) (SqT.of upd_same) (upd_old e5 nb) (s13.free n4) ⟨U4.nd, hmem⟩ d1 ⟨d2, r2.oth⟩⟩
  · have hd : ¬ C = 0 := fun z => hd (decide_eq_true (by rw [z]))
    exact ⟨_, by omega, s15, a4, C, dr + f, M4, _, .inl e5, U4.nd, fun j hj => (hmem j).mp hj, fun j hj => (hmem j).mpr (.inl hj), r2, rfl, rfl⟩
end
end EB

namespace EB
open PySem PySem.Spec PyProof.Rows L2
/-! ### one drink, one trade of the law's party -/
def drinkT (K : PySem.W.Frag) : TS := tSeq (tAsg (tOp (rI0 fun i j => V.int (i + j)) (tC (V.int 1)) (tCR (spDrawn K) E0 (tCons (tVar 0) (tCons (tVar 3) tNil)))) (gName 8))
  (tSeq (tPar 3 5 (tCons (tOp (rI0 fun i j => V.int (i - j)) (tVar 3) (tVar 8)) (tCons (tOp (rI0 fun i j => V.int (i + j)) (tVar 5) (tVar 8)) tNil)))
    (tFor (iList K (tVar 1)) (gTup K 3 (gCons (gName 7) (gCons (gName 9) (gCons (gName 10) gNil))))
      (tAsg (tOp (rI0 fun i j => V.int (i + j)) (tDGet2 (tVar 4) (tVar 7) (tC (V.int 0))) (tOp (rI CMul fun i j => V.int (i * j)) (tVar 9) (tVar 8))) (gSub (tVar 4) (tVar 7) rSetD))))
def tradeT (K : PySem.W.Frag) : TS := tSeq (tAsg (tOp (rIxL K) (tVar 6) (tCR (spDrawn K) E0 (tCons (tVar 0) (tCons (tCB (fun xs H Q => ∃ p ys, xs = [V.ref p] ∧ (SqL K H p ys ∨ SqT K H p ys) ∧ Q (V.int ys.length) H) (tCons (tVar 6) tNil)) tNil)))) (gTup K 3 (gCons (gName 7) (gCons (gName 9) (gCons (gName 10) gNil)))))
  (tSeq (tAsg (tOp (rI0 fun i j => V.int (i + j)) (tC (V.int 1)) (tCR (spDrawn K) E0 (tCons (tVar 0) (tCons (tOp (rI CDiv fun i j => V.int (i / j)) (tDGet (tVar 4) (tVar 7)) (tVar 10)) tNil)))) (gName 8))
    (tSeq (tAsg (tOp (rI0 fun i j => V.int (i + j)) (tVar 3) (tVar 8)) (gName 3))
      (tAsg (tOp (rI0 fun i j => V.int (i - j)) (tDGet (tVar 4) (tVar 7)) (tOp (rI CMul fun i j => V.int (i * j)) (tVar 8) (tVar 10))) (gSub (tVar 4) (tVar 7) rSetD))))
section
variable {K : PySem.W.Frag} {H0 H1 : Hp} {q a c p D E : Addr} {ns : List Int} {ts : List Tr} {ps : List Addr} {f dr : Int} {M : List (Str × Int)} {y6 y7 y8 y9 y10 y11 : Option V} {En : Ends}
theorem drink_ok (x1 : DS K H0 H1 q a ns) (hp0 : H0 p = some (.lst (ps.map V.ref))) (hN : NewTr H0 ps ts) (hD : TrD ts) (e1 : H1 D = some (.dK (mK M))) (n0D : H0 D = none) (qD : D ≠ q) (nM : (M.map (·.1)).Nodup) (lM : M.length ≤ 23) (f0 : 0 < f) (f9 : f ≤ 1000000000000000000)
    (hnx : ∀ H' cnt M' y7' y9' y10', 1 ≤ cnt → cnt ≤ f → DS K H0 H' q a ns → H' D = some (.dK (mK M')) → PUpd M M' (ts.map Tr.k) → (∀ j, vL M' j = vL M j + lOf ts j * cnt) →
      En.nx [some (.ref q), some (.ref p), some (.ref c), some (.int (f - cnt)), some (.ref D), some (.int (dr + cnt)), y6, y7', some (.int cnt), y9', y10', y11] H') :
    drinkT K En [some (.ref q), some (.ref p), some (.ref c), some (.int f), some (.ref D), some (.int dr), y6, y7, y8, y9, y10, y11] H1 := by
  unfold drinkT
  refine ⟨_, rfl, _, rfl, q, a, ns, f, hq H1 q, rfl, f0, by omega, x1.re, fun H2 r x2 r0 r1 => ⟨_, _, rfl, rfl, ?_⟩⟩
  have x2' := x1.down x2
  have e2 := x2.same _ _ (DS.keep e1 qD)
  obtain ⟨cnt, ecnt⟩ : ∃ cnt, cnt = 1 + r := ⟨_, rfl⟩
  dsimp only [gName]
  rw [← ecnt]
  refine ⟨_, rfl, _, rfl, _, _, rfl, rfl, _, rfl, _, rfl, _, _, rfl, rfl, _, _, rfl, ?_⟩
  have p2 := x2'.same _ _ hp0
  have hg := hD.fair.g
  refine ⟨_, rfl, p, rfl, ⟨_, SqL.of p2⟩, for_list (K := K) (a := p) (xs := ps.map V.ref) (fun i σ H3 => DS K H0 H3 q a ns ∧ ∃ (M' : List (Str × Int)) (z7 z9 z10 : Option V), H3 D = some (.dK (mK M')) ∧ PUpd M M' ((ts.take i).map Tr.k) ∧
      (∀ k, vL M' k = vL M k + if k ∈ (ts.take i).map Tr.k then lOf ts k * cnt else 0) ∧ σ = [some (.ref q), some (.ref p), some (.ref c), some (.int (f - cnt)), some (.ref D), some (.int (dr + cnt)), y6, z7, some (.int cnt), z9, z10, y11])
    ⟨x2', M, y7, y9, y10, e2, ⟨nM, fun k => ⟨.inl, fun z => z.elim id fun z => (by cases z)⟩⟩, fun k => by rw [if_neg (by exact fun z => by cases z), Int.add_zero], rfl⟩ (fun i σ H3 _ z => SqL.of (z.1.same _ _ hp0)) ?_ ?_⟩
  · rintro i u σ H3 hu ⟨x3, M', z7, z9, z10, e3, hU, hv, rfl⟩
    rw [List.getElem?_map] at hu
    obtain ⟨pa, epa, rfl⟩ := Option.map_eq_some_iff.mp hu
    have hlt := lt_of_at epa
    obtain ⟨t, et⟩ : ∃ t, ts[i]? = some t := ⟨_, List.getElem?_eq_getElem (by rw [← hN.1]; exact hlt)⟩
    have htup : SqT K H3 pa t.vs := SqT.of (x3.same _ _ (hN.2 i pa t epa et))
    have hm := List.mem_of_getElem? et
    have hnd := hD.nm.1
    have hnin : t.k ∉ (ts.take i).map Tr.k := fun hin => by
      have hnd' : ((ts.take (i + 1)).map Tr.k).Nodup := (hnd.sublist ((List.take_sublist _ _).map _))
      rw [take_at et, List.map_append, List.nodup_append] at hnd'
      exact hnd'.2.2 _ hin _ (List.mem_singleton.mpr rfl) rfl
    have hu := hg.2 t hm
    obtain ⟨M2, eM, nM2, mM, vM⟩ := mK_set hU.nd t.k (vL M' t.k + t.l * cnt)
    have lM' := hU.len
    have l3 : ((ts.take i).map Tr.k).length ≤ 3 := by
      rw [List.length_map, List.length_take]
      have := hg.1
      omega
    refine ⟨pa, _, rfl, htup, rfl, _, _, rfl, _, _, rfl, _, _, rfl, rfl, ?_⟩
    refine ⟨_, rfl, D, rfl, .inl ⟨_, .inl e3⟩, _, rfl, _, .inl ⟨_, .inr t.k, .inl e3, rfl, rfl⟩, ?_⟩
    rw [get0]
    refine ⟨_, rfl, _, rfl, _, _, rfl, rfl, .inl ⟨by have := hu.1; omega, by have := hu.2.1; omega⟩, _, _, rfl, rfl, _, rfl, _, rfl, D, _, rfl, DPut.k (k := .inr t.k) e3 (small3 (by unfold mK; rw [List.length_map]; omega)), ?_⟩
    rw [eM]
    refine ⟨x3.mut n0D qD, M2, some (.str t.k), some (.int t.l), some (.int t.n), upd_same, ⟨nM2, fun j => ?_⟩, fun j => ?_, rfl⟩
    · rw [mM, hU.mem, take_at et, List.map_append, List.mem_append]
      show _ ↔ _ ∨ _ ∨ j ∈ [t.k]
      rw [List.mem_singleton, or_assoc]
    · have hin1 : t.k ∈ (ts.take i).map Tr.k ++ List.map Tr.k [t] := List.mem_append.mpr (.inr (List.mem_singleton.mpr rfl))
      rw [vM, take_at et, List.map_append]
      by_cases e : j = t.k
      · rw [if_pos e, e, if_pos hin1, hv, if_neg hnin, lOf_at hnd hm, Int.add_zero]
      · rw [if_neg e, hv]
        by_cases e2 : j ∈ (ts.take i).map Tr.k
        · rw [if_pos e2, if_pos (List.mem_append.mpr (.inl e2))]
        · have hnj : j ∉ (ts.take i).map Tr.k ++ List.map Tr.k [t] := fun z => (List.mem_append.mp z).elim e2 fun z => e (List.mem_singleton.mp z)
          rw [if_neg e2, if_neg hnj]
  · rintro σ H3 ⟨x3, M', z7, z9, z10, e3, hU, hv, rfl⟩
    have elen : (ps.map V.ref).length = ts.length := by rw [List.length_map, hN.1]
    rw [elen, List.take_length] at hU hv
    refine hnx H3 cnt M' z7 z9 z10 (by omega) (by omega) x3 e3 hU fun j => ?_
    rw [hv]
    by_cases e : j ∈ ts.map Tr.k
    · rw [if_pos e]
    · rw [if_neg e, lOf_not e, Int.zero_mul]
theorem trade_ok {ws : List (Addr × Tr)} (x1 : DS K H0 H1 q a ns) (hN : ∀ z ∈ ws, SqT K H0 z.1 z.2.vs ∧ z.2.ok ∧ z.2.n ≤ vL M z.2.k ∧ z.2 ∈ ts) (hE : H1 E = some (.lst (ws.map fun z => V.ref z.1))) (qE : E ≠ q) (hw : ws ≠ []) (lw : ws.length ≤ 100) (e1 : H1 D = some (.dK (mK M))) (n0D : H0 D = none) (qD : D ≠ q) (nM : (M.map (·.1)).Nodup) (lM : M.length ≤ 23) (m9 : ∀ t ∈ ts, vL M t.k / t.n ≤ 1000000000000000000)
    (hnx : ∀ H' t cnt M' y7' y9' y10', t ∈ ts → 1 ≤ cnt → cnt * t.n ≤ vL M t.k → DS K H0 H' q a ns → H' D = some (.dK (mK M')) → (M'.map (·.1)).Nodup → (∀ j, j ∈ M'.map (·.1) ↔ j ∈ M.map (·.1)) → (∀ j, vL M' j = if j = t.k then vL M t.k - cnt * t.n else vL M j) →
      En.nx [some (.ref q), some (.ref p), some (.ref c), some (.int (f + cnt)), some (.ref D), some (.int dr), some (.ref E), y7', some (.int cnt), y9', y10', y11] H') :
    tradeT K En [some (.ref q), some (.ref p), some (.ref c), some (.int f), some (.ref D), some (.int dr), some (.ref E), y7, y8, y9, y10, y11] H1 := by
  unfold tradeT
  have hlen : 0 < ws.length := List.length_pos_iff.mpr hw
  refine ⟨_, rfl, _, rfl, _, rfl, E, _, rfl, .inl (SqL.of hE), q, a, ns, _, hq H1 q, rfl, by rw [List.length_map]; omega, by rw [List.length_map]; omega, x1.re, fun H2 r x2 r0 r1 => ?_⟩
  have x2' := x1.down x2
  have e2 := x2.same _ _ (DS.keep e1 qD)
  have E2 := x2.same _ _ (DS.keep hE qE)
  rw [List.length_map] at r1
  obtain ⟨z, ez⟩ : ∃ z, ws[r.toNat]? = some z := ⟨_, List.getElem?_eq_getElem (by omega)⟩
  obtain ⟨ht, hok, hn, hmt⟩ := hN z (List.mem_of_getElem? ez)
  obtain ⟨pz, t⟩ := z
  replace ht : SqT K H0 pz t.vs := ht
  replace hok : t.ok := hok
  replace hn : t.n ≤ vL M t.k := hn
  replace hmt : t ∈ ts := hmt
  refine ⟨E, _, r, .ref pz, rfl, rfl, SqL.of E2, at_of (j := r.toNat) (by omega) (by rw [List.getElem?_map, ez]; rfl), ?_⟩
  have ht2 : SqT K H2 pz t.vs := Same.tup x2'.same ht
  have hpos : 0 < vL M t.k := by
    have := hok.2.2.1
    have : t.n ≤ vL M t.k := hn
    omega
  have hkM : t.k ∈ M.map (·.1) := by
    by_cases e : t.k ∈ M.map (·.1)
    · exact e
    · rw [vL_none e] at hpos
      exact absurd hpos (Int.lt_irrefl _)
  have hg2 := DGet.k (k := .inr t.k) e2
  rw [mK_val hkM] at hg2
  refine ⟨pz, _, rfl, ht2, rfl, _, _, rfl, _, _, rfl, _, _, rfl, rfl, ?_⟩
  have hnp := tr_pos hok
  have hq1 : 1 ≤ vL M t.k / t.n := by
    rw [Int.le_ediv_iff_mul_le hnp]
    have : t.n ≤ vL M t.k := hn
    omega
  have hq2 : vL M t.k / t.n ≤ vL M t.k := Int.ediv_le_self _ (Int.le_of_lt hpos)
  have hm9 := m9 t hmt
  refine ⟨_, rfl, _, rfl, _, rfl, D, _, rfl, hg2, _, rfl, _, _, rfl, rfl, ⟨hnp, by have := hok.2.2.2; omega⟩, q, a, ns, vL M t.k / t.n, hq H2 q, rfl, by omega, by omega, x2'.re, fun H3 r3 x3 r30 r31 => ⟨_, _, rfl, rfl, ?_⟩⟩
  have x3' := x2'.down x3
  have e3 := x3.same _ _ (DS.keep e2 qD)
  obtain ⟨cnt, ecnt⟩ : ∃ cnt, cnt = 1 + r3 := ⟨_, rfl⟩
  dsimp only [gName]
  rw [← ecnt]
  have hcn : cnt * t.n ≤ vL M t.k := by
    have h1 := Int.ediv_mul_le (vL M t.k) (Int.ne_of_gt hnp)
    have h2 := Int.mul_le_mul_of_nonneg_right (show cnt ≤ vL M t.k / t.n by omega) (Int.le_of_lt hnp)
    omega
  have hg3 := DGet.k (k := .inr t.k) e3
  rw [mK_val hkM] at hg3
  obtain ⟨M2, eM, nM2, mM, vM⟩ := mK_set nM t.k (vL M t.k - cnt * t.n)
  refine ⟨_, rfl, _, rfl, _, _, rfl, rfl, ?_⟩
  refine ⟨_, rfl, _, rfl, D, _, rfl, hg3, _, rfl, _, rfl, _, _, rfl, rfl, .inr ⟨by omega, by have := hok.2.2.2; omega⟩, _, _, rfl, rfl, _, rfl, _, rfl, D, _, rfl, DPut.k (k := .inr t.k) e3 (small3 (by unfold mK; rw [List.length_map]; omega)), ?_⟩
  rw [eM]
  exact hnx _ t cnt M2 _ _ _ hmt (by omega) hcn (x3'.mut n0D qD) upd_same nM2 (fun j => by rw [mM]; exact ⟨fun z => z.elim id fun z => by rw [z]; exact hkM, .inl⟩) vM
end
end EB

namespace EB
open PySem PySem.Spec PyProof.Rows L2
theorem okM.nn {M : List (Str × Int)} (h : okM M) (k : Str) : 0 ≤ vL M k := (h.le k).1
theorem vL_filter {M : List (Str × Int)} (hn : (M.map (·.1)).Nodup) (h0 : ∀ p ∈ M, 0 ≤ p.2) (k : Str) : vL (M.filter fun p => decide (0 < p.2)) k = vL M k := by
  have hs : ((M.filter fun p => decide (0 < p.2)).map (·.1)).Nodup := List.Sublist.nodup (List.Sublist.map _ List.filter_sublist) hn
  by_cases hk : k ∈ M.map (·.1)
  · obtain ⟨p, hp, rfl⟩ := List.mem_map.mp hk
    rw [vL_of hn hp]
    by_cases h : 0 < p.2
    · exact vL_of hs (List.mem_filter.mpr ⟨hp, decide_eq_true h⟩)
    · rw [vL_none]
      · have := h0 p hp
        omega
      · intro z
        obtain ⟨q, hq, e⟩ := List.mem_map.mp z
        obtain ⟨a, b⟩ := List.mem_filter.mp hq
        have h1 := vL_of hn a
        rw [e, vL_of hn hp] at h1
        rw [h1] at h
        exact h (of_decide_eq_true b)
  · rw [vL_none hk, vL_none]
    intro z
    obtain ⟨q, hq, e⟩ := List.mem_map.mp z
    exact hk (List.mem_map.mpr ⟨q, (List.mem_filter.mp hq).1, e⟩)
section
variable {P : Program} {w : World} {K : PySem.W.Frag} {mg : Str → Option Value} {base : Heap} (T : Tx K mg)
include T
def spCallS (K : PySem.W.Frag) : Sp := fun vs H Q _ => ∃ (x o : Addr) (n : Int) (ts : List Tr) (M : List (Str × Int)), vs = [.ref x, .ref o] ∧ OfAt K H o ts ∧ Fair ts ∧ (ts.map Tr.k).Nodup ∧ StkAt K H x n M ∧ okM M ∧ M.length ≤ 100 ∧ 0 ≤ n ∧
  ∀ H' dr, Same H H' → IsDr ts n (vL M) dr → Q (.int dr) H'
theorem ok_Stock_call : FnR P w K mg base CX0 7 (a_Stock_call K) (spCallS K) := by
  refine fnR0 (d := d_Stock_call) T.F_Stock_call sc_Stock_call rfl (fun _ _ _ _ _ _ us hl => match us, hl with | [_, _], _ => rfl) (fun vs H Q E h => ?_) (fun cdv A outer s H vs Q E hr h => ?_)
  · obtain ⟨x, o, n, ts, M, rfl, _⟩ := h
    rfl
  obtain ⟨x, o, n, ts, M, rfl, ho, hf, hnd, hx, hM, lM, n0, k⟩ := h
  obtain ⟨dx, d, e1, e2⟩ := hx.ex
  refine ⟨_, (pss_cons (ps_asg (pe_cR (ok_use_up T) (hr.mono (by decide)) T.F_use_up.kp T.g_use_up pass0 (pa_cons (pv 1) (pa_cons (pe_fld (pv 0) rfl) (pa_cons (pe_fld (pv 0) rfl) pa_nil)))) (pg_tup rfl (pgs_cons (pg_name (i := 2) sc_Stock_call.nd rfl (Or.inl rfl)) (pgs_cons (pg_name (i := 3) sc_Stock_call.nd rfl (Or.inl rfl)) pgs_nil)))) (pss_one (ps_ret (pv 2)))), ?_⟩
  refine ⟨_, rfl, _, rfl, x, _, dx, _, _, rfl, e1, T.k_Stock, T.na_filled, lk_filled, _, rfl, x, _, dx, _, _, rfl, e1, T.k_Stock, T.na_loose, lk_loose, o, d, n, ts, M, rfl, ho, hf, hnd, e2, hM.1, lM, n0, hM.nn, fun H' b a M' dr s' hb ha na hU hD hE => ?_⟩
  exact ⟨b, _, rfl, hb, rfl, _, _, rfl, _, _, rfl, rfl, _, rfl, k H' dr s' hD⟩
def spRest (K : PySem.W.Frag) : Sp := fun vs H Q _ => ∃ (o x : Addr) (n : Int) (ts : List Tr) (M : List (Str × Int)), vs = [.ref o, .ref x] ∧ OfAt K H o ts ∧ Fair ts ∧ nmOk ts ∧ ("full" : Str) ∉ ts.map Tr.k ∧ StkAt K H x n M ∧ okM M ∧ M.length ≤ 50 ∧ 0 ≤ n ∧
  ∀ H' z R dr, Same H H' → StkNew K H H' z 0 R → H z = none → okM R → IsDr ts n (vL M) dr → EndP ts (vL M) (vL R) dr → Q (.ref z) H'
theorem ok_rest_of : FnR P w K mg base CX0 7 (a_rest_of K) (spRest K) := by
  refine fnR0 (d := d_rest_of) T.F_rest_of sc_rest_of rfl (fun _ _ _ _ _ _ us hl => match us, hl with | [_, _], _ => rfl) (fun vs H Q E h => ?_) (fun cdv A outer s H vs Q E hr h => ?_)
  · obtain ⟨o, x, n, ts, M, rfl, _⟩ := h
    rfl
  obtain ⟨o, x, n, ts, M, rfl, ho, hf, hnm, hfull, hx, hM, lM, n0, k⟩ := h
  obtain ⟨dx, d, e1, e2⟩ := hx.ex
  refine ⟨_, (pss_cons (ps_asg (pe_cR (ok_use_up T) (hr.mono (by decide)) T.F_use_up.kp T.g_use_up pass0 (pa_cons (pv 0) (pa_cons (pe_prop (pv 1) T.k_Stock T.p_Stock_filled (ok_Stock_filled T) (hr.mono (by decide)) (b_Stock_filled T) .nil pass0 rfl) (pa_cons (pe_prop (pv 1) T.k_Stock T.p_Stock_loose (ok_Stock_loose T) (hr.mono (by decide)) (b_Stock_loose T) .nil pass0 rfl) pa_nil)))) (pg_tup rfl (pgs_cons (pg_name (i := 2) sc_rest_of.nd rfl (Or.inl rfl)) (pgs_cons (pg_name (i := 3) sc_rest_of.nd rfl (Or.inl rfl)) pgs_nil)))) (pss_cons (ps_lock ((ps_setDc (i := 4) (own := [("kind", 5), ("count", 6)]) rfl sc_rest_of.nd rfl rfl (sw_trueD rfl rfl rfl (by decide +kernel)) (pi_items (pv 3)) (blkOk_by (own := [("kind", 5), ("count", 6)]) (N := N_rest_of) (sc := defScope s_rest_of) (by decide +kernel)) (fun _ _ _ _ _ => (pg_tupB (n := 2) (pgs_cons (pg_name (i := 5) sc_rest_of.nd rfl (Or.inl rfl) (.inr rfl)) (pgs_cons (pg_name (i := 6) sc_rest_of.nd rfl (Or.inl rfl) (.inr rfl)) pgs_nil)))) (fun _ _ _ _ _ => (pts_one (pt_cmpR op_gt (pv 6) pe_int (nomark _)))) (fun _ _ _ _ _ => (pv 5)) (fun _ _ _ _ _ => (pv 6))))) (pss_cons (ps_if (pt_cmp (pc_din (hu_of hr) (pe_cS T.c_FULL) (pv 4)) rfl) (pss_one ps_never) pss_nil) (pss_one (ps_ret (EBW.pe_makeD T.mk_Stock (ok_Stock_init T) (hr.mono (by decide)) (by rfl) T.g_Stock pass0 (pa_cons pe_int pa_nil) (pv 4))))))), ?_⟩
  refine ⟨_, rfl, _, rfl, x, dx, _, rfl, e1, x, n, M, rfl, hx, _, rfl, x, dx, _, rfl, e1, x, n, M, rfl, hx, fun lo nlo => ?_⟩
  have sl : Same H (upd H lo (.dK (mK M))) := same_new nlo
  refine ⟨o, lo, n, ts, M, rfl, ho.mono sl, hf, hnm.1, .inl upd_same, hM.1, by omega, n0, hM.nn, fun H1 b a M' dr s' hb ha na hU hD hE => ?_⟩
  have s1 := sl.trans s'
  refine ⟨b, _, rfl, hb, rfl, _, _, rfl, _, _, rfl, rfl, ?_⟩
  have lM' := hU.len
  have lts : (ts.map Tr.k).length ≤ 3 := by
    rw [List.length_map]
    exact hf.g.1
  have h0 : ∀ j, 0 ≤ vL M' j := fun j => by
    by_cases e : j ∈ ts.map Tr.k
    · obtain ⟨t, ht, rfl⟩ := List.mem_map.mp e
      rw [hE.at_ t ht]
      exact Int.emod_nonneg _ (Int.ne_of_gt (tr_pos (hf.g.2 t ht)))
    · rw [hE.oth j e]
      exact hM.nn j
  have h9 : ∀ j, vL M' j ≤ 1000000000000000000 := fun j => by
    by_cases e : j ∈ ts.map Tr.k
    · obtain ⟨t, ht, rfl⟩ := List.mem_map.mp e
      rw [hE.at_ t ht]
      have := Int.emod_lt_of_pos (vL M t.k + t.l * dr) (tr_pos (hf.g.2 t ht))
      have := (hf.g.2 t ht).2.2.2
      omega
    · rw [hE.oth j e]
      exact (hM.le j).2
  have hp0 : ∀ p ∈ M', 0 ≤ p.2 := fun p hp => by
    rw [← vL_of hU.nd hp]
    exact h0 _
  have hkey : ∀ p ∈ M', kindOk p.1 = true ∧ p.1.length ≤ 1000 ∧ p.1 ≠ "full" := fun p hp => by
    rcases (hU.mem p.1).mp (List.mem_map.mpr ⟨p, hp, rfl⟩) with z | z
    · obtain ⟨q, hq, e⟩ := List.mem_map.mp z
      have := hM.2 q hq
      rw [e] at this
      exact ⟨this.1, this.2.1, this.2.2.1⟩
    · refine ⟨?_, ?_, fun e => hfull (by rw [← e]; exact z)⟩
      · obtain ⟨t, ht, e⟩ := List.mem_map.mp z
        rw [← e]
        exact (hnm.2 t ht).1
      · obtain ⟨t, ht, e⟩ := List.mem_map.mp z
        rw [← e]
        exact (hnm.2 t ht).2
  refine ⟨a, .dK (mK M'), ha, trivial, fun od => ?_⟩
  have aL : upd H1 a (.frz od (.dK (mK M'))) a = some (.frz od (.dK (mK M'))) := upd_same
  refine ⟨_, rfl, a, od, mK M', rfl, aL, fun W nW => ?_⟩
  have nWa : W ≠ a := (ne_of_none aL nW).symm
  refine dc_walk (walk_items (d := a) (o := od) (kvs := mK M')) (fun i H2 => Same (upd H1 a (.frz od (.dK (mK M')))) H2 ∧ H2 W = some (.dK (mK ((M'.take i).filter fun p => decide (0 < p.2))))) ⟨same_new nW, upd_same⟩ (fun i H2 _ q => q.1 _ _ aL) ?_ ?_
  · rintro i u H2 H2' hi ⟨s2, w2⟩ ⟨tp, kx, vx, rfl, ntp, rfl, hk, hv⟩
    obtain ⟨p, ep, rfl, rfl⟩ : ∃ p, M'[i]? = some p ∧ kx = .str p.1 ∧ vx = .int p.2 := by
      have h1 : ((mK M')[i]?.map fun kv => kV kv.1) = some kx := hk
      have h2 : ((mK M')[i]?.map Prod.snd) = some vx := hv
      unfold mK at h1 h2
      rw [List.getElem?_map] at h1 h2
      cases e : M'[i]? with
      | none =>
        rw [e] at h1
        cases h1
      | some p =>
        rw [e] at h1 h2
        exact ⟨p, rfl, (Option.some.inj h1).symm, (Option.some.inj h2).symm⟩
    have s2' : Same (upd H1 a (.frz od (.dK (mK M')))) (upd H2 tp (.tup [.str p.1, .int p.2])) := s2.trans (same_new ntp)
    have w2' := upd_old (u := .tup [.str p.1, .int p.2]) w2 ntp
    have tt : SqT K (upd H2 tp (.tup [.str p.1, .int p.2])) tp [.str p.1, .int p.2] := SqT.of upd_same
    generalize upd H2 tp (.tup [.str p.1, .int p.2]) = H4 at s2' w2' tt
    have hlt := lt_of_at ep
    refine ⟨tp, _, rfl, tt, rfl, _, _, rfl, _, _, rfl, rfl, rfl, ?_⟩
    refine ⟨_, rfl, _, _, rfl, rfl, _, rfl, ite2 (fun hd => ?_) (fun hd => ?_)⟩
    · have hd : 0 < p.2 := of_decide_eq_true hd
      have hnin : p.1 ∉ ((M'.take i).filter fun p => decide (0 < p.2)).map (·.1) := fun z => by
        obtain ⟨q, hq, e⟩ := List.mem_map.mp z
        have hq1 := (List.mem_filter.mp hq).1
        rw [List.mem_take_iff_getElem] at hq1
        obtain ⟨j, hj, ej⟩ := hq1
        have h1 : (M'.map (·.1))[j]? = some p.1 := by
          rw [List.getElem?_map, List.getElem?_eq_getElem (by omega), ej, ← e]
          rfl
        have h2 : (M'.map (·.1))[i]? = some p.1 := by
          rw [List.getElem?_map, ep]
          rfl
        have := nd_ix hU.nd h1 h2
        omega
      refine ⟨_, rfl, _, rfl, _, .inr p.1, rfl, w2', small3 ?_, same_mut s2' nW, ?_⟩
      · unfold mK
        rw [List.length_map]
        refine Nat.le_trans (List.length_filter_le _ _) ?_
        rw [List.length_take]
        omega
      · rw [upd_same, mK_put hnin, take_at ep, List.filter_append, List.filter_cons_of_pos (by exact decide_eq_true hd), List.filter_nil]
    · have hd : ¬ 0 < p.2 := fun z => hd (decide_eq_true z)
      refine ⟨s2', ?_⟩
      rw [w2', take_at ep, List.filter_append, List.filter_cons_of_neg (by show ¬ decide (0 < p.2) = true; exact fun z => hd (of_decide_eq_true z)), List.filter_nil, List.append_nil]
  rintro H3 ⟨s3, w3⟩
  have elen : (mK M').length = M'.length := by
    unfold mK
    exact List.length_map _
  rw [elen, List.take_length] at w3
  refine ⟨s3 _ _ aL, ?_⟩
  have sH := s1.trans (unlock_same ha s3)
  have w4 : upd H3 a (.dK (mK M')) W = some (.dK (mK (M'.filter fun p => decide (0 < p.2)))) := by
    rw [upd_ne nWa]
    exact w3
  generalize upd H3 a (.dK (mK M')) = H4 at sH w4
  have hval := vL_filter hU.nd hp0
  have hsub : ∀ p ∈ M'.filter fun p => decide (0 < p.2), p ∈ M' := fun p hp => (List.mem_filter.mp hp).1
  have hlen : (M'.filter fun p => decide (0 < p.2)).length < 64 := Nat.lt_of_le_of_lt (List.length_filter_le _ _) (by omega)
  have hnd' : ((M'.filter fun p => decide (0 < p.2)).map (·.1)).Nodup := List.Sublist.nodup (List.Sublist.map _ List.filter_sublist) hU.nd
  generalize (M'.filter fun p => decide (0 < p.2)) = L at w4 hval hsub hlen hnd'
  have hno : valV (mK L) (.inr ("full" : Str)) = none := by
    rw [mK_at]
    cases e : L.lookup ("full" : Str) with
    | none => rfl
    | some v => exact absurd rfl (hkey _ (hsub _ (lk_key e))).2.2
  have hg := DGet.k (k := .inr ("full" : Str)) w4
  rw [hno] at hg
  refine ⟨_, rfl, W, _, rfl, hg, _, rfl, ?_⟩
  refine iteF ?_
  refine fun q nq => ⟨_, rfl, W, kwV L, rfl, (ne_of_none w4 nq).symm, upd_same, .inl (by rw [kwV_K]; exact upd_old w4 nq), fun z dz nz ndz nez => ?_⟩
  have sq : Same H (upd (upd H4 q (.dK [])) q (.dK (EBW.kwK (kwV L)))) := same_mut (sH.trans (same_new nq)) (sH.free nq)
  refine mkS_ok (K := K) ⟨hnd', fun p hp => ?_⟩ (fun p hp => (hkey p (hsub p hp)).2.2) hlen (Int.le_refl _) (by decide) z dz nz ndz nez (fun H' R s' hn a b e => ⟨rfl, ?_⟩)
  · have h1 := hkey p (hsub p hp)
    have h2 := hp0 p (hsub p hp)
    have h3 := h9 p.1
    rw [vL_of hU.nd (hsub p hp)] at h3
    exact ⟨h1.1, h1.2.1, h2, h3⟩
  · refine k H' z R dr (sq.trans s') (hn.low sq) (sq.free nz) a hD ⟨fun t ht => ?_, fun j hj => ?_⟩
    · rw [b, hval]
      exact hE.at_ t ht
    · rw [b, hval]
      exact hE.oth j hj
end
end EB

namespace EB
open PySem PySem.Spec PyProof.Rows L2
def noFull (C : List (Str × Int)) : List (Str × Int) := C.filter fun p => decide (p.1 ≠ ("full" : Str))
/-- the trades that can be made now -/
def wys (ps : List Addr) (ts : List Tr) (M : List (Str × Int)) : List (Addr × Tr) := (ps.zip ts).filter fun z => decide (z.2.n ≤ vL M z.2.k)
theorem zip_at {ps : List Addr} {ts : List Tr} {i : Nat} {p : Addr} {t : Tr} (h1 : ps[i]? = some p) (h2 : ts[i]? = some t) : (ps.zip ts)[i]? = some (p, t) := by
  rw [List.getElem?_zip_eq_some]
  exact ⟨h1, h2⟩
theorem wys_mem {ps : List Addr} {ts : List Tr} {M : List (Str × Int)} {z : Addr × Tr} (h : z ∈ wys ps ts M) : z.2 ∈ ts ∧ z.2.n ≤ vL M z.2.k ∧ ∃ i : Nat, ps[i]? = some z.1 ∧ ts[i]? = some z.2 := by
  obtain ⟨h1, h2⟩ := List.mem_filter.mp h
  obtain ⟨i, hi⟩ := List.getElem?_of_mem h1
  obtain ⟨p, t⟩ := z
  rw [List.getElem?_zip_eq_some] at hi
  exact ⟨List.mem_of_getElem? hi.2, of_decide_eq_true h2, i, hi⟩
theorem wys_nil {ps : List Addr} {ts : List Tr} {M : List (Str × Int)} (hl : ps.length = ts.length) (h : wys ps ts M = []) : ∀ t ∈ ts, vL M t.k < t.n := fun t ht => by
  obtain ⟨i, hi⟩ := List.getElem?_of_mem ht
  have hp : ps[i]? = some (ps[i]'(by rw [hl]; exact lt_of_at hi)) := List.getElem?_eq_getElem _
  have hz := List.mem_of_getElem? (zip_at hp hi)
  by_cases e : t.n ≤ vL M t.k
  · have : (ps[i]'(by rw [hl]; exact lt_of_at hi), t) ∈ wys ps ts M := List.mem_filter.mpr ⟨hz, decide_eq_true e⟩
    rw [h] at this
    cases this
  · omega
section
variable {P : Program} {w : World} {K : PySem.W.Frag} {mg : Str → Option Value} {base : Heap} (T : Tx K mg)
include T
/-- drinking and trading in any order: the drinks, the pieces that are left -/
def spTraded (K : PySem.W.Frag) : Sp := fun vs H Q _ => ∃ (q a c p : Addr) (ns : List Int) (H0 : Hp) (ts : List Tr) (ps : List Addr) (C : List (Str × Int)), vs = [.ref q, .ref p, .ref c] ∧ DS K H0 H q a ns ∧ H0 p = some (.lst (ps.map V.ref)) ∧ NewTr H0 ps ts ∧ TrD ts ∧ H0 c = some (.dK (mK (C))) ∧
  (C.map (·.1)).Nodup ∧ C.length ≤ 20 ∧ ("full" : Str) ∈ C.map (·.1) ∧ (∀ k, 0 ≤ vL C k ∧ vL C k ≤ 1000000) ∧
  ∀ H' b l L dr, DS K H0 H' q a ns → H' b = some (.tup [.int dr, .ref l]) → H' l = some (.dK (mK L)) → H0 l = none → l ≠ q → IsDr ts (vL C "full") (fun k : Str => if k = "full" then 0 else vL C k) dr →
    (L.map (·.1)).Nodup → (∀ p ∈ L, 0 < p.2) → EndP ts (fun k : Str => if k = "full" then 0 else vL C k) (vL L) dr → Q (.ref b) H'
theorem ok_law_traded : FnR P w K mg base CX0 2 (a_law_traded K) (spTraded K) := by
  refine fnR0 (d := d_law_traded) T.F_law_traded sc_law_traded rfl (fun _ _ _ _ _ _ us hl => match us, hl with | [_, _, _], _ => rfl) (fun vs H Q E h => ?_) (fun cdv A outer s H vs Q E hr h => ?_)
  · obtain ⟨q, a, c, p, ns, H0, ts, ps, C, rfl, _⟩ := h
    rfl
  obtain ⟨q, a, c, p, ns, H0, ts, ps, C, rfl, x, hp0, hN, hD, hc0, nC, lC, hfl, hb, k⟩ := h
  have hc := x.same _ _ hc0
  have hgf := DGet.k (k := .inr ("full" : Str)) hc
  rw [mK_val hfl] at hgf
  refine ⟨_, (pss_cons (ps_asg (pe_tup (pa_cons (pe_dget (hu_of hr) (pv 2) pe_str (fun _ _ => rfl)) (pa_cons (pe_callTy call_dictD (by rfl) T.n_dict (by decide +kernel) (pa_cons (pv 2) pa_nil)) (pa_cons pe_int pa_nil)))) (pg_tup rfl (pgs_cons (pg_name (i := 3) sc_law_traded.nd rfl (Or.inl rfl)) (pgs_cons (pg_name (i := 4) sc_law_traded.nd rfl (Or.inr rfl)) (pgs_cons (pg_name (i := 5) sc_law_traded.nd rfl (Or.inl rfl)) pgs_nil))))) (pss_cons (ps_expr (pe_dpop1 (pv 4) pe_str ⟨rfl, rfl, rfl, rfl⟩)) (pss_one (ps_while PassesOwn.never (pt_val pe_bl) (pss_cons (ps_setLc (i := 6) (own := [("_law_trade", 11)]) rfl sc_law_traded.nd rfl rfl (sw_true rfl rfl rfl (by decide +kernel)) (pi_list (pv 1)) (blkOk_by (own := [("_law_trade", 11)]) (N := N_law_traded) (sc := defScope s_law_traded) (by decide +kernel)) (fun _ _ _ _ _ => (pg_name (i := 11) sc_law_traded.nd rfl (Or.inl rfl) (.inr rfl))) (fun _ _ _ _ _ => (pts_one (pt_cmpR op_ge (pe_dget2 (hu_of hr) (pv 4) (pe_ix (ix_tupK (K := K) rfl) (pv 11) pe_int (fun _ _ => rfl)) pe_int ⟨rfl, rfl, rfl, rfl⟩) (pe_ix (ix_tupK (K := K) rfl) (pv 11) pe_int (fun _ _ => rfl)) (nomark _)))) (fun _ _ _ _ _ => (pv 11))) (pss_cons (ps_if (PW.pt (pw_and (pt_cmpR op_eq (pv 3) pe_int (nomark _)) (pw_and1 (pt_cmpR (op_eqD hr.units) (pv 6) (pe_lst pa_nil) (nomark _))))) (pss_one (ps_ret (pe_tup (pa_cons (pv 5) (pa_cons (pe_callTy (call_dictP rfl) (by rfl) T.n_dict (by decide +kernel) (pa_cons (pe_lock (pe_lc (own := [("_law_kind", 7)]) rfl sc_law_traded.nd (pi_keys (pv 4)) (blkOk_by (own := [("_law_kind", 7)]) (N := N_law_traded) (sc := defScope s_law_traded) (by decide +kernel)) (fun _ _ _ _ _ => (pg_name (i := 7) sc_law_traded.nd rfl (Or.inl rfl) (.inr rfl))) (fun _ _ _ _ _ => (pts_one (pt_cmpR op_gt (pe_dget (hu_of hr) (pv 4) (pv 7) (fun _ _ => rfl)) pe_int (nomark _)))) (fun _ _ _ _ _ => (pe_tup (pa_cons (pv 7) (pa_cons (pe_dget (hu_of hr) (pv 4) (pv 7) (fun _ _ => rfl)) pa_nil)))))) pa_nil)) pa_nil))))) pss_nil) (pss_one (ps_if (PW.pt (pw_or (pt_cmpR (op_eqD hr.units) (pv 6) (pe_lst pa_nil) (nomark _)) (pw_or1 (PW.pt (pw_and (pt_cmpR op_gt (pv 3) pe_int (nomark _)) (pw_and1 (pt_cmpR op_eq (pe_cR (ok_law_drawn T) (hr.mono (by decide)) T.F_law_drawn.kp T.g_law_drawn pass0 (pa_cons (pv 0) (pa_cons pe_int pa_nil))) pe_int (nomark _)))))))) (pss_cons (ps_set (i := 8) sc_law_traded.nd rfl (Or.inl rfl) (pe_op op_add pe_int (pe_cR (ok_law_drawn T) (hr.mono (by decide)) T.F_law_drawn.kp T.g_law_drawn pass0 (pa_cons (pv 0) (pa_cons (pv 3) pa_nil))))) (pss_cons (ps_par (i := 3) (j := 5) (by rfl) sc_law_traded.nd rfl rfl (by decide) rfl rfl (pa_cons (pe_op op_sub (pv 3) (pv 8)) (pa_cons (pe_op op_add (pv 5) (pv 8)) pa_nil)) (by rfl)) (pss_one (ps_for PassesOwn.never rfl (pi_list (pv 1)) (pg_tup rfl (pgs_cons (pg_name (i := 7) sc_law_traded.nd rfl (Or.inl rfl)) (pgs_cons (pg_name (i := 9) sc_law_traded.nd rfl (Or.inl rfl)) (pgs_cons (pg_name (i := 10) sc_law_traded.nd rfl (Or.inl rfl)) pgs_nil)))) (pss_one (ps_asg (pe_op op_add (pe_dget2 (hu_of hr) (pv 4) (pv 7) pe_int ⟨rfl, rfl, rfl, rfl⟩) (pe_op op_mul (pv 9) (pv 8))) (pg_sub (pv 4) (pv 7) (set_dict (hu_of hr))))))))) (pss_cons (ps_asg (pe_ix ix_list (pv 6) (pe_cR (ok_law_drawn T) (hr.mono (by decide)) T.F_law_drawn.kp T.g_law_drawn pass0 (pa_cons (pv 0) (pa_cons (pe_callB call_len_seq (by rfl) T.n_len PySem.boot_len (pa_cons (pv 6) pa_nil)) pa_nil))) (fun _ _ => rfl)) (pg_tup rfl (pgs_cons (pg_name (i := 7) sc_law_traded.nd rfl (Or.inl rfl)) (pgs_cons (pg_name (i := 9) sc_law_traded.nd rfl (Or.inl rfl)) (pgs_cons (pg_name (i := 10) sc_law_traded.nd rfl (Or.inl rfl)) pgs_nil))))) (pss_cons (ps_set (i := 8) sc_law_traded.nd rfl (Or.inl rfl) (pe_op op_add pe_int (pe_cR (ok_law_drawn T) (hr.mono (by decide)) T.F_law_drawn.kp T.g_law_drawn pass0 (pa_cons (pv 0) (pa_cons (pe_op op_fdiv (pe_dget (hu_of hr) (pv 4) (pv 7) (fun _ _ => rfl)) (pv 10)) pa_nil))))) (pss_cons (ps_set (i := 3) sc_law_traded.nd rfl (Or.inl rfl) (pe_op op_add (pv 3) (pv 8))) (pss_one (ps_asg (pe_op op_sub (pe_dget (hu_of hr) (pv 4) (pv 7) (fun _ _ => rfl)) (pe_op op_mul (pv 8) (pv 10))) (pg_sub (pv 4) (pv 7) (set_dict (hu_of hr)))))))))))))))), ?_⟩
  have hF0 := (hb ("full" : Str)).1
  obtain ⟨F0, eF0⟩ : ∃ F0, F0 = vL C "full" := ⟨_, rfl⟩
  obtain ⟨P0, eP0⟩ : ∃ P0 : Str → Int, P0 = fun k : Str => if k = "full" then 0 else vL C k := ⟨_, rfl⟩
  rw [← eF0, ← eP0] at k
  rw [← eF0] at hgf hF0
  have hP0 : ∀ k, 0 ≤ P0 k := fun k => by
    rw [eP0]
    show 0 ≤ if k = "full" then 0 else vL C k
    by_cases e : k = "full"
    · rw [if_pos e]; exact Int.le_refl _
    · rw [if_neg e]; exact (hb k).1
  have hg := hD.fair.g
  have hU0 := most_nn (ts := ts) hF0 hP0
  have hU1 := most_ok hD.fair hF0 hP0
  refine ⟨_, rfl, c, _, rfl, hgf, _, rfl, c, mK C, rfl, .inl hc, fun D nD => ?_⟩
  have n0D := x.same.free nD
  have qD := x.new nD
  have xA := x.grow (same_new (u := .dK (mK C)) nD)
  have eA : upd H D (.dK (mK C)) D = some (.dK (mK C)) := upd_same
  generalize upd H D (.dK (mK C)) = HA at xA eA
  refine ⟨by show 3 ≤ sizeLine; decide, fun t nt => ⟨t, _, rfl, SqT.of upd_same, rfl, _, _, rfl, _, _, rfl, _, _, rfl, rfl, ?_⟩⟩
  have xB := xA.grow (same_new (u := .tup [.int F0, .ref D, .int 0]) nt)
  have eB := upd_old (u := .tup [.int F0, .ref D, .int 0]) eA nt
  generalize upd HA t (.tup [.int F0, .ref D, .int 0]) = HB at xB eB
  have hval : valV (mK C) (.inr ("full" : Str)) = some (.int F0) := by rw [mK_val hfl, eF0]
  refine ⟨_, rfl, D, rfl, .inl ⟨_, .inl eB⟩, mK C, .inr "full", .int F0, eB, rfl, hval, ?_⟩
  have edrop : dropK (mK C) (.inr ("full" : Str)) = mK (noFull C) := by
    unfold dropK mK noFull
    rw [List.filter_map]
    congr 1
    refine List.filter_congr fun p _ => ?_
    show decide ((Sum.inr p.1 : Key) ≠ Sum.inr ("full" : Str)) = decide (p.1 ≠ ("full" : Str))
    exact decide_eq_decide.mpr ⟨fun h e => h (congrArg Sum.inr e), fun h e => h (Sum.inr.inj e)⟩
  rw [edrop]
  have nM0 : ((noFull C).map (·.1)).Nodup := List.Sublist.nodup (List.Sublist.map _ List.filter_sublist) nC
  have vM0 : vL (noFull C) = P0 := funext fun j => by
    rw [eP0]
    show _ = if j = "full" then 0 else vL C j
    by_cases e : j = "full"
    · rw [if_pos e, vL_none]
      intro z
      obtain ⟨p, hp, e2⟩ := List.mem_map.mp z
      exact (of_decide_eq_true (List.mem_filter.mp hp).2) (by rw [e2, e])
    · rw [if_neg e]
      by_cases hj : j ∈ C.map (·.1)
      · obtain ⟨p, hp, rfl⟩ := List.mem_map.mp hj
        rw [vL_of nC hp]
        exact vL_of nM0 (List.mem_filter.mpr ⟨hp, decide_eq_true e⟩)
      · rw [vL_none hj, vL_none]
        intro z
        obtain ⟨p, hp, e2⟩ := List.mem_map.mp z
        exact hj (List.mem_map.mpr ⟨p, (List.mem_filter.mp hp).1, e2⟩)
  have kM0 : ∀ j ∈ (noFull C).map (·.1), j ∈ C.map (·.1) ++ ts.map Tr.k := fun j hj => by
    obtain ⟨p, hp, e2⟩ := List.mem_map.mp hj
    exact List.mem_append.mpr (.inl (List.mem_map.mpr ⟨p, (List.mem_filter.mp hp).1, e2⟩))
  have xC := xB.mut (o := .dK (mK (noFull C))) n0D qD
  have eC : upd HB D (.dK (mK (noFull C))) D = some (.dK (mK (noFull C))) := upd_same
  generalize upd HB D (.dK (mK (noFull C))) = HC at xC eC
  generalize (noFull C) = M0 at nM0 vM0 kM0 eC
  refine ⟨fun m σ H1 => DS K H0 H1 q a ns ∧ ∃ (f dr : Int) (M : List (Str × Int)) (y6 y7 y8 y9 y10 y11 : Option V), H1 D = some (.dK (mK M)) ∧ (M.map (·.1)).Nodup ∧ (∀ j ∈ M.map (·.1), j ∈ C.map (·.1) ++ ts.map Tr.k) ∧ Drun ts F0 P0 f (vL M) dr ∧ m = (2 * (most ts F0 P0 - (dr + f)) + f).toNat ∧
      σ = [some (.ref q), some (.ref p), some (.ref c), some (.int f), some (.ref D), some (.int dr), y6, y7, y8, y9, y10, y11],
    ⟨_, xC, F0, 0, M0, none, none, none, none, none, none, eC, nM0, kM0, by rw [vM0]; exact Drun.start hF0 hP0, rfl, rfl⟩, ?_⟩
  rintro m σ H1 ⟨x1, f, dr, M, y6, y7, y8, y9, y10, y11, e1, nM, kM, hR, rfl, rfl⟩
  refine ⟨true, rfl, iteT ⟨_, fun σ' H' z => z, ?_⟩⟩
  have p1 := x1.same _ _ hp0
  have lM : M.length ≤ 23 := by
    have h4 := nodup_len nM kM
    rw [List.length_map, List.length_append, List.length_map, List.length_map] at h4
    have := hg.1
    omega
  refine ⟨_, rfl, p, rfl, ⟨_, SqL.of p1⟩, fun E nE => ?_⟩
  have qE := x1.new nE
  have nED : E ≠ D := (ne_of_none e1 nE).symm
  have hlz : ∀ i, (wys (ps.take i) (ts.take i) M) = ((ps.zip ts).take i).filter (fun z => decide (z.2.n ≤ vL M z.2.k)) := fun i => by
    unfold wys
    rw [List.zip_eq_zipWith, List.zip_eq_zipWith, List.take_zipWith]
  refine lc_list (xs := ps.map V.ref) (fun i H2 => Same H1 H2 ∧ H2 E = some (.lst ((((ps.zip ts).take i).filter fun z => decide (z.2.n ≤ vL M z.2.k)).map fun z => V.ref z.1))) ⟨same_new nE, upd_same⟩ (fun i H2 _ z => SqL.of (z.1 _ _ p1)) ?_ ?_
  · rintro i u H2 hu ⟨s2, w2⟩
    rw [List.getElem?_map] at hu
    obtain ⟨pa, epa, rfl⟩ := Option.map_eq_some_iff.mp hu
    have hlt := lt_of_at epa
    obtain ⟨tr, etr⟩ : ∃ tr, ts[i]? = some tr := ⟨_, List.getElem?_eq_getElem (by rw [← hN.1]; exact hlt)⟩
    have htup : SqT K H2 pa tr.vs := SqT.of (s2 _ _ (x1.same _ _ (hN.2 i pa tr epa etr)))
    have hm := List.mem_of_getElem? etr
    have eD := s2 _ _ e1
    refine ⟨rfl, _, rfl, D, rfl, .inl ⟨_, .inl eD⟩, _, rfl, pa, _, 0, _, rfl, rfl, htup, rfl, _, .inl ⟨mK M, .inr tr.k, .inl eD, rfl, rfl⟩, ?_⟩
    rw [get0]
    refine ⟨_, rfl, pa, _, 2, _, rfl, rfl, htup, rfl, _, _, rfl, rfl, _, rfl, ite2 (fun hd => ?_) (fun hd => ?_)⟩
    · have hd : tr.n ≤ vL M tr.k := of_decide_eq_true hd
      refine ⟨_, rfl, _, w2, small3 ?_, same_mut s2 nE, ?_⟩
      · rw [List.length_map]
        refine Nat.le_trans (List.length_filter_le _ _) (Nat.le_trans (List.length_take_le _ _) ?_)
        have := lt_of_at etr
        have := hg.1
        omega
      · rw [upd_same, take_at (zip_at epa etr), List.filter_append, List.map_append, List.filter_cons_of_pos (by exact decide_eq_true hd), List.filter_nil]
        rfl
    · have hd : ¬ tr.n ≤ vL M tr.k := fun z => hd (decide_eq_true z)
      refine ⟨s2, ?_⟩
      rw [w2, take_at (zip_at epa etr), List.filter_append, List.filter_cons_of_neg (by show ¬ decide (tr.n ≤ vL M tr.k) = true; exact fun z => hd (of_decide_eq_true z)), List.filter_nil, List.append_nil]
  rintro H2 ⟨s2, w2⟩
  have hzl : (ps.zip ts).take (ps.map V.ref).length = ps.zip ts := List.take_of_length_le (by rw [List.length_zip, List.length_map]; omega)
  rw [hzl] at w2
  have w2 : H2 E = some (.lst ((wys ps ts M).map fun z => V.ref z.1)) := w2
  have x2 := x1.grow s2
  have e2 := s2 _ _ e1
  have lW : (wys ps ts M).length ≤ 3 := by
    refine Nat.le_trans (List.length_filter_le _ _) ?_
    rw [List.length_zip]
    have := hg.1
    omega
  have tW : ∀ z ∈ wys ps ts M, SqT K H0 z.1 z.2.vs ∧ z.2.ok ∧ z.2.n ≤ vL M z.2.k ∧ z.2 ∈ ts := fun z hz => by
    obtain ⟨h1, h2, i, h3, h4⟩ := wys_mem hz
    exact ⟨SqT.of (hN.2 i _ _ h3 h4), hg.2 _ h1, h2, h1⟩
  have hnil := wys_nil (M := M) hN.1
  have dpW : ∀ {HH : Hp}, Same H2 HH → Dp K HH (.ref E) (.list (((wys ps ts M).map Prod.snd).map TD.trD)) := fun {HH} sH => by
    refine .lst (SqL.of (sH _ _ w2)) ?_
    rw [show ((wys ps ts M).map fun z => V.ref z.1) = ((wys ps ts M).map Prod.fst).map V.ref by rw [List.map_map]; rfl]
    refine TD.trs_dpl (by rw [List.length_map, List.length_map]) fun i b t h1 h2 => ?_
    rw [List.getElem?_map] at h1 h2
    obtain ⟨z, hz, rfl⟩ := Option.map_eq_some_iff.mp h1
    rw [hz] at h2
    cases Option.some.inj h2
    exact Same.tup (x2.same.trans sH) (tW z (List.mem_of_getElem? hz)).1
  have shW : SeqAt.shaped (PyData.list (((wys ps ts M).map Prod.snd).map TD.trD)) = true := TD.trs_shaped fun t ht => by
    obtain ⟨z, hz, rfl⟩ := List.mem_map.mp ht
    exact TD.kA_str _ (hD.ks _ (tW z hz).2.2.2)
  have hemp : ((wys ps ts M).map Prod.snd = []) ↔ wys ps ts M = [] := List.map_eq_nil_iff
  have hup := hR.upto hg hU0 hU1
  have h9 : most ts F0 P0 ≤ 1000000000000000 := by
    have h5 : (ts.map fun t => P0 t.k).sum ≤ (ts.map fun _ => (1000000 : Int)).sum := sum_map_le fun t _ => by
      rw [eP0]
      show (if t.k = "full" then 0 else vL C t.k) ≤ 1000000
      by_cases e : t.k = "full"
      · rw [if_pos e]; decide
      · rw [if_neg e]; exact (hb _).2
    have h6 : ∀ l : List Tr, (l.map fun _ => (1000000 : Int)).sum = 1000000 * (l.length : Int) := fun l => by
      induction l with
      | nil => rfl
      | cons t r ih => rw [List.map_cons, List.sum_cons, ih, List.length_cons]; push_cast; omega
    have h7 := h6 ts
    have h8 := hg.1
    have h10 := (hb ("full" : Str)).2
    rw [← eF0] at h10
    unfold most
    omega
  have hnd0 := hD.nm.1
  have hqn : ∀ u ∈ ts, 0 ≤ vL M u.k := fun u hu => by
    obtain ⟨md, h1, _⟩ := hR.md
    exact (h1 u hu).2
  have tr1 : ∀ {t : Tr} {cnt : Int} {q' : Str → Int}, t ∈ ts → 0 ≤ cnt → cnt * t.n ≤ vL M t.k → (∀ j, q' j = if j = t.k then vL M t.k - cnt * t.n else vL M j) → Drun ts F0 P0 (f + cnt) q' dr := fun {t cnt q'} ht c1 c2 hv => by
    have same : ∀ u ∈ ts, u.k = t.k → u = t := fun u hu e => by
      obtain ⟨i, hi⟩ := List.getElem?_of_mem hu
      obtain ⟨j, hj⟩ := List.getElem?_of_mem ht
      have h1 : (ts.map Tr.k)[i]? = some t.k := by rw [List.getElem?_map, hi, ← e]; rfl
      have h2 : (ts.map Tr.k)[j]? = some t.k := by rw [List.getElem?_map, hj]; rfl
      have := nd_ix hnd0 h1 h2
      rw [this, hj] at hi
      exact (Option.some.inj hi).symm
    have r1 := hR.trade hg (fun u => if u.k = t.k then cnt else 0) (fun u _ => by
      show 0 ≤ if u.k = t.k then cnt else 0
      by_cases e : u.k = t.k
      · rw [if_pos e]; omega
      · rw [if_neg e]; exact Int.le_refl _) (fun u hu => by
      show (if u.k = t.k then cnt else 0) * u.n ≤ vL M u.k
      by_cases e : u.k = t.k
      · rw [if_pos e, same u hu e]; exact c2
      · rw [if_neg e, Int.zero_mul]; exact hqn u hu) (q' := q') (fun u hu => by
      show q' u.k = vL M u.k - (if u.k = t.k then cnt else 0) * u.n
      rw [hv]
      by_cases e : u.k = t.k
      · rw [if_pos e, if_pos e, same u hu e]
      · rw [if_neg e, if_neg e, Int.zero_mul, Int.sub_zero]) (fun j hj => by
      rw [hv, if_neg]
      exact fun z => hj (by rw [z]; exact List.mem_map.mpr ⟨t, ht, rfl⟩))
    have hsum : (ts.map fun u => if u.k = t.k then cnt else 0).sum = cnt := by
      have h0 : ∀ l' : List Tr, t.k ∉ l'.map Tr.k → (l'.map fun u => if u.k = t.k then cnt else 0).sum = 0 := fun l' => by
        induction l' with
        | nil => exact fun _ => rfl
        | cons v s ih2 =>
          intro hv
          rw [List.map_cons, List.mem_cons, not_or] at hv
          rw [List.map_cons, List.sum_cons, if_neg (Ne.symm hv.1), ih2 hv.2]
          rfl
      have hz : ∀ l : List Tr, (l.map Tr.k).Nodup → t ∈ l → (l.map fun u => if u.k = t.k then cnt else 0).sum = cnt := fun l => by
        induction l with
        | nil => exact fun _ h => by cases h
        | cons u r ih =>
          intro hn h
          rw [List.map_cons, List.nodup_cons] at hn
          rw [List.map_cons, List.sum_cons]
          by_cases e : u.k = t.k
          · rw [if_pos e, h0 r (by rw [← e]; exact hn.1)]
            omega
          · rw [if_neg e, ih hn.2 ((List.mem_cons.mp h).resolve_left fun z => e (by rw [z])), Int.zero_add]
      exact hz ts hnd0 ht
    rw [hsum] at r1
    exact r1
  have hq0 : ∀ t ∈ ts, vL M t.k / t.n ≤ 1000000000000000000 := fun t ht => by
    have hn := tr_pos (hg.2 t ht)
    have r1 := tr1 ht (Int.ediv_nonneg (hqn t ht) (Int.le_of_lt hn)) (Int.ediv_mul_le _ (Int.ne_of_gt hn)) (q' := fun j => if j = t.k then vL M t.k - vL M t.k / t.n * t.n else vL M j) (fun j => rfl)
    have h1 := r1.upto hg hU0 hU1
    have h2 := hR.f0
    have h3 := hR.d0
    omega
  have goD : ∀ {H' : Hp} {cnt : Int} {M' : List (Str × Int)} {y7' y9' y10' : Option V}, 1 ≤ cnt → cnt ≤ f → DS K H0 H' q a ns → H' D = some (.dK (mK M')) → PUpd M M' (ts.map Tr.k) → (∀ j, vL M' j = vL M j + lOf ts j * cnt) →
      ∃ m', m' < (2 * (most ts F0 P0 - (dr + f)) + f).toNat ∧ (DS K H0 H' q a ns ∧ ∃ (f2 dr2 : Int) (M2 : List (Str × Int)) (z6 z7 z8 z9 z10 z11 : Option V), H' D = some (.dK (mK M2)) ∧ (M2.map (·.1)).Nodup ∧ (∀ j ∈ M2.map (·.1), j ∈ C.map (·.1) ++ ts.map Tr.k) ∧ Drun ts F0 P0 f2 (vL M2) dr2 ∧ m' = (2 * (most ts F0 P0 - (dr2 + f2)) + f2).toNat ∧
        [some (V.ref q), some (.ref p), some (.ref c), some (.int (f - cnt)), some (.ref D), some (.int (dr + cnt)), some (.ref E), y7', some (.int cnt), y9', y10', y11] = [some (.ref q), some (.ref p), some (.ref c), some (.int f2), some (.ref D), some (.int dr2), z6, z7, z8, z9, z10, z11]) := fun {H' cnt M' y7' y9' y10'} c1 c2 xx ee hU hv => by
    have r1 := hR.drink hg hD.nm.1 (by omega) c2 hv
    refine ⟨_, ?_, xx, f - cnt, dr + cnt, M', _, _, _, _, _, _, ee, hU.nd, fun j hj => ?_, r1, rfl, rfl⟩
    · have := hR.f0
      omega
    · rcases (hU.mem j).mp hj with z | z
      · exact kM j z
      · exact List.mem_append.mpr (.inr z)
  have goT : ∀ {H' : Hp} {t : Tr} {cnt : Int} {M' : List (Str × Int)} {y7' y9' y10' : Option V}, t ∈ ts → 1 ≤ cnt → cnt * t.n ≤ vL M t.k → DS K H0 H' q a ns → H' D = some (.dK (mK M')) → (M'.map (·.1)).Nodup → (∀ j, j ∈ M'.map (·.1) ↔ j ∈ M.map (·.1)) → (∀ j, vL M' j = if j = t.k then vL M t.k - cnt * t.n else vL M j) →
      ∃ m', m' < (2 * (most ts F0 P0 - (dr + f)) + f).toNat ∧ (DS K H0 H' q a ns ∧ ∃ (f2 dr2 : Int) (M2 : List (Str × Int)) (z6 z7 z8 z9 z10 z11 : Option V), H' D = some (.dK (mK M2)) ∧ (M2.map (·.1)).Nodup ∧ (∀ j ∈ M2.map (·.1), j ∈ C.map (·.1) ++ ts.map Tr.k) ∧ Drun ts F0 P0 f2 (vL M2) dr2 ∧ m' = (2 * (most ts F0 P0 - (dr2 + f2)) + f2).toNat ∧
        [some (V.ref q), some (.ref p), some (.ref c), some (.int (f + cnt)), some (.ref D), some (.int dr), some (.ref E), y7', some (.int cnt), y9', y10', y11] = [some (.ref q), some (.ref p), some (.ref c), some (.int f2), some (.ref D), some (.int dr2), z6, z7, z8, z9, z10, z11]) := fun {H' t cnt M' y7' y9' y10'} ht c1 c2 xx ee hnd hmem hv => by
    have r1 := tr1 ht (by omega) c2 hv
    have hup2 := r1.upto hg hU0 hU1
    refine ⟨_, ?_, xx, f + cnt, dr, M', _, _, _, _, _, _, ee, hnd, fun j hj => kM j ((hmem j).mp hj), r1, rfl, rfl⟩
    have := hR.f0
    omega
  have f9 : f ≤ 1000000000000000000 := by
    have := hR.d0
    omega
  refine ⟨_, rfl, rfl, _, rfl, ite2 (fun hf => ?_) (fun hf => ?_)⟩
  · have hf : f = 0 := V.int.inj (of_decide_eq_true hf)
    refine ⟨_, rfl, Nat.zero_le _, fun e ne => ⟨_, _, dpW (same_new ne), .lst (SqL.of upd_same) .nil, shW, TD.shN, _, rfl, ?_⟩⟩
    rw [TD.trs_eqv]
    have s3 : Same H2 (upd H2 e (.lst [])) := same_new ne
    generalize upd H2 e (.lst []) = H3 at s3
    refine ite2 (fun hw => ?_) (fun hw => ?_)
    · have hw : wys ps ts M = [] := hemp.mp (of_decide_eq_true hw)
      rw [hf] at hR
      obtain ⟨d1, d2⟩ := hR.done hg (hnil hw)
      have hp0' : ∀ p ∈ M, 0 ≤ p.2 := fun p hp => by
        rw [← vL_of nM hp]
        by_cases e : p.1 ∈ ts.map Tr.k
        · obtain ⟨t, ht, et⟩ := List.mem_map.mp e
          rw [← et]
          exact hqn t ht
        · rw [hR.oth _ e]
          exact hP0 _
      have x3 := x2.grow s3
      have e3 := s3 _ _ e2
      refine ⟨_, rfl, D, .dK (mK M), e3, trivial, fun od => ?_⟩
      refine ⟨_, rfl, D, od, rfl, .inl ⟨mK M, upd_same, fun G nG => ?_⟩⟩
      have nGD : G ≠ D := (ne_of_none (upd_same (H := H3) (a := D) (o := .frz od (.dK (mK M)))) nG).symm
      refine lc_it (walk_keys (d := D) (o := od) (kvs := mK M)) (fun i H6 => Same (upd H3 D (.frz od (.dK (mK M)))) H6 ∧ ∃ gs : List Addr, H6 G = some (.lst (gs.map V.ref)) ∧ Paired (fun (g : Addr) (kv : Str × Int) => H6 g = some (.tup [.str kv.1, .int kv.2])) gs ((M.take i).filter fun p => decide (0 < p.2))) ⟨same_new nG, [], upd_same, .nil⟩ (fun i H6 _ z => z.1 _ _ upd_same) ?_ ?_
      · rintro i y H6 H6' hi ⟨s6, gs, eG, pr⟩ ⟨rfl, kk, v, ek, rfl⟩
        unfold mK at ek
        rw [List.getElem?_map] at ek
        obtain ⟨pp, ep, e5⟩ := Option.map_eq_some_iff.mp ek
        cases e5
        have hpm := List.mem_of_getElem? ep
        have hgk : ∀ {HH : Hp}, HH D = some (.frz od (.dK (mK M))) → DGet HH D (kV (.inr pp.1)) (some (.int pp.2)) := fun {HH} h => by
          rw [← vL_of nM hpm, ← mK_val (List.mem_map.mpr ⟨pp, hpm, rfl⟩)]
          exact .inl ⟨mK M, .inr pp.1, .inr ⟨od, h⟩, rfl, rfl⟩
        have hg6 := hgk (s6 _ _ upd_same)
        have lg : gs.length ≤ 23 := by
          rw [Paired.length pr]
          exact Nat.le_trans (List.length_filter_le _ _) (Nat.le_trans (List.length_take_le' _ _) lM)
        refine ⟨rfl, _, rfl, _, rfl, D, .int pp.2, rfl, hg6, _, _, rfl, rfl, _, rfl, ite2 (fun hd => ?_) (fun hd => ?_)⟩
        · have hd : 0 < pp.2 := of_decide_eq_true hd
          refine ⟨_, rfl, _, rfl, _, rfl, D, .int pp.2, rfl, hg6, by show 2 ≤ sizeLine; decide, fun g ng => ⟨_, upd_old eG ng, small3 (by rw [List.length_map]; omega), same_mut (s6.trans (same_new ng)) nG, gs ++ [g], ?_, ?_⟩⟩
          · rw [upd_same, List.map_append]
            rfl
          · have nGg : G ≠ g := ne_of_none eG ng
            rw [take_at ep, List.filter_append, List.filter_cons_of_pos (by exact decide_eq_true hd), List.filter_nil]
            refine Paired.snoc (Paired.mapP pr fun g' kv z => ?_) ?_
            · show upd (upd _ g _) G _ g' = _
              rw [upd_ne (ne_of z eG (by intro z; cases z))]
              exact upd_old z ng
            · show upd (upd _ g _) G _ g = _
              rw [upd_ne nGg.symm]
              exact upd_same
        · have hd : ¬ 0 < pp.2 := fun z => hd (decide_eq_true z)
          refine ⟨s6, gs, eG, ?_⟩
          rw [take_at ep, List.filter_append, List.filter_cons_of_neg (by show ¬ decide (0 < pp.2) = true; exact fun z => hd (of_decide_eq_true z)), List.filter_nil, List.append_nil]
          exact pr
      rintro H6 ⟨s6, gs, eG, pr⟩
      have elen : (mK M).length = M.length := by
        unfold mK
        exact List.length_map _
      rw [elen, List.take_length] at pr
      refine ⟨s6 _ _ upd_same, ?_⟩
      have s7 := unlock_same e3 s6
      have eG7 : upd H6 D (.dK (mK M)) G = some (.lst (gs.map V.ref)) := by
        rw [upd_ne nGD]
        exact eG
      have pr7 : Paired (fun (g : Addr) (kv : Str × Int) => upd H6 D (.dK (mK M)) g = some (.tup [.str kv.1, .int kv.2])) gs (M.filter fun p => decide (0 < p.2)) := Paired.mapP pr fun g' kv z => by
        show upd _ D _ g' = _
        rw [upd_ne (ne_of z (s6 _ _ upd_same) (by intro z; cases z))]
        exact z
      generalize upd H6 D (.dK (mK M)) = H7 at s7 eG7 pr7
      have hval := vL_filter nM hp0'
      have hnL : ((M.filter fun p => decide (0 < p.2)).map (·.1)).Nodup := List.Sublist.nodup (List.Sublist.map _ List.filter_sublist) nM
      have hpL : ∀ p ∈ M.filter (fun p => decide (0 < p.2)), 0 < p.2 := fun p hp => of_decide_eq_true (List.mem_filter.mp hp).2
      generalize (M.filter fun p => decide (0 < p.2)) = L at pr7 hval hnL hpL
      have prK : Paired (fun (g : Addr) (kv : Key × V) => SqT K H7 g [kV kv.1, kv.2]) gs (mK L) := by
        clear hval hnL hpL eG7 eG pr
        induction pr7 with
        | nil => exact .nil
        | cons a _ ih => exact .cons (SqT.of a) ih
      refine ⟨G, gs, mK L, rfl, SqL.of eG7, prK, fun l nl => ?_⟩
      rw [mergeK_nd _ _ (by
        rw [List.nil_append]
        unfold mK
        rw [List.map_map]
        unfold List.Nodup at hnL ⊢
        rw [List.pairwise_map] at hnL ⊢
        exact hnL.imp fun {a b} h e => h (Sum.inr.inj e)), List.nil_append]
      have x7 := x3.grow s7
      refine ⟨by show 2 ≤ sizeLine; decide, fun b nb => ?_⟩
      exact k _ b l L dr ((x7.grow (same_new nl)).grow (same_new nb)) upd_same (upd_old upd_same nb) (x7.same.free nl) (x7.new nl) d1 hnL hpL ⟨fun t ht => by rw [hval]; exact d2 t ht, fun j hj => by rw [hval]; exact hR.oth j hj⟩
    · have hw : ¬ wys ps ts M = [] := fun z => hw (decide_eq_true (hemp.mpr z))
      refine ⟨_, rfl, Nat.zero_le _, fun e' ne' => ⟨_, _, dpW (s3.trans (same_new ne')), .lst (SqL.of upd_same) .nil, shW, TD.shN, _, rfl, ?_⟩⟩
      rw [TD.trs_eqv, decide_eq_false fun z => hw (hemp.mp z)]
      have s4 : Same H2 (upd H3 e' (.lst [])) := s3.trans (same_new ne')
      generalize upd H3 e' (.lst []) = H4 at s4
      refine iteF ⟨_, rfl, _, _, rfl, rfl, _, rfl, ?_⟩
      rw [decide_eq_false (by omega)]
      refine iteF (iteF ?_)
      exact trade_ok (x2.grow s4) tW (s4 _ _ w2) qE hw (by omega) (s4 _ _ e2) n0D qD nM lM hq0 fun H' t cnt M' y7' y9' y10' ht c1 c2 xx ee hnd hmem hv => goT ht c1 c2 xx ee hnd hmem hv
  · have hf : ¬ f = 0 := fun z => hf (decide_eq_true (by rw [z]))
    have hf0 : 0 < f := by
      have := hR.f0
      omega
    refine iteF ⟨_, rfl, Nat.zero_le _, fun e' ne' => ⟨_, _, dpW (same_new ne'), .lst (SqL.of upd_same) .nil, shW, TD.shN, _, rfl, ?_⟩⟩
    rw [TD.trs_eqv]
    have s4 : Same H2 (upd H2 e' (.lst [])) := same_new ne'
    generalize upd H2 e' (.lst []) = H4 at s4
    refine ite2 (fun hw => ?_) (fun hw => ?_)
    · refine iteT ?_
      exact drink_ok (x2.grow s4) hp0 hN hD (s4 _ _ e2) n0D qD nM lM hf0 f9 fun H' cnt M' y7' y9' y10' c1 c2 xx ee hU hv => goD c1 c2 xx ee hU hv
    · have hw : ¬ wys ps ts M = [] := fun z => hw (decide_eq_true (hemp.mpr z))
      have x4 := x2.grow s4
      refine ⟨_, rfl, _, _, rfl, rfl, _, rfl, ?_⟩
      rw [decide_eq_true hf0]
      refine iteT ⟨_, rfl, q, a, ns, 2, hq H4 q, rfl, by decide, by decide, x4.re, fun H5 r x5 r0 r1 => ⟨rfl, _, rfl, ite2 (fun hd => ?_) (fun hd => ?_)⟩⟩
      · exact drink_ok (x4.down x5) hp0 hN hD (x5.same _ _ (DS.keep (s4 _ _ e2) qD)) n0D qD nM lM hf0 f9 fun H' cnt M' y7' y9' y10' c1 c2 xx ee hU hv => goD c1 c2 xx ee hU hv
      · exact trade_ok (x4.down x5) tW (x5.same _ _ (DS.keep (s4 _ _ w2) qE)) qE hw (by omega) (x5.same _ _ (DS.keep (s4 _ _ e2) qD)) n0D qD nM lM hq0 fun H' t cnt M' y7' y9' y10' ht c1 c2 xx ee hnd hmem hv => goT ht c1 c2 xx ee hnd hmem hv
end
end EB

namespace EB
open PySem PySem.Spec PyProof.Rows L2
theorem bind_stock0 (Tt : Addr) (kV doc pm : Value) (an : Option Addr) (cdv ct u0 x0 : Value) (kws : List (Str × Value)) (h : ∀ p ∈ kws, p.1 ∉ (["this_stock", "full"] : List Str)) (hl : kws.length ≤ 1000) :
    ∃ k, bindArgs (PySem.W.fnOf d_Stock_init.nm d_Stock_init.ql (defArgs d_Stock_init.st) (defBody d_Stock_init.st) (defScope d_Stock_init.st) (.ref Tt) kV doc pm an cdv ct) ⟨[u0], kws⟩ = seqItems? (.ref Tt) >>= k ∧ k (some [x0].toArray) = EBW.kwTail kws [("this_stock", u0), ("full", x0)] "pieces" := by
  have e1 : (defArgs d_Stock_init.st).posonlyargs.map (·.arg) = [] := by kernel_rfl
  have e2 : (defArgs d_Stock_init.st).args.map (·.arg) = (["this_stock", "full"] : List Str) := by kernel_rfl
  have e3 : (defArgs d_Stock_init.st).kwonlyargs.map (·.arg) = [] := by kernel_rfl
  have e4 : (defArgs d_Stock_init.st).vararg = none := by kernel_rfl
  obtain ⟨pa, e5, e6⟩ : ∃ a, (defArgs d_Stock_init.st).kwarg = some a ∧ a.arg = "pieces" := by
    refine ⟨_, rfl, ?_⟩
    kernel_rfl
  unfold bindArgs
  simp only [PySem.W.fnOf, e1, e2, e3, e4, e5, e6, List.nil_append, List.append_nil]
  rw [EBW.forIn_gather (g := fun (b : List (Str × Value) × List (Str × Value)) (a : Str × Value) => (b.1, b.2 ++ [(a.1, a.2)])) kws _ fun a m b => ?hstep]
  case hstep =>
    have hn : ((["this_stock", "full"] : List Str).contains a.1 || ([] : List Str).contains a.1) = false := by
      have := h a m
      rw [Bool.or_eq_false_iff]
      refine ⟨?_, rfl⟩
      rw [Bool.eq_false_iff]
      intro z
      exact this (List.contains_iff_mem.mp z)
    rw [hn]
    rfl
  rw [gather_all]
  refine ⟨_, rfl, ?_⟩
  have z : ¬ (kws.length > sizeLine + 1) := by
    have h2 : (1000 : Nat) ≤ sizeLine := by decide
    omega
  simp only [List.nil_append, eq_false z, if_false]
  rfl
/-- what stocks hold together -/
def nS (S : List (Int × List (Str × Int))) : Int := (S.map (·.1)).sum
def vS (S : List (Int × List (Str × Int))) (k : Str) : Int := (S.map fun m => vL m.2 k).sum
theorem nS_snoc (S : List (Int × List (Str × Int))) (m : Int × List (Str × Int)) : nS (S ++ [m]) = nS S + m.1 := by
  unfold nS
  rw [List.map_append, List.sum_append]
  simp
theorem vS_snoc (S : List (Int × List (Str × Int))) (m : Int × List (Str × Int)) (k : Str) : vS (S ++ [m]) k = vS S k + vL m.2 k := by
  unfold vS
  rw [List.map_append, List.sum_append]
  simp
theorem sum_take_le : ∀ {l : List Int} (i : Nat), (∀ x ∈ l, 0 ≤ x) → 0 ≤ (l.take i).sum ∧ (l.take i).sum ≤ l.sum
  | [], i, _ => by rw [List.take_nil]; exact ⟨Int.le_refl _, Int.le_refl _⟩
  | x :: l, 0, h => by
    rw [List.take_zero]
    have h1 := (sum_take_le (l := l) l.length fun y hy => h y (List.mem_cons_of_mem _ hy)).1
    rw [List.take_length] at h1
    have h2 := h x (List.mem_cons_self ..)
    rw [List.sum_cons]
    exact ⟨Int.le_refl _, by show (0 : Int) ≤ x + l.sum; omega⟩
  | x :: l, i + 1, h => by
    have h1 := sum_take_le (l := l) i fun y hy => h y (List.mem_cons_of_mem _ hy)
    have h2 := h x (List.mem_cons_self ..)
    rw [List.take_succ_cons, List.sum_cons, List.sum_cons]
    omega
theorem vS_pos : ∀ {S : List (Int × List (Str × Int))} {k : Str}, 0 < vS S k → ∃ m ∈ S, 0 < vL m.2 k
  | [], k, h => absurd h (by show ¬ (0 : Int) < 0; decide)
  | m :: S, k, h => by
    by_cases e : 0 < vL m.2 k
    · exact ⟨m, List.mem_cons_self .., e⟩
    · have h2 : vS (m :: S) k = vL m.2 k + vS S k := by
        unfold vS
        rw [List.map_cons, List.sum_cons]
      obtain ⟨x, hx, h3⟩ := vS_pos (S := S) (k := k) (by omega)
      exact ⟨x, List.mem_cons_of_mem _ hx, h3⟩
/-- stocks that may be added -/
structure Sts (S : List (Int × List (Str × Int))) (KS : List Str) : Prop where
  each : ∀ m ∈ S, okM m.2 ∧ 0 ≤ m.1 ∧ ∀ p ∈ m.2, p.1 ∈ KS
  kl : KS.length ≤ 20
  n9 : nS S ≤ 1000000000000000000
  v9 : ∀ k, vS S k ≤ 1000000000000000000
theorem Sts.take {S : List (Int × List (Str × Int))} {KS : List Str} (h : Sts S KS) (i : Nat) : 0 ≤ nS (S.take i) ∧ nS (S.take i) ≤ 1000000000000000000 ∧ ∀ k, 0 ≤ vS (S.take i) k ∧ vS (S.take i) k ≤ 1000000000000000000 := by
  have h1 := sum_take_le (l := S.map (·.1)) i fun x hx => by
    obtain ⟨m, hm, rfl⟩ := List.mem_map.mp hx
    exact (h.each m hm).2.1
  rw [← List.map_take] at h1
  refine ⟨h1.1, Int.le_trans h1.2 h.n9, fun k => ?_⟩
  have h2 := sum_take_le (l := S.map fun m => vL m.2 k) i fun x hx => by
    obtain ⟨m, hm, rfl⟩ := List.mem_map.mp hx
    exact (h.each m hm).1.nn k
  rw [← List.map_take] at h2
  exact ⟨h2.1, Int.le_trans h2.2 (h.v9 k)⟩
theorem Sts.len {S : List (Int × List (Str × Int))} {KS : List Str} (h : Sts S KS) {R : List (Str × Int)} (hR : okM R) {i : Nat} (v : ∀ k, vL R k = vS (S.take i) k) : R.length ≤ 20 := by
  refine Nat.le_trans (hR.len (ks := KS) fun j hj => ?_) h.kl
  rw [v] at hj
  obtain ⟨m, hm, hp⟩ := vS_pos hj
  have hm' := h.each m (List.mem_of_mem_take hm)
  obtain ⟨p, hp', e⟩ := List.mem_map.mp (hm'.1.pos.mpr hp)
  rw [← e]
  exact hm'.2.2 p hp'
theorem Sts.len1 {S : List (Int × List (Str × Int))} {KS : List Str} (h : Sts S KS) {m : Int × List (Str × Int)} (hm : m ∈ S) : m.2.length ≤ 20 := by
  have h1 := h.each m hm
  refine Nat.le_trans (h1.1.len (ks := KS) fun j hj => ?_) h.kl
  obtain ⟨p, hp', e⟩ := List.mem_map.mp (h1.1.pos.mpr hj)
  rw [← e]
  exact h1.2.2 p hp'
theorem mkS0_ok {K : PySem.W.Frag} {H : Hp} {Q : VK} {E : XK} (x dx : Addr) (nx : H x = none) (nd : H dx = none) (ne : dx ≠ x) (k : ∀ H' R, Same H H' → StkNew K H H' x 0 R → okM R → (∀ j, vL R j = 0) → Q .non H') :
    (fun (vs : List V) (kvs : List (Str × V)) (H : Hp) (Q : VK) (E : XK) => vs.length = 1 ∧ (kvs.map (·.1)).Nodup ∧ (∀ p ∈ kvs, p.1 ∉ (["this_stock", "full"] : List Str)) ∧ kvs.length ≤ 1000 ∧ ∀ q, H q = none → spStkI K (vs ++ [V.int 0] ++ [V.ref q]) (upd H q (.dK (EBW.kwK kvs))) Q E)
      [V.ref x] [] (upd (upd H dx (.own x)) x (.ins (He.ga K "Stock") dx [])) Q E := by
  have z := mkS_ok (K := K) (L := []) (n := 0) (Q := Q) (E := E) ⟨List.nodup_nil, fun p hp => (by cases hp)⟩ (fun p hp => (by cases hp)) (by decide) (Int.le_refl _) (by decide) x dx nx nd ne (fun H' R s hn a b _ => k H' R s hn a fun j => by rw [b]; rfl)
  exact ⟨rfl, z.2.1, z.2.2.1, z.2.2.2.1, z.2.2.2.2⟩
section
variable {P : Program} {w : World} {K : PySem.W.Frag} {mg : Str → Option Value} {base : Heap} (T : Tx K mg)
include T
theorem ok_Stock_init0 : EBW.FnRK P w K mg base CX0 5 (a_Stock_init K) (fun vs kvs H Q E => vs.length = 1 ∧ (kvs.map (·.1)).Nodup ∧ (∀ p ∈ kvs, p.1 ∉ (["this_stock", "full"] : List Str)) ∧ kvs.length ≤ 1000 ∧ ∀ q, H q = none → spStkI K (vs ++ [V.int 0] ++ [V.ref q]) (upd H q (.dK (EBW.kwK kvs))) Q E) :=
  EBW.fnRK0 (d := d_Stock_init) (sp := spStkI K) (k := 4) (ps := ["this_stock", "full"]) (pd := "pieces") T.F_Stock_init sc_Stock_init 1 0 (fun z => nomatch z) rfl (fun Tt kV doc pm an cdv ct us its kws hl hi hk hz => match us, its, hl, hi with | [u0], [x0], _, _ => bind_stock0 Tt kV doc pm an cdv ct u0 x0 kws hk hz) (stk_body T)
def spGain (K : PySem.W.Frag) : Sp := fun vs H Q _ => ∃ (o p : Addr) (ts : List Tr) (S : List (Int × List (Str × Int))) (xs : List Addr) (KS : List Str), vs = [.ref o, .ref p] ∧ OfAt K H o ts ∧ Fair ts ∧ (ts.map Tr.k).Nodup ∧ SqT K H p (xs.map V.ref) ∧ xs.length = S.length ∧ (∀ (i : Nat) (x : Addr) (m : Int × List (Str × Int)), xs[i]? = some x → S[i]? = some m → StkE K H x m.1 m.2) ∧ Sts S KS ∧
  ∀ H' (ds : List Int) D, Same H H' → ds.length = S.length → (∀ (i : Nat) (d : Int) (m : Int × List (Str × Int)), ds[i]? = some d → S[i]? = some m → IsDr ts m.1 (vL m.2) d) → IsDr ts (nS S) (vS S) D → Q (.int (D - ds.sum)) H'
theorem ok_gain_of : FnR P w K mg base CX0 8 (a_gain_of K) (fun vs H Q E => ∃ ws rest, vs = ws ++ rest ∧ ws.length = 1 ∧ rest.length ≤ sizeLine ∧ ∀ p, H p = none → spGain K (ws ++ [V.ref p]) (upd H p (.tup rest)) Q E) := by
  refine fnRS (d := d_gain_of) (ps := ["offer"]) T.F_gain_of sc_gain_of rfl (fun kV doc pm an cdv ct => StX.bind_star1 (B := fun us => bindArgs (PySem.W.fnOf d_gain_of.nm d_gain_of.ql (defArgs d_gain_of.st) (defBody d_gain_of.st) (defScope d_gain_of.st) .none kV doc pm an cdv ct) ⟨us, []⟩) (fun _ => rfl) (fun _ _ _ => rfl)) (fun cdv A outer s H vs Q E hr h => ?_)
  obtain ⟨o, p, ts, S, xs, KS, rfl, ho, hf, hnd, hp, lx, hx, hS, k⟩ := h
  obtain ⟨oi, ofs', hoi⟩ : ∃ dy fy, H o = some (.ins (He.ga K "Offer") dy fy) := by
    obtain ⟨dx, t, p, oo, f, g, e1, _⟩ := ho.ex
    exact ⟨_, _, e1⟩
  refine ⟨_, (pss_cons (ps_set (i := 2) sc_gain_of.nd rfl (Or.inl rfl) (EBW.pe_makeK0 T.mk_Stock (ok_Stock_init0 T) (hr.mono (by decide)) (by rfl) T.g_Stock pass0)) (pss_cons (ps_set (i := 3) sc_gain_of.nd rfl (Or.inl rfl) pe_int) (pss_cons (ps_for PassesOwn.never rfl (pi_tup (pv 1)) (pg_name (i := 4) sc_gain_of.nd rfl (Or.inl rfl)) (pss_cons (ps_set (i := 2) sc_gain_of.nd rfl (Or.inl rfl) (pe_op (op_binI T.sf_Stock T.m_Stock_add.at_ T.m_Stock_add.fn (ok_Stock_add T) (hr.mono (by decide)) pass0) (pv 2) (pv 4))) (pss_one (ps_set (i := 3) sc_gain_of.nd rfl (Or.inl rfl) (pe_op op_add (pv 3) (StX.pe_callO (pv 4) T.co_Stock (ok_Stock_call T) (hr.mono (by decide)) pass0 (pa_cons (pv 0) pa_nil))))))) (pss_one (ps_ret (pe_op op_sub (StX.pe_callO (pv 2) T.co_Stock (ok_Stock_call T) (hr.mono (by decide)) pass0 (pa_cons (pv 0) pa_nil)) (pv 3))))))), ?_⟩
  refine fun r dr nr ndr ner => ?_
  refine mkS0_ok (K := K) r dr nr ndr ner fun H1 R0 s1 hn1 a1 b1 => ⟨rfl, ?_⟩
  refine ⟨_, rfl, p, rfl, ⟨_, Same.tup s1 hp⟩, for_tup (K := K) (a := p) (xs := xs.map V.ref) (fun i σ H2 => Same H H2 ∧ ∃ (z : Addr) (R : List (Str × Int)) (ds : List Int) (x4 : Option V), StkE K H2 z (nS (S.take i)) R ∧ okM R ∧ (∀ j, vL R j = vS (S.take i) j) ∧ ds.length = i ∧
      (∀ (j : Nat) (d : Int) (m : Int × List (Str × Int)), ds[j]? = some d → S[j]? = some m → IsDr ts m.1 (vL m.2) d) ∧ σ = [some (.ref o), some (.ref p), some (.ref z), some (.int ds.sum), x4])
    ⟨s1, r, R0, [], none, hn1.e, a1, b1, rfl, fun j d m h => (by cases h), rfl⟩ (fun i σ H2 _ q => Same.tup q.1 hp) ?_ ?_⟩
  · rintro i u σ H2 hu ⟨s2, z, R, ds, x4, hz, oR, vR, lds, hds, rfl⟩
    rw [List.getElem?_map] at hu
    obtain ⟨x, ex, rfl⟩ := Option.map_eq_some_iff.mp hu
    have hlt : i < S.length := by
      rw [← lx]
      exact lt_of_at ex
    obtain ⟨m, em⟩ : ∃ m, S[i]? = some m := ⟨_, List.getElem?_eq_getElem hlt⟩
    have hm := List.mem_of_getElem? em
    have hm1 := hS.each m hm
    have hxe := (hx i x m ex em).mono s2
    obtain ⟨dz, fz, iz⟩ := hz.ins
    obtain ⟨dx, fx, ix⟩ := hxe.ins
    have t1 := hS.take i
    have t2 := hS.take (i + 1)
    rw [take_at em, nS_snoc] at t2
    have lR := hS.len oR vR
    have lm := hS.len1 hm
    refine ⟨_, rfl, _, rfl, z, dz, fz, x, dx, fx, rfl, rfl, iz, ix, z, x, nS (S.take i), m.1, R, m.2, rfl, hz, hxe, oR, hm1.1, t1.1, hm1.2.1, t2.2.1, fun j => ?_, by omega, fun H3 z3 R3 s3 h3 nz3 o3 v3 => ?_⟩
    · rw [vR, ← vS_snoc]
      exact (t2.2.2 j).2
    refine ⟨_, rfl, _, rfl, x, rfl, _, rfl, .inr ⟨dx, fx, s3 _ _ ix⟩, x, o, m.1, ts, m.2, rfl, ho.mono (s2.trans s3), hf, hnd, (hxe.mono s3).at_, hm1.1, by omega, hm1.2.1, fun H4 d4 s4 hD => ⟨_, _, rfl, rfl, ?_⟩⟩
    refine ⟨(s2.trans s3).trans s4, z3, R3, ds ++ [d4], some (.ref x), ?_, o3, fun j => ?_, by rw [List.length_append, lds]; rfl, fun j d m' hj hm' => ?_, ?_⟩
    · rw [take_at em, nS_snoc]
      exact h3.e.mono s4
    · rw [v3, vR, take_at em, vS_snoc]
    · rcases Nat.lt_or_ge j i with h | h
      · rw [List.getElem?_append_left (by rw [lds]; exact h)] at hj
        exact hds j d m' hj hm'
      · rw [List.getElem?_append_right (by rw [lds]; exact h), lds] at hj
        have e0 : j - i = 0 := by
          have := lt_of_at hj
          simp only [List.length_singleton] at this
          omega
        have e1 : j = i := by omega
        rw [e0] at hj
        cases Option.some.inj hj
        rw [e1, em] at hm'
        cases Option.some.inj hm'
        exact hD
    · rw [List.sum_append]
      simp
  · rintro σ H2 ⟨s2, z, R, ds, x4, hz, oR, vR, lds, hds, rfl⟩
    have lR := hS.len oR vR
    obtain ⟨dz, fz, iz⟩ := hz.ins
    have t1 := hS.take S.length
    rw [List.length_map, lx] at hz vR lds
    rw [List.take_length] at hz vR
    rw [List.take_length] at t1
    refine ⟨_, rfl, z, rfl, _, rfl, .inr ⟨dz, fz, iz⟩, z, o, nS S, ts, R, rfl, ho.mono s2, hf, hnd, hz.at_, oR, by omega, t1.1, fun H3 D s3 hD => ⟨_, rfl, _, _, rfl, rfl, k H3 ds D (s2.trans s3) lds hds ?_⟩⟩
    rw [show vL R = vS S from funext vR] at hD
    exact hD
end
end EB

namespace EB
open PySem PySem.Spec PyProof.Rows L2
/-! ### data of some depth -/
inductive Lev : Nat → PyData → Prop
  | non {n : Nat} : Lev n .none
  | bl {n : Nat} (b : Bool) : Lev n (.bool b)
  | int {n : Nat} (i : Int) : Lev n (.int i)
  | str {n : Nat} (z : Str) : Lev n (.str z)
  | lst {n : Nat} {ds : List PyData} (h : ∀ d ∈ ds, Lev n d) (hl : ds.length ≤ 10000) : Lev (n + 1) (.list ds)
  | tup {n : Nat} {ds : List PyData} (h : ∀ d ∈ ds, Lev n d) (hl : ds.length ≤ 10000) : Lev (n + 1) (.tuple ds)
mutual
theorem dp_mono {K : PySem.W.Frag} {H H' : Hp} (s : Same H H') : ∀ {v : V} {d : PyData}, Dp K H v d → Dp K H' v d
  | _, _, .non => .non
  | _, _, .bl b => .bl b
  | _, _, .int i => .int i
  | _, _, .str z => .str z
  | _, _, .lst h a => .lst (s.seq h) (dps_mono s a)
  | _, _, .tup h a => .tup (Same.tup s h) (dps_mono s a)
theorem dps_mono {K : PySem.W.Frag} {H H' : Hp} (s : Same H H') : ∀ {vs : List V} {ds : List PyData}, DpAll K H vs ds → DpAll K H' vs ds
  | _, _, .nil => .nil
  | _, _, .cons a b => .cons (dp_mono s a) (dps_mono s b)
end
theorem dps_len {K : PySem.W.Frag} {H : Hp} : ∀ {vs : List V} {ds : List PyData}, DpAll K H vs ds → vs.length = ds.length
  | _, _, .nil => rfl
  | _, _, .cons _ b => congrArg Nat.succ (dps_len b)
theorem dps_at {K : PySem.W.Frag} {H : Hp} : ∀ {vs : List V} {ds : List PyData} {i : Nat}, DpAll K H vs ds → i < ds.length → ∃ v d, vs[i]? = some v ∧ d ∈ ds ∧ Dp K H v d ∧ ds[i]? = some d
  | _, _, 0, .cons a b, _ => ⟨_, _, rfl, List.mem_cons_self .., a, rfl⟩
  | _, _, i + 1, .cons a b, h => by
    obtain ⟨v, d, e1, e2, e3, e4⟩ := dps_at (i := i) b (Nat.lt_of_succ_lt_succ h)
    exact ⟨v, d, e1, List.mem_cons_of_mem _ e2, e3, e4⟩
theorem dps_ints {K : PySem.W.Frag} {H : Hp} : ∀ (ns : List Int), DpAll K H (ns.map V.int) (ns.map PyData.int)
  | [] => .nil
  | n :: ns => .cons (.int n) (dps_ints ns)
theorem tyL {K : PySem.W.Frag} {H : Hp} {a : Addr} {xs : List V} (h : SqL K H a xs) : TyX K H (.ref a) (.type "list") := by
  rcases h with (h | ⟨o, h⟩) | ⟨o, its, n, h1, h2, _⟩
  · exact .base (.lst h)
  · exact .base (.frz h)
  · exact .kList h1 h2
theorem tyT {K : PySem.W.Frag} {H : Hp} {a : Addr} {xs : List V} (h : SqT K H a xs) : TyX K H (.ref a) (.type "tuple") := by
  rcases h with (h | ⟨o, h⟩) | ⟨o, its, n, h1, h2, _⟩
  · exact .base (.tup h)
  · exact .fTuple h
  · exact .kTuple h1 h2
theorem isTL {K : PySem.W.Frag} (q : Bool) : PySem.W.kitAny K (.type (if q then "list" else "tuple")) [.type "tuple", .type "list"] = some true := by
  cases q with
  | true => exact kitAny_cons (b := false) (kit_ty (by decide +kernel)) (fun _ => kitAny_cons (b := true) (kit_ty (by decide +kernel)) (fun z => nomatch z) (fun _ => rfl)) (fun z => nomatch z)
  | false => exact kitAny_cons (b := true) (kit_ty (by decide +kernel)) (fun z => nomatch z) (fun _ => rfl)
/-- a list (q) or a tuple -/
def SqQ (K : PySem.W.Frag) (H : Hp) (q : Bool) (a : Addr) (xs : List V) : Prop := if q = true then SqL K H a xs else SqT K H a xs
theorem SqQ.ty {K : PySem.W.Frag} {H : Hp} {q : Bool} {a : Addr} {xs : List V} (h : SqQ K H q a xs) : TyX K H (.ref a) (.type (if q then "list" else "tuple")) := by
  cases q with
  | true => exact tyL h
  | false => exact tyT h
theorem SqQ.or {K : PySem.W.Frag} {H : Hp} {q : Bool} {a : Addr} {xs : List V} (h : SqQ K H q a xs) : SqL K H a xs ∨ SqT K H a xs := by
  cases q with
  | true => exact .inl h
  | false => exact .inr h
theorem SqQ.mono {K : PySem.W.Frag} {H H' : Hp} {q : Bool} {a : Addr} {xs : List V} (s : Same H H') (h : SqQ K H q a xs) : SqQ K H' q a xs := by
  cases q with
  | true => exact s.seq h
  | false => exact Same.tup s h
theorem SqQ.ix {K : PySem.W.Frag} {H : Hp} {q : Bool} {a : Addr} {xs : List V} {i : Int} {v : V} {Q : VK} (h : SqQ K H q a xs) (e : atI xs i = some v) (k : Q v H) : rIx K (.ref a) (.int i) H Q := by
  cases q with
  | true => exact .inl ⟨a, xs, i, v, rfl, rfl, h, e, k⟩
  | false => exact .inr (.inl ⟨a, xs, i, v, rfl, rfl, h, e, k⟩)
theorem kitD (q : Bool) {K : PySem.W.Frag} : PySem.W.kitOne K (.type (if q then "list" else "tuple")) (.type "dict") = some false := by
  cases q with
  | true => exact kit_ty (by decide +kernel)
  | false => exact kit_ty (by decide +kernel)
theorem kitL (q : Bool) {K : PySem.W.Frag} : PySem.W.kitOne K (.type (if q then "list" else "tuple")) (.type "list") = some q := by
  cases q with
  | true => exact kit_ty (by decide +kernel)
  | false => exact kit_ty (by decide +kernel)
theorem shapedN : SeqAt.shaped (PyData.list []) = true := by decide +kernel
theorem alike_low {n : Nat} {d : PyData} (h : Lev n d) : Lev 0 d ∨ ∃ (q : Bool) (ds : List PyData) (m : Nat), n = m + 1 ∧ d = (if q then .list ds else .tuple ds) ∧ (∀ e ∈ ds, Lev m e) ∧ ds.length ≤ 10000 := by
  cases h with
  | non => exact .inl .non
  | bl b => exact .inl (.bl b)
  | int i => exact .inl (.int i)
  | str z => exact .inl (.str z)
  | lst h hl => exact .inr ⟨true, _, _, rfl, rfl, h, hl⟩
  | tup h hl => exact .inr ⟨false, _, _, rfl, rfl, h, hl⟩
theorem dp_seq {K : PySem.W.Frag} {H : Hp} {v : V} {q : Bool} {ds : List PyData} (h : Dp K H v (if q then .list ds else .tuple ds)) : ∃ a xs, v = .ref a ∧ SqQ K H q a xs ∧ DpAll K H xs ds := by
  cases q with
  | true =>
    cases h with
    | lst h a => exact ⟨_, _, rfl, h, a⟩
  | false =>
    cases h with
    | tup h a => exact ⟨_, _, rfl, h, a⟩
end EB

namespace EB
open PySem PySem.Spec PyProof.Rows L2
theorem OfAt.ins {K : PySem.W.Frag} {H : Hp} {a : Addr} {ts : List Tr} (o : OfAt K H a ts) : ∃ dx fs, H a = some (.ins (He.ga K "Offer") dx fs) ∧ ∀ m : Str, ((m == "_trades") || ((m == "_period") || ((m == "_tops") || ((m == "_firsts") || (m == "_gaps"))))) = false → fs.lookup m = none := by
  obtain ⟨dx, t, p, q, f, g, e1, _⟩ := o.ex
  exact ⟨dx, _, e1, fun m h => lk_no h⟩
theorem dps_snoc {K : PySem.W.Frag} {H : Hp} {v : V} {d : PyData} (h : Dp K H v d) : ∀ {vs : List V} {ds : List PyData}, DpAll K H vs ds → DpAll K H (vs ++ [v]) (ds ++ [d])
  | _, _, .nil => .cons h .nil
  | _, _, .cons a b => .cons a (dps_snoc h b)
theorem hid_mono {H H' : Hp} {x : Addr} (s : Same H H') : Same (hid H x) (hid H' x) := fun b o e => by
  by_cases h : b = x
  · rw [h, hid_x] at e
    cases e
  · rw [hid_ne h] at e ⊢
    exact s b o e
/-- one trade, read off the tuple of the trades -/
theorem TrAt.ix {K : PySem.W.Frag} {H : Hp} {a : Addr} {ts : List Tr} {i : Nat} {t : Tr} (h : TrAt K H a ts) (e : ts[i]? = some t) : ∃ xs p, SqT K H a xs ∧ xs.length = ts.length ∧ atI xs (0 + (i : Int)) = some (.ref p) ∧ SqT K H p t.vs := by
  obtain ⟨ps, h1, h2, h3⟩ := h.ex
  have hi : i < ps.length := by
    rw [h2]
    exact lt_of_at e
  refine ⟨_, ps[i], h1, by rw [List.length_map, h2], at_of (j := i) (Int.zero_add _) ?_, h3 i _ t (List.getElem?_eq_getElem hi) e⟩
  rw [List.getElem?_map, List.getElem?_eq_getElem hi]
  rfl
theorem TrAt.seq {K : PySem.W.Frag} {H : Hp} {a : Addr} {ts : List Tr} (h : TrAt K H a ts) : ∃ xs, SqT K H a xs ∧ xs.length = ts.length := by
  obtain ⟨ps, h1, h2, _⟩ := h.ex
  exact ⟨_, h1, by rw [List.length_map, h2]⟩
theorem ints_lay : ∀ ns : List Int, PyData.canLayAll0 (ns.map .int) = true ∧ PyData.depthAll (ns.map .int) ≤ 1
  | [] => ⟨rfl, by simp [PyData.depthAll]⟩
  | n :: ns => by
    have h := ints_lay ns
    rw [List.map_cons]
    refine ⟨by rw [PyData.canLayAll0, h.1, PyData.canLay0]; rfl, ?_⟩
    simp only [PyData.depthAll, PyData.depth]
    omega
theorem ints_shaped (ns : List Int) : SeqAt.shaped (PyData.list (ns.map .int)) = true := by
  have h := ints_lay ns
  unfold SeqAt.shaped
  rw [Bool.and_eq_true, decide_eq_true_eq]
  refine ⟨by rw [PyData.canLay0]; exact h.1, ?_⟩
  rw [PyData.depth]
  omega
theorem ints_eqv (ns : List Int) : PyData.eqv (PyData.list (ns.map .int)) (.list []) = decide (ns = []) := by
  cases ns with
  | nil => rfl
  | cons k ks =>
    rw [decide_eq_false (by simp)]
    simp [PyData.eqv, PyData.eqvAll]
theorem iteJ {c : Bool} {p : Prop} {R : Hp → Prop} {H : Hp} (Pv : Hp → Prop) (h : ∀ H3, Pv H3 → R H3) (h1 : c = true → (∀ H3, Pv H3 → R H3) → p) (h2 : ¬ c = true → Pv H) : if c = true then p else R H := by
  by_cases q : c = true
  · rw [if_pos q]
    exact h1 q h
  · rw [if_neg q]
    exact h H (h2 q)
/-- two ways on, both to a test that fails -/
theorem capF {a b : TT} {σ : L2.St} {H : Hp} {Q : Bool → Hp → Prop} (Pv : Hp → Prop) (h : ∀ H3, Pv H3 → Q false H3) (k : (∀ H3, Pv H3 → Q false H3) → tAnd a b σ H Q) : tAnd a b σ H Q := k h
/-- a statement whose ways meet again: what is asked of all of them -/
theorem capI {c : TT} {A B X : TS} {D : Ends} {σ : L2.St} {H : Hp} (Pv : L2.St → Hp → Prop) (h : ∀ σ' H', Pv σ' H' → X D σ' H') (k : (∀ σ' H', Pv σ' H' → X D σ' H') → tSeq (tIfS c A B) X D σ H) : tSeq (tIfS c A B) X D σ H := k h
theorem capA {e : TE} {g : TG} {X : TS} {D : Ends} {σ : L2.St} {H : Hp} (Pv : L2.St → Hp → Prop) (h : ∀ σ' H', Pv σ' H' → X D σ' H') (k : (∀ σ' H', Pv σ' H' → X D σ' H') → tSeq (tAsg e g) X D σ H) : tSeq (tAsg e g) X D σ H := k h
theorem hid2_mono {H H' : Hp} {h l : Addr} (s : Same H H') : Same (hid2 H h l) (hid2 H' h l) := fun b o e => by
  by_cases q : b = h ∨ b = l
  · unfold hid2 at e
    rw [if_pos q] at e
    cases e
  · have n1 : b ≠ h := fun z => q (.inl z)
    have n2 : b ≠ l := fun z => q (.inr z)
    rw [hid2_ne n1 n2] at e ⊢
    exact s b o e
theorem HS.trs {K : PySem.W.Frag} {H0 H H' : Hp} {h l a : Addr} {ts : List Tr} (x : HS H0 H h l) (t : TrAt K H a ts) (y : HS (hid2 H h l) H' h l) : TrAt K H' a ts := (x.tr t).mono y.same
theorem tr_snoc {K : PySem.W.Frag} {H : Hp} {a : Addr} {ts : List Tr} {ps : List Addr} {q : Addr} {t : Tr} (h1 : SqT K H a ((ps ++ [q]).map V.ref)) (h2 : ps.length = ts.length) (h3 : ∀ (i : Nat) (p : Addr) (t : Tr), ps[i]? = some p → ts[i]? = some t → SqT K H p t.vs) (hq : SqT K H q t.vs) : TrAt K H a (ts ++ [t]) := by
  refine ⟨ps ++ [q], h1, by rw [List.length_append, List.length_append, h2]; rfl, fun i p u e1 e2 => ?_⟩
  rcases Nat.lt_or_ge i ps.length with z | z
  · rw [List.getElem?_append_left z] at e1
    rw [List.getElem?_append_left (by omega)] at e2
    exact h3 i p u e1 e2
  · rw [List.getElem?_append_right z] at e1
    rw [List.getElem?_append_right (by omega)] at e2
    have hi : i - ps.length = 0 := by
      have := lt_of_at e1
      simp only [List.length_singleton] at this
      omega
    rw [hi] at e1
    rw [← h2, hi] at e2
    cases e1
    cases e2
    exact hq
theorem concat_of {α : Type} {l : List α} (h : l ≠ []) : ∃ i x, l = i ++ [x] := ⟨l.dropLast, l.getLast h, (List.dropLast_concat_getLast h).symm⟩
theorem last_at {xs : List V} {v : V} : atI (xs ++ [v]) (-1) = some v := atI_last xs v
theorem cut_last {xs : List V} {v : V} : cutV (xs ++ [v]) none (some (-1)) = xs ∧ ¬ (HT.sIx (xs ++ [v]).length 0 none = 0 ∧ HT.sIx (xs ++ [v]).length (xs ++ [v]).length (some (-1)) = (xs ++ [v]).length) := by
  have e : HT.sIx (xs ++ [v]).length (xs ++ [v]).length (some (-1)) = xs.length := by
    show (-1 + ((xs ++ [v]).length : Int)).toNat = _
    rw [List.length_append]
    simp only [List.length_singleton]
    omega
  constructor
  · unfold cutV
    rw [e, HT.sIx_none, Nat.sub_zero, List.drop_zero, List.take_left]
  · rw [e]
    intro z
    rw [List.length_append] at z
    simp only [List.length_singleton] at z
    omega
theorem tc_intro {ta : TE} {tr : TA} {σ : L2.St} {H : Hp} {Q : List V → Hp → Prop} (h : ta σ H fun x H1 => tr σ H1 fun xs H2 => Q (x :: xs) H2) : tCons ta tr σ H Q := h
theorem hid_sqt {K : PySem.W.Frag} {H : Hp} {O a : Addr} {zs xs : List V} (e : H O = some (.lst zs)) (t : SqT K H a xs) : SqT K (hid H O) a xs := by
  rcases t with (t | ⟨o, t⟩) | t
  · exact .inl (.inl (by rw [hid_ne (ne_of t e (by intro z; cases z))]; exact t))
  · exact .inl (.inr ⟨o, by rw [hid_ne (ne_of t e (by intro z; cases z))]; exact t⟩)
  · exact .inr t
theorem hid_sql {K : PySem.W.Frag} {H : Hp} {O a : Addr} {xs : List V} (n : a ≠ O) (t : SqL K H a xs) : SqL K (hid H O) a xs := by
  rcases t with (t | ⟨o, t⟩) | t
  · exact .inl (.inl (by rw [hid_ne n]; exact t))
  · exact .inl (.inr ⟨o, by rw [hid_ne n]; exact t⟩)
  · exact .inr t
theorem hid_tr {K : PySem.W.Frag} {H : Hp} {O a : Addr} {zs : List V} {ts : List Tr} (e : H O = some (.lst zs)) (t : TrAt K H a ts) : TrAt K (hid H O) a ts := by
  obtain ⟨ps, h1, h2, h3⟩ := t.ex
  exact ⟨ps, hid_sqt e h1, h2, fun i p t a b => hid_sqt e (h3 i p t a b)⟩
/-- a new offer, looked at without the draws and without a list that was there -/
theorem HS.of3 {K : PySem.W.Frag} {H0 H H1 : Hp} {h l a O : Addr} {ts : List Tr} {zs : List V} (x : HS H0 H h l) (s : Same H H1) (t : OfNew K H H1 a ts) (eO : H O = some (.lst zs)) (m1 : O ≠ h) (m2 : O ≠ l) : OfAt K (hid (hid2 H1 h l) O) a ts := by
  obtain ⟨dx, t, p, o, f, g, h1, h2, h3, h4, h5, h6, n1, n2, n3⟩ := t.ex
  have y := x.grow s
  obtain ⟨m, i, ns, e1, e2, _⟩ := x.ex
  have q : ∀ b, H b = none → b ≠ h ∧ b ≠ l := fun b n => ⟨(ne_of_none e1 n).symm, (ne_of_none e2 n).symm⟩
  have r : ∀ b, H b = none → b ≠ O := fun b n => (ne_of_none eO n).symm
  have eO2 : hid2 H1 h l O = some (.lst zs) := HS.keep (H0 := H0) (s _ _ eO) m1 m2
  have e : hid2 H1 h l a = some (.ins (He.ga K "Offer") dx (ofs t p o f g)) := by
    rw [hid2_ne (ne_of h1 (s _ _ e1) (by intro z; cases z)) (ne_of h1 (s _ _ e2) (by intro z; cases z))]
    exact h1
  refine ⟨dx, t, p, o, f, g, ?_, hid_tr eO2 (y.tr h2), hid_sqt eO2 (y.tup h3), hid_sql (r o n1) (y.lst h4 (q o n1).1 (q o n1).2), hid_sql (r f n2) (y.lst h5 (q f n2).1 (q f n2).2), hid_sql (r g n3) (y.lst h6 (q g n3).1 (q g n3).2)⟩
  rw [hid_ne (ne_of e eO2 (by intro z; cases z))]
  exact e
theorem hid3_upd {H : Hp} {h l O : Addr} {v : HO} (n1 : O ≠ h) (n2 : O ≠ l) : hid (hid2 (upd H O v) h l) O = hid (hid2 H h l) O := funext fun b => by
  by_cases q : b = O
  · rw [q, hid_x, hid_x]
  · rw [hid_ne q, hid_ne q]
    unfold hid2
    rw [upd_ne q]
theorem tr_rev {K : PySem.W.Frag} {H : Hp} {a : Addr} {ts : List Tr} (t : TrAt K H a ts) : ∃ xs, SqT K H a xs ∧ ∀ H' q, Same H H' → SqT K H' q xs.reverse → TrAt K H' q ts.reverse := by
  obtain ⟨ps, h1, h2, h3⟩ := t.ex
  refine ⟨_, h1, fun H' q s e => ⟨ps.reverse, by rw [List.map_reverse]; exact e, by rw [List.length_reverse, List.length_reverse, h2], fun i p2 t2 e1 e2 => ?_⟩⟩
  have hi := lt_of_at e1
  rw [List.length_reverse] at hi
  rw [List.getElem?_reverse hi] at e1
  rw [List.getElem?_reverse (by omega), ← h2] at e2
  exact Same.tup s (h3 _ p2 t2 e1 e2)
theorem catA_any {K : PySem.W.Frag} {H : Hp} {a b : Addr} {xs ys : List V} {Q : VK} (h1 : SqT K H a xs) (h2 : SqT K H b ys) (hl : xs.length + ys.length ≤ 1000) (k : ∀ q H', Same H H' → SqT K H' q (xs ++ ys) → Q (.ref q) H') : rCatA K (.ref a) (.ref b) H Q := by
  have h1000 : 1000 ≤ sizeLine := by decide
  refine ⟨a, b, xs, ys, rfl, rfl, h1, h2, by omega, fun z => k b H (Same.refl _) ?_, fun _ z => k a H (Same.refl _) ?_, fun _ _ p hp => k p _ (same_new hp) (SqT.of upd_same)⟩
  · rw [z, List.nil_append]
    exact h2
  · rw [z, List.append_nil]
    exact h1
theorem slA_any {K : PySem.W.Frag} {H : Hp} {a : Addr} {xs : List V} {lo hi : Option Int} {Q : VK} (h1 : SqT K H a xs) (k : ∀ q H', Same H H' → SqT K H' q (cutV xs lo hi) → Q (.ref q) H') : rSlA K (.ref a) lo hi H Q := by
  refine ⟨a, xs, rfl, h1, fun z => k a H (Same.refl _) ?_, fun _ p hp => k p _ (same_new hp) (SqT.of upd_same)⟩
  unfold cutV
  rw [z.1, z.2, Nat.sub_zero, List.drop_zero, List.take_length]
  exact h1
theorem cut_to {xs : List V} {k : Nat} (h : k ≤ xs.length) : cutV xs none (some (k : Int)) = xs.take k := by
  unfold cutV
  rw [HT.sIx_none, HT.sIx_nat, Nat.min_eq_left h, Nat.sub_zero, List.drop_zero]
theorem cut_from {xs : List V} {k : Nat} (h : k ≤ xs.length) : cutV xs (some (k : Int)) none = xs.drop k := by
  unfold cutV
  rw [HT.sIx_none, HT.sIx_nat, Nat.min_eq_left h, List.take_of_length_le]
  rw [List.length_drop]
  omega
theorem tr_mid {K : PySem.W.Frag} {H : Hp} {b q : Addr} {ps1 ps2 : List Addr} {ts1 ts2 : List Tr} {t : Tr} (h : SqT K H b ((ps1 ++ q :: ps2).map V.ref)) (l1 : ps1.length = ts1.length) (l2 : ps2.length = ts2.length)
    (h1 : ∀ (i : Nat) (p : Addr) (t : Tr), ps1[i]? = some p → ts1[i]? = some t → SqT K H p t.vs) (h2 : ∀ (i : Nat) (p : Addr) (t : Tr), ps2[i]? = some p → ts2[i]? = some t → SqT K H p t.vs) (hq : SqT K H q t.vs) : TrAt K H b (ts1 ++ t :: ts2) := by
  refine ⟨_, h, by rw [List.length_append, List.length_append, List.length_cons, List.length_cons, l1, l2], fun i p u e1 e2 => ?_⟩
  rcases Nat.lt_or_ge i ps1.length with z | z
  · rw [List.getElem?_append_left z] at e1
    rw [List.getElem?_append_left (by omega)] at e2
    exact h1 i p u e1 e2
  · rw [List.getElem?_append_right z] at e1
    rw [List.getElem?_append_right (by omega), ← l1] at e2
    generalize i - ps1.length = j at e1 e2
    cases j with
    | zero =>
      cases e1
      cases e2
      exact hq
    | succ j => exact h2 j p u e1 e2
theorem mid_of {α : Type} {l : List α} {r : Nat} (h : r < l.length) : ∃ a x b, l = a ++ x :: b ∧ a.length = r :=
  ⟨l.take r, l[r], l.drop (r + 1), by rw [← List.drop_eq_getElem_cons h, List.take_append_drop], by rw [List.length_take]; omega⟩
theorem get_of {α β : Type} {xs : List α} {ys : List β} (h : xs.length = ys.length) {i : Nat} {x : α} (e : xs[i]? = some x) : ∃ y, ys[i]? = some y := by
  have hi : i < ys.length := by
    rw [← h]
    exact lt_of_at e
  exact ⟨_, List.getElem?_eq_getElem hi⟩
end EB

namespace EB
open PySem PySem.Spec PyProof.Rows L2
theorem tr_app {K : PySem.W.Frag} {H : Hp} {a b q : Addr} {ts us : List Tr} {xs ys : List V} {ps qs : List Addr} (h1 : ps.length = ts.length) (h2 : qs.length = us.length) (k1 : ∀ (i : Nat) (p : Addr) (t : Tr), ps[i]? = some p → ts[i]? = some t → SqT K H p t.vs) (k2 : ∀ (i : Nat) (p : Addr) (t : Tr), qs[i]? = some p → us[i]? = some t → SqT K H p t.vs) :
    ∀ (i : Nat) (p : Addr) (t : Tr), (ps ++ qs)[i]? = some p → (ts ++ us)[i]? = some t → SqT K H p t.vs := fun i p t e1 e2 => by
  rcases Nat.lt_or_ge i ps.length with z | z
  · rw [List.getElem?_append_left z] at e1
    rw [List.getElem?_append_left (by omega)] at e2
    exact k1 i p t e1 e2
  · rw [List.getElem?_append_right z] at e1
    rw [List.getElem?_append_right (by omega), ← h1] at e2
    exact k2 _ p t e1 e2
theorem make_okP {K : PySem.W.Frag} {H : Hp} {ts : List Tr} {ps : List Addr} {Q : VK} {E : XK} {x dx : Addr} (h2 : ps.length = ts.length) (h3 : ∀ (i : Nat) (p : Addr) (t : Tr), ps[i]? = some p → ts[i]? = some t → SqT K H p t.vs)
    (hf : Fair ts) (hne : ts ≠ []) (hnm : nmOk ts) (nx : H x = none) (nd : H dx = none) (ned : dx ≠ x) (k : ∀ H', Same H H' → OfNew K H H' x ts → Q .non H') :
    ∃ ws rest, (V.ref x :: ps.map V.ref) = ws ++ rest ∧ ws.length = 1 ∧ rest.length ≤ sizeLine ∧ ∀ p, (upd (upd H dx (.own x)) x (.ins (He.ga K "Offer") dx [])) p = none →
      spInit K (ws ++ [V.ref p]) (upd (upd (upd H dx (.own x)) x (.ins (He.ga K "Offer") dx [])) p (.tup rest)) Q E := by
  refine ⟨[.ref x], ps.map V.ref, rfl, rfl, ?_, fun p hp => ?_⟩
  · rw [List.length_map, h2]
    exact Nat.le_trans hf.g.1 (by decide)
  obtain ⟨npx, hp1⟩ := upd_none hp
  obtain ⟨npd, hp2⟩ := upd_none hp1
  have sH : Same H (upd H p (.tup (ps.map V.ref))) := same_new hp2
  refine ⟨x, p, upd H p (.tup (ps.map V.ref)), dx, ts, rfl, fun b o e => ?_, by rw [upd_ne npx.symm]; exact nx, by rw [upd_ne npx.symm]; exact upd_same, ⟨ps, SqT.of upd_same, h2, fun i q t a b => Same.tup sH (h3 i q t a b)⟩, hf, hne, hnm, fun H' s' o' => ?_⟩
  · by_cases z : b = p
    · rw [z, upd_same] at e
      rw [z, upd_same]
      exact e
    · rw [upd_ne z] at e
      rw [upd_ne z, upd_ne (ne_of_none e nx), upd_ne (ne_of_none e nd)]
      exact e
  · obtain ⟨d, t, q, o, f, g, e1, e2, e3, e4, e5, e6, n1, n2, n3⟩ := o'.ex
    exact k _ (sH.trans s') ⟨d, t, q, o, f, g, e1, e2, e3, e4, e5, e6, (upd_none n1).2, (upd_none n2).2, (upd_none n3).2⟩
theorem worth_take {ts : List Tr} (g : ∀ t ∈ ts, t.ok) (i : Nat) : worth (ts.take i) ≤ worth ts := by
  have h : worth ts = worth (ts.take i) + worth (ts.drop i) := by
    unfold worth
    rw [← List.sum_append, ← List.map_append, List.take_append_drop]
  have h2 : 0 ≤ worth (ts.drop i) := by
    unfold worth
    have hz : ∀ l : List Tr, (∀ t ∈ l, t.ok) → 0 ≤ (l.map fun t => 27720 / t.n * t.l).sum := fun l => by
      induction l with
      | nil => exact fun _ => Int.le_refl _
      | cons t r ih =>
        intro h
        rw [List.map_cons, List.sum_cons]
        have h1 := ih fun u hu => h u (List.mem_cons_of_mem _ hu)
        have h2 := h t (List.mem_cons_self ..)
        have h3 : 0 ≤ 27720 / t.n * t.l := Int.mul_nonneg (Int.ediv_nonneg (by decide) (by have := h2.2.2.1; omega)) h2.1
        omega
    exact hz _ fun t ht => g t (List.mem_of_mem_drop ht)
  omega
theorem TrD.take {ts : List Tr} (h : TrD ts) (i : Nat) : Fair (ts.take i) ∧ nmOk (ts.take i) := by
  have h1 := h.fair
  refine ⟨⟨⟨?_, fun t ht => h1.g.2 t (List.mem_of_mem_take ht)⟩, ?_⟩, ⟨h.nm.1.sublist ((List.take_sublist _ _).map _), fun t ht => h.nm.2 t (List.mem_of_mem_take ht)⟩⟩
  · rw [List.length_take]
    have := h1.g.1
    omega
  · have := worth_take h1.g.2 i
    have := h1.w
    omega
theorem ofnew_low {K : PySem.W.Frag} {H0 H1 H : Hp} {a : Addr} {ts : List Tr} (s : Same H0 H1) (o' : OfNew K H1 H a ts) : OfNew K H0 H a ts := by
  obtain ⟨d, t, q, o, f, g, e1, e2, e3, e4, e5, e6, n1, n2, n3⟩ := o'.ex
  exact ⟨d, t, q, o, f, g, e1, e2, e3, e4, e5, e6, s.free n1, s.free n2, s.free n3⟩
theorem ofnew_at {K : PySem.W.Frag} {H0 H : Hp} {a : Addr} {ts : List Tr} (o' : OfNew K H0 H a ts) : OfAt K H a ts := by
  obtain ⟨d, t, q, o, f, g, e1, e2, e3, e4, e5, e6, n1, n2, n3⟩ := o'.ex
  exact ⟨d, t, q, o, f, g, e1, e2, e3, e4, e5, e6⟩
theorem ofnew_up {K : PySem.W.Frag} {H0 H H' : Hp} {a : Addr} {ts : List Tr} (s : Same H H') (o' : OfNew K H0 H a ts) : OfNew K H0 H' a ts := by
  obtain ⟨d, t, q, o, f, g, e1, e2, e3, e4, e5, e6, n1, n2, n3⟩ := o'.ex
  exact ⟨d, t, q, o, f, g, s _ _ e1, e2.mono s, Same.tup s e3, s.seq e4, s.seq e5, s.seq e6, n1, n2, n3⟩
section
variable {P : Program} {w : World} {K : PySem.W.Frag} {mg : Str → Option Value} {base : Heap} (T : Tx K mg)
include T
/-- one + other -/
def spAdd (K : PySem.W.Frag) : Sp := fun vs H Q _ => ∃ (a b : Addr) (ts us : List Tr), vs = [.ref a, .ref b] ∧ OfAt K H a ts ∧ OfAt K H b us ∧ Fair (ts ++ us) ∧ ts ++ us ≠ [] ∧ nmOk (ts ++ us) ∧ ∀ H' x, Same H H' → OfNew K H H' x (ts ++ us) → Q (.ref x) H'
theorem ok_Offer_add : FnR P w K mg base CX0 7 (a_Offer_add K) (spAdd K) := by
  refine fnR0 (d := d_Offer_add) T.F_Offer_add sc_Offer_add rfl (fun _ _ _ _ _ _ us hl => match us, hl with | [_, _], _ => rfl) (fun vs H Q E h => ?_) (fun cdv A outer s H vs Q E hr h => ?_)
  · obtain ⟨a, b, ts, us, rfl, _⟩ := h
    rfl
  obtain ⟨a, b, ts, us, rfl, ho, hq, hf, hne, hnm, k⟩ := h
  obtain ⟨dx, t, p, o, f, g, e1, e2, e3, e4, e5, e6⟩ := ho.ex
  obtain ⟨dy, fy, oi, _⟩ := hq.ins
  obtain ⟨ps, h1, h2, h3⟩ := e2.ex
  have hlen := hf.g.1
  rw [List.length_append] at hlen
  refine ⟨_, (pss_cons (ps_set (i := 2) sc_Offer_add.nd rfl (Or.inl rfl) (pe_op op_catA (pe_fld (pv 0) rfl) (pe_prop (pv 1) T.k_Offer T.p_Offer_trades (ok_Offer_trades T) (hr.mono (by decide)) (b_Offer_trades T) .nil pass0 rfl))) (pss_one (ps_ret (pe_makeS1 T.mk_Offer (ok_Offer_init T) (hr.mono (by decide)) (by rfl) T.g_Offer pass0 (pv 2))))), ?_⟩
  refine ⟨_, rfl, a, _, dx, _, _, rfl, e1, T.k_Offer, T.na_trades, lk_trades, _, rfl, b, dy, fy, rfl, oi, b, us, rfl, hq, fun p2 hp2 => ?_⟩
  obtain ⟨qs, g1, g2, g3⟩ := hp2.ex
  refine catA_any h1 g1 (by rw [List.length_map, List.length_map]; omega) fun q H1 s1 hcat => ?_
  rw [← List.map_append] at hcat
  refine ⟨_, rfl, q, _, rfl, .inl hcat, ?_⟩
  intro x dx2 nx nd ned
  exact make_ok (ps := ps ++ qs) (ts := ts ++ us) (by rw [List.length_append, List.length_append, h2, g2]) (tr_app (a := a) (b := b) (q := q) (xs := []) (ys := []) h2 g2 (fun i p t a b => Same.tup s1 (h3 i p t a b)) (fun i p t a b => Same.tup s1 (g3 i p t a b))) hf hne hnm nx nd ned fun H' s' o' => k H' x (s1.trans s') (by
    obtain ⟨dx, t, p, q, f, g, e1, e2, e3, e4, e5, e6, n1, n2, n3⟩ := o'.ex
    exact ⟨dx, t, p, q, f, g, e1, e2, e3, e4, e5, e6, s1.free n1, s1.free n2, s1.free n3⟩)
def spOfD (K : PySem.W.Frag) : Sp := fun vs H Q _ => ∃ (p : Addr) (ts : List Tr) (ps : List Addr), vs = [.ref p] ∧ SqL K H p (ps.map V.ref) ∧ ps.length = ts.length ∧ (∀ (i : Nat) (p : Addr) (t : Tr), ps[i]? = some p → ts[i]? = some t → SqT K H p t.vs) ∧ TrD ts ∧ ∀ H' x, Same H H' → OfNew K H H' x ts → Q (.ref x) H'
theorem ok_law_offer : FnR P w K mg base CX0 9 (a_law_offer K) (spOfD K) := by
  refine fnR0 (d := d_law_offer) T.F_law_offer sc_law_offer rfl (fun _ _ _ _ _ _ us hl => match us, hl with | [_], _ => rfl) (fun vs H Q E h => ?_) (fun cdv A outer s H vs Q E hr h => ?_)
  · obtain ⟨p, ts, ps, rfl, _⟩ := h
    rfl
  obtain ⟨p, ts, ps, rfl, hp, h2, h3, hD, k⟩ := h
  obtain ⟨t0, tr, rfl⟩ : ∃ t r, ts = t :: r := by
    cases ts with
    | nil => exact absurd rfl hD.ne
    | cons t r => exact ⟨t, r, rfl⟩
  obtain ⟨p0, pr, rfl⟩ : ∃ a r, ps = a :: r := by
    cases ps with
    | nil => cases h2
    | cons a r => exact ⟨a, r, rfl⟩
  have h20 : pr.length = tr.length := Nat.succ.inj h2
  refine ⟨_, (pss_cons (ps_set (i := 1) sc_law_offer.nd rfl (Or.inl rfl) (StX.pe_makeR T.mk_Offer (ok_Offer_init T) (hr.mono (by decide)) (by rfl) T.g_Offer pass0 (pa_cons (pe_ix ix_list (pv 0) pe_int (fun _ _ => rfl)) pa_nil))) (pss_cons (ps_for PassesOwn.never rfl (pi_list (pe_slice sl_list (pv 0) (po_some pe_int) po_none)) (pg_name (i := 2) sc_law_offer.nd rfl (Or.inl rfl)) (pss_one (ps_set (i := 1) sc_law_offer.nd rfl (Or.inl rfl) (pe_op (op_binI T.sf_Offer T.m_Offer_add.at_ T.m_Offer_add.fn (ok_Offer_add T) (hr.mono (by decide)) pass0) (pv 1) (StX.pe_makeR T.mk_Offer (ok_Offer_init T) (hr.mono (by decide)) (by rfl) T.g_Offer pass0 (pa_cons (pv 2) pa_nil)))))) (pss_one (ps_ret (pv 1))))), ?_⟩
  refine ⟨_, rfl, p, _, 0, .ref p0, rfl, rfl, hp, at_of (j := 0) rfl rfl, fun x dx nx nd ned => ?_⟩
  refine make_okP (K := K) (ps := [p0]) (ts := [t0]) rfl (fun i q t a b => ?_) (hD.take 1).1 (by simp) (hD.take 1).2 nx nd ned fun H1 s1 o1 => ⟨rfl, ?_⟩
  · cases i with
    | zero =>
      cases Option.some.inj a
      cases Option.some.inj b
      exact h3 0 _ _ rfl rfl
    | succ i => cases a
  refine ⟨_, rfl, _, rfl, p, _, rfl, s1.seq hp, fun l nl => ?_⟩
  have ecut : cutV ((p0 :: pr).map V.ref) (some 1) none = pr.map V.ref := by
    unfold cutV
    rw [show (some (1 : Int)) = some (((1 : Nat) : Int)) from rfl, HT.sIx_nat, HT.sIx_none]
    have hl : ((p0 :: pr).map V.ref).length = pr.length + 1 := by rw [List.length_map, List.length_cons]
    rw [hl, Nat.min_eq_left (by omega), List.map_cons, List.drop_succ_cons, List.drop_zero, Nat.add_sub_cancel, List.take_of_length_le (by rw [List.length_map]; exact Nat.le_refl _)]
  rw [ecut]
  have s2 : Same H (upd H1 l (.lst (pr.map V.ref))) := s1.trans (same_new nl)
  have e2 : upd H1 l (.lst (pr.map V.ref)) l = some (.lst (pr.map V.ref)) := upd_same
  have o2 := ofnew_up (same_new (u := .lst (pr.map V.ref)) nl) o1
  generalize upd H1 l (.lst (pr.map V.ref)) = H2 at s2 e2 o2
  have o2' : OfNew K H H2 x ((t0 :: tr).take 1) := o2
  refine ⟨l, rfl, ⟨_, SqL.of e2⟩, for_list (K := K) (a := l) (xs := pr.map V.ref) (fun i σ H3 => Same H2 H3 ∧ ∃ (y : Addr) (x2 : Option V), OfNew K H H3 y ((t0 :: tr).take (1 + i)) ∧ σ = [some (.ref p), some (.ref y), x2])
    ⟨Same.refl _, x, none, o2', rfl⟩ (fun i σ H3 _ q => SqL.of (q.1 _ _ e2)) ?_ ?_⟩
  · rintro i u σ H3 hu ⟨s3, y, x2, oy, rfl⟩
    rw [List.getElem?_map] at hu
    obtain ⟨a, ea, rfl⟩ := Option.map_eq_some_iff.mp hu
    have hlt := lt_of_at ea
    obtain ⟨t, et⟩ : ∃ t, tr[i]? = some t := ⟨_, List.getElem?_eq_getElem (by omega)⟩
    have et1 : (t0 :: tr)[1 + i]? = some t := by rw [Nat.add_comm]; exact et
    have ht := List.mem_of_getElem? et1
    have hat := h3 (1 + i) a t (by rw [Nat.add_comm]; exact ea) et1
    have sH := s2.trans s3
    have etk : (t0 :: tr).take (1 + (i + 1)) = (t0 :: tr).take (1 + i) ++ [t] := by
      rw [show 1 + (i + 1) = (1 + i) + 1 by omega]
      exact take_at et1
    have hD2 := hD.take (1 + (i + 1))
    rw [etk] at hD2
    have h1t : worth [t] ≤ 24948 := by
      have e : worth ((t0 :: tr).take (1 + i) ++ [t]) = worth ((t0 :: tr).take (1 + i)) + worth [t] := by
        unfold worth
        rw [List.map_append, List.sum_append]
      have h4 := hD2.1.w
      have h5 : 0 ≤ worth ((t0 :: tr).take (1 + i)) := by
        have := worth_take (ts := (t0 :: tr).take (1 + i)) (fun u hu => hD.fair.g.2 u (List.mem_of_mem_take hu)) 0
        rw [List.take_zero] at this
        exact this
      omega
    refine ⟨_, rfl, _, rfl, fun z dz nz ndz nez => ?_⟩
    refine make_okP (K := K) (ps := [a]) (ts := [t]) rfl (fun j q u' ja jb => ?_) ⟨⟨by show 1 ≤ 3; decide, fun u' hu' => ?_⟩, by omega⟩ (by simp) ⟨by simp, fun u' hu' => ?_⟩ nz ndz nez fun H4 s4 o4 => ⟨rfl, ?_⟩
    · cases j with
      | zero =>
        cases Option.some.inj ja
        cases Option.some.inj jb
        exact Same.tup sH hat
      | succ j => cases ja
    · rw [List.mem_singleton.mp hu']
      exact hD.fair.g.2 t ht
    · rw [List.mem_singleton.mp hu']
      exact hD.nm.2 t ht
    have oyA := (ofnew_at oy).mono s4
    obtain ⟨dy, fy, iy, _⟩ := oyA.ins
    obtain ⟨dw, fw, iw, _⟩ := (ofnew_at o4).ins
    refine ⟨y, dy, fy, z, dw, fw, rfl, rfl, iy, iw, y, z, (t0 :: tr).take (1 + i), [t], rfl, oyA, ofnew_at o4, hD2.1, by simp, hD2.2, fun H5 v s5 o5 => ?_⟩
    exact ⟨(s3.trans s4).trans s5, v, some (.ref a), by rw [etk]; exact ofnew_low (sH.trans s4) o5, rfl⟩
  · rintro σ H3 ⟨s3, y, x2, oy, rfl⟩
    rw [List.length_map, h20, List.take_of_length_le (by rw [List.length_cons]; omega)] at oy
    exact ⟨_, rfl, k H3 y (s2.trans s3) oy⟩
end
end EB

namespace EB
open PySem PySem.Spec PyProof.Rows L2
section
variable {P : Program} {w : World} {K : PySem.W.Frag} {mg : Str → Option Value} {base : Heap} (T : Tx K mg)
include T
def spSameI : Sp := fun vs H Q _ => ∃ i : Int, vs = [.int i, .int i] ∧ ∀ H', Same H H' → Q (.bl true) H'
theorem ok_law_same : FnR P w K mg base CX0 1 (a_law_same K) spSameI := by
  refine fnR0 (d := d_law_same) T.F_law_same sc_law_same rfl (fun _ _ _ _ _ _ us hl => match us, hl with | [_, _], _ => rfl) (fun vs H Q E h => ?_) (fun cdv A outer s H vs Q E hr h => ?_)
  · obtain ⟨i, rfl, _⟩ := h
    rfl
  obtain ⟨i, rfl, k⟩ := h
  refine ⟨_, pss_cons (ps_if (pt_val (pe_callB call_isiT (by rfl) T.n_isinstance (by decide +kernel) (pa_cons (pv 1) (pa_cons (pe_tup (pa_cons (pe_bltn (v := .ty "tuple") (u := .type "tuple") rfl T.n_tuple (by decide +kernel) rfl) (pa_cons (pe_bltn (v := .ty "list") (u := .type "list") rfl T.n_list (by decide +kernel) rfl) pa_nil))) pa_nil)))) pss_never pss_nil) (pss_cons (ps_if (pt_cmpR op_ne (pe_callB call_isi (by rfl) T.n_isinstance (by decide +kernel) (pa_cons (pv 0) (pa_cons (pe_bltn (v := .ty "bool") (u := .type "bool") rfl T.n_bool (by decide +kernel) rfl) pa_nil))) (pe_callB call_isi (by rfl) T.n_isinstance (by decide +kernel) (pa_cons (pv 1) (pa_cons (pe_bltn (v := .ty "bool") (u := .type "bool") rfl T.n_bool (by decide +kernel) rfl) pa_nil))) (nomark _)) (pss_one (ps_ret pe_bl)) pss_nil) (pss_one (ps_ret (pe_and (pe_cmpR op_eq (pe_callB call_isi (by rfl) T.n_isinstance (by decide +kernel) (pa_cons (pv 0) (pa_cons (pe_bltn (v := .ty "int") (u := .type "int") rfl T.n_int (by decide +kernel) rfl) pa_nil))) (pe_callB call_isi (by rfl) T.n_isinstance (by decide +kernel) (pa_cons (pv 1) (pa_cons (pe_bltn (v := .ty "int") (u := .type "int") rfl T.n_int (by decide +kernel) rfl) pa_nil))) (nomark _)) (pe_one (pe_cmpR op_eq (pv 0) (pv 1) (nomark _))))))), ?_⟩
  refine ⟨_, rfl, by show 2 ≤ sizeLine; decide, fun tp htp => ⟨.int i, tp, _, _, _, false, rfl, upd_same, .cons (ClsV.ty "tuple") (.cons (ClsV.ty "list") .nil), .base (.int i), kitAny_cons (b := false) (kit_ty (by decide +kernel)) (fun _ => kitAny_cons (b := false) (kit_ty (by decide +kernel)) (fun _ => kitAny_nil) (fun z => nomatch z)) (fun z => nomatch z), false, rfl, iteF ?_⟩⟩
  refine ⟨_, rfl, .int i, .ty "bool", _, _, false, rfl, ClsV.ty "bool", .base (.int i), kit_ty (by decide +kernel), _, rfl, .int i, .ty "bool", _, _, false, rfl, ClsV.ty "bool", .base (.int i), kit_ty (by decide +kernel), rfl, _, rfl, ?_⟩
  rw [decide_eq_true rfl]
  refine iteF ?_
  refine ⟨_, rfl, .int i, .ty "int", _, _, true, rfl, ClsV.ty "int", .base (.int i), kit_ty (by decide +kernel), _, rfl, .int i, .ty "int", _, _, true, rfl, ClsV.ty "int", .base (.int i), kit_ty (by decide +kernel), rfl, true, ?_⟩
  refine ⟨congrArg V.bl (decide_eq_true rfl), iteT ⟨_, rfl, _, rfl, rfl, ?_⟩⟩
  rw [decide_eq_true rfl]
  exact k _ (same_new htp)
end
end EB

namespace EB
open PySem PySem.Spec PyProof.Rows L2
/-- there is always an end -/
theorem IsDr.ex {ts : List Tr} (f : Fair ts) {F : Int} {p : Str → Int} (hF : 0 ≤ F) (hp : ∀ k, 0 ≤ p k) : ∃ d, IsDr ts F p d := by
  have key : ∀ n : Nat, (∃ m : Nat, m ≤ n ∧ F + byF ts p m ≤ m) → ∃ d, IsDr ts F p d := fun n => by
    induction n with
    | zero =>
      rintro ⟨m, hm, h⟩
      have e : m = 0 := by omega
      rw [e] at h
      have h0 := byF_nonneg (p := p) f.g hp (Int.le_refl 0)
      exact ⟨0, Int.le_refl _, by have : F + byF ts p 0 ≤ 0 := h; omega, fun U h _ => h⟩
    | succ n ih =>
      rintro ⟨m, hm, h⟩
      by_cases hx : ∃ m : Nat, m ≤ n ∧ F + byF ts p m ≤ m
      · exact ih hx
      · have e : m = n + 1 := by
          rcases Nat.lt_or_ge n m with h1 | h1
          · omega
          · exact absurd ⟨m, h1, h⟩ hx
        rw [e] at h
        refine ⟨((n + 1 : Nat) : Int), by omega, ?_, fun U h0 hU => ?_⟩
        · have h1 : ¬ (F + byF ts p (n : Nat) ≤ (n : Nat)) := fun z => hx ⟨n, Nat.le_refl _, z⟩
          have h2 := byF_mono (p := p) f.g (show ((n : Nat) : Int) ≤ ((n + 1 : Nat) : Int) by omega)
          omega
        · rcases (show U < ((n + 1 : Nat) : Int) ∨ ((n + 1 : Nat) : Int) ≤ U by omega) with h1 | h1
          · refine absurd ⟨U.toNat, by omega, ?_⟩ hx
            rw [Int.toNat_of_nonneg h0]
            exact hU
          · exact h1
  have h0 := most_nn (ts := ts) hF hp
  refine key (most ts F p).toNat ⟨(most ts F p).toNat, Nat.le_refl _, ?_⟩
  rw [Int.toNat_of_nonneg h0]
  exact most_ok f hF hp
theorem IsDr.zero {ts : List Tr} {d : Int} {p : Str → Int} (hp : ∀ k, p k = 0) (h : IsDr ts 0 p d) : d = 0 := by
  have h1 : byF ts p 0 = 0 := by
    have : ((ts.map fun _ => (0 : Int)).sum) = 0 := by
      clear h
      induction ts with
      | nil => rfl
      | cons t r ih => rw [List.map_cons, List.sum_cons, ih]; rfl
    refine Eq.trans ?_ this
    unfold byF
    refine sum_map_eq fun t _ => ?_
    rw [hp, Int.mul_zero]
    exact Int.zero_ediv _
  have := h.2.2 0 (Int.le_refl _) (by omega)
  have := h.1
  omega
theorem nS_cons (m : Int × List (Str × Int)) (S : List (Int × List (Str × Int))) : nS (m :: S) = m.1 + nS S := by
  unfold nS
  rw [List.map_cons, List.sum_cons]
theorem vS_cons (m : Int × List (Str × Int)) (S : List (Int × List (Str × Int))) (k : Str) : vS (m :: S) k = vL m.2 k + vS S k := by
  unfold vS
  rw [List.map_cons, List.sum_cons]
theorem apart_le {ts : List Tr} (f : Fair ts) : ∀ {S : List (Int × List (Str × Int))} {ds : List Int} {D : Int}, (∀ m ∈ S, 0 ≤ m.1 ∧ ∀ k, 0 ≤ vL m.2 k) → ds.length = S.length → (∀ (i : Nat) (d : Int) (m : Int × List (Str × Int)), ds[i]? = some d → S[i]? = some m → IsDr ts m.1 (vL m.2) d) → IsDr ts (nS S) (vS S) D → ds.sum ≤ D
  | [], [], D, _, _, _, h => h.1
  | [], _ :: _, _, _, h, _, _ => nomatch h
  | _ :: _, [], _, _, h, _, _ => nomatch h
  | m :: S, d :: ds, D, hm, hl, hd, h => by
    have h0 : ∀ x ∈ S, 0 ≤ x.1 ∧ ∀ k, 0 ≤ vL x.2 k := fun x hx => hm x (List.mem_cons_of_mem _ hx)
    have n0 : 0 ≤ nS S := by
      clear h hd hl hm
      induction S with
      | nil => exact Int.le_refl _
      | cons x S ih =>
        rw [nS_cons]
        have := h0 x (List.mem_cons_self ..)
        have := ih fun y hy => h0 y (List.mem_cons_of_mem _ hy)
        omega
    have v0 : ∀ k, 0 ≤ vS S k := fun k => by
      clear h hd hl hm n0
      induction S with
      | nil => exact Int.le_refl _
      | cons x S ih =>
        rw [vS_cons]
        have := (h0 x (List.mem_cons_self ..)).2 k
        have := ih fun y hy => h0 y (List.mem_cons_of_mem _ hy)
        omega
    obtain ⟨e, he⟩ := IsDr.ex f n0 v0
    have h1 := apart_le f h0 (Nat.succ.inj hl) (fun i d' m' a b => hd (i + 1) d' m' a b) he
    have h2 := hd 0 d m rfl rfl
    rw [nS_cons, show vS (m :: S) = fun j => vL m.2 j + vS S j from funext fun j => vS_cons m S j] at h
    have h3 := IsDr.super f.g h2 he h (hm m (List.mem_cons_self ..)).1 (hm m (List.mem_cons_self ..)).2
    rw [List.sum_cons]
    omega
/-- one stock of the law, and what is known of it -/
structure RowD where
  c : Addr
  s : Addr
  C : List (Str × Int)
  M : List (Str × Int)
  d : Int
structure CntOk (C : List (Str × Int)) : Prop where
  nd : (C.map (·.1)).Nodup
  ks : ∀ k ∈ C.map (·.1), k = ("full" : Str) ∨ k ∈ kinds5
  full : ("full" : Str) ∈ C.map (·.1)
  val : ∀ k, 0 ≤ vL C k ∧ vL C k ≤ 100
structure RowOk (K : PySem.W.Frag) (B : Hp) (ts : List Tr) (r : Addr) (z : RowD) : Prop where
  tup : B r = some (.tup [.ref z.c, .ref z.s])
  dict : B z.c = some (.dK (mK z.C))
  stk : StkE K B z.s (vL z.C "full") z.M
  cnt : CntOk z.C
  ok : okM z.M
  val : ∀ k, vL z.M k = if k ∈ kinds5 then vL z.C k else 0
  dr : IsDr ts (vL z.C "full") (vL z.M) z.d
theorem RowOk.mono {K : PySem.W.Frag} {B B' : Hp} {ts : List Tr} {r : Addr} {z : RowD} (s : Same B B') (h : RowOk K B ts r z) : RowOk K B' ts r z := ⟨s _ _ h.tup, s _ _ h.dict, h.stk.mono s, h.cnt, h.ok, h.val, h.dr⟩
theorem cnt_ok {high f : Int} {M : List (Str × Int)} (h : Cnt high f M) (hh : high ≤ 100) : CntOk ((("full" : Str), f) :: M) := by
  have hk5 : ∀ k ∈ M.map (·.1), k ∈ kinds5 := fun k hk => h.ks.subset hk
  have hnf : ("full" : Str) ∉ M.map (·.1) := fun z => absurd (hk5 _ z) (by decide +kernel)
  have hnd : (((("full" : Str), f) :: M).map (·.1)).Nodup := by
    rw [List.map_cons, List.nodup_cons]
    exact ⟨hnf, h.ks.nodup (by decide +kernel)⟩
  refine ⟨hnd, fun k hk => ?_, ?_, fun k => ?_⟩
  · rw [List.map_cons] at hk
    rcases List.mem_cons.mp hk with z | z
    · exact .inl z
    · exact .inr (hk5 k z)
  · rw [List.map_cons]
    exact List.mem_cons_self ..
  · rcases vL_val ((("full" : Str), f) :: M) k with e | e
    · rw [e]
      exact ⟨Int.le_refl _, by decide⟩
    · rcases List.mem_cons.mp e with z | z
      · have e2 : vL ((("full" : Str), f) :: M) k = f := congrArg Prod.snd z
        have := h.f0
        have := h.f1
        omega
      · have e2 := h.each _ z
        have : 0 ≤ vL ((("full" : Str), f) :: M) k ∧ (vL ((("full" : Str), f) :: M) k ≤ 5 ∨ vL ((("full" : Str), f) :: M) k ≤ high) := e2
        omega
/-- the pieces of counts, as the stock has them and as the law trades them -/
theorem cnt_fun {C M : List (Str × Int)} (h : CntOk C) (hv : ∀ k, vL M k = if k ∈ kinds5 then vL C k else 0) : (fun k : Str => if k = "full" then 0 else vL C k) = vL M := funext fun k => by
  rw [hv]
  by_cases e : k = "full"
  · rw [if_pos e, if_neg]
    rw [e]
    decide +kernel
  · rw [if_neg e]
    by_cases e2 : k ∈ kinds5
    · rw [if_pos e2]
    · rw [if_neg e2, vL_none]
      exact fun z => (h.ks k z).elim e e2
/-- two dicts of positive numbers that are equal as functions -/
theorem pos_len {L R : List (Str × Int)} (hL : (L.map (·.1)).Nodup) (pL : ∀ p ∈ L, 0 < p.2) (hR : (R.map (·.1)).Nodup) (pR : ∀ p ∈ R, 0 < p.2) (h : ∀ k, vL L k = vL R k) : (mK R).length = (mK L).length ∧ ∀ p ∈ mK R, valV (mK L) p.1 = some p.2 ∧ flatB p.2 = true := by
  have sub : ∀ {A B : List (Str × Int)}, (A.map (·.1)).Nodup → (∀ p ∈ A, 0 < p.2) → (∀ k, vL A k = vL B k) → ∀ k ∈ A.map (·.1), k ∈ B.map (·.1) := fun {A B} hA pA h k hk => by
    obtain ⟨p, hp, rfl⟩ := List.mem_map.mp hk
    by_cases e : p.1 ∈ B.map (·.1)
    · exact e
    · have h1 := h p.1
      rw [vL_of hA hp, vL_none e] at h1
      have := pA p hp
      omega
  refine ⟨?_, fun p hp => ?_⟩
  · have h1 := nodup_len hL (sub hL pL h)
    have h2 := nodup_len hR (sub hR pR fun k => (h k).symm)
    rw [List.length_map, List.length_map] at h1 h2
    unfold mK
    rw [List.length_map, List.length_map]
    omega
  · obtain ⟨r, hr, rfl⟩ := List.mem_map.mp hp
    refine ⟨?_, rfl⟩
    show valV (mK L) (.inr r.1) = some (.int r.2)
    rw [mK_val (sub hR pR (fun k => (h k).symm) r.1 (List.mem_map.mpr ⟨r, hr, rfl⟩)), h, vL_of hR hr]
end EB

namespace EB
open PySem PySem.Spec PyProof.Rows L2
theorem len1 {α : Type} {l : List α} (h : l.length = 1) : ∃ a, l = [a] := match l, h with | [a], _ => ⟨a, rfl⟩
theorem len2 {α : Type} {l : List α} (h : l.length = 2) : ∃ a b, l = [a, b] := match l, h with | [a, b], _ => ⟨a, b, rfl⟩
theorem len3 {α : Type} {l : List α} (h : l.length = 3) : ∃ a b c, l = [a, b, c] := match l, h with | [a, b, c], _ => ⟨a, b, c, rfl⟩
theorem same_hq {B H : Hp} {q : Addr} (s : Same B H) (n : B q = none) : Same B (hq H q) := fun b o e => by
  rw [hq_ne (ne_of_none e n)]
  exact s b o e
theorem DS.tup {K : PySem.W.Frag} {H0 H : Hp} {q a p : Addr} {ns : List Int} {xs : List V} (x : DS K H0 H q a ns) (h : SqT K H p xs) : SqT K (hq H q) p xs := by
  rcases h with (h | ⟨o, h⟩) | h
  · exact .inl (.inl (x.keepO h fun xs z => by cases z))
  · exact .inl (.inr ⟨o, x.keepO h fun xs z => by cases z⟩)
  · exact .inr h
theorem ofnew_hq {K : PySem.W.Frag} {H0 H1 H : Hp} {q a o : Addr} {ns : List Int} {ts : List Tr} (x : DS K H0 H q a ns) (h : OfNew K H1 H o ts) (e : ∃ u, H1 q = some u) : OfAt K (hq H q) o ts := by
  obtain ⟨u, e⟩ := e
  obtain ⟨d, t, p, c, f, g, e1, e2, e3, e4, e5, e6, n1, n2, n3⟩ := h.ex
  obtain ⟨ps, k1, k2, k3⟩ := e2.ex
  have lst : ∀ {b : Addr} {ys : List V}, H1 b = none → SqL K H b ys → SqL K (hq H q) b ys := fun {b ys} n h => by
    have ne : b ≠ q := (ne_of_none e n).symm
    rcases h with (h | ⟨o, h⟩) | h
    · exact .inl (.inl (by rw [hq_ne ne]; exact h))
    · exact .inl (.inr ⟨o, by rw [hq_ne ne]; exact h⟩)
    · exact .inr h
  exact ⟨d, t, p, c, f, g, x.keepO e1 (fun xs z => by cases z), ⟨ps, x.tup k1, k2, fun i b u' h1 h2 => x.tup (k3 i b u' h1 h2)⟩, x.tup e3, lst n1 e4, lst n2 e5, lst n3 e6⟩
theorem NewTr.hq {K : PySem.W.Frag} {H0 H : Hp} {q a : Addr} {ns : List Int} {ps : List Addr} {ts : List Tr} (x : DS K H0 H q a ns) (h : NewTr H ps ts) : NewTr (EB.hq H q) ps ts := ⟨h.1, fun j p t a b => x.keepO (h.2 j p t a b) fun xs z => by cases z⟩
theorem sum_snoc (l : List Int) (d : Int) : (l ++ [d]).sum = l.sum + d := by
  rw [List.sum_append]
  simp
section
variable {P : Program} {w : World} {K : PySem.W.Frag} {mg : Str → Option Value} {base : Heap} (T : Tx K mg)
include T
def spLaw (K : PySem.W.Frag) : Sp := fun vs H Q _ => ∃ (a : Addr) (ns : List Int), vs = [.ref a] ∧ SqL K H a (ns.map V.int) ∧ ns.length ≤ 63 ∧ ∀ H', Q (.bl true) H'
theorem ok_law : FnOk P w K mg base CX0 11 (a_law K) T.fd_law ["_law_script"] (spLaw K) := by
  refine fnK0 (d := d_law) T.F_law sc_law (fun vs H Q E h => ?_) (fun cdv A outer s H vs Q E hr h => ?_)
  · obtain ⟨a, ns, rfl, _⟩ := h
    rfl
  obtain ⟨a, ns, rfl, hS, hl, k⟩ := h
  refine ⟨_, (pss_cons (ps_set (i := 1) sc_law.nd rfl (Or.inl rfl) (pe_cR (ok_law_start T) (hr.mono (by decide)) T.F_law_start.kp T.g_law_start pass0 (pa_cons (pv 0) pa_nil))) (pss_cons (ps_for PassesOwn.never rfl (pi_range1 rfl T.n_range (pa_cons pe_int pa_nil)) (pg_name (i := 2) sc_law.nd rfl (Or.inl rfl)) (pss_cons (ps_set (i := 3) sc_law.nd rfl (Or.inl rfl) (pe_cR (ok_law_trades T) (hr.mono (by decide)) T.F_law_trades.kp T.g_law_trades pass0 (pa_cons (pv 1) pa_nil))) (pss_cons (ps_par (i := 4) (j := 5) (by rfl) sc_law.nd rfl rfl (by decide) rfl rfl (pa_cons (pe_cR (ok_law_offer T) (hr.mono (by decide)) T.F_law_offer.kp T.g_law_offer pass0 (pa_cons (pv 3) pa_nil)) (pa_cons (pe_ix ix_list (pe_lst (pa_cons pe_int (pa_cons pe_int pa_nil))) (pe_cR (ok_law_drawn T) (hr.mono (by decide)) T.F_law_drawn.kp T.g_law_drawn pass0 (pa_cons (pv 1) (pa_cons pe_int pa_nil))) (fun _ _ => rfl)) pa_nil)) (by rfl)) (pss_cons (ps_par (i := 6) (j := 7) (by rfl) sc_law.nd rfl rfl (by decide) rfl rfl (pa_cons (pe_lst pa_nil) (pa_cons pe_int pa_nil)) (by rfl)) (pss_cons (ps_for PassesOwn.never rfl (pi_range1 rfl T.n_range (pa_cons (pe_op op_add pe_int (pe_cR (ok_law_drawn T) (hr.mono (by decide)) T.F_law_drawn.kp T.g_law_drawn pass0 (pa_cons (pv 1) (pa_cons pe_int pa_nil)))) pa_nil)) (pg_name (i := 8) sc_law.nd rfl (Or.inl rfl)) (pss_cons (ps_set (i := 9) sc_law.nd rfl (Or.inl rfl) (pe_cR (ok_law_counts T) (hr.mono (by decide)) T.F_law_counts.kp T.g_law_counts pass0 (pa_cons (pv 1) (pa_cons (pv 5) pa_nil)))) (pss_cons (ps_set (i := 10) sc_law.nd rfl (Or.inl rfl) (pe_cR (ok_law_stock T) (hr.mono (by decide)) T.F_law_stock.kp T.g_law_stock pass0 (pa_cons (pv 9) pa_nil))) (pss_cons (ps_asg (pe_cR (ok_law_traded T) (hr.mono (by decide)) T.F_law_traded.kp T.g_law_traded pass0 (pa_cons (pv 1) (pa_cons (pv 3) (pa_cons (pv 9) pa_nil)))) (pg_tup rfl (pgs_cons (pg_name (i := 11) sc_law.nd rfl (Or.inl rfl)) (pgs_cons (pg_name (i := 12) sc_law.nd rfl (Or.inl rfl)) pgs_nil)))) (pss_cons (ps_set (i := 13) sc_law.nd rfl (Or.inl rfl) (pe_cR (ok_rest_of T) (hr.mono (by decide)) T.F_rest_of.kp T.g_rest_of pass0 (pa_cons (pv 4) (pa_cons (pv 10) pa_nil)))) (pss_cons (ps_if (PW.pt (pw_or (pt_not (pt_val (pe_cR (ok_law_same T) (hr.mono (by decide)) T.F_law_same.kp T.g_law_same pass0 (pa_cons (StX.pe_callO (pv 10) T.co_Stock (ok_Stock_call T) (hr.mono (by decide)) pass0 (pa_cons (pv 4) pa_nil)) (pa_cons (pv 11) pa_nil))))) (pw_or (pt_cmpR op_ne (pe_prop (pv 13) T.k_Stock T.p_Stock_filled (ok_Stock_filled T) (hr.mono (by decide)) (b_Stock_filled T) .nil pass0 rfl) pe_int (nomark _)) (pw_or1 (pt_cmpR (op_ne_dictA (Nat.lt_of_le_of_lt (Nat.le_add_right _ _) hr.units)) (pe_prop (pv 13) T.k_Stock T.p_Stock_loose (ok_Stock_loose T) (hr.mono (by decide)) (b_Stock_loose T) .nil pass0 rfl) (pv 12) (nomark _)))))) (pss_one (ps_ret pe_bl)) pss_nil) (pss_cons (ps_expr (pe_bm PySem.F.plainAttrs_list PySem.F.slot_list_append PySem.F.type_list_append mt_append (pv 6) (pa_cons (pe_tup (pa_cons (pv 9) (pa_cons (pv 10) pa_nil))) pa_nil))) (pss_one (ps_set (i := 7) sc_law.nd rfl (Or.inl rfl) (pe_op op_add (pv 7) (pv 11))))))))))) (pss_cons (ps_set (i := 14) sc_law.nd rfl (Or.inl rfl) (pe_disp (pps_cons pe_str pe_int pps_nil) rfl rfl (by decide) (by decide))) (pss_cons (ps_for PassesOwn.never rfl (pi_list (pv 6)) (pg_tup rfl (pgs_cons (pg_name (i := 9) sc_law.nd rfl (Or.inl rfl)) (pgs_cons (pg_name (i := 10) sc_law.nd rfl (Or.inl rfl)) pgs_nil))) (pss_one (ps_for PassesOwn.never rfl (pi_list (pe_callB cr_sortedS (by rfl) T.n_sorted (by decide +kernel) (pa_cons (pe_lock (pe_lc (own := [("_law_one", 15)]) rfl sc_law.nd (pi_keys (pv 9)) (blkOk_by (own := [("_law_one", 15)]) (N := N_law) (sc := defScope s_law) (by decide +kernel)) (fun _ _ _ _ _ => (pg_name (i := 15) sc_law.nd rfl (Or.inl rfl) (.inr rfl))) (fun _ _ _ _ _ => pts_nil) (fun _ _ _ _ _ => (pe_callTy SkE.call_str_str (by rfl) T.n_str (by decide +kernel) (pa_cons (pv 15) pa_nil))))) pa_nil))) (pg_name (i := 16) sc_law.nd rfl (Or.inl rfl)) (pss_one (ps_asg (pe_op op_add (pe_dget2 (hu_of hr) (pv 14) (pv 16) pe_int ⟨rfl, rfl, rfl, rfl⟩) (pe_dget (hu_of hr) (pv 9) (pv 16) (fun _ _ => rfl))) (pg_sub (pv 14) (pv 16) (set_dict (hu_of hr)))))))) (pss_cons (ps_set (i := 17) sc_law.nd rfl (Or.inl rfl) (pe_op op_sub (pe_ix ix_tup (pe_cR (ok_law_traded T) (hr.mono (by decide)) T.F_law_traded.kp T.g_law_traded pass0 (pa_cons (pv 1) (pa_cons (pv 3) (pa_cons (pv 14) pa_nil)))) pe_int (fun _ _ => rfl)) (pv 7))) (pss_cons (ps_par (i := 15) (j := 18) (by rfl) sc_law.nd rfl rfl (by decide) rfl rfl (pa_cons (pe_ix ix_tup (pe_ix ix_list (pv 6) pe_int (fun _ _ => rfl)) pe_int (fun _ _ => rfl)) (pa_cons (pe_ix ix_tup (pe_ix ix_list (pv 6) (pe_op op_sub (pe_callB call_len_seq (by rfl) T.n_len PySem.boot_len (pa_cons (pv 6) pa_nil)) pe_int) (fun _ _ => rfl)) pe_int (fun _ _ => rfl)) pa_nil)) (by rfl)) (pss_cons (ps_if (PW.pt (pw_or (PW.pt (pw_and (pt_cmpR op_eq (pe_callB call_len_seq (by rfl) T.n_len PySem.boot_len (pa_cons (pv 6) pa_nil)) pe_int (nomark _)) (pw_and1 (pt_cmpR op_ne (pe_cR (ok_gain_of T) (hr.mono (by decide)) T.F_gain_of.kp T.g_gain_of pass0 (pa_cons (pv 4) (pa_cons (pv 15) pa_nil))) pe_int (nomark _))))) (pw_or1 (PW.pt (pw_and (pt_cmpR op_eq (pe_callB call_len_seq (by rfl) T.n_len PySem.boot_len (pa_cons (pv 6) pa_nil)) pe_int (nomark _)) (pw_and1 (pt_cmpR op_ne (pe_cR (ok_gain_of T) (hr.mono (by decide)) T.F_gain_of.kp T.g_gain_of pass0 (pa_cons (pv 4) (pa_cons (pv 15) (pa_cons (pv 18) pa_nil)))) (pv 17) (nomark _)))))))) (pss_one (ps_ret pe_bl)) pss_nil) (pss_one (ps_if (PW.pt (pw_or (PW.pt (pw_and (pt_cmpR op_eq (pe_callB call_len_seq (by rfl) T.n_len PySem.boot_len (pa_cons (pv 6) pa_nil)) pe_int (nomark _)) (pw_and1 (pt_cmpR op_ne (pe_cR (ok_gain_of T) (hr.mono (by decide)) T.F_gain_of.kp T.g_gain_of pass0 (pa_cons (pv 4) (pa_cons (pv 15) (pa_cons (pe_ix ix_tup (pe_ix ix_list (pv 6) pe_int (fun _ _ => rfl)) pe_int (fun _ _ => rfl)) (pa_cons (pv 18) pa_nil))))) (pv 17) (nomark _))))) (pw_or (pt_cmpR op_lt (pv 17) pe_int (nomark _)) (pw_or1 (pt_cmpR op_ne (pe_cR (ok_gain_of T) (hr.mono (by decide)) T.F_gain_of.kp T.g_gain_of pass0 (pa_cons (pv 4) pa_nil)) pe_int (nomark _)))))) (pss_one (ps_ret pe_bl)) pss_nil)))))))))))) (pss_one (ps_ret pe_bl)))), ?_⟩
  refine ⟨_, rfl, a, ns, rfl, hS, fun H1 q x1 => ?_⟩
  refine ⟨3, rfl, by decide, by decide, for_range (n := 3) (fun i σ H2 => DS K H H2 q a ns ∧ ∃ x2 x3 x4 x5 x6 x7 x8 x9 x10 x11 x12 x13 x14 x15 x16 x17 x18, σ = [some (.ref a), some (.ref q), x2, x3, x4, x5, x6, x7, x8, x9, x10, x11, x12, x13, x14, x15, x16, x17, x18]) ⟨x1, _, _, _, _, _, _, _, _, _, _, _, _, _, _, _, _, _, rfl⟩ ?_ ?_⟩
  · rintro i0 σ H2 hi ⟨x2, v2, v3, v4, v5, v6, v7, v8, v9, v10, v11, v12, v13, v14, v15, v16, v17, v18, rfl⟩
    refine ⟨_, rfl, q, a, ns, hq H2 q, rfl, x2.re, fun H3 p ts ps x3 p3 qp np hN hD => ?_⟩
    have x3' := x2.down x3
    have hf := hD.fair
    have hg := hf.g
    have hnd := hD.nm.1
    have hfull : ("full" : Str) ∉ ts.map Tr.k := fun z => by
      obtain ⟨t, ht, e⟩ := List.mem_map.mp z
      exact (kindsA_ok _ (hD.ks t ht)).2.2 e
    -- the offer
    refine ⟨_, rfl, p, ts, ps, rfl, SqL.of p3, hN.1, fun j pp t h1 h2 => SqT.of (hN.2 j pp t h1 h2), hD, fun H4 o s4 hO => ?_⟩
    have x4 := x3'.grow s4
    refine ⟨by show 2 ≤ sizeLine; decide, fun l nl => ?_⟩
    have ql := x4.new nl
    have x5 := x4.grow (same_new (u := .lst [.int 9, .int 60]) nl)
    have s5 : Same H3 (upd H4 l (.lst [.int 9, .int 60])) := s4.trans (same_new nl)
    have hO5 := ofnew_up (same_new (u := .lst [.int 9, .int 60]) nl) hO
    have l5 : upd H4 l (.lst [.int 9, .int 60]) l = some (.lst [.int 9, .int 60]) := upd_same
    generalize upd H4 l (.lst [.int 9, .int 60]) = H5 at x5 s5 hO5 l5
    refine ⟨_, rfl, q, a, ns, 2, hq H5 q, rfl, by decide, by decide, x5.re, fun H6 r x6 r0 r1 => ?_⟩
    have x6' := x5.down x6
    have l6 := x6.same _ _ (DS.keep l5 ql)
    obtain ⟨high, ehigh, hhigh⟩ : ∃ high : Int, [V.int 9, V.int 60][r.toNat]? = some (.int high) ∧ (high = 9 ∨ high = 60) := by
      rcases (show r = 0 ∨ r = 1 by omega) with rfl | rfl
      · exact ⟨9, rfl, .inl rfl⟩
      · exact ⟨60, rfl, .inr rfl⟩
    refine ⟨l, _, r, .int high, rfl, rfl, SqL.of l6, at_of (j := r.toNat) (by omega) ehigh, _, _, rfl, ?_⟩
    have of5 := ofnew_hq x5 hO5 (let ⟨_, _, _, e, _⟩ := x3'.ex; ⟨_, e⟩)
    have p5 : hq H5 q p = some (.lst (ps.map V.ref)) := DS.keep (s5 _ _ p3) qp
    have n5 : NewTr (hq H5 q) ps ts := NewTr.hq x5 (hN.mono fun b xs e => s5 _ _ e)
    have s56 : Same (hq H5 q) (hq H6 q) := same_hq x6.same x6.nq
    have of6 := of5.mono s56
    have p6 := s56 _ _ p5
    have n6 : NewTr (hq H6 q) ps ts := n5.mono fun b xs e => s56 _ _ e
    have x7 := x6'.re
    have x6k := x6'
    obtain ⟨B6, eB6⟩ : ∃ B, B = hq H6 q := ⟨_, rfl⟩
    rw [← eB6] at of6 p6 n6 x7
    refine ⟨Nat.zero_le _, fun R nR => ⟨_, _, rfl, ?_⟩⟩
    have qR := x6k.new nR
    have nR6 : B6 R = none := by
      rw [eB6, hq_ne qR]
      exact nR
    have x8 := x7.grow (same_new (u := .lst []) nR)
    have eR : upd H6 R (.lst []) R = some (.lst []) := upd_same
    have s68 : Same H6 (upd H6 R (.lst [])) := same_new nR
    generalize upd H6 R (.lst []) = H7 at x8 eR s68
    refine ⟨_, rfl, q, a, ns, 3, hq H7 q, rfl, by decide, by decide, x8.re, fun H8 r8 x9 r80 r81 => ⟨_, _, rfl, rfl, _, rfl, by omega, by omega, ?_⟩⟩
    have x9' := x8.down x9
    have eR9 := x9.same _ _ (DS.keep eR qR)
    have oMain : Same H B6 ∧ True := ⟨by rw [eB6]; exact x6k.sub, trivial⟩
    obtain ⟨cnt3, ecnt3⟩ : ∃ n : Nat, n = (1 + r8).toNat := ⟨_, rfl⟩
    have hc3 : 1 ≤ cnt3 ∧ cnt3 ≤ 3 := ⟨by omega, by omega⟩
    rw [← ecnt3]
    refine for_range (n := cnt3) (fun i σ H1 => ∃ (B : Hp) (zs : List RowD) (rs : List Addr) (y8 y9 y10 y11 y12 y13 : Option V), Same B6 B ∧ DS K B H1 q a ns ∧ B R = none ∧ H1 R = some (.lst (rs.map V.ref)) ∧ rs.length = i ∧ zs.length = i ∧ (∀ (j : Nat) (r : Addr) (z : RowD), rs[j]? = some r → zs[j]? = some z → RowOk K B ts r z) ∧
        σ = [some (.ref a), some (.ref q), some (.int (0 + (i0 : Int))), some (.ref p), some (.ref o), some (.int high), some (.ref R), some (.int (zs.map RowD.d).sum), y8, y9, y10, y11, y12, y13, v14, v15, v16, v17, v18])
      ⟨B6, [], [], _, _, _, _, _, _, Same.refl _, x9', nR6, eR9, rfl, rfl, fun j r z h => (by cases h), rfl⟩ ?_ ?_
    · rintro j σ H1 hj ⟨B, zs, rs, y8, y9, y10, y11, y12, y13, sB, x1, nRB, eR1, lrs, lzs, hrow, rfl⟩
      obtain ⟨dxo, fxo, hoi, _⟩ := (of6.mono sB).ins
      refine ⟨_, rfl, _, rfl, q, a, ns, high, hq H1 q, rfl, by omega, by omega, x1.re, fun H2 c f M x2 c2 n0c qc hC => ?_⟩
      have x2' := x1.down x2
      have eR2 := x2.same _ _ (DS.keep eR1 qR)
      have ncR : c ≠ R := fun z => by
        rw [z, hq_ne qR, eR1] at n0c
        cases n0c
      have hCo := cnt_ok hC (by omega)
      obtain ⟨C, eC⟩ : ∃ C, C = ((("full" : Str), f) :: M) := ⟨_, rfl⟩
      rw [← eC] at hCo
      have c2 : H2 c = some (.dK (mK C)) := by
        rw [eC]
        exact c2
      refine ⟨_, rfl, c, C, rfl, c2, hCo.full, fun k => ⟨(hCo.val k).1, by have := (hCo.val k).2; omega⟩, fun H3 s St s3 hSt nSt oSt vSt => ?_⟩
      have x3 := x2'.grow s3
      have c3 := s3 _ _ c2
      have eR3 := s3 _ _ eR2
      have sB3 : Same B (hq H3 q) := same_hq x3.same x3.nq
      have lC : C.length ≤ 20 := by
        have := nodup_len (ys := ("full" : Str) :: kinds5) hCo.nd fun j hj => (hCo.ks j hj).elim (fun z => by rw [z]; exact List.mem_cons_self ..) (fun z => List.mem_cons_of_mem _ z)
        rw [List.length_map] at this
        exact Nat.le_trans this (by decide)
      have hq2 : ∃ u, H2 q = some u := let ⟨_, _, _, e, _⟩ := x2'.ex; ⟨_, e⟩
      obtain ⟨uq, euq⟩ := hq2
      have st3 := hSt.hid nSt euq
      refine ⟨_, rfl, _, rfl, _, rfl, q, a, c, p, ns, hq H3 q, ts, ps, C, rfl, x3.re, sB3 _ _ (sB _ _ p6), n6.mono fun b xs e => sB3 _ _ (sB _ _ e), hD, DS.keep c3 qc, hCo.nd, lC, hCo.full, fun k => ⟨(hCo.val k).1, by have := (hCo.val k).2; omega⟩, fun H4 b l L dr x4 hb hl n0l ql hIs hnL hpL hE => ?_⟩
      rw [cnt_fun hCo vSt] at hIs hE
      have x4' := x3.down x4
      have c4 := x4.same _ _ (DS.keep c3 qc)
      have eR4 := x4.same _ _ (DS.keep eR3 qR)
      have st4 := st3.mono x4.same
      have lSt : St.length ≤ 5 := oSt.len (ks := kinds5) fun j hj => by
        rw [vSt] at hj
        by_cases e : j ∈ kinds5
        · exact e
        · rw [if_neg e] at hj; exact absurd hj (Int.lt_irrefl _)
      have hF0 := (hCo.val ("full" : Str)).1
      refine ⟨b, _, rfl, SqT.of hb, rfl, _, _, rfl, _, _, rfl, rfl, ?_⟩
      have ofB : ∀ {HH : Hp}, Same B HH → OfAt K HH o ts := fun s => of6.mono (sB.trans s)
      refine ⟨_, rfl, _, rfl, o, s, vL C "full", ts, St, rfl, ofB x4'.same, hf, hD.nm, hfull, st4.at_, oSt, by omega, hF0, fun H5 z Rr d2 s5 hz nz oR dI eE => ?_⟩
      have x5 := x4'.grow s5
      obtain ⟨dxs, fxs, iss⟩ := (st4.mono s5).ins
      obtain ⟨dxz, fxz, izz⟩ := hz.e.ins
      refine ⟨_, rfl, s, rfl, _, rfl, .inr ⟨dxs, fxs, iss⟩, s, o, vL C "full", ts, St, rfl, ofB x5.same, hf, hnd, (st4.mono s5).at_, oSt, by omega, hF0, fun H6 d1 s6 dI1 => ?_⟩
      have e1 := dI1.uniq hIs
      have e2 := dI.uniq hIs
      rw [e2] at eE
      refine ⟨_, rfl, dr, by rw [e1], fun H7 s7 => ⟨true, rfl, iteF ?_⟩⟩
      have s67 := s6.trans s7
      have hz7 := hz.mono s67
      refine ⟨_, rfl, z, dxz, fxz, rfl, s67 _ _ izz, z, 0, Rr, rfl, hz7.e.at_, rfl, _, rfl, ?_⟩
      rw [decide_eq_true rfl]
      refine iteF ?_
      refine ⟨_, rfl, z, dxz, fxz, rfl, s67 _ _ izz, z, 0, Rr, rfl, hz7.e.at_, fun lo nlo => ⟨_, rfl, ?_⟩⟩
      have hl7 := (s5.trans s67) _ _ hl
      have hfun : ∀ k, vL L k = vL Rr k := fun k => by
        by_cases e : k ∈ ts.map Tr.k
        · obtain ⟨t, ht, rfl⟩ := List.mem_map.mp e
          rw [hE.at_ t ht, eE.at_ t ht]
        · rw [hE.oth k e, eE.oth k e]
      obtain ⟨len1, vals⟩ := pos_len hnL hpL oR.1 (fun p hp => (oR.2 p hp).2.2.2.1) hfun
      refine ⟨lo, l, mK Rr, mK L, rfl, rfl, upd_same, upd_old hl7 nlo, len1, vals, _, rfl, iteF ?_⟩
      have s8 : Same H4 (upd H7 lo (.dK (mK Rr))) := (s5.trans s67).trans (same_new nlo)
      have x8 := x4'.grow s8
      have c8 := s8 _ _ c4
      have eR8 := s8 _ _ eR4
      have st8 := st4.mono s8
      generalize upd H7 lo (.dK (mK Rr)) = H8 at s8 x8 c8 eR8 st8
      refine ⟨_, rfl, .inl ⟨rfl, _, SqL.of eR8⟩, _, rfl, _, rfl, by show 2 ≤ sizeLine; decide, fun t nt => ?_⟩
      have x9 := x8.grow (same_new (u := .tup [.ref c, .ref s]) nt)
      have eR9 := upd_old (u := .tup [.ref c, .ref s]) eR8 nt
      have nRt : R ≠ t := ne_of_none eR8 nt
      have qt := x8.new nt
      refine ⟨R, _, _, rfl, rfl, eR9, small3 (by rw [List.length_map]; omega), ?_⟩
      refine ⟨_, rfl, _, rfl, _, _, rfl, rfl, ?_⟩
      have x10 := x9.mut (o := .lst (rs.map V.ref ++ [V.ref t])) nRB qR
      have tA : upd (upd H8 t (.tup [.ref c, .ref s])) R (.lst (rs.map V.ref ++ [V.ref t])) t = some (.tup [.ref c, .ref s]) := by
        rw [upd_ne nRt.symm]
        exact upd_same
      have cA : upd (upd H8 t (.tup [.ref c, .ref s])) R (.lst (rs.map V.ref ++ [V.ref t])) c = some (.dK (mK C)) := by
        rw [upd_ne ncR]
        exact upd_old c8 nt
      have RA : upd (upd H8 t (.tup [.ref c, .ref s])) R (.lst (rs.map V.ref ++ [V.ref t])) R = some (.lst (rs.map V.ref ++ [V.ref t])) := upd_same
      have sA : StkE K (upd (upd H8 t (.tup [.ref c, .ref s])) R (.lst (rs.map V.ref ++ [V.ref t]))) s (vL C "full") St := by
        obtain ⟨dx, d, k1, k2⟩ := st8.ex
        refine ⟨dx, d, ?_, ?_⟩
        · rw [upd_ne (ne_of k1 eR8 (by intro z; cases z))]
          exact upd_old k1 nt
        · rw [upd_ne (ne_of k2 eR8 (by intro z; cases z))]
          exact upd_old k2 nt
      generalize upd (upd H8 t (.tup [.ref c, .ref s])) R (.lst (rs.map V.ref ++ [V.ref t])) = H9 at x10 tA cA RA sA
      have sBB : Same B (hq (hq H9 q) R) := same_hq (same_hq x10.same x10.nq) nRB
      have kp : ∀ {b : Addr} {o : HO}, H9 b = some o → (∀ xs, o ≠ .lst xs) → hq (hq H9 q) R b = some o := fun {b o} e n => by
        obtain ⟨_, _, _, eq1, _⟩ := x10.ex
        rw [hq_ne (ne_of e RA (n _)), hq_ne (ne_of e eq1 (n _))]
        exact e
      have hrowN : RowOk K (hq (hq H9 q) R) ts t ⟨c, s, C, St, dr⟩ := by
        refine ⟨kp tA fun xs z => (by cases z), kp cA fun xs z => (by cases z), ?_, hCo, oSt, vSt, hIs⟩
        obtain ⟨dx, d, k1, k2⟩ := sA.ex
        exact ⟨dx, d, kp k1 fun xs z => (by cases z), kp k2 fun xs z => (by cases z)⟩
      refine ⟨hq (hq H9 q) R, zs ++ [⟨c, s, C, St, dr⟩], rs ++ [t], some (.int (0 + (j : Int))), some (.ref c), some (.ref s), some (.int dr), some (.ref l), some (.ref z), sB.trans sBB, ⟨hq_same.trans hq_same, by rw [hq_ne qR.symm]; exact hq_q, sBB.seq x10.sc, x10.ex⟩, hq_q, by rw [RA, List.map_append]; rfl, by rw [List.length_append, lrs]; rfl, by rw [List.length_append, lzs]; rfl, fun j' r z h1 h2 => ?_, ?_⟩
      · rcases Nat.lt_or_ge j' j with h | h
        · rw [List.getElem?_append_left (by omega)] at h1 h2
          exact (hrow j' r z h1 h2).mono sBB
        · rw [List.getElem?_append_right (by omega)] at h1 h2
          have e0 : j' - rs.length = 0 := by
            have := lt_of_at h1
            simp only [List.length_singleton] at this
            omega
          rw [e0] at h1
          rw [show j' - zs.length = 0 by omega] at h2
          cases Option.some.inj h1
          cases Option.some.inj h2
          exact hrowN
      · rw [List.map_append, show (zs.map RowD.d ++ [⟨c, s, C, St, dr⟩].map RowD.d) = zs.map RowD.d ++ [dr] from rfl, sum_snoc]
        rfl
    · rintro σ H1 ⟨B, zs, rs, y8, y9, y10, y11, y12, y13, sB, x1, nRB, eR1, lrs, lzs, hrow, rfl⟩
      have sBB := same_hq x1.same x1.nq
      have x2 := x1.re
      have R2 : hq H1 q R = some (.lst (rs.map V.ref)) := DS.keep eR1 qR
      have hrow2 : ∀ (j : Nat) (r : Addr) (z : RowD), rs[j]? = some r → zs[j]? = some z → RowOk K (hq H1 q) ts r z := fun j r z h1 h2 => (hrow j r z h1 h2).mono sBB
      have of2 := of6.mono (sB.trans sBB)
      have p2 := sBB _ _ (sB _ _ p6)
      have n2 : NewTr (hq H1 q) ps ts := n6.mono fun b xs e => sBB _ _ (sB _ _ e)
      have hsub1 : Same H (hq H1 q) ∧ True := ⟨oMain.1.trans (sB.trans sBB), trivial⟩
      obtain ⟨B2, eB2⟩ : ∃ B2, B2 = hq H1 q := ⟨_, rfl⟩
      rw [← eB2] at x2 R2 hrow2 of2 p2 n2 hsub1
      refine fun D nD => ?_
      have qD := x2.new nD
      have nD2 := x2.same.free nD
      refine ⟨upd_same, [(.inr "full", .int 0)], rfl, by show 1 ≤ 15; decide, ?_⟩
      rw [show mergeK [] [((Sum.inr "full" : Key), V.int 0)] = mK [(("full" : Str), 0)] from rfl]
      have x3 := (x2.grow (same_new (u := .dK []) nD)).mut (o := .dK (mK [(("full" : Str), 0)])) nD2 qD
      have eD : upd (upd H1 D (.dK [])) D (.dK (mK [(("full" : Str), 0)])) D = some (.dK (mK [(("full" : Str), 0)])) := upd_same
      generalize upd (upd H1 D (.dK [])) D (.dK (mK [(("full" : Str), 0)])) = H3 at x3 eD
      have nDR : D ≠ R := fun e => by
        rw [e, R2] at nD2
        cases nD2
      refine ⟨_, rfl, R, rfl, ⟨_, SqL.of (x3.same _ _ R2)⟩, for_list (K := K) (a := R) (xs := rs.map V.ref) (fun j σ H4 => DS K B2 H4 q a ns ∧ ∃ (Cb : List (Str × Int)) (y9 y10 y15 y16 : Option V), H4 D = some (.dK (mK Cb)) ∧ (Cb.map (·.1)).Nodup ∧ (∀ k ∈ Cb.map (·.1), k ∈ ("full" : Str) :: kinds5) ∧ ("full" : Str) ∈ Cb.map (·.1) ∧ (∀ k, vL Cb k = ((zs.take j).map fun z => vL z.C k).sum) ∧
          σ = [some (.ref a), some (.ref q), some (.int (0 + (i0 : Int))), some (.ref p), some (.ref o), some (.int high), some (.ref R), some (.int (zs.map RowD.d).sum), y8, y9, y10, y11, y12, y13, some (.ref D), y15, y16, v17, v18])
        ⟨x3, [(("full" : Str), 0)], y9, y10, v15, v16, eD, by simp, fun k hk => by rw [List.mem_singleton.mp hk]; exact List.mem_cons_self .., List.mem_singleton.mpr rfl, fun k => ?_, rfl⟩ (fun j σ H4 _ h => SqL.of (h.1.same _ _ R2)) ?_ ?_⟩
      · show vL [(("full" : Str), 0)] k = 0
        unfold vL
        rw [List.lookup_cons]
        cases (k == ("full" : Str)) <;> rfl
      · rintro j u σ H4 hu ⟨x4, Cb, w9, w10, w15, w16, eD4, nCb, kCb, fCb, vCb, rfl⟩
        rw [List.getElem?_map] at hu
        obtain ⟨rr, er, rfl⟩ := Option.map_eq_some_iff.mp hu
        have hlt := lt_of_at er
        obtain ⟨z, ez⟩ : ∃ z, zs[j]? = some z := ⟨_, List.getElem?_eq_getElem (by omega)⟩
        have hz := hrow2 j rr z er ez
        have c4 := x4.same _ _ hz.dict
        refine ⟨rr, _, rfl, SqT.of (x4.same _ _ hz.tup), rfl, _, _, rfl, _, _, rfl, rfl, ?_⟩
        refine ⟨z.c, .dK (mK z.C), c4, trivial, fun od => ?_⟩
        refine ⟨_, rfl, z.c, od, rfl, .inl ⟨mK z.C, upd_same, fun G nG => ?_⟩⟩
        have nGc : G ≠ z.c := (ne_of_none (upd_same (H := H4) (a := z.c) (o := .frz od (.dK (mK z.C)))) nG).symm
        have lC : z.C.length ≤ 6 := by
          have := nodup_len (ys := ("full" : Str) :: kinds5) hz.cnt.nd fun j hj => (hz.cnt.ks j hj).elim (fun z => by rw [z]; exact List.mem_cons_self ..) (fun z => List.mem_cons_of_mem _ z)
          rw [List.length_map] at this
          exact this
        refine lc_it (walk_keys (d := z.c) (o := od) (kvs := mK z.C)) (fun i H6 => Same (upd H4 z.c (.frz od (.dK (mK z.C)))) H6 ∧ H6 G = some (.lst ((z.C.take i).map fun p => V.str p.1))) ⟨same_new nG, upd_same⟩ (fun i H6 _ h => h.1 _ _ upd_same) ?_ ?_
        · rintro i y H6 H6' hi ⟨s6, e6⟩ ⟨rfl, kk, v, ek, rfl⟩
          unfold mK at ek
          rw [List.getElem?_map] at ek
          obtain ⟨pp, ep, e5⟩ := Option.map_eq_some_iff.mp ek
          cases e5
          refine ⟨rfl, _, rfl, pp.1, rfl, _, e6, small3 ?_, same_mut s6 nG, ?_⟩
          · rw [List.length_map, List.length_take]
            omega
          · rw [upd_same, take_at ep, List.map_append]
            rfl
        rintro H6 ⟨s6, e6⟩
        have elen : (mK z.C).length = z.C.length := by
          unfold mK
          exact List.length_map _
        rw [elen, List.take_length] at e6
        refine ⟨s6 _ _ upd_same, ?_⟩
        have s7 := unlock_same c4 s6
        have e7 : upd H6 z.c (.dK (mK z.C)) G = some (.lst ((z.C.map (·.1)).map V.str)) := by
          rw [upd_ne nGc, e6, List.map_map]
          rfl
        have x7 := x4.grow s7
        have eD7 := s7 _ _ eD4
        generalize upd H6 z.c (.dK (mK z.C)) = H7 at x7 e7 eD7
        refine ⟨G, z.C.map (·.1), rfl, SqL.of e7, by rw [List.length_map]; omega, fun ys kp hp hsrt nk => ?_⟩
        have x8 := x7.grow (same_new (u := .lst (ys.map V.str)) nk)
        have eD8 := upd_old (u := .lst (ys.map V.str)) eD7 nk
        have nDk : D ≠ kp := ne_of_none eD7 nk
        have ek8 : upd H7 kp (.lst (ys.map V.str)) kp = some (.lst (ys.map V.str)) := upd_same
        generalize upd H7 kp (.lst (ys.map V.str)) = H8 at x8 eD8 ek8
        refine ⟨kp, rfl, ⟨_, SqL.of ek8⟩, for_list (K := K) (a := kp) (xs := ys.map V.str) (fun i σ H9 => DS K B2 H9 q a ns ∧ H9 kp = some (.lst (ys.map V.str)) ∧ ∃ (Cc : List (Str × Int)) (y16 : Option V), H9 D = some (.dK (mK Cc)) ∧ (Cc.map (·.1)).Nodup ∧ (∀ k ∈ Cc.map (·.1), k ∈ ("full" : Str) :: kinds5) ∧ ("full" : Str) ∈ Cc.map (·.1) ∧ (∀ k, vL Cc k = vL Cb k + if k ∈ ys.take i then vL z.C k else 0) ∧
            σ = [some (.ref a), some (.ref q), some (.int (0 + (i0 : Int))), some (.ref p), some (.ref o), some (.int high), some (.ref R), some (.int (zs.map RowD.d).sum), y8, some (.ref z.c), some (.ref z.s), y11, y12, y13, some (.ref D), w15, y16, v17, v18])
          ⟨x8, ek8, Cb, w16, eD8, nCb, kCb, fCb, fun k => by rw [List.take_zero, if_neg (by exact fun z => by cases z), Int.add_zero], rfl⟩ (fun i σ H9 _ h => SqL.of h.2.1) ?_ ?_⟩
        · rintro i u σ H9 hu ⟨x9, ek9, Cc, y16, eD9, nCc, kCc, fCc, vCc, rfl⟩
          rw [List.getElem?_map] at hu
          obtain ⟨kd, ekd, rfl⟩ := Option.map_eq_some_iff.mp hu
          have hkC : kd ∈ z.C.map (·.1) := hp.mem_iff.mp (List.mem_of_getElem? ekd)
          have hg9 := DGet.k (k := .inr kd) (x9.same _ _ hz.dict)
          rw [mK_val hkC] at hg9
          have nin : kd ∉ ys.take i := fun h => by
            rw [List.mem_take_iff_getElem] at h
            obtain ⟨j', hj', e⟩ := h
            have : j' = i := nd_ix (hp.nodup_iff.mpr hz.cnt.nd) (i := j') (j := i) (by rw [List.getElem?_eq_getElem (by omega), e]) ekd
            omega
          have lCc : Cc.length ≤ 6 := by
            have := nodup_len nCc kCc
            rw [List.length_map] at this
            exact this
          obtain ⟨M2, eM, nM2, mM, vM⟩ := mK_set nCc kd (vL Cc kd + vL z.C kd)
          refine ⟨_, rfl, D, rfl, .inl ⟨_, .inl eD9⟩, _, rfl, _, .inl ⟨_, .inr kd, .inl eD9, rfl, rfl⟩, ?_⟩
          rw [get0]
          refine ⟨_, rfl, _, rfl, z.c, _, rfl, hg9, _, _, rfl, rfl, _, rfl, _, rfl, D, _, rfl, DPut.k (k := .inr kd) eD9 (small3 (by unfold mK; rw [List.length_map]; omega)), ?_⟩
          rw [eM]
          refine ⟨x9.mut nD2 qD, by rw [upd_ne nDk.symm]; exact ek9, M2, some (.str kd), upd_same, nM2, fun k hk => ?_, (mM _).mpr (.inl fCc), fun k => ?_, rfl⟩
          · rcases (mM k).mp hk with h | h
            · exact kCc k h
            · rw [h]
              exact (hz.cnt.ks kd hkC).elim (fun e => by rw [e]; exact List.mem_cons_self ..) (fun e => List.mem_cons_of_mem _ e)
          · rw [vM, take_at ekd]
            by_cases e : k = kd
            · rw [if_pos e, e, vCc, if_neg nin, if_pos (List.mem_append.mpr (.inr (List.mem_singleton.mpr rfl))), Int.add_zero]
            · rw [if_neg e, vCc]
              by_cases e2 : k ∈ ys.take i
              · rw [if_pos e2, if_pos (List.mem_append.mpr (.inl e2))]
              · rw [if_neg e2, if_neg fun h => (List.mem_append.mp h).elim e2 fun h => e (List.mem_singleton.mp h)]
        · rintro σ H9 ⟨x9, ek9, Cc, y16, eD9, nCc, kCc, fCc, vCc, rfl⟩
          refine ⟨x9, Cc, some (.ref z.c), some (.ref z.s), w15, y16, eD9, nCc, kCc, fCc, fun k => ?_, rfl⟩
          rw [vCc, vCb, List.length_map, List.take_length, take_at ez, List.map_append, List.map_cons, List.map_nil, sum_snoc]
          by_cases e : k ∈ ys
          · rw [if_pos e]
          · rw [if_neg e, vL_none fun h => e (hp.mem_iff.mpr h)]
      · rintro σ H4 ⟨x4, Cb, w9, w10, w15, w16, eD4, nCb, kCb, fCb, vCb, rfl⟩
        have hzz : ∀ z ∈ zs, CntOk z.C ∧ okM z.M ∧ (∀ k, vL z.M k = if k ∈ kinds5 then vL z.C k else 0) ∧ IsDr ts (vL z.C "full") (vL z.M) z.d := fun z hz => by
          obtain ⟨j, hj⟩ := List.getElem?_of_mem hz
          obtain ⟨r, hr⟩ : ∃ r, rs[j]? = some r := ⟨_, List.getElem?_eq_getElem (by have := lt_of_at hj; omega)⟩
          have h := hrow2 j r z hr hj
          exact ⟨h.cnt, h.ok, h.val, h.dr⟩
        have hstk : ∀ (j : Nat) (z : RowD), zs[j]? = some z → StkE K B2 z.s (vL z.C "full") z.M := fun j z hj => by
          obtain ⟨r, hr⟩ : ∃ r, rs[j]? = some r := ⟨_, List.getElem?_eq_getElem (by have := lt_of_at hj; omega)⟩
          exact (hrow2 j r z hr hj).stk
        have vCb' : ∀ k, vL Cb k = (zs.map fun z => vL z.C k).sum := fun k => by
          rw [vCb, List.length_map, lrs, ← lzs, List.take_length]
        have sum_b : ∀ (g : RowD → Int) (l : List RowD), (∀ z ∈ l, 0 ≤ g z ∧ g z ≤ 100) → 0 ≤ (l.map g).sum ∧ (l.map g).sum ≤ 100 * (l.length : Int) := fun g l => by
          induction l with
          | nil => exact fun _ => ⟨Int.le_refl _, Int.le_refl _⟩
          | cons z r ih =>
            intro h
            have h1 := ih fun y hy => h y (List.mem_cons_of_mem _ hy)
            have h2 := h z (List.mem_cons_self ..)
            rw [List.map_cons, List.sum_cons, List.length_cons]
            push_cast
            omega
        have bCb : ∀ k, 0 ≤ vL Cb k ∧ vL Cb k ≤ 1000000 := fun k => by
          rw [vCb']
          have := sum_b (fun z => vL z.C k) zs fun z hz => (hzz z hz).1.val k
          omega
        obtain ⟨S, eS⟩ : ∃ S : List (Int × List (Str × Int)), S = zs.map fun z => (vL z.C "full", z.M) := ⟨_, rfl⟩
        have eN : nS S = vL Cb "full" := by
          rw [eS, vCb']
          unfold nS
          rw [List.map_map]
          rfl
        have eV : vS S = fun k : Str => if k = "full" then 0 else vL Cb k := funext fun k => by
          have h1 : vS S k = (zs.map fun z => vL z.M k).sum := by
            rw [eS]
            unfold vS
            rw [List.map_map]
            rfl
          rw [h1]
          show _ = if k = "full" then 0 else vL Cb k
          have h2 : ∀ l : List RowD, (∀ z ∈ l, CntOk z.C ∧ okM z.M ∧ (∀ k, vL z.M k = if k ∈ kinds5 then vL z.C k else 0) ∧ IsDr ts (vL z.C "full") (vL z.M) z.d) → (l.map fun z => vL z.M k).sum = if k = "full" then 0 else (l.map fun z => vL z.C k).sum := fun l => by
            induction l with
            | nil =>
              intro _
              show (0 : Int) = if k = "full" then 0 else 0
              by_cases e : k = "full"
              · rw [if_pos e]
              · rw [if_neg e]
            | cons z r ih =>
              intro h
              have h3 := ih fun y hy => h y (List.mem_cons_of_mem _ hy)
              have h4 := h z (List.mem_cons_self ..)
              have h5 := congrFun (cnt_fun h4.1 h4.2.2.1) k
              rw [List.map_cons, List.sum_cons, h3, List.map_cons, List.sum_cons, ← h5]
              show (if k = "full" then 0 else vL z.C k) + _ = _
              by_cases e : k = "full"
              · rw [if_pos e, if_pos e, if_pos e]
                rfl
              · rw [if_neg e, if_neg e, if_neg e]
          rw [h2 zs hzz, vCb']
        have hSts : Sts S kinds5 := by
          refine ⟨fun m hm => ?_, by decide, by rw [eN]; have := (bCb ("full" : Str)).2; omega, fun k => ?_⟩
          · rw [eS] at hm
            obtain ⟨z, hz, rfl⟩ := List.mem_map.mp hm
            obtain ⟨h1, h2, h3, _⟩ := hzz z hz
            refine ⟨h2, (h1.val _).1, fun p hp => ?_⟩
            have h4 := (h2.2 p hp).2.2.2.1
            have h5 := vL_of h2.1 hp
            rw [h3] at h5
            by_cases e : p.1 ∈ kinds5
            · exact e
            · rw [if_neg e] at h5
              omega
          · rw [eV]
            show (if k = "full" then 0 else vL Cb k) ≤ _
            by_cases e : k = "full"
            · rw [if_pos e]; decide
            · rw [if_neg e]; have := (bCb k).2; omega
        have lCb : Cb.length ≤ 20 := by
          have := nodup_len nCb kCb
          rw [List.length_map] at this
          exact Nat.le_trans this (by decide)
        have sB4 : Same B2 (hq H4 q) := same_hq x4.same x4.nq
        refine ⟨_, rfl, _, rfl, _, rfl, q, a, D, p, ns, hq H4 q, ts, ps, Cb, rfl, x4.re, sB4 _ _ p2, n2.mono fun b xs e => sB4 _ _ e, hD, DS.keep eD4 qD, nCb, lCb, fCb, bCb, fun H5 b l L dB x5 hb hl n0l ql hIs hnL hpL hE => ?_⟩
        have x5' := x4.down x5
        rw [← eN, ← eV] at hIs
        refine ⟨b, _, 0, _, rfl, rfl, SqT.of hb, rfl, _, rfl, _, _, rfl, rfl, ?_⟩
        have RH := x5'.same _ _ R2
        obtain ⟨al, eal⟩ : ∃ al, al = (zs.map RowD.d).sum := ⟨_, rfl⟩
        have idx : ∀ (i : Nat) (d : Int) (m : Int × List (Str × Int)), (zs.map RowD.d)[i]? = some d → S[i]? = some m → IsDr ts m.1 (vL m.2) d := fun i d m h1 h2 => by
          rw [List.getElem?_map] at h1
          rw [eS, List.getElem?_map] at h2
          obtain ⟨z, hz, rfl⟩ := Option.map_eq_some_iff.mp h1
          rw [hz] at h2
          cases Option.some.inj h2
          exact (hzz z (List.mem_of_getElem? hz)).2.2.2
        have hle : al ≤ dB := by
          rw [eal]
          refine apart_le hf (fun m hm => ⟨(hSts.each m hm).2.1, fun k => (hSts.each m hm).1.nn k⟩) ?_ idx hIs
          rw [eS, List.length_map, List.length_map]
        have gn : ∀ {HH : Hp} {Q' : VK} {E' : XK}, Same B2 HH → (∀ H', Same HH H' → Q' (V.int (dB - al)) H') → ∃ ws rest, (V.ref o :: (zs.map fun z => V.ref z.s)) = ws ++ rest ∧ ws.length = 1 ∧ rest.length ≤ sizeLine ∧ ∀ p, HH p = none → spGain K (ws ++ [V.ref p]) (upd HH p (.tup rest)) Q' E' := fun {HH Q' E'} sH hQ => by
          refine ⟨[.ref o], zs.map fun z => V.ref z.s, rfl, rfl, by rw [List.length_map]; exact Nat.le_trans (show zs.length ≤ 3 by omega) (by decide), fun p' np' => ?_⟩
          have sN : Same HH (upd HH p' (.tup (zs.map fun z => V.ref z.s))) := same_new np'
          refine ⟨o, p', ts, S, zs.map RowD.s, kinds5, rfl, of2.mono (sH.trans sN), hf, hnd, SqT.of (by rw [upd_same, List.map_map]; rfl), by rw [eS, List.length_map, List.length_map], fun i y m h1 h2 => ?_, hSts, fun H' ds Dg s' l1 h3 h4 => ?_⟩
          · rw [List.getElem?_map] at h1
            rw [eS, List.getElem?_map] at h2
            obtain ⟨z, hz, rfl⟩ := Option.map_eq_some_iff.mp h1
            rw [hz] at h2
            cases Option.some.inj h2
            exact (hstk i z hz).mono (sH.trans sN)
          · have e1 : Dg = dB := h4.uniq hIs
            have e2 : ds = zs.map RowD.d := by
              refine List.ext_getElem? fun i => ?_
              have ll : ds.length = zs.length := by rw [l1, eS, List.length_map]
              rcases Nat.lt_or_ge i zs.length with h | h
              · have a1 : ds[i]? = some (ds[i]'(by omega)) := List.getElem?_eq_getElem _
                have a2 : (zs.map RowD.d)[i]? = some ((zs.map RowD.d)[i]'(by rw [List.length_map]; exact h)) := List.getElem?_eq_getElem _
                have a3 : S[i]? = some (S[i]'(by rw [eS, List.length_map]; exact h)) := List.getElem?_eq_getElem _
                rw [a1, a2]
                exact congrArg some ((h3 i _ _ a1 a3).uniq (idx i _ _ a2 a3))
              · rw [List.getElem?_eq_none (by omega), List.getElem?_eq_none (by rw [List.length_map]; exact h)]
            rw [e1, e2, ← eal]
            exact hQ H' (sN.trans s')
        have gn0 : ∀ {HH : Hp} {Q' : VK} {E' : XK}, Same B2 HH → (∀ H', Same HH H' → Q' (V.int 0) H') → ∃ ws rest, [V.ref o] = ws ++ rest ∧ ws.length = 1 ∧ rest.length ≤ sizeLine ∧ ∀ p, HH p = none → spGain K (ws ++ [V.ref p]) (upd HH p (.tup rest)) Q' E' := fun {HH Q' E'} sH hQ => by
          refine ⟨[.ref o], [], rfl, rfl, Nat.zero_le _, fun p' np' => ?_⟩
          have sN : Same HH (upd HH p' (.tup [])) := same_new np'
          refine ⟨o, p', ts, [], [], kinds5, rfl, of2.mono (sH.trans sN), hf, hnd, SqT.of upd_same, rfl, fun i y m h1 h2 => (by cases h1), ⟨fun m hm => (by cases hm), by decide, by decide, fun k => (by show (0 : Int) ≤ _; decide)⟩, fun H' ds Dg s' l1 h3 h4 => ?_⟩
          have e1 : Dg = 0 := IsDr.zero (p := vS []) (fun k => rfl) h4
          have e2 : ds = [] := List.length_eq_zero_iff.mp l1
          rw [e1, e2]
          exact hQ H' (sN.trans s')
        have one : cnt3 = 1 → dB = al := fun h1 => by
          rcases zs with _ | ⟨z, _ | ⟨_, _⟩⟩
          · simp only [List.length_nil] at lzs
            omega
          · have h2 := (hzz z (List.mem_cons_self ..)).2.2.2
            rw [eS] at hIs
            have e1 : nS [(vL z.C "full", z.M)] = vL z.C "full" := Int.add_zero _
            have e2 : vS [(vL z.C "full", z.M)] = vL z.M := funext fun k => Int.add_zero _
            rw [show ([z].map fun z : RowD => (vL z.C "full", z.M)) = [(vL z.C "full", z.M)] from rfl, e1, e2] at hIs
            rw [eal, hIs.uniq h2]
            exact (Int.add_zero _).symm
          · simp only [List.length_cons] at lzs
            omega
        rw [← eal]
        rcases (show cnt3 = 1 ∨ cnt3 = 2 ∨ cnt3 = 3 by omega) with e3 | e3 | e3
        · obtain ⟨r1, rfl⟩ : ∃ r1, rs = [r1] := len1 (lrs.trans e3)
          obtain ⟨z1, rfl⟩ : ∃ z1, zs = [z1] := len1 (lzs.trans e3)
          have hone := one e3
          have h1 := hrow2 0 r1 z1 rfl rfl
          have t1 := x5'.same _ _ h1.tup
          refine ⟨_, rfl, R, _, 0, .ref r1, rfl, rfl, SqL.of RH, at_of (j := 0) rfl rfl, r1, _, 1, .ref z1.s, rfl, rfl, SqT.of t1, rfl, _, rfl, _, rfl, R, _, rfl, .inl (SqL.of RH), _, _, rfl, rfl, R, _, _, .ref r1, rfl, rfl, SqL.of RH, at_of (j := 0) rfl rfl, r1, _, 1, .ref z1.s, rfl, rfl, SqT.of t1, rfl, _, _, rfl, ?_⟩
          refine ⟨_, rfl, R, _, rfl, .inl (SqL.of RH), rfl, _, rfl, ite2 (fun _ => ?_) (fun hd => absurd (decide_eq_true rfl) hd)⟩
          refine ⟨_, rfl, _, rfl, gn x5'.same fun H6 s6 => ⟨rfl, _, rfl, ?_⟩⟩
          rw [show dB - al = 0 by omega, decide_eq_true rfl]
          refine iteF ?_
          have x6 := x5'.grow s6
          have RH6 := s6 _ _ RH
          refine ⟨_, rfl, R, _, rfl, .inl (SqL.of RH6), rfl, _, rfl, ite2 (fun hd => absurd (V.int.inj (of_decide_eq_true hd)) (by show ¬ ((1 : Nat) : Int) = 2; decide)) (fun _ => ?_)⟩
          refine iteF ?_
          refine ⟨_, rfl, R, _, rfl, .inl (SqL.of RH6), rfl, _, rfl, ite2 (fun hd => absurd (V.int.inj (of_decide_eq_true hd)) (by show ¬ ((1 : Nat) : Int) = 3; decide)) (fun _ => ?_)⟩
          refine iteF ?_
          have x7 := x6
          refine ⟨_, rfl, _, _, rfl, rfl, _, rfl, ?_⟩
          rw [decide_eq_false (by omega)]
          refine iteF ?_
          refine ⟨_, rfl, gn0 x7.same fun H8 s8 => ⟨rfl, _, rfl, ?_⟩⟩
          rw [decide_eq_true rfl]
          refine iteF ?_
          have x8 := x7.grow s8
          exact ⟨⟨hsub1.1.trans x8.same, x6k.nq, x6k.sc, x8.ex⟩, _, _, _, _, _, _, _, _, _, _, _, _, _, _, _, _, _, rfl⟩
        · obtain ⟨r1, r2, rfl⟩ : ∃ r1 r2, rs = [r1, r2] := len2 (lrs.trans e3)
          obtain ⟨z1, z2, rfl⟩ : ∃ z1 z2, zs = [z1, z2] := len2 (lzs.trans e3)
          have h1 := hrow2 0 r1 z1 rfl rfl
          have h2 := hrow2 1 r2 z2 rfl rfl
          have t1 := x5'.same _ _ h1.tup
          have t2 := x5'.same _ _ h2.tup
          refine ⟨_, rfl, R, _, 0, .ref r1, rfl, rfl, SqL.of RH, at_of (j := 0) rfl rfl, r1, _, 1, .ref z1.s, rfl, rfl, SqT.of t1, rfl, _, rfl, _, rfl, R, _, rfl, .inl (SqL.of RH), _, _, rfl, rfl, R, _, _, .ref r2, rfl, rfl, SqL.of RH, at_of (j := 1) rfl rfl, r2, _, 1, .ref z2.s, rfl, rfl, SqT.of t2, rfl, _, _, rfl, ?_⟩
          refine ⟨_, rfl, R, _, rfl, .inl (SqL.of RH), rfl, _, rfl, ite2 (fun hd => absurd (V.int.inj (of_decide_eq_true hd)) (by show ¬ ((2 : Nat) : Int) = 1; decide)) (fun _ => ?_)⟩
          refine iteF ?_
          refine ⟨_, rfl, R, _, rfl, .inl (SqL.of RH), rfl, _, rfl, ite2 (fun _ => ?_) (fun hd => absurd (decide_eq_true rfl) hd)⟩
          refine ⟨_, rfl, _, rfl, _, rfl, gn x5'.same fun H6 s6 => ⟨_, rfl, rfl, _, rfl, ?_⟩⟩
          rw [decide_eq_true rfl]
          refine iteF ?_
          have x6 := x5'.grow s6
          have RH6 := s6 _ _ RH
          refine ⟨_, rfl, R, _, rfl, .inl (SqL.of RH6), rfl, _, rfl, ite2 (fun hd => absurd (V.int.inj (of_decide_eq_true hd)) (by show ¬ ((2 : Nat) : Int) = 3; decide)) (fun _ => ?_)⟩
          refine iteF ?_
          have x7 := x6
          refine ⟨_, rfl, _, _, rfl, rfl, _, rfl, ?_⟩
          rw [decide_eq_false (by omega)]
          refine iteF ?_
          refine ⟨_, rfl, gn0 x7.same fun H8 s8 => ⟨rfl, _, rfl, ?_⟩⟩
          rw [decide_eq_true rfl]
          refine iteF ?_
          have x8 := x7.grow s8
          exact ⟨⟨hsub1.1.trans x8.same, x6k.nq, x6k.sc, x8.ex⟩, _, _, _, _, _, _, _, _, _, _, _, _, _, _, _, _, _, rfl⟩
        · obtain ⟨r1, r2, r3, rfl⟩ : ∃ r1 r2 r3, rs = [r1, r2, r3] := len3 (lrs.trans e3)
          obtain ⟨z1, z2, z3, rfl⟩ : ∃ z1 z2 z3, zs = [z1, z2, z3] := len3 (lzs.trans e3)
          have h1 := hrow2 0 r1 z1 rfl rfl
          have h2 := hrow2 1 r2 z2 rfl rfl
          have h3 := hrow2 2 r3 z3 rfl rfl
          have t1 := x5'.same _ _ h1.tup
          have t2 := x5'.same _ _ h2.tup
          have t3 := x5'.same _ _ h3.tup
          refine ⟨_, rfl, R, _, 0, .ref r1, rfl, rfl, SqL.of RH, at_of (j := 0) rfl rfl, r1, _, 1, .ref z1.s, rfl, rfl, SqT.of t1, rfl, _, rfl, _, rfl, R, _, rfl, .inl (SqL.of RH), _, _, rfl, rfl, R, _, _, .ref r3, rfl, rfl, SqL.of RH, at_of (j := 2) rfl rfl, r3, _, 1, .ref z3.s, rfl, rfl, SqT.of t3, rfl, _, _, rfl, ?_⟩
          refine ⟨_, rfl, R, _, rfl, .inl (SqL.of RH), rfl, _, rfl, ite2 (fun hd => absurd (V.int.inj (of_decide_eq_true hd)) (by show ¬ ((3 : Nat) : Int) = 1; decide)) (fun _ => ?_)⟩
          refine iteF ?_
          refine ⟨_, rfl, R, _, rfl, .inl (SqL.of RH), rfl, _, rfl, ite2 (fun hd => absurd (V.int.inj (of_decide_eq_true hd)) (by show ¬ ((3 : Nat) : Int) = 2; decide)) (fun _ => ?_)⟩
          refine iteF ?_
          have x6 := x5'
          have RH6 := RH
          refine ⟨_, rfl, R, _, rfl, .inl (SqL.of RH6), rfl, _, rfl, ite2 (fun _ => ?_) (fun hd => absurd (decide_eq_true rfl) hd)⟩
          have t2' := x6.same _ _ h2.tup
          refine ⟨_, rfl, _, rfl, _, rfl, R, _, 1, .ref r2, rfl, rfl, SqL.of RH6, at_of (j := 1) rfl rfl, r2, _, 1, .ref z2.s, rfl, rfl, SqT.of t2', rfl, _, rfl, gn x6.same fun H7 s7 => ⟨_, rfl, rfl, _, rfl, ?_⟩⟩
          rw [decide_eq_true rfl]
          refine iteF ?_
          have x7 := x6.grow s7
          refine ⟨_, rfl, _, _, rfl, rfl, _, rfl, ?_⟩
          rw [decide_eq_false (by omega)]
          refine iteF ?_
          refine ⟨_, rfl, gn0 x7.same fun H8 s8 => ⟨rfl, _, rfl, ?_⟩⟩
          rw [decide_eq_true rfl]
          refine iteF ?_
          have x8 := x7.grow s8
          exact ⟨⟨hsub1.1.trans x8.same, x6k.nq, x6k.sc, x8.ex⟩, _, _, _, _, _, _, _, _, _, _, _, _, _, _, _, _, _, rfl⟩
  · rintro σ H2 ⟨x2, v2, v3, v4, v5, v6, v7, v8, v9, v10, v11, v12, v13, v14, v15, v16, v17, v18, rfl⟩
    exact k H2
end
end EB

namespace EB
open PySem PySem.Spec PyProof.Rows L2
theorem facts {P : Program} {w : World} {K : PySem.W.Frag} {h : Heap} {mg : Str → Option Value} {f : Addr} (X : K.In h) (G : h.Ns mainGlobals mg) (hfa : mg ("law" : Str) = some (.ref f)) (c : Says fas moreB dds K) :
    ∃ fd : FuncData, (∀ (s : Shared) (v : Value), BindsTo s fd ⟨[v], []⟩ [("_law_script", v)]) ∧ ∀ base : Heap, K.In base → base.Ns mainGlobals mg → FnOk P w K mg base CX0 11 f fd ["_law_script"] (spLaw K) := by
  obtain ⟨T⟩ := tx_of X G c
  have e := hfa.symm.trans T.g_law
  cases e
  have b := FunD.bindsA (ps := ["_law_script"]) (show FunD K d_law.nm d_law.ql (defArgs d_law.st) (defBody d_law.st) (defScope d_law.st) [] [] (d_law.adr K) T.fd_law from T.F_law) fun _ _ _ _ _ _ us hl => match us, hl with | [_], _ => rfl
  exact ⟨T.fd_law, fun s v => b s [v] rfl, fun base _ _ => ok_law T⟩
end EB
open PySem PySem.W PySem.Calls PyProof.Rows in
theorem PySem.Challenge.cw_emptiesback_k42_whole_drinks_of_stocks_holds : PySem.Challenge.rw_emptiesback_k42_whole_drinks_of_stocks.Holds := by
  w_on; o_law
  refine HandSHeadRun.head_imp (r := OpenLaw.row PySem.Challenge.rw_emptiesback_k42_whole_drinks_of_stocks) (q := view (OpenLaw.row PySem.Challenge.rw_emptiesback_k42_whole_drinks_of_stocks).prog [0, 58]) (H := EB.hk) (ob := EB.ob) (M := 4000) (loose := EB.loose) (d := HandSHeadRun.topDef (OpenLaw.row PySem.Challenge.rw_emptiesback_k42_whole_drinks_of_stocks).prog 58) (kwd := [])
    EB.ob_eq EB.run (by kernel_rfl) (by kernel_rfl) (by kernel_rfl) (by rfl) (by first | assumption | decide +kernel) (by decide +kernel) ⟨rfl, rfl, rfl, rfl, rfl, by decide +kernel⟩ ?hw ?hc
  case hw => w_witness2
  case hc =>
    refine L2.walk_ofE (l := PySem.Challenge.rw_emptiesback_k42_whole_drinks_of_stocks) (n := 63) (k := 11) (x := "_law_script") (CX := L2.CX0) rfl (by decide) (by kernel_rfl) ⟨rfl, by decide, by decide⟩ ?F (fun _ _ _ _ z => z)
    intro w mg fa h Y G hmg0
    obtain ⟨K, KX, c⟩ := Y
    have hmg : mg ("law" : PySem.Str) = some (.ref fa) := by
      have e : (HandSHeadRun.topDef (OpenLaw.row PySem.Challenge.rw_emptiesback_k42_whole_drinks_of_stocks).prog 58).name = ("law" : PySem.Str) := by kernel_rfl
      rw [← e]
      exact hmg0
    obtain ⟨fd, hb, hF⟩ := EB.facts (P := (PySem.Challenge.rw_emptiesback_k42_whole_drinks_of_stocks).prog) (w := w) KX G hmg c
    exact ⟨K, fd, EB.spLaw K, KX, hb, fun H a ns hl _ hS => ⟨a, ns, rfl, hS, hl, fun _ => rfl⟩, hF⟩

