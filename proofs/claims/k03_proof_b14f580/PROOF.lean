import PyProof.Rows.All
import Wide.All
import OpenK.AllK
import Wide.FinOn
import KE.KStateDown
import KE.KMathGC
import HandS.ForMost
import HandS.More
import HandS.WordsExc
import HandS.Defaults
import HandS.Property
import HandS.ClsMeth
import HandS.Star
import HandS.Gcd
import HandS.Wide
import HandS.IsInst
import HandS.Walk
import HandS.Style
import HandS.TupAny
import HandS.DictComp
import HandS.Head0
import HandS.Head1
import HandS.Head2
import HandS.HeadEnd
import HandS.HeadHook1
import HandS.HeadHook2
import KE.GoesEnum
import KE.KTupSum
import HandS.NoneIn
import HandS.SlotsOwn
import HandS.ListItems
import HandS.Zip
import HandS.GenList
import HandS.Head3
import PySem.Challenge.RW_emptiesback_k03_whole_drinks_in_any_orde
set_option Elab.async false
set_option linter.all false
set_option maxRecDepth 100000
set_option maxHeartbeats 0
/-! What every law here leans on: calls by positional promises, facts of the head, a heap that only grows. -/
namespace EB
open PySem PySem.Spec PyProof.Rows L2
section
variable {X : Cx} {CX : CXT} {k : Nat} {f C : Addr} {sp : Sp} {E : XK} {x m : Str} {e o : Expr} {es : List Expr} {ta : TE} {t : TA} {p pos apos : Pos}
/-- the promise sp asked of the values of the arguments -/
def tCR (sp : Sp) (E : XK) (t : TA) : TE := fun σ H Q => t σ H fun vs H1 => sp vs H1 Q E
theorem pe_cR (F : FnR X.prog X.w X.K X.mg X.base CX k f sp) (hr : Room k X.A) (hk : PySem.W.keepIn X.K (.ref f) = true) (hm : X.mg x = some (.ref f)) (hx : Passes CX X E) (ha : PA X (e :: es) t) (hg : Gl X x := by rfl)
    (hd : (x == ("__debug__" : Str)) = false := by decide) (he : starEach (e :: es) X.env = (false, eval e X.env) :: starEach es X.env := by rfl) (hp : (backTo pos (starEach es X.env)).any (·.1) = false := by rfl) :
    PE X (.Call (.Name x p) (e :: es) [] pos) (tCR sp E t) := by
  constructor
  intro pins s σ H Q I h
  refine wpAny_Call_Name_kw (ld_glob I hg hm ?_ hd)
  refine PySem.W.callWith_K (h₀ := X.base) I.ok.mod.kin hk (thn (ha.run pos pins s σ H _ I h) fun us s1 ⟨vs, H1, I1, r, q⟩ => ⟨I1.kIn, wpAny_call (run_fnR F hr hx I1 r q)⟩) he hp
/-- a method without arguments -/
def tM0 (C : Addr) (m : Str) (sp : Sp) (E : XK) (ta : TE) : TE := fun σ H Q => ta σ H fun x H1 => ∃ a dx fs, x = .ref a ∧ H1 a = some (.ins C dx fs) ∧ fs.lookup m = none ∧ sp [x] H1 Q E
end
/-- a tuple as the target of a comprehension -/
theorem pg_tupB {X : Cx} {s : Shared} {H : Hp} {scope : Scope} {cenv : Env} {fp : List Addr} {es : List Expr} {k : Nat} {t : TGs} {n : Nat} {pos : Pos} (h : PGs (X.blk s H scope cenv fp) es t) (hc : X.calm = true := by rfl)
    (hn : (assignEach es cenv).length = n := by rfl) (hst : (assignEach es cenv).findIdx? (·.1) = none := by rfl) : PG (X.blk s H scope cenv fp) (.Tuple es k pos) (gTup X.K n t) := pg_tup (X := X.blk s H scope cenv fp) hc h hn hst
/-! ### a heap that only grows -/
theorem same_new {H : Hp} {q : Addr} {u : HO} (h : H q = none) : Same H (upd H q u) := fun b o e => by
  rw [upd_ne (ne_of_none e h)]
  exact e
theorem same_mut {H0 H : Hp} {q : Addr} {u : HO} (s : Same H0 H) (h : H0 q = none) : Same H0 (upd H q u) := fun b o e => by
  rw [upd_ne (ne_of_none e h)]
  exact s b o e
theorem Same.tup {K : PySem.W.Frag} {H H' : Hp} {a : Addr} {xs : List V} (e : Same H H') (h : SqT K H a xs) : SqT K H' a xs := by
  rcases h with (h | ⟨o, h⟩) | h
  · exact .inl (.inl (e _ _ h))
  · exact .inl (.inr ⟨o, e _ _ h⟩)
  · exact .inr h
theorem upd_old {H : Hp} {a q : Addr} {o u : HO} (h : H a = some o) (n : H q = none) : upd H q u a = some o := by
  rw [upd_ne (ne_of_none h n)]
  exact h
/-! ### the head's facts -/
/-- the object of a def -/
def fdAt (K : PySem.W.Frag) (a : Addr) : Option FuncData := match K.lookup a with
  | some o => (match o.data with
    | .func fd => some fd
    | _ => none)
  | none => none
abbrev FS : Type := Str × Str × Arguments × FuncBody × Scope × Addr × List (Str × Addr) × Addr
def fsOf (fd : FuncData) : FS := (fd.name, fd.qualname, fd.params, fd.body, fd.scope, fd.globals, fd.closure, fd.builtins)
/-- one def of the text: where it is found, what it is -/
structure DD where
  adr : PySem.W.Frag → Addr
  nm : Str
  ql : Str
  st : Stmt
  df : List He.Dv := []
def DD.fs (d : DD) : FS := (d.nm, d.ql, defArgs d.st, .stmts (defBody d.st), defScope d.st, mainGlobals, [], builtinsNs)
def DD.obs (K : PySem.W.Frag) (d : DD) : Option FS := (fdAt K (d.adr K)).map fsOf
def DD.ok (K : PySem.W.Frag) (d : DD) : Bool := PySem.W.keepIn K (.ref (d.adr K)) && (match fdAt K (d.adr K) with
  | some fd => PySem.W.codeIn K fd.code d.ql && He.dflB K fd.defaults (d.df.map (He.Dv.v K))
  | none => false)
/-- the def d, its function's data fd -/
abbrev FnP (K : PySem.W.Frag) (d : DD) (fd : FuncData) : Prop := FunD K d.nm d.ql (defArgs d.st) (defBody d.st) (defScope d.st) (d.df.map (He.Dv.v K)) [] (d.adr K) fd
theorem DD.fun {K : PySem.W.Frag} {d : DD} (e : d.obs K = some d.fs) (c : d.ok K = true) : ∃ fd, FnP K d fd := by
  obtain ⟨kp, c2⟩ := Bool.and_eq_true_iff.mp c
  unfold DD.obs at e
  cases q : fdAt K (d.adr K) with
  | none =>
    rw [q] at e
    cases e
  | some fd =>
    rw [q] at e c2
    obtain ⟨c3, c4⟩ := Bool.and_eq_true_iff.mp c2
    unfold fdAt at q
    cases l : K.lookup (d.adr K) with
    | none =>
      rw [l] at q
      cases q
    | some o =>
      rw [l] at q
      obtain ⟨oc, od, dt, osl⟩ := o
      cases dt with
      | func fd' =>
        have ef : fd' = fd := Option.some.inj q
        subst ef
        have e2 : fsOf fd' = d.fs := Option.some.inj e
        obtain ⟨n1, n2, n3, n4, n5, n6, n7, n8, n9, n10, n11, n12, n13, n14, n15⟩ := fd'
        simp only [fsOf, DD.fs, Prod.mk.injEq] at e2
        obtain ⟨h1, h2, h3, h4, h5, h6, h7, h8⟩ := e2
        subst h1 h2 h3 h4 h5 h6 h7 h8
        exact ⟨_, ⟨oc, od, n8, n9, n10, n11, n12, n13, n14, osl, rfl, l, c3, He.dflB_ok c4, .inl rfl⟩, kp⟩
      | _ => cases q
/-- a property's getter -/
def propG (K : PySem.W.Frag) (C p : Addr) : Addr := match PySem.W.recIn K p "property" with
  | some (.ref g :: _) => g
  | _ => 0
def okProp (K : PySem.W.Frag) (x f : Str) : Bool :=
  He.eqO (PySem.W.findIn K (.ref (He.ga K x)) f) (some (some (.ref (He.ma K (He.ga K x) f)))) && (He.eqO (PySem.W.specialIn K (.ref (He.ma K (He.ga K x) f)) "__get__") (some (some (.builtin "property.__get__"))) &&
  (decide (PySem.W.takesIn K (.ref (He.ma K (He.ga K x) f)) = some true) && (match PySem.W.recIn K (He.ma K (He.ga K x) f) "property" with
    | some (.ref g :: _) => decide (g = propG K (He.ga K x) (He.ma K (He.ga K x) f))
    | _ => false)))
theorem okProp_of {K : PySem.W.Frag} {x f : Str} (h : okProp K x f = true) : PropOf K (He.ga K x) f (He.ma K (He.ga K x) f) (propG K (He.ga K x) (He.ma K (He.ga K x) f)) := by
  obtain ⟨h1, h⟩ := Bool.and_eq_true_iff.mp h
  obtain ⟨h2, h⟩ := Bool.and_eq_true_iff.mp h
  obtain ⟨h3, h4⟩ := Bool.and_eq_true_iff.mp h
  refine ⟨He.eqO_ok h1, He.eqO_ok h2, of_decide_eq_true h3, ?_⟩
  split at h4
  · rename_i g rest e
    exact ⟨rest, by rw [e, ← of_decide_eq_true h4]⟩
  · cases h4
def okCallO (K : PySem.W.Frag) (x : Str) : Bool :=
  He.eqO (PySem.W.findIn K (.ref (He.ga K x)) "__call__") (some (some (.ref (He.ma K (He.ga K x) "__call__")))) && (PySem.W.isFn K (.ref (He.ma K (He.ga K x) "__call__")) && PySem.W.fnIn K (He.ma K (He.ga K x) "__call__"))
theorem okCallO_of {K : PySem.W.Frag} {x : Str} (h : okCallO K x = true) : StX.CallO K (He.ga K x) (He.ma K (He.ga K x) "__call__") := by
  obtain ⟨h1, h⟩ := Bool.and_eq_true_iff.mp h
  obtain ⟨h2, h3⟩ := Bool.and_eq_true_iff.mp h
  exact ⟨He.eqO_ok h1, h2, h3⟩
def okBlt (K : PySem.W.Frag) (x : Str) (id : String) : Bool := He.eqO (PySem.W.nsIn K mainGlobals x) (some (some (.builtin id)))
theorem okBlt_of {K : PySem.W.Frag} {h : Heap} {mg : Str → Option Value} {x : Str} {id : String} (X : K.In h) (G : h.Ns mainGlobals mg) (c : okBlt K x id = true) : mg x = some (.builtin id) := PySem.W.mg_of X G (He.eqO_ok c)
/-- all that is looked at behind the top -/
abbrev Seen : Type := Bool × List (Option FS)
def seen (fa : List He.Fa) (more : PySem.W.Frag → Bool) (ds : List DD) (K : PySem.W.Frag) : Seen := ((fa.all fun f => f.ok K) && (more K && ds.all fun d => d.ok K), ds.map fun d => d.obs K)
def want (ds : List DD) : Seen := (true, ds.map fun d => some d.fs)
def Says (fa : List He.Fa) (more : PySem.W.Frag → Bool) (ds : List DD) (K : PySem.W.Frag) : Prop := seen fa more ds K = want ds
def hook (n : Nat) (fa : List He.Fa) (more : PySem.W.Frag → Bool) (ds : List DD) : PySem.W.Hook where
  α := Seen
  obs := fun s => seen fa more ds (He.frG s.heap.get? (cStatics :: He.asD s.heap.get? n))
  val := fun _ => want ds
  says := fun _ h => ∃ K : PySem.W.Frag, K.In h ∧ Says fa more ds K
  of := fun _ _ e => ⟨_, He.frG_in, e⟩
  keeps := fun _ _ _ ⟨K, hK, c⟩ k => ⟨K, PySem.W.Frag.In.keeps hK k, c⟩
section
variable {fa : List He.Fa} {more : PySem.W.Frag → Bool} {ds : List DD} {K : PySem.W.Frag}
theorem Says.bools (c : Says fa more ds K) : (∀ f ∈ fa, f.ok K = true) ∧ more K = true ∧ ∀ d ∈ ds, d.ok K = true := by
  have c1 : ((fa.all fun f => f.ok K) && (more K && ds.all fun d => d.ok K)) = true := congrArg (fun z : Seen => z.1) c
  obtain ⟨c2, c3⟩ := Bool.and_eq_true_iff.mp c1
  obtain ⟨c4, c5⟩ := Bool.and_eq_true_iff.mp c3
  exact ⟨fun f h => List.all_eq_true.mp c2 f h, c4, fun d h => List.all_eq_true.mp c5 d h⟩
theorem Says.fact (c : Says fa more ds K) (i : Nat) {f : He.Fa} (h : fa[i]? = some f := by rfl) : f.ok K = true := c.bools.1 f (List.mem_of_getElem? h)
theorem Says.fn (c : Says fa more ds K) (i : Nat) {d : DD} (h : ds[i]? = some d := by rfl) : ∃ fd, FnP K d fd := by
  have e : ds.map (fun d => d.obs K) = ds.map fun d => some d.fs := congrArg (fun z : Seen => z.2) c
  have e2 : (ds.map fun d => d.obs K)[i]? = (ds.map fun d => some d.fs)[i]? := by rw [e]
  rw [List.getElem?_map, List.getElem?_map, h] at e2
  exact DD.fun (Option.some.inj e2) (c.bools.2.2 d (List.mem_of_getElem? h))
end
end EB
namespace EB
open PySem PySem.Spec PyProof.Rows L2
theorem pe_cI {X : Cx} {x : Str} {i : Int} {pos : Pos} (hm : ∃ t, X.mg x = some (.int i t)) (hg : Gl X x := by rfl) (hd : (x == ("__debug__" : Str)) = false := by decide) : PE X (.Name x pos) (tC (.int i)) := by
  obtain ⟨t, h⟩ := hm
  exact pe_glob hg h ⟨t, rfl⟩ hd
theorem pe_cS {X : Cx} {x z : Str} {pos : Pos} (hm : ∃ t, X.mg x = some (.str z t)) (hg : Gl X x := by rfl) (hd : (x == ("__debug__" : Str)) = false := by decide) : PE X (.Name x pos) (tC (.str z)) := by
  obtain ⟨t, h⟩ := hm
  exact pe_glob hg h ⟨t, rfl⟩ hd
theorem pe_cC {X : Cx} {x : Str} {C : Addr} {pos : Pos} (hm : X.mg x = some (.ref C)) (hg : Gl X x := by rfl) (hd : (x == ("__debug__" : Str)) = false := by decide) : PE X (.Name x pos) (tC (.ref C)) := pe_glob hg hm rfl hd
/-- a constant of a class, read off the class -/
def okRead (K : PySem.W.Frag) (x : Str) : Bool := PySem.W.readsIn K (He.ga K x) (.type "type") && He.eqO (PySem.W.specialIn K (.ref (He.ga K x)) "__getattribute__") (some (some (.builtin "type.__getattribute__")))
theorem okRead_of {K : PySem.W.Frag} {x : Str} (h : okRead K x = true) : ClX.CRead K (He.ga K x) (.type "type") := by
  obtain ⟨h1, h2⟩ := Bool.and_eq_true_iff.mp h
  exact ⟨h1, He.eqO_ok h2⟩
def okCVal (K : PySem.W.Frag) (x f : Str) (v : V) : Bool := match PySem.W.findCls K (.ref (He.ga K x)) (.type "type") f with
  | some (.val u) => He.relB v u
  | _ => false
theorem okCVal_of {K : PySem.W.Frag} {x f : Str} {v : V} (h : okCVal K x f v = true) : ∃ u, ClX.CVal K (He.ga K x) (.type "type") f v u := by
  unfold okCVal at h
  split at h
  · rename_i u e
    exact ⟨u, e, He.relB_ok h⟩
  · cases h
/-! ### the same rules with the written part named: within a comprehension it may not hang on the block -/
section
variable {X : Cx} {K : PySem.W.Frag}
theorem ix_listK (h : X.K = K) : IxR X (rIxL K) := h ▸ ix_list
theorem ix_seqK (h : X.K = K) : IxR X (rIx K) := h ▸ ix_seq
theorem ix_tupK (h : X.K = K) : IxR X (rIxT K) := h ▸ ix_tup
theorem sl_listK (h : X.K = K) : SlR X (rSlL K) := h ▸ sl_list
theorem sl_tupAK (h : X.K = K) : SlR X (rSlA K) := h ▸ sl_tupA
theorem op_catAK (h : X.K = K) : OpR X (binaryOp .Add) (rCatA K) := h ▸ op_catA
theorem op_in_seqK (h : X.K = K) : OpR X (compareOp .In) (rIn K false) := h ▸ op_in_seq
theorem op_notIn_seqK (h : X.K = K) : OpR X (compareOp .NotIn) (rIn K true) := h ▸ op_notIn_seq
def rLenK (K : PySem.W.Frag) : List V → Hp → VK → Prop := fun xs H Q => ∃ p ys, xs = [.ref p] ∧ (SqL K H p ys ∨ SqT K H p ys) ∧ Q (.int ys.length) H
theorem call_len_seqK (h : X.K = K) : CallR X (.builtin "len") (rLenK K) := h ▸ call_len_seq
theorem cr_sumK (hc : X.calm = true) (h : X.K = K) : CallR X (.builtin "sum") (rSum K) := h ▸ cr_sum hc
theorem pi_listK {tg l : Expr} {tl : TE} (h : X.K = K) (hl : PE X l tl) : PI X tg l (iList K tl) := h ▸ pi_list hl
theorem pi_tupK {tg l : Expr} {tl : TE} (h : X.K = K) (hl : PE X l tl) : PI X tg l (iTup K tl) := h ▸ pi_tup hl
theorem pe_fldK {e : Expr} {f : Str} {ta : TE} {pos : Pos} (h : X.K = K) (he : PE X e ta) (hb : attributeBase e f X.env (eval e X.env) = eval e X.env) : PE X (.Attribute e f pos) (tFld K ta f) := h ▸ pe_fld he hb
end
end EB

/-! enumerate over a tuple; lcm. -/
namespace EB
open PySem PySem.Spec PyProof.Rows L2
def rLcm : List V → Hp → VK → Prop := fun vs H Q => ∃ x y : Int, vs = [.int x, .int y] ∧ x.natAbs < 2 ^ 64 ∧ y.natAbs < 2 ^ 64 ∧ Q (.int ((x.natAbs.lcm y.natAbs : Nat) : Int)) H
theorem cr_lcm {X : Cx} : CallR X (.builtin "math.lcm") rLcm := by
  rintro pins s σ H vs us Q I r ⟨x, y, rfl, hx, hy, q⟩
  obtain ⟨t, u, rfl⟩ := Vals.int2 r
  exact PySem.W.mc_lcm hx hy fun _ => ⟨.int _, H, I.tok _, ⟨_, rfl⟩, q⟩
/-- sum of a tuple of ints -/
def rSumT (K : PySem.W.Frag) : List V → Hp → VK → Prop := fun vs H Q => ∃ (a : Addr) (ns : List Int), vs = [V.ref a] ∧ SqT K H a (ns.map V.int) ∧ Q (.int ns.sum) H
theorem cr_sumT {X : Cx} (hc : X.calm = true) : CallR X (.builtin "sum") (rSumT X.K) := by
  rintro pins s σ H vs us Q I r ⟨a, ns, rfl, hs, q⟩
  obtain ⟨its, rv, ht, _⟩ := I.tuple hs
  rw [Vals.ref1 r]
  have hi : IntsAre its ns := rv.ints
  obtain ⟨xs, e⟩ := hi.allInts.items
  have hn : numsOf (intItems xs).toList = ns := by
    rw [← e]
    exact hi.numsOf
  rw [nums_intItems] at hn
  have ht2 : s.heap.IsTuple a (intItems xs) := by
    rw [← e]
    exact ht
  refine PySem.W.ktm_sumG (I.ok.hd hc) ht2 fun h' tk t' hk => ?_
  rw [preSum_eq, List.take_of_length_le (by simp), hn]
  exact ⟨.int _, H, I.kept hk, ⟨_, rfl⟩, q⟩
/-- o.m(), a positional promise -/
theorem pe_methR0 {X : Cx} {CX : CXT} {k : Nat} {C f : Addr} {m : Str} {sp : Sp} {E : XK} {o : Expr} {ta : TE} {apos pos : Pos} {pl : Sem Bool} (he : PE X o ta) (c : Cls X.K C) (hm : Meth X.K C m f) (F : FnR X.prog X.w X.K X.mg X.base CX k f sp) (hr : Room k X.A) (hx : Passes CX X E)
    (ht : eval (.Call (.Attribute o m apos) [] [] pos) X.env = (do
      let v ← eval o X.env
      standAt apos.atName
      let (g, fst) ← holding [v] (getMethod v m pl)
      callWith pos g fst (backTo pos (starEach [] X.env)) (backToKw pos (keywordEach [] X.env))) := by rfl) : PE X (.Call (.Attribute o m apos) [] [] pos) (tM0 C m sp E ta) := by
  constructor
  intro pins s σ H Q I h
  refine PySem.W.methodCall_KW (pl := pl) (thn (he.run pins s σ H _ I h) fun u s1 ⟨x, H1, I1, rx, a, dx, fs, ex, ea, l, q⟩ => ?_) ht
  subst ex
  obtain rfl : u = Value.ref a := rx
  refine getmeth_ok I1 ea c hm l ?_
  exact PySem.W.callWith_K0 (first := [.ref a]) I1.kIn hm.kp (wpAny_call (run_fnR (us := [.ref a]) (vs := [.ref a]) F hr hx I1 (.cons rfl .nil) q))
theorem meets_enumV {v : Value} {o : Obj} {G : Heap → Prop} (B : Begins v o G) :
    Meets (Builtin.«enumerate.__new__» ⟨[.type "enumerate", v], []⟩) (fun _ R s => G s.heap ∧
      R (.ok (.ret (.ref (s.heap.push o).objs.size))) { s with heap := (s.heap.push o).push { cls := .type "enumerate", data := .fields #[.none, .bool false, .ref s.heap.objs.size, rawInt 0, .none, .none] } }) :=
  .of_wp fun prog w A R s h => by
    obtain ⟨hp, g, d, tk, os⟩ := s
    obtain ⟨h1, h⟩ := h
    have hsub := sub_enumerate
    have q1 : ∀ {A' : Around} {E : Value → Shared → Prop} {Q : Value → Shared → Prop}, Q (.ref hp.objs.size) ⟨hp.push o, g, d, tk, os⟩ → wpAny (model prog w) A' (pyIter v) Q E ⟨hp, g, d, tk, os⟩ :=
      fun q => B.iter prog w _ _ ⟨hp, g, d, tk, os⟩ _ h1 q
    wp_walk using q1
    refine wpAny_stack_any fun st => wpAny_pure ?_
    split
    · rename_i c _ _ _ _ _
      cases (c == Value.type "enumerate")
      · wp_walk using q1
        exact ⟨_, rfl, h⟩
      · wp_walk using q1
        exact ⟨_, rfl, h⟩
    · wp_walk using q1
      exact ⟨_, rfl, h⟩
theorem call_enumT {prog : Program} {w : World} {A : Around} {E : Value → Shared → Prop} {s : Shared} {a : Addr} {its : Array Value} {Q : Value → Shared → Prop} (ht : s.heap.IsTuple a its)
    (h : ∀ h', IsEnum h' (s.heap.objs.size + 1) s.heap.objs.size 0 .none → h'.IsTupleIter s.heap.objs.size a 0 → (∀ b o, s.heap.get? b = some o → h'.get? b = some o) → Q (.ref (s.heap.objs.size + 1)) { s with heap := h' }) :
    wpAny (model prog w) A (call (.type "enumerate") [.ref a]) Q E s := by
  refine callType_new F.called_enumerate (by decide) (F.typeCall_enumerate_1 _) (F.newCall_enumerate_1 _) (fun obj => F.args_object_init_2 obj _) F.entry_enumerate_new (meets_enumV (begins_tuple a its)) ⟨ht, ?_⟩
  have hz : (s.heap.push { cls := .type "tuple_iterator", data := .fields #[.ref a, .int 0 0] }).objs.size = s.heap.objs.size + 1 := Heap.size_push ..
  show _ ∧ _
  rw [hz]
  have he : IsEnum ((s.heap.push { cls := .type "tuple_iterator", data := .fields #[.ref a, .int 0 0] }).push { cls := .type "enumerate", data := .fields #[.none, .bool false, .ref s.heap.objs.size, rawInt 0, .none, .none] }) (s.heap.objs.size + 1) s.heap.objs.size 0 .none := by
    have z := Heap.get?_push_size (s.heap.push { cls := .type "tuple_iterator", data := .fields #[.ref a, .int 0 0] }) (o := { cls := .type "enumerate", data := .fields #[.none, .bool false, .ref s.heap.objs.size, rawInt 0, .none, .none] }) rfl
    rw [hz] at z
    exact z
  exact ⟨⟨_, he, rfl⟩, h _ he ⟨_, Heap.get?_push_of_some _ (Heap.get?_push_size _ rfl), rfl, rfl⟩ fun b o x => Heap.get?_push_of_some _ (Heap.get?_push_of_some _ x)⟩
/-- the tuple at a as it stands at each turn, each item in a new pair with its place -/
def ItE (K : PySem.W.Frag) (a : Addr) : It :=
  ⟨fun i H => ∃ (xs : List V) (x : V), SqT K H a xs ∧ xs[i]? = some x, fun i H v H' => ∃ q x, v = .ref q ∧ H q = none ∧ H' = upd H q (.tup [.int (i : Nat), x]) ∧ ∀ xs, SqT K H a xs → xs[i]? = some x,
    fun i H => ∃ xs : List V, SqT K H a xs ∧ xs.length = i⟩
theorem turn_E {P : Program} {w : World} {K : PySem.W.Frag} {elts : List Expr} {kk : Nat} {tpos : Pos} (a e it : Addr) :
    Turn P w K (.Tuple elts kk tpos) (ItE K a) [e, it] e (fun i h => (∃ old, IsEnum h e it ((i : Nat) : Int) old) ∧ h.IsTupleIter it a i ∧ e ≠ it ∧ a ≠ it ∧ a ≠ e) where
  mem := by simp
  obj := fun i h st b hb => by
    obtain ⟨⟨old, he⟩, ⟨o, ho, hc, hd⟩, _⟩ := st
    rcases (show b = e ∨ b = it by simpa using hb) with rfl | rfl
    · exact ⟨_, he, fun v q => nomatch q⟩
    · exact ⟨o, ho, fun v q => by rw [hd] at q; cases q⟩
  keep := fun i h h' st k => by
    obtain ⟨⟨old, he⟩, hi, hne⟩ := st
    exact ⟨⟨old, k e (by simp) _ he⟩, hi.at fun o q => k it (by simp) o q, hne⟩
  item := by
    intro X hP hw hK hc i pins s σ H E I hf st hg
    subst hP hw hK
    obtain ⟨⟨old, he⟩, hit, hne, hai, hae⟩ := st
    obtain ⟨xs, x, hq, hx⟩ := hg
    obtain ⟨its, rv, p, hz⟩ := I.tuple hq
    obtain ⟨u, hu, ru⟩ := rv.get hx
    have hlt : i < its.toArray.size := by
      have z := (List.getElem?_eq_some_iff.mp hu).1
      simpa using z
    have hel : e < s.heap.objs.size := Heap.lt_size he
    have hil : it < s.heap.objs.size := by
      obtain ⟨_, q, _⟩ := hit
      exact Heap.lt_size q
    have p' : s.heap.IsTuple a its.toArray := p
    refine wpAny_pyNext_enum_itemC (Draws.tuple (prog := X.prog) (w := X.w) (show X.A.in1.handled = none from I.ok.hd hc) it a hai its.toArray) he ⟨hit, p'⟩ hlt hne (by simp [hne, Ne.symm hae]) fun u' h' tk hu' ho hs' hT hsz hk => ?_
    have eu : u' = u := by
      have z : its.toArray[i]? = some u' := hu'
      rw [show its.toArray[i]? = some u by simpa using hu] at z
      exact (Option.some.inj z).symm
    subst eu
    refine ⟨_, rfl, wpAny_letOwnedTupleGo_enum (s := { s with heap := h', toks := tk + 1 }) ho fun h'' he' sb => ?_⟩
    have hT2 : h''.get? s.heap.objs.size = some { cls := .type "tuple", data := .seq #[.int i tk, u'] } := (sb.2 _ (Nat.ne_of_gt hel)).trans hT
    have new : ObjOk X.prog X.w (upd H s.heap.objs.size (.tup [.int (i : Nat), x])) h'' s.heap.objs.size (.tup [.int (i : Nat), x]) := by
      refine ⟨?_, [.int i tk, u'], .cons ⟨_, rfl⟩ (.cons ru .nil), ⟨_, hT2, rfl, _, rfl⟩⟩
      show 2 ≤ sizeLine
      decide
    have I1 : Inv X pins σ (upd H s.heap.objs.size (.tup [.int (i : Nat), x])) { s with heap := h'', toks := tk + 1 } := by
      refine I.turnedNew (ch := [e, it]) (fun b ob hb q => ?_) hf (Nat.le_refl _) new
      have b1 : b ≠ e := fun z => hb (by simp [z])
      have b2 : b ≠ it := fun z => hb (by simp [z])
      exact (sb.2 b b1).trans (hk b ob b1 b2 q)
    refine ⟨.ref s.heap.objs.size, _, I1, rfl, ⟨_, x, rfl, I.hok.fresh (Nat.le_refl _), rfl, fun ys hy => ?_⟩, ⟨⟨u', ?_⟩, ?_, hne, hai, hae⟩, fun b hb => ?_⟩
    · rw [I.tuple_inj hy hq]
      exact hx
    · rw [show ((i + 1 : Nat) : Int) = (i : Int) + 1 by omega]
      exact he'
    · exact hs'.1.at fun o q => (sb.2 it (Ne.symm hne)).trans q
    · have hb' : b < s.heap.objs.size := by
        rcases (show b = e ∨ b = it by simpa using hb) with rfl | rfl
        · exact hel
        · exact hil
      rw [upd_ne (Nat.ne_of_lt hb')]
      exact (hf b hb).1
  done := by
    intro X hP hw hK hc i pins s σ H E I hf st hg
    subst hP hw hK
    obtain ⟨⟨old, he⟩, hit, hne, hai, hae⟩ := st
    obtain ⟨xs, hq, hx⟩ := hg
    obtain ⟨its, rv, p, hz⟩ := I.tuple hq
    obtain ⟨f0, f1, f2, f3, f4, f5⟩ := hf it (by simp)
    have hl := rv.length
    have p' : s.heap.IsTuple a its.toArray := p
    have es : its.toArray.size = i := by
      rw [List.size_toArray]
      omega
    refine wpAny_pyNext_enum_endD (Draws.tuple (prog := X.prog) (w := X.w) (show X.A.in1.handled = none from I.ok.hd hc) it a hai its.toArray) he ?_ fun h' eb => ⟨rfl, I.turned (t' := s.toks) (fun b o hb q => eb b o hb q) f0 f1 f3 f4 f5⟩
    rw [es]
    exact ⟨hit, p'⟩
  self := fun A i s Q E st h => by
    obtain ⟨⟨_, he⟩, _⟩ := st
    exact wpAny_pyIter_enum he h
def iEnumT (K : PySem.W.Frag) (ta : TA) : TI := fun σ H R => ta σ H fun vs H1 => ∃ a xs, vs = [.ref a] ∧ SqT K H1 a xs ∧ R (ItE K a) H1
theorem pi_enumT {X : Cx} {e : Expr} {ta : TA} {p pos tpos : Pos} {elts : List Expr} {kk : Nat} (hg : Gl X "enumerate") (hm : X.mg "enumerate" = none) (ha : PA X [e] ta) (hs : starEach [e] X.env = [(false, eval e X.env)] := by rfl) :
    PI X (.Tuple elts kk tpos) (.Call (.Name "enumerate" p) [e] [] pos) (iEnumT X.K ta) := by
  constructor
  intro pins s σ H R I h
  refine Call_ (ld_blt I hg hm boot_enumerate (PyProof.Rows.callWith_type1 (thn (ha.run pos pins s σ H _ I h) fun us s1 ⟨vs, H1, I1, r1, q1⟩ => ?_) hs rfl))
  obtain ⟨a, xs, rfl, hq, q⟩ := q1
  cases r1 with
  | cons r rr =>
    cases rr
    cases r
    obtain ⟨its, rv, p', hz⟩ := I1.tuple hq
    have al : a < s1.heap.objs.size := by
      obtain ⟨_, z, _⟩ := (show s1.heap.IsTuple a its.toArray from p')
      exact Heap.lt_size z
    refine call_enumT (show s1.heap.IsTuple a its.toArray from p') fun h' he hit hk => wpAny_pyIter_enum he ?_
    have I2 : Inv X pins σ H1 { s1 with heap := h' } := I1.kept (t' := s1.toks) hk
    refine ⟨s1.heap.objs.size + 1, [s1.heap.objs.size + 1, s1.heap.objs.size], _, _, H1, rfl, I2, turn_E a (s1.heap.objs.size + 1) s1.heap.objs.size, ⟨⟨.none, he⟩, hit, Nat.succ_ne_self _, Nat.ne_of_lt al, Nat.ne_of_lt (Nat.lt_succ_of_lt al)⟩, fun b hb => ?_, q⟩
    have hle : s1.heap.objs.size ≤ b := by
      rcases (show b = s1.heap.objs.size + 1 ∨ b = s1.heap.objs.size by simpa using hb) with z | z
      · rw [z]
        exact Nat.le_add_right _ _
      · rw [z]
        exact Nat.le_refl _
    exact I1.fpOk hle (I1.hok.fresh hle)
theorem walk_enumT {K : PySem.W.Frag} {a : Addr} {xs : List V} : Walk (ItE K a) xs.length (fun H => SqT K H a xs) (YPair (fun i => some (.int (i : Nat))) (fun i => xs[i]?)) where
  goes := fun i H hi hs => ⟨xs, xs[i], hs, List.getElem?_eq_getElem hi⟩
  stops := fun H hs => ⟨xs, hs, rfl⟩
  yields := fun i H x H' hi hs h => by
    obtain ⟨q, y, e1, e2, e3, e4⟩ := h
    exact ⟨q, .int (i : Nat), y, e1, e2, e3, rfl, e4 xs hs⟩
end EB
namespace EB
open PySem PySem.Spec PyProof.Rows L2
section
variable {X : Cx} {CX : CXT} {k : Nat} {C g : Addr} {sp : Sp} {E : XK}
/-- x in o, o an instance whose class says __contains__ -/
def rInO (C : Addr) (neg : Bool) (sp : Sp) (E : XK) : R2 := fun x y H Q => ∃ a dx fs, y = .ref a ∧ H a = some (.ins C dx fs) ∧ sp [y, x] H (fun z H' => ∃ b, z = .bl b ∧ Q (.bl (if neg then !b else b)) H') E
theorem op_inO (hs : PySem.W.findIn X.K (.ref C) "__contains__" = some (some (.ref g))) (hf : PySem.W.isFn X.K (.ref g) = true) (F : FnR X.prog X.w X.K X.mg X.base CX k g sp) (hr : Room k X.A) (hx : Passes CX X E) : OpR X (compareOp .In) (rInO C false sp E) := by
  rintro pins s σ H x y v u Q I rx ry ⟨a, dx, fs, rfl, ha, q⟩
  cases (show u = Value.ref a from ry)
  obtain ⟨ox, od, J, _⟩ := StX.insC_at I (.inr ⟨dx, fs, ha⟩)
  obtain ⟨m, hF⟩ := I.fr
  refine PySem.W.in_K hF I.ok.mod.kin J hs hf (thn (wpAny_call (run_fnR (us := [.ref a, v]) (vs := [.ref a, x]) F hr hx I (.cons rfl (.cons rx .nil)) q)) fun w' s' hz => ?_)
  obtain ⟨z, H', I', rz, b, rfl, qb⟩ := hz
  exact thn (tru_ok (X := X) pins s' σ H' (.bl b) w' (fun k H'' => k = b ∧ H'' = H') I' rz ⟨b, rfl, rfl, rfl⟩) fun k s'' ⟨H'', I'', e1, e2⟩ => by
    subst e1 e2
    exact ⟨.bl k, H'', I'', rfl, qb⟩
theorem op_notInO (hs : PySem.W.findIn X.K (.ref C) "__contains__" = some (some (.ref g))) (hf : PySem.W.isFn X.K (.ref g) = true) (F : FnR X.prog X.w X.K X.mg X.base CX k g sp) (hr : Room k X.A) (hx : Passes CX X E) : OpR X (compareOp .NotIn) (rInO C true sp E) := by
  rintro pins s σ H x y v u Q I rx ry ⟨a, dx, fs, rfl, ha, q⟩
  cases (show u = Value.ref a from ry)
  obtain ⟨ox, od, J, _⟩ := StX.insC_at I (.inr ⟨dx, fs, ha⟩)
  obtain ⟨m, hF⟩ := I.fr
  refine PySem.W.notIn_K hF I.ok.mod.kin J hs hf (thn (wpAny_call (run_fnR (us := [.ref a, v]) (vs := [.ref a, x]) F hr hx I (.cons rfl (.cons rx .nil)) q)) fun w' s' hz => ?_)
  obtain ⟨z, H', I', rz, b, rfl, qb⟩ := hz
  exact thn (tru_ok (X := X) pins s' σ H' (.bl b) w' (fun k H'' => k = b ∧ H'' = H') I' rz ⟨b, rfl, rfl, rfl⟩) fun k s'' ⟨H'', I'', e1, e2⟩ => by
    subst e1 e2
    exact ⟨.bl (!k), H'', I'', rfl, qb⟩
/-- x op y, both instances; the class of x says op -/
def rCmpO (K : PySem.W.Frag) (C : Addr) (sp : Sp) (E : XK) : R2 := fun x y H Q => ∃ a dx fs b dy gs, x = .ref a ∧ y = .ref b ∧ H a = some (.ins C dx fs) ∧ H b = some (.ins C dy gs) ∧ PySem.W.notFirst K C (.ref C) = true ∧ sp [x, y] H Q E
theorem op_cmpO {op : CmpOp} (hop : ∀ a b, compareOp op a b = richCompare op a b) (hs : PySem.W.findIn X.K (.ref C) (cmpInfo op).2.1 = some (some (.ref g))) (hf : PySem.W.isFn X.K (.ref g) = true) (F : FnR X.prog X.w X.K X.mg X.base CX k g sp)
    (hr : Room k X.A) (hx : Passes CX X E) : OpR X (compareOp op) (rCmpO X.K C sp E) := by
  rintro pins s σ H x y v u Q I rx ry ⟨a, dx, fs, b, dy, gs, rfl, rfl, ha, hb, hn, q⟩
  cases (show v = Value.ref a from rx)
  cases (show u = Value.ref b from ry)
  obtain ⟨_, _, J, _⟩ := StX.insC_at I (.inr ⟨dx, fs, ha⟩)
  obtain ⟨_, _, J', _⟩ := StX.insC_at I (.inr ⟨dy, gs, hb⟩)
  obtain ⟨m, hF⟩ := I.fr
  rw [hop]
  refine PySem.W.cmp_K (op := op) (tb := .ref C) hr.units0 hF I.ok.mod.kin J J'.type hn hs hf (thn (wpAny_call (run_fnR (us := [.ref a, .ref b]) (vs := [.ref a, .ref b]) F hr hx I (.cons rfl (.cons rfl .nil)) q)) fun w' s' hz => ?_)
  obtain ⟨z, H', I', rz, qz⟩ := hz
  exact SlX.cmpback rz ⟨z, H', I', rz, qz⟩
end
end EB
namespace EB
open PySem PySem.Spec PyProof.Rows L2
section
variable {X : Cx} {CX : CXT} {k : Nat} {C g : Addr} {sp : Sp} {E : XK} {fe e : Expr} {es : List Expr} {tf : TE} {t : TA} {pos : Pos}
/-- o(e, ..), o an instance; its reading names no context -/
def tCallI (C : Addr) (sp : Sp) (E : XK) (tf : TE) (t : TA) : TE := fun σ H Q => tf σ H fun y H1 => ∃ a, y = V.ref a ∧ t σ H1 fun vs H2 => (∃ dx fs, H2 a = some (.ins C dx fs)) ∧ sp (V.ref a :: vs) H2 Q E
theorem pe_callI (hf : PE X fe tf) (c : StX.CallO X.K C g) (F : FnR X.prog X.w X.K X.mg X.base CX k g sp) (hr : Room k X.A) (hx : Passes CX X E) (ha : PA X (e :: es) t)
    (ht : eval (.Call fe (e :: es) [] pos) X.env = (do callWith pos (← eval fe X.env) [] (backTo pos (starEach (e :: es) X.env)) (backToKw pos (keywordEach [] X.env))) := by rfl)
    (hs : starEach (e :: es) X.env = (false, eval e X.env) :: starEach es X.env := by rfl) (hp : (backTo pos (starEach es X.env)).any (·.1) = false := by rfl) : PE X (.Call fe (e :: es) [] pos) (tCallI C sp E tf t) := by
  constructor
  intro pins s σ H Q I h
  refine Call_ (thn (hf.run pins s σ H _ I h) fun u s1 ⟨y, H1, I1, ry, a, ey, q⟩ => ?_) ht
  subst ey
  obtain rfl : u = Value.ref a := ry
  refine StX.callO_with (thn (ha.run pos pins s1 σ H1 _ I1 q) fun us s2 ⟨vs, H2, I2, r, hi, q2⟩ => ?_) hs hp
  obtain ⟨ox, od, J, hd⟩ := StX.insC_at I2 (.inr hi)
  exact ⟨⟨C, ox, od, J, hd⟩, StX.run_callO c F hr hx I2 (.inr hi) r q2⟩
end
end EB

namespace EB
/-! ### costs -/
structure CF (c : Nat → Int) (P B : Nat) : Prop where
  zero : c 0 = 0
  step : ∀ d, c (d + 1) ≤ c d + 1
  per : ∀ d, c (d + P) = c d + B
  ppos : 0 < P
  ten : ∀ d : Nat, (d : Int) ≤ 10 * c d
  sub : ∀ x y, c (x + y) ≤ c x + c y
namespace CF
variable {c : Nat → Int} {P B : Nat}
theorem bpos (h : CF c P B) : 0 < B := by
  have h1 := h.ten P
  have h2 := h.per 0
  have h3 := h.zero
  have h4 := h.ppos
  rw [Nat.zero_add, h3] at h2
  omega
theorem nonneg (h : CF c P B) (d : Nat) : 0 ≤ c d := by
  have := h.ten d
  omega
theorem le_self (h : CF c P B) : ∀ d : Nat, c d ≤ d
  | 0 => by rw [h.zero]; exact Int.le_refl _
  | d + 1 => by
    have h1 := h.le_self d
    have h2 := h.step d
    push_cast
    omega
theorem steps (h : CF c P B) (d : Nat) : ∀ k : Nat, c (d + k) ≤ c d + k
  | 0 => by simp
  | k + 1 => by
    have h1 := h.steps d k
    have h2 := h.step (d + k)
    rw [← Nat.add_assoc]
    push_cast
    omega
theorem perm (h : CF c P B) (d : Nat) : ∀ k : Nat, c (d + k * P) = c d + k * B
  | 0 => by simp
  | k + 1 => by
    have h1 := h.perm d k
    have h2 := h.per (d + k * P)
    rw [Nat.succ_mul, ← Nat.add_assoc, h2, h1]
    push_cast
    rw [Int.add_mul]
    omega
end CF
/-- the number of drinks of n bottles -/
def IsD (c : Nat → Int) (n d : Nat) : Prop := (n : Int) ≤ c d ∧ ∀ j, j < d → c j < n
theorem IsD.uniq {c : Nat → Int} {n d e : Nat} (h : IsD c n d) (g : IsD c n e) : d = e := by
  rcases Nat.lt_trichotomy d e with q | q | q
  · have := g.2 d q
    have := h.1
    omega
  · exact q
  · have := h.2 e q
    have := g.1
    omega
theorem least (p : Nat → Prop) [DecidablePred p] : ∀ n, p n → ∃ d, p d ∧ ∀ j, j < d → ¬ p j := by
  intro n
  induction n using Nat.strongRecOn with
  | ind n ih =>
    intro hn
    by_cases q : ∃ j, j < n ∧ p j
    · obtain ⟨j, hj, pj⟩ := q
      exact ih j hj pj
    · exact ⟨n, hn, fun j hj pj => q ⟨j, hj, pj⟩⟩
theorem CF.exD {c : Nat → Int} {P B : Nat} (h : CF c P B) (n : Nat) : ∃ d, IsD c n d := by
  have h1 : (n : Int) ≤ c (10 * n) := by
    have := h.ten (10 * n)
    push_cast at this
    omega
  obtain ⟨d, hd, hj⟩ := least (fun d => (n : Int) ≤ c d) (10 * n) h1
  exact ⟨d, hd, fun j q => by have := hj j q; omega⟩
open Classical in
noncomputable def D (c : Nat → Int) (n : Nat) : Nat := if h : ∃ d, IsD c n d then Classical.choose h else 0
/-- the greatest cost up to d -/
def T (c : Nat → Int) : Nat → Int
  | 0 => c 0
  | d + 1 => if c (d + 1) > T c d then c (d + 1) else T c d
namespace CF
variable {c : Nat → Int} {P B : Nat}
theorem D_is (h : CF c P B) (n : Nat) : IsD c n (D c n) := by
  have e := h.exD n
  unfold D
  rw [dif_pos e]
  exact Classical.choose_spec e
theorem D_eq (h : CF c P B) {n d : Nat} (g : IsD c n d) : D c n = d := (h.D_is n).uniq g
theorem D_cost (h : CF c P B) (n : Nat) : c (D c n) = n := by
  have g := h.D_is n
  cases e : D c n with
  | zero =>
    rw [e] at g
    have g1 := g.1
    rw [h.zero] at g1 ⊢
    omega
  | succ d =>
    rw [e] at g
    have g1 := g.1
    have g2 := g.2 d (Nat.lt_succ_self d)
    have g3 := h.step d
    omega
theorem D_zero (h : CF c P B) : D c 0 = 0 := h.D_eq ⟨by rw [h.zero]; exact Int.le_refl _, fun j q => absurd q (Nat.not_lt_zero j)⟩
theorem D_ge (h : CF c P B) (n : Nat) : n ≤ D c n := by
  have := h.D_cost n
  have := h.le_self (D c n)
  omega
theorem D_le_ten (h : CF c P B) (n : Nat) : D c n ≤ 10 * n := by
  have := h.D_cost n
  have := h.ten (D c n)
  omega
theorem D_lt (h : CF c P B) {n m : Nat} (q : n < m) : D c n < D c m := by
  have h1 := h.D_is n
  have h2 := h.D_cost m
  have h3 := h.D_cost n
  apply Nat.lt_of_not_le
  intro z
  rcases Nat.lt_or_eq_of_le z with z | z
  · have := h1.2 _ z
    omega
  · rw [z] at h2
    omega
theorem D_mono (h : CF c P B) {n m : Nat} (q : n ≤ m) : D c n ≤ D c m := by
  rcases Nat.lt_or_eq_of_le q with q | q
  · exact Nat.le_of_lt (h.D_lt q)
  · rw [q]; exact Nat.le_refl _
theorem D_super (h : CF c P B) (a b : Nat) : D c a + D c b ≤ D c (a + b) := by
  apply Nat.le_of_not_lt
  intro q
  have ca := h.D_cost a
  have cb := h.D_cost b
  have cab := h.D_cost (a + b)
  have ha := h.D_is a
  have hb := h.D_is b
  by_cases z : D c (a + b) < D c a
  · have := ha.2 _ z
    push_cast at cab
    omega
  · cases e : D c a with
    | zero =>
      rw [e] at ca q
      rw [h.zero] at ca
      have : a = 0 := by omega
      rw [this, Nat.zero_add, Nat.zero_add] at q
      exact Nat.lt_irrefl _ q
    | succ x =>
      rw [e] at q z ha
      have hx := ha.2 x (Nat.lt_succ_self x)
      obtain ⟨y, hy⟩ : ∃ y, D c (a + b) = x + y := ⟨D c (a + b) - x, by omega⟩
      have hs := h.sub x y
      rw [hy] at cab q
      push_cast at cab
      rcases Nat.lt_or_ge y (D c b) with w | w
      · have := hb.2 y w
        omega
      · have : y = D c b := by omega
        rw [this, cb] at hs
        rw [this] at cab
        omega
/-! ### the greatest cost -/
theorem T_ge (c : Nat → Int) : ∀ {d j : Nat}, j ≤ d → c j ≤ T c d
  | 0, j, q => by
    have : j = 0 := by omega
    rw [this]
    exact Int.le_refl _
  | d + 1, j, q => by
    unfold T
    rcases Nat.lt_or_eq_of_le q with q | q
    · have := T_ge c (d := d) (j := j) (by omega)
      split <;> omega
    · rw [q]
      split <;> omega
theorem T_at (c : Nat → Int) : ∀ d : Nat, ∃ j, j ≤ d ∧ T c d = c j
  | 0 => ⟨0, Nat.le_refl _, rfl⟩
  | d + 1 => by
    unfold T
    split
    · exact ⟨d + 1, Nat.le_refl _, rfl⟩
    · obtain ⟨j, q, e⟩ := T_at c d
      exact ⟨j, by omega, e⟩
theorem T_mono (c : Nat → Int) {d e : Nat} (q : d ≤ e) : T c d ≤ T c e := by
  obtain ⟨j, hj, ej⟩ := T_at c d
  rw [ej]
  exact T_ge c (by omega)
theorem T_eq (c : Nat → Int) {d : Nat} {t : Int} (h1 : ∃ j, j ≤ d ∧ c j = t) (h2 : ∀ j, j ≤ d → c j ≤ t) : T c d = t := by
  obtain ⟨j, hj, ej⟩ := h1
  obtain ⟨i, hi, ei⟩ := T_at c d
  have := T_ge c hj
  have := h2 i hi
  omega
theorem T_nonneg (h : CF c P B) (d : Nat) : 0 ≤ T c d := by
  have := T_ge c (Nat.zero_le d)
  rw [h.zero] at this
  exact this
theorem T_step (h : CF c P B) (d : Nat) : T c (d + 1) ≤ T c d + 1 := by
  show (if c (d + 1) > T c d then c (d + 1) else T c d) ≤ T c d + 1
  have := T_ge c (Nat.le_refl d)
  have := h.step d
  split <;> omega
/-- n bottles give at most d drinks just if n is at most the greatest cost up to d -/
theorem D_le_iff (h : CF c P B) {n d : Nat} : D c n ≤ d ↔ (n : Int) ≤ T c d := by
  constructor
  · intro q
    have := T_ge c q
    rw [h.D_cost] at this
    exact this
  · intro q
    obtain ⟨j, hj, ej⟩ := T_at c d
    apply Nat.le_of_not_lt
    intro z
    have := (h.D_is n).2 j (by omega)
    omega
theorem T_per (h : CF c P B) {d : Nat} (q : P ≤ d + 1) : T c (d + P) = T c d + B := by
  refine T_eq c ?_ ?_
  · obtain ⟨j, hj, ej⟩ := T_at c d
    exact ⟨j + P, by omega, by rw [h.per, ej]⟩
  · intro j hj
    rcases Nat.lt_or_ge j P with z | z
    · have := T_ge c (d := d) (j := j) (by omega)
      omega
    · obtain ⟨i, rfl⟩ : ∃ i, j = i + P := ⟨j - P, by omega⟩
      rw [h.per]
      have := T_ge c (d := d) (j := i) (by omega)
      omega
theorem T_perk (h : CF c P B) {d : Nat} (q : P ≤ d + 1) : ∀ k : Nat, T c (d + k * P) = T c d + k * B
  | 0 => by simp
  | k + 1 => by
    have h1 := h.T_perk q k
    have h2 := h.T_per (d := d + k * P) (by omega)
    rw [Nat.succ_mul, ← Nat.add_assoc, h2, h1]
    push_cast
    rw [Int.add_mul]
    omega
/-- from T (P - 1) + 1 - B on, drinks repeat -/
theorem D_per (h : CF c P B) {n : Nat} (q : T c (P - 1) < n + B) : D c (n + B) = D c n + P := by
  refine h.D_eq ⟨?_, fun j hj => ?_⟩
  · rw [h.per, h.D_cost]
    push_cast
    exact Int.le_refl _
  · rcases Nat.lt_or_ge j P with z | z
    · have := T_ge c (d := P - 1) (j := j) (by omega)
      push_cast
      omega
    · obtain ⟨i, rfl⟩ : ∃ i, j = i + P := ⟨j - P, by omega⟩
      rw [h.per]
      have := (h.D_is n).2 i (by omega)
      push_cast
      omega
theorem D_perk (h : CF c P B) {n : Nat} (q : T c (P - 1) < n + B) : ∀ k : Nat, D c (n + k * B) = D c n + k * P
  | 0 => by simp
  | k + 1 => by
    have h1 := h.D_perk q k
    have h2 := h.D_per (n := n + k * B) (by push_cast; have : (0:Int) ≤ (k : Int) * B := Int.mul_nonneg (Int.natCast_nonneg _) (Int.natCast_nonneg _); omega)
    rw [Nat.succ_mul, ← Nat.add_assoc, h2, h1, Nat.succ_mul, Nat.add_assoc]
theorem D_per_not (h : CF c P B) {n : Nat} (q : (n : Int) + B ≤ T c (P - 1)) : D c (n + B) < D c n + P := by
  have := (h.D_le_iff (n := n + B) (d := P - 1)).mpr (by push_cast; exact q)
  have := h.ppos
  omega
end CF
end EB

/-! list(zip(a, b)) of two lists -/
namespace EBZ
open PySem PySem.Spec PyProof.Rows L2
abbrev IsZipO (h : Heap) (z TI TO a : Addr) (f : Bool) : Prop :=
  h.get? z = some { cls := .type "zip", dict := none, data := .fields #[rawInt a, .bool f, .bool false, .ref TI, .ref TO], slots := #[] }
section
variable {prog : Program} {w : World} {A : Around} {E : Value → Shared → Prop} {s : Shared}
theorem free_false {z TI TO a : Addr} {f : Bool} (hz : IsZipO s.heap z TI TO a f) (G : Bool → Shared → Prop) (hm : ∀ h₁ : Heap, IsZipO h₁ z TI TO a true → Heap.SameBut z s.heap h₁ → G false { s with heap := h₁ }) :
      wpAny (model prog w) A (if (Value.bool f != Value.bool true) = true then do
        setField (Value.ref z) 1 (Value.bool true)
        pure false
      else pure false) G E s := by
    cases f with
    | false =>
      rw [if_pos (show (Value.bool false != Value.bool true) = true from rfl)]
      refine wpAny_bind (wpAny_setField_rec hz (by simp) fun h₁ hz₁ hs₁ => wpAny_pure (hm h₁ hz₁ hs₁))
    | true =>
      rw [if_neg (show ¬ ((Value.bool true != Value.bool true) = true) from Bool.false_ne_true)]
      exact wpAny_pure (hm s.heap hz (Heap.SameBut.refl _ _))
theorem zipO_next_item {z TI TO i1 i2 l1 l2 a : Addr} {f : Bool} {oa : Obj} {k1 k2 : Nat} {xs ys : Array Value} {x y : Value} {Q : Value → Shared → Prop} (D : ZipApart z TI TO i1 i2 l1 l2)
    (hz : IsZipO s.heap z TI TO a f) (ha : s.heap.get? a = some oa) (hTI : IsPair s.heap TI (.ref i1) (.ref i2))
    (h1 : s.heap.IsListIter i1 l1 k1) (h2 : s.heap.IsListIter i2 l2 k2) (hl1 : s.heap.IsList l1 xs) (hl2 : s.heap.IsList l2 ys) (hx : xs[k1]? = some x) (hy : ys[k2]? = some y)
    (hQ : ∀ h', IsZipO h' z TI TO a true → h'.IsListIter i1 l1 (k1 + 1) → h'.IsListIter i2 l2 (k2 + 1) → IsPair h' s.heap.objs.size x y → h'.objs.size = s.heap.objs.size + 1 →
      (∀ c o, c ≠ z → c ≠ i1 → c ≠ i2 → s.heap.get? c = some o → h'.get? c = some o) → Q (.ref s.heap.objs.size) { s with heap := h' }) :
    wpAny (model prog w) A (Builtin.«zip.__next__» ⟨[.ref z], []⟩) (fun fin s' => ∃ v, fin = .done (.ret v) ∧ Q v s') E s := by
  show wpAny _ _ (field (.ref z) 2 >>= _) _ _ _
  refine wpAny_bind (wpAny_field hz rfl (x := .bool false) rfl ?_)
  show wpAny _ _ (field (.ref z) 3 >>= _) _ _ _
  refine wpAny_bind (wpAny_field hz rfl (x := .ref TI) rfl ?_)
  refine wpAny_bind (wpAny_seqItems hTI rfl ?_)
  show wpAny _ _ (Builtin.SmallTypes.ownedTupleIsFree (.ref z) >>= _) _ _ _
  refine wpAny_bind ?_
  unfold Builtin.SmallTypes.ownedTupleIsFree
  refine wpAny_bind (wpAny_field hz rfl (x := rawInt a) rfl ?_)
  show wpAny _ _ (loadIfAlive ((a : Int).toNat) >>= _) _ _ _
  rw [Int.toNat_natCast]
  refine wpAny_bind (PySem.W.kdx_alive ha ?_)
  simp only [Option.isNone_some, Bool.false_eq_true, if_false]
  refine wpAny_bind (wpAny_field hz rfl (x := .bool f) rfl ?_)
  refine free_false hz _ fun h₁ hz₁ hs₁ => ?_
  simp only [Bool.false_eq_true, if_false]
  rw [← Array.forIn_toList]
  simp only [List.forIn_cons, List.forIn_nil]
  refine wpAny_bind (wpAny_bind (wpAny_bind (wpAny_holding ?_)))
  show wpAny _ _ (Builtin.SmallTypes.nextOf (.ref i1) >>= _) _ _ _
  refine wpAny_bind (wpAny_nextOf_list_item (h1.extBut hs₁.extBut D.i1z) (hl1.extBut hs₁.extBut D.l1z) hx fun h₂ h1₂ hs₂ => wpAny_pure ?_)
  refine wpAny_pure ?_
  refine wpAny_bind (wpAny_bind (wpAny_holding ?_))
  show wpAny _ _ (Builtin.SmallTypes.nextOf (.ref i2) >>= _) _ _ _
  refine wpAny_bind (wpAny_nextOf_list_item ((h2.extBut hs₁.extBut D.i2z).extBut hs₂.extBut D.i12.symm)
    ((hl2.extBut hs₁.extBut D.l2z).extBut hs₂.extBut D.l2i1) hy fun h₄ h2₄ hs₄ => wpAny_pure ?_)
  refine wpAny_pure (wpAny_pure ?_)
  dsimp only at hs₁ hs₂ hs₄ ⊢
  refine wpAny_bind (wpAny_newTuple (hsz := show 2 ≤ sizeLine by decide) ?_)
  have hsz : h₄.objs.size = s.heap.objs.size := by rw [hs₄.1, hs₂.1, hs₁.1]
  have hk : ∀ c o, c ≠ z → c ≠ i1 → c ≠ i2 → s.heap.get? c = some o → h₄.get? c = some o := fun c o c1 c3 c4 e => hs₄.extBut _ _ c4 (hs₂.extBut _ _ c3 (hs₁.extBut _ _ c1 e))
  have hz₄ : IsZipO h₄ z TI TO a true := hs₄.extBut _ _ D.i2z.symm (hs₂.extBut _ _ D.i1z.symm hz₁)
  have h1₄ := h1₂.extBut hs₄.extBut D.i12
  refine wpAny_pure ⟨_, rfl, ?_⟩
  rw [hsz]
  refine hQ _ (Heap.get?_push_of_some _ hz₄) (h1₄.at fun o e => Heap.get?_push_of_some _ e) (h2₄.at fun o e => Heap.get?_push_of_some _ e) ?_ ?_ fun c o c1 c2 c3 e => Heap.get?_push_of_some _ (hk c o c1 c2 c3 e)
  · have e : IsPair (h₄.push { cls := .type "tuple", data := .seq #[x, y] }) h₄.objs.size x y := Heap.get?_push_size _ rfl
    rw [hsz] at e
    exact e
  · rw [Heap.size_push, hsz]
theorem zipO_next_end {z TI TO i1 i2 l1 l2 a : Addr} {f : Bool} {oa : Obj} {k1 : Nat} {xs : Array Value} {Q : PySem.Fin → Shared → Prop} (hh : A.handled = none) (D : ZipApart z TI TO i1 i2 l1 l2)
    (hz : IsZipO s.heap z TI TO a f) (ha : s.heap.get? a = some oa) (hTI : IsPair s.heap TI (.ref i1) (.ref i2))
    (h1 : s.heap.IsListIter i1 l1 k1) (hl1 : s.heap.IsList l1 xs) (hx : xs[k1]? = none)
    (hE : ∀ h' e, (∀ c o, c ≠ z → c ≠ i1 → s.heap.get? c = some o → h'.get? c = some o) → (∃ o, h'.get? e = some o ∧ o.cls = .type "StopIteration") → E (.ref e) { s with heap := h' }) :
    wpAny (model prog w) A (Builtin.«zip.__next__» ⟨[.ref z], []⟩) Q E s := by
  show wpAny _ _ (field (.ref z) 2 >>= _) _ _ _
  refine wpAny_bind (wpAny_field hz rfl (x := .bool false) rfl ?_)
  show wpAny _ _ (field (.ref z) 3 >>= _) _ _ _
  refine wpAny_bind (wpAny_field hz rfl (x := .ref TI) rfl ?_)
  refine wpAny_bind (wpAny_seqItems hTI rfl ?_)
  show wpAny _ _ (Builtin.SmallTypes.ownedTupleIsFree (.ref z) >>= _) _ _ _
  refine wpAny_bind ?_
  unfold Builtin.SmallTypes.ownedTupleIsFree
  refine wpAny_bind (wpAny_field hz rfl (x := rawInt a) rfl ?_)
  show wpAny _ _ (loadIfAlive ((a : Int).toNat) >>= _) _ _ _
  rw [Int.toNat_natCast]
  refine wpAny_bind (PySem.W.kdx_alive ha ?_)
  simp only [Option.isNone_some, Bool.false_eq_true, if_false]
  refine wpAny_bind (wpAny_field hz rfl (x := .bool f) rfl ?_)
  refine free_false hz _ fun h₁ hz₁ hs₁ => ?_
  simp only [Bool.false_eq_true, if_false]
  rw [← Array.forIn_toList]
  simp only [List.forIn_cons, List.forIn_nil]
  refine wpAny_bind (wpAny_bind (wpAny_bind (wpAny_holding ?_)))
  show wpAny _ _ (Builtin.SmallTypes.nextOf (.ref i1) >>= _) _ _ _
  refine wpAny_bind (wpAny_nextOf_list_end hh (h1.extBut hs₁.extBut D.i1z) (hl1.extBut hs₁.extBut D.l1z) hx fun h₂ e hs₂ he => ?_)
  exact hE h₂ e (fun c o c1 c3 x => hs₂ _ _ c3 (hs₁.extBut _ _ c1 x)) he
/-- the zip between two turns of the list that takes its pairs -/
structure ZSt (h : Heap) (z TI TO i1 i2 l1 l2 S : Addr) (i : Nat) : Prop where
  ti : IsPair h TI (.ref i1) (.ref i2)
  a1 : h.IsListIter i1 l1 i
  a2 : h.IsListIter i2 l2 i
  st : (IsZip h z TI TO .none ∧ ∃ x y, IsPair h TO x y) ∨ ∃ a f oa, IsZipO h z TI TO a f ∧ h.get? a = some oa ∧ a ≠ z ∧ a ≠ i1 ∧ a ≠ i2 ∧ a ≠ S
theorem z_item {z TI TO i1 i2 l1 l2 S : Addr} {i : Nat} {xs ys : Array Value} {x y : Value} {Q : Option Value → Shared → Prop} (D : ZipApart z TI TO i1 i2 l1 l2)
    (st : ZSt s.heap z TI TO i1 i2 l1 l2 S i) (hS : S < s.heap.objs.size) (hl1 : s.heap.IsList l1 xs) (hl2 : s.heap.IsList l2 ys) (hx : xs[i]? = some x) (hy : ys[i]? = some y)
    (hQ : ∀ h', ZSt h' z TI TO i1 i2 l1 l2 S (i + 1) → IsPair h' s.heap.objs.size x y → h'.objs.size = s.heap.objs.size + 1 →
      (∀ c o, c ≠ z → c ≠ TO → c ≠ i1 → c ≠ i2 → s.heap.get? c = some o → h'.get? c = some o) → Q (some (.ref s.heap.objs.size)) { s with heap := h' }) :
    wpAny (model prog w) A (pyNext (.ref z)) Q E s := by
  obtain ⟨ti, a1, a2, ⟨hz, x0, y0, hTO⟩ | ⟨a, f, oa, hz, ha, b1, b2, b3, b4⟩⟩ := st
  · refine wpAny_pyNext_zip_item D hz ti hTO a1 a2 hl1 hl2 hx hy fun h' c1 c2 c3 c4 c5 c6 c7 => hQ h' ⟨c7 _ _ D.TIz D.TITO D.TIi1 D.TIi2 ti, c3, c4, .inr ⟨_, false, _, c1, c5, Nat.ne_of_gt (Heap.lt_size hz), ?_, ?_, Nat.ne_of_gt hS⟩⟩ c5 c6 c7
    · obtain ⟨_, e, _⟩ := a1
      exact Nat.ne_of_gt (Heap.lt_size e)
    · obtain ⟨_, e, _⟩ := a2
      exact Nat.ne_of_gt (Heap.lt_size e)
  · have hT : s.TypeIs (.ref z) "zip" := ⟨_, hz, rfl⟩
    unfold pyNext
    refine wpAny_bind (wpAny_attempt (wpAny_callSpecial?_slot (name := Str.ofString "__next__") hT F.slot_zip_next (wpAny_call_entry F.slot_zip_next hT F.entry_zip_next
      (zipO_next_item D hz ha ti a1 a2 hl1 hl2 hx hy fun h' c1 c3 c4 c5 c6 c7 => wpAny_pure ?_) (F.args_zip_next_1 _))))
    exact hQ h' ⟨c7 _ _ D.TIz D.TIi1 D.TIi2 ti, c3, c4, .inr ⟨a, true, _, c1, c7 _ _ b1 b2 b3 ha, b1, b2, b3, b4⟩⟩ c5 c6 fun c o d1 _ d3 d4 e => c7 c o d1 d3 d4 e
theorem z_done {z TI TO i1 i2 l1 l2 S : Addr} {i : Nat} {xs ys : Array Value} {Q : Option Value → Shared → Prop} (hh : A.handled = none) (D : ZipApart z TI TO i1 i2 l1 l2)
    (st : ZSt s.heap z TI TO i1 i2 l1 l2 S i) (hl1 : s.heap.IsList l1 xs) (hl2 : s.heap.IsList l2 ys) (hx : xs[i]? = none)
    (hQ : ∀ h', (∀ c o, c ≠ z → c ≠ TO → c ≠ i1 → c ≠ i2 → s.heap.get? c = some o → h'.get? c = some o) → Q none { s with heap := h' }) :
    wpAny (model prog w) A (pyNext (.ref z)) Q E s := by
  obtain ⟨ti, a1, a2, ⟨hz, x0, y0, hTO⟩ | ⟨a, f, oa, hz, ha, b1, b2, b3, b4⟩⟩ := st
  · exact wpAny_pyNext_zip_end hh D hz ti hTO a1 a2 hl1 hl2 (.inl hx) hQ
  · have hT : s.TypeIs (.ref z) "zip" := ⟨_, hz, rfl⟩
    unfold pyNext
    refine wpAny_bind (wpAny_attempt (wpAny_callSpecial?_slot (name := Str.ofString "__next__") hT F.slot_zip_next (wpAny_call_entry F.slot_zip_next hT F.entry_zip_next
      (zipO_next_end hh D hz ha ti a1 hl1 hx fun h' e hk he => ?_) (F.args_zip_next_1 _))))
    obtain ⟨o, ho, hc⟩ := he
    refine wpAny_bind (wpAny_isInstance (T := "StopIteration") (b := true) ⟨o, ho, hc⟩ isSubtype_stop ?_)
    exact wpAny_pure (hQ _ fun c o d1 _ d3 _ e => hk c o d1 d3 e)
/-- the pairs that were taken, in their order -/
structure ZG (xs ys : Array Value) (lo : Addr) (h : Heap) (as : List Addr) : Prop where
  rise : as.Pairwise (· < ·)
  above : ∀ a ∈ as, lo < a
  prs : ∀ (j : Nat) (a : Addr), as[j]? = some a → ∃ u v, xs[j]? = some u ∧ ys[j]? = some v ∧ IsPair h a u v
theorem ZG.there {xs ys : Array Value} {lo : Addr} {h : Heap} {as : List Addr} (g : ZG xs ys lo h as) {a : Addr} (ha : a ∈ as) : a < h.objs.size := by
  obtain ⟨j, hj⟩ := List.mem_iff_getElem?.mp ha
  obtain ⟨_, _, _, _, e⟩ := g.prs j a hj
  exact Heap.lt_size e
end
theorem zip_no_len : typeLookup (.type "zip") "__len__" = pure none := by rw [typeLookup_type, builtinLookup_eq_fast]; kernel_rfl
theorem zip_no_hint : typeLookup (.type "zip") "__length_hint__" = pure none := by rw [typeLookup_type, builtinLookup_eq_fast]; kernel_rfl
section
variable {prog : Program} {w : World} {A : Around} {s : Shared} {R : Result → Shared → Prop} {xs ys : Array Value}
theorem z_loop {z TI TO i1 i2 l1 l2 S : Addr} (hh : A.handled = none) (D : ZipApart z TI TO i1 i2 l1 l2) (hn : xs.size ≤ sizeLine) (hxy : xs.size = ys.size) (res : Value) {h₁ : Heap}
    (nS : S ≠ z ∧ S ≠ TI ∧ S ≠ TO ∧ S ≠ i1 ∧ S ≠ i2 ∧ S ≠ l1 ∧ S ≠ l2) (lo : z < S ∧ TO < S ∧ i1 < S ∧ i2 < S)
    (hR : ∀ h' tk acc c as, (∀ b o, b ≠ S → b ≠ z → b ≠ TO → b ≠ i1 → b ≠ i2 → h₁.get? b = some o → h'.get? b = some o) → h'.get? S = some { cls := .type "list", dict := none, data := .seq acc c, slots := #[] } → as.length = xs.size → ZG xs ys S h' as →
      acc.toList = as.map Value.ref → R (.ok (.ret res)) { s with heap := h', toks := tk }) :
    ∀ (k i : Nat) (h : Heap) (tk c : Nat) (acc : Array Value) (as : List Addr), xs.size - i = k → i ≤ xs.size → ZSt h z TI TO i1 i2 l1 l2 S i → h.IsList l1 xs → h.IsList l2 ys →
      (∀ b o, b ≠ S → b ≠ z → b ≠ TO → b ≠ i1 → b ≠ i2 → h₁.get? b = some o → h.get? b = some o) →
      h.get? S = some { cls := .type "list", dict := none, data := .seq acc c, slots := #[] } → acc.toList = as.map Value.ref → as.length = i → ZG xs ys S h as →
      codeAny (model prog w) A (.builtin "list.extend.loop" ⟨[.ref S, .ref z, res], []⟩) R { s with heap := h, toks := tk } := by
  obtain ⟨n1, n2, n3, n4, n5, n6, n7⟩ := nS
  obtain ⟨g1, g2, g3, g4⟩ := lo
  intro k
  induction k with
  | zero =>
    intro i h tk c acc as hk hi st hl1 hl2 hkeep hS hacc hal hG
    refine codeAny_builtin PySem.F.entry_extend_loop ?_
    rw [Around.under_plainId PySem.F.plain_extend_loop _]
    show wpAny _ A.in1 (pyNext (.ref z) >>= _) _ _ _
    refine wpAny_bind (z_done (s := { s with heap := h, toks := tk }) (A := A.in1) hh D st hl1 hl2 (by rw [Array.getElem?_eq_none]; omega) fun h' he => ?_)
    refine wpAny_pure (hR h' tk acc c as (fun b o e0 e1 e2 e3 e4 e => he b o e1 e2 e3 e4 (hkeep b o e0 e1 e2 e3 e4 e)) (he S _ n1 n3 n4 n5 hS) (by omega) ⟨hG.rise, hG.above, fun j a hj => ?_⟩ hacc)
    obtain ⟨u, v, e1, e2, e3⟩ := hG.prs j a hj
    have hb := hG.above a (List.mem_of_getElem? hj)
    exact ⟨u, v, e1, e2, he a _ (Nat.ne_of_gt (Nat.lt_trans g1 hb)) (Nat.ne_of_gt (Nat.lt_trans g2 hb)) (Nat.ne_of_gt (Nat.lt_trans g3 hb)) (Nat.ne_of_gt (Nat.lt_trans g4 hb)) e3⟩
  | succ k ih =>
    intro i h tk c acc as hk hi st hl1 hl2 hkeep hS hacc hal hG
    have hlt : i < xs.size := by omega
    have hsz : acc.size = i := by rw [← Array.length_toList, hacc, List.length_map, hal]
    have hSl : S < h.objs.size := Heap.lt_size hS
    refine codeAny_builtin PySem.F.entry_extend_loop ?_
    rw [Around.under_plainId PySem.F.plain_extend_loop _]
    show wpAny _ A.in1 (pyNext (.ref z) >>= _) _ _ _
    refine wpAny_bind (z_item (s := { s with heap := h, toks := tk }) (S := S) D st hSl hl1 hl2 (Array.getElem?_eq_getElem hlt) (Array.getElem?_eq_getElem (by omega)) fun h' st' ht hz hkp => ?_)
    dsimp only at ht hz hkp ⊢
    have hS' := hkp S _ n1 n3 n4 n5 hS
    have up : ∀ b o, b ≠ S → h'.get? b = some o → (h'.update S (Obj.mapSeq (·.push (Value.ref h.objs.size)))).get? b = some o := fun b o hb e => (Heap.get?_update_other _ _ (Ne.symm hb)).trans e
    show wpAny _ A.in1 (updateSeq S (·.push (Value.ref h.objs.size)) >>= _) _ _ _
    refine wpAny_bind ?_
    refine wpAny_updateSeq hS' rfl (wpAny_pure ⟨plainId_quiet PySem.F.plain_extend_loop _, ih (i + 1) _ tk _ (acc.push (Value.ref h.objs.size)) (as ++ [h.objs.size]) (by omega) hlt ?_ (hl1.at fun o e => up l1 o n6.symm (hkp l1 o D.l1z D.l1TO D.l1i1 D.l1i2 e)) (hl2.at fun o e => up l2 o n7.symm (hkp l2 o D.l2z D.l2TO D.l2i1 D.l2i2 e))
      (fun b o e0 e1 e2 e3 e4 e => up b o e0 (hkp b o e1 e2 e3 e4 (hkeep b o e0 e1 e2 e3 e4 e))) (Heap.get?_update_self _ hS' rfl) (by rw [Array.toList_push, hacc, List.map_append]; rfl) (by rw [List.length_append, hal]; rfl) ⟨?_, ?_, ?_⟩⟩) (by rw [hsz]; omega) (by show (acc.push (Value.ref h.objs.size)).size ≤ sizeLine + 1; rw [Array.size_push, hsz]; omega)
    · obtain ⟨ti, b1, b2, ⟨hz, x0, y0, hTO⟩ | ⟨a, f, oa, hz, ha, b5, b6, b7, b8⟩⟩ := st'
      · exact ⟨up _ _ n2.symm ti, b1.at fun o e => up _ o n4.symm e, b2.at fun o e => up _ o n5.symm e, .inl ⟨up _ _ n1.symm hz, x0, y0, up _ _ n3.symm hTO⟩⟩
      · exact ⟨up _ _ n2.symm ti, b1.at fun o e => up _ o n4.symm e, b2.at fun o e => up _ o n5.symm e, .inr ⟨a, f, oa, up _ _ n1.symm hz, up _ _ b8 ha, b5, b6, b7, b8⟩⟩
    · refine List.pairwise_append.mpr ⟨hG.rise, List.pairwise_singleton _ _, fun a ha b hb => ?_⟩
      rw [List.mem_singleton.mp hb]
      exact hG.there ha
    · intro a ha
      rcases List.mem_append.mp ha with ha | ha
      · exact hG.above a ha
      · rw [List.mem_singleton.mp ha]; exact hSl
    · intro j b hj
      rcases Nat.lt_trichotomy j as.length with q | q | q
      · rw [List.getElem?_append_left q] at hj
        obtain ⟨u, v, e1, e2, e3⟩ := hG.prs j b hj
        have hb := hG.above b (List.mem_of_getElem? hj)
        exact ⟨u, v, e1, e2, up b _ (Nat.ne_of_gt hb) (hkp b _ (Nat.ne_of_gt (Nat.lt_trans g1 hb)) (Nat.ne_of_gt (Nat.lt_trans g2 hb)) (Nat.ne_of_gt (Nat.lt_trans g3 hb)) (Nat.ne_of_gt (Nat.lt_trans g4 hb)) e3)⟩
      · subst q
        have hb : h.objs.size = b := by simpa using hj
        subst hb
        exact ⟨_, _, by rw [hal]; exact Array.getElem?_eq_getElem hlt, by rw [hal]; exact Array.getElem?_eq_getElem (by omega), up _ _ (Nat.ne_of_gt hSl) ht⟩
      · have hnone : (as ++ [h.objs.size])[j]? = none := List.getElem?_eq_none (by rw [List.length_append, List.length_singleton]; omega)
        rw [hnone] at hj; cases hj
end
section
variable {prog : Program} {w : World} {A : Around} {E : Value → Shared → Prop} {s : Shared} {xs ys : Array Value}
/-- list(z) of a zip that has not begun -/
theorem z_call {z TI TO i1 i2 l1 l2 : Addr} {Q : Value → Shared → Prop} (hh : A.handled = none) (D : ZipApart z TI TO i1 i2 l1 l2) (hn : xs.size ≤ sizeLine) (hxy : xs.size = ys.size)
    (hz : IsZip s.heap z TI TO .none) (hTI : IsPair s.heap TI (.ref i1) (.ref i2)) (hTO : ∃ x y, IsPair s.heap TO x y) (h1 : s.heap.IsListIter i1 l1 0) (h2 : s.heap.IsListIter i2 l2 0) (hl1 : s.heap.IsList l1 xs) (hl2 : s.heap.IsList l2 ys)
    (hQ : ∀ h' tk acc c as, (∀ b o, b ≠ z → b ≠ TO → b ≠ i1 → b ≠ i2 → s.heap.get? b = some o → h'.get? b = some o) → h'.get? s.heap.objs.size = some { cls := .type "list", dict := none, data := .seq acc c, slots := #[] } → as.length = xs.size → ZG xs ys s.heap.objs.size h' as →
      acc.toList = as.map Value.ref → Q (.ref s.heap.objs.size) { s with heap := h', toks := tk }) :
    wpAny (model prog w) A (call (.type "list") [.ref z]) Q E s := by
  obtain ⟨x0, y0, hTO⟩ := hTO
  have lz : z < s.heap.objs.size := Heap.lt_size hz
  have lTI : TI < s.heap.objs.size := Heap.lt_size hTI
  have lTO : TO < s.heap.objs.size := Heap.lt_size hTO
  have li1 : i1 < s.heap.objs.size := by
    obtain ⟨_, e, _⟩ := h1
    exact Heap.lt_size e
  have li2 : i2 < s.heap.objs.size := by
    obtain ⟨_, e, _⟩ := h2
    exact Heap.lt_size e
  have ll1 : l1 < s.heap.objs.size := by
    obtain ⟨_, e, _⟩ := hl1
    exact Heap.lt_size e
  have ll2 : l2 < s.heap.objs.size := by
    obtain ⟨_, e, _⟩ := hl2
    exact Heap.lt_size e
  refine callType_codes (Q₁ := fun obj s₁ => obj = .ref s.heap.objs.size ∧ s₁ = { s with heap := s.heap.push { cls := .type "list", data := .seq #[] } }) PySem.F.called_list (PySem.F.typeCall_list_1 _) PySem.F.entry_list_init
    (code_list_new _ ⟨rfl, rfl⟩) fun obj s₁ h₁ => ?_
  obtain ⟨rfl, rfl⟩ := h₁
  have hS : (s.heap.push { cls := .type "list", data := .seq #[] }).get? s.heap.objs.size = some { cls := .type "list", data := .seq #[] } := Heap.get?_push_size _ rfl
  refine ⟨⟨_, hS, rfl⟩, PySem.F.args_list_init_2 _ _, ?_⟩
  show wpAny _ A.in1.in1 (do let old ← Builtin.List.listItems (.ref s.heap.objs.size); Builtin.List.listUpdate (.ref s.heap.objs.size) (fun _ => #[]); letGo old.toList.reverse; Builtin.List.listExtendWith (.ref s.heap.objs.size) (.ref z) .none) _ _ _
  refine wpAny_bind ?_
  unfold Builtin.List.listItems
  refine wpAny_bind (wpAny_seqItems hS rfl (wpAny_pure ?_))
  show wpAny _ A.in1.in1 (updateSeq s.heap.objs.size (fun _ => #[]) >>= fun _ => letGo (#[] : Array Value).toList.reverse >>= fun _ => Builtin.List.listExtendWith (.ref s.heap.objs.size) (.ref z) .none) _ _ _
  refine wpAny_bind (wpAny_updateSeq hS rfl ?_)
  have hS2 := Heap.get?_update_self (Obj.mapSeq (fun _ => (#[] : Array Value))) hS rfl
  refine wpAny_bind (wpAny_letGo ?_)
  unfold Builtin.List.listExtendWith
  have up : ∀ (h : Heap) (f : Obj → Obj), (∀ b o, s.heap.get? b = some o → h.get? b = some o) → ∀ b o, s.heap.get? b = some o → (h.update s.heap.objs.size f).get? b = some o := fun h f q b o e =>
    (Heap.get?_update_other _ _ (Ne.symm (Nat.ne_of_lt (Heap.lt_size e)))).trans (q b o e)
  have k1 : ∀ b o, s.heap.get? b = some o → (s.heap.push { cls := .type "list", data := .seq #[] }).get? b = some o := fun b o e => Heap.get?_push_of_some _ e
  have k2 := up _ (Obj.mapSeq (fun _ => (#[] : Array Value))) k1
  have zty : ∀ {h : Heap}, (∀ b o, s.heap.get? b = some o → h.get? b = some o) → Shared.TypeIs { s with heap := h } (.ref z) "zip" := fun {h} q => ⟨_, q _ _ hz, rfl⟩
  refine wpAny_bind (wpAny_typeOf (zty k2) ?_)
  have q1 : Builtin.List.listSameRef (.ref s.heap.objs.size) (.ref z) = false := by simp [Builtin.List.listSameRef, Nat.ne_of_gt lz]
  have q2 : (Value.type "zip" == Value.type "list") = false := by decide
  have q3 : (Value.type "zip" == Value.type "tuple") = false := by decide
  simp only [q1, q2, q3, Bool.or_false, Bool.false_eq_true, if_false]
  refine wpAny_bind (wpAny_pyIter_zip (s := { s with heap := _ }) (k2 _ _ hz) ?_)
  refine wpAny_bind (wpAny_holding ?_)
  unfold Builtin.List.listLengthHint
  refine wpAny_bind (wpAny_specialOf (zty k2) zip_no_len ?_)
  show wpAny _ A.in1.in1 (specialOf (Value.ref z) (Str.ofString "__length_hint__") >>= _) _ _ _
  refine wpAny_bind (wpAny_specialOf (zty k2) zip_no_hint ?_)
  refine wpAny_pure ?_
  refine wpAny_ite_split (fun _ => ?_) (fun q => absurd (Bool.true_or _) q)
  refine wpAny_bind (wpAny_rule ?_)
  refine wpAny_bind ?_
  show wpAny _ A.in1.in1 (updateSeq s.heap.objs.size (·.push .none) >>= fun _ => updateSeq s.heap.objs.size (·.pop)) _ _ _
  refine wpAny_bind (wpAny_updateSeq hS2 rfl ?_)
  have hS3 := Heap.get?_update_self (Obj.mapSeq (·.push Value.none)) hS2 rfl
  refine wpAny_updateSeq (hz := by seq_fits) hS3 rfl ?_
  have hS4 := Heap.get?_update_self (Obj.mapSeq (·.pop)) hS3 rfl
  have k4 := up _ (Obj.mapSeq (·.pop)) (up _ (Obj.mapSeq (·.push Value.none)) k2)
  refine wpAny_pure ⟨plainId_quiet F.plain_extend_loop _, ?_⟩
  refine z_loop (s := s) (A := A.in1) (xs := xs) (ys := ys) (h₁ := s.heap) hh D hn hxy .none ⟨Nat.ne_of_gt lz, Nat.ne_of_gt lTI, Nat.ne_of_gt lTO, Nat.ne_of_gt li1, Nat.ne_of_gt li2, Nat.ne_of_gt ll1, Nat.ne_of_gt ll2⟩ ⟨lz, lTO, li1, li2⟩
    (fun h' tk acc c as f1 f2 f3 f4 f5 => ⟨rfl, hQ h' tk acc c as (fun b o e1 e2 e3 e4 e => f1 b o (Nat.ne_of_lt (Heap.lt_size e)) e1 e2 e3 e4 e) f2 f3 f4 f5⟩)
    xs.size 0 _ s.toks _ #[] [] (Nat.sub_zero _) (Nat.zero_le _) ⟨k4 _ _ hTI, h1.at fun o e => k4 _ o e, h2.at fun o e => k4 _ o e, .inl ⟨k4 _ _ hz, x0, y0, k4 _ _ hTO⟩⟩ (hl1.at fun o e => k4 _ o e) (hl2.at fun o e => k4 _ o e) (fun b o _ _ _ _ _ e => k4 b o e) hS4 rfl rfl
    ⟨List.Pairwise.nil, fun a ha => (nomatch ha), fun j a hj => (nomatch hj)⟩
end
/-! ### in the tracked heap -/
def putP : Hp → List Addr → List (V × V) → Hp
  | H, a :: as, p :: ps => putP (upd H a (.tup [p.1, p.2])) as ps
  | H, _, _ => H
theorem putP_off {b : Addr} : ∀ (as : List Addr) (ps : List (V × V)) (H : Hp), b ∉ as → putP H as ps b = H b
  | [], _, _, _ => rfl
  | _ :: _, [], _, _ => rfl
  | a :: as, p :: ps, H, h => by
    have h1 := putP_off as ps (upd H a (.tup [p.1, p.2])) fun z => h (List.mem_cons_of_mem _ z)
    have h2 : b ≠ a := fun z => h (by rw [z]; exact List.mem_cons_self)
    rw [upd_ne h2] at h1
    exact h1
theorem putP_at : ∀ (as : List Addr) (ps : List (V × V)) (H : Hp), as.length = ps.length → as.Nodup → ∀ (j : Nat) (a : Addr), as[j]? = some a → ∃ p, ps[j]? = some p ∧ putP H as ps a = some (.tup [p.1, p.2])
  | [], _, _, _, _, j, a, e => by simp at e
  | _ :: _, [], _, h, _, _, _, _ => by cases h
  | b :: as, p :: ps, H, h, nd, 0, a, e => by
    cases e
    have nd2 := List.nodup_cons.mp nd
    refine ⟨p, rfl, ?_⟩
    have h1 := putP_off as ps (upd H b (.tup [p.1, p.2])) nd2.1
    rw [upd_same] at h1
    exact h1
  | b :: as, p :: ps, H, h, nd, j + 1, a, e => putP_at as ps (upd H b (.tup [p.1, p.2])) (Nat.succ.inj h) (List.nodup_cons.mp nd).2 j a e
/-- the list of pairs of what stands in two lists -/
def rZip2 (K : PySem.W.Frag) : List V → Hp → VK → Prop := fun vs H Q => ∃ (a b : Addr) (xs ys : List V), vs = [.ref a, .ref b] ∧ SqL K H a xs ∧ SqL K H b ys ∧ xs.length = ys.length ∧
  ∀ (H' : Hp) (p : Addr) (ts : List Addr), Same H H' → H p = none → (∀ t ∈ ts, H t = none) → p ∉ ts → ts.length = xs.length → H' p = some (.lst (ts.map V.ref)) →
    (∀ (j : Nat) (t : Addr), ts[j]? = some t → ∃ x y, xs[j]? = some x ∧ ys[j]? = some y ∧ H' t = some (.tup [x, y])) → Q (.ref p) H'
def tListZip (K : PySem.W.Frag) (ta : TA) : TE := fun σ H Q => ta σ H fun vs H1 => rZip2 K vs H1 Q
section
variable {X : Cx} {e e2 : Expr} {ta : TA} {p p2 pos pos2 : Pos}
theorem pe_listZip (hc : X.calm = true) (ha : PA X [e, e2] ta) (hg : Gl X "list") (hm : X.mg "list" = none) (hv : bootBuiltins "list" = some (.type "list")) (hg2 : Gl X "zip") (hm2 : X.mg "zip" = none)
    (hs : starEach [.Call (.Name "zip" p2) [e, e2] [] pos2] X.env = (false, eval (.Call (.Name "zip" p2) [e, e2] [] pos2) X.env) :: starEach [] X.env := by rfl)
    (hs2 : starEach [e, e2] X.env = (false, eval e X.env) :: starEach [e2] X.env := by rfl) (hpl : (backTo pos2 (starEach [e2] X.env)).any (·.1) = false := by rfl) :
    PE X (.Call (.Name "list" p) [.Call (.Name "zip" p2) [e, e2] [] pos2] [] pos) (tListZip X.K ta) := by
  refine ⟨fun pins s σ H Q I hq => ?_⟩
  refine wpAny_Call_Name_kw (ld_blt I hg hm hv ?_)
  refine PyProof.Rows.callWith_type1 ?_ hs rfl
  rw [hs]
  show wpAny _ _ (spliced ((false, eval (.Call (.Name "zip" p2) [e, e2] [] pos2) X.env) :: backTo pos (starEach [] X.env))) _ _ s
  refine Calls.spliced_cons ?_
  refine Call_ (ld_blt I hg2 hm2 PyProof.Rows.boot_zip (PyProof.Rows.callWith_type1 (thn (ha.run pos2 pins s σ H _ I hq) fun us s1 ⟨vs, H1, I1, r1, q1⟩ => ?_) hs2 hpl))
  obtain ⟨a, b, xs, ys, ex, hqx, hqy, hxy, q⟩ := q1
  subst ex
  cases r1 with
  | cons r rr =>
    cases rr with
    | cons r' rr =>
      cases rr
      cases r
      cases r'
      obtain ⟨its, rv, p1, _⟩ := I1.list hqx
      obtain ⟨its2, rv2, p2, _⟩ := I1.list hqy
      have la : a < s1.heap.objs.size := p1.lt
      have lb : b < s1.heap.objs.size := p2.lt
      have l1 := rv.length
      have l2 := rv2.length
      refine call_zip_2 p1.isList p2.isList fun h' hz hTI hTO h1 h2 hsz hk => ?_
      refine Calls.spliced_nil ?_
      have low : ∀ b' o, s1.heap.get? b' = some o → b' < s1.heap.objs.size := fun b' o e => Heap.lt_size e
      have far : ∀ (b' : Addr) (n : Nat), b' < s1.heap.objs.size → b' ≠ s1.heap.objs.size + n := fun b' n z => Nat.ne_of_lt (Nat.lt_of_lt_of_le z (Nat.le_add_right _ _))
      refine z_call (s := { s1 with heap := h' }) (xs := its.toArray) (ys := its2.toArray) (I1.ok.hd hc) (PySem.W.ktu_apart s1.heap.objs.size a b la lb) (by rw [List.size_toArray]; omega) (by rw [List.size_toArray, List.size_toArray]; omega) hz hTI ⟨_, _, hTO⟩ h1 h2
        (p1.isList.at fun o e => hk _ o e) (p2.isList.at fun o e => hk _ o e) fun h'' tk acc c as hk2 hS hl hG hacc => ?_
      dsimp only at hk2 hS hG ⊢
      rw [hsz] at hS hG ⊢
      have kp : ∀ b' o, s1.heap.get? b' = some o → h''.get? b' = some o := fun b' o e => by
        have := low b' o e
        exact hk2 b' o (far _ _ this) (far _ _ this) (Nat.ne_of_lt this) (far _ _ this) (hk b' o e)
      have hl2 : as.length = xs.length := by
        rw [hl, List.size_toArray]
        omega
      have hSn : s1.heap.objs.size + 5 ∉ as := fun z => Nat.lt_irrefl _ (hG.above _ z)
      have nd : as.Nodup := List.Pairwise.imp (fun {a b} (h : a < b) => Nat.ne_of_lt h) hG.rise
      have new : ∀ t ∈ as, H1 t = none := fun t ht => I1.hok.fresh (Nat.le_trans (Nat.le_add_right _ _) (Nat.le_of_lt (hG.above t ht)))
      have newS : H1 (s1.heap.objs.size + 5) = none := I1.hok.fresh (by omega)
      have lz : as.length = (xs.zip ys).length := by
        rw [List.length_zip]
        omega
      have off : ∀ b', b' ∉ as → b' ≠ s1.heap.objs.size + 5 → putP (upd H1 (s1.heap.objs.size + 5) (.lst (as.map V.ref))) as (xs.zip ys) b' = H1 b' := fun b' e1 e2 => by rw [putP_off as _ _ e1, upd_ne e2]
      have eS : putP (upd H1 (s1.heap.objs.size + 5) (.lst (as.map V.ref))) as (xs.zip ys) (s1.heap.objs.size + 5) = some (.lst (as.map V.ref)) := by rw [putP_off as _ _ hSn, upd_same]
      have atP := putP_at as (xs.zip ys) (upd H1 (s1.heap.objs.size + 5) (.lst (as.map V.ref))) lz nd
      generalize putP (upd H1 (s1.heap.objs.size + 5) (.lst (as.map V.ref))) as (xs.zip ys) = H' at off eS atP
      have kpH : ∀ b' u, H1 b' = some u → H' b' = some u := fun b' u e => by
        rw [off b' (fun z => by rw [new b' z] at e; cases e) (fun z => by rw [z, newS] at e; cases e)]
        exact e
      have at2 : ∀ (j : Nat) (t : Addr), as[j]? = some t → ∃ x y, xs[j]? = some x ∧ ys[j]? = some y ∧ H' t = some (.tup [x, y]) := fun j t e => by
        obtain ⟨pr, e1, e2⟩ := atP j t e
        obtain ⟨x, y⟩ := pr
        rw [List.getElem?_zip_eq_some] at e1
        exact ⟨x, y, e1.1, e1.2, e2⟩
      refine ⟨.ref (s1.heap.objs.size + 5), H', ?_, rfl, q H' _ as kpH newS new hSn hl2 eS at2⟩
      refine I1.call' (ch := []) rfl ⟨fun b' o e _ _ _ => kp b' o e, fun b' o e _ _ _ => ⟨o.slots, kp b' o e⟩, fun b' o e n _ => ?_, fun b' o e _ => ⟨o, kp b' o e⟩, fun b' xs' e => kpH b' _ e, fun b' o u e => kpH b' _ e, fun b' ps e => ⟨#[], by rw [kpH b' _ e]; simp⟩⟩ (fun b' u e => ?_) I1.bare fun b' z => by simp at z
      · have lb' := low b' o e
        rw [off b' (fun z => Nat.lt_asymm (Nat.lt_of_le_of_lt (Nat.le_add_right _ 5) (hG.above b' z)) lb') (far _ _ lb')]
        exact n
      · by_cases hb : b' ∈ as
        · obtain ⟨j, hj⟩ := List.mem_iff_getElem?.mp hb
          obtain ⟨x, y, f1, f2, f3⟩ := at2 j b' hj
          obtain ⟨u1, u2, g1, g2, g3⟩ := hG.prs j b' hj
          rw [f3] at e
          cases e
          obtain ⟨v1, w1, r1⟩ := rv.get f1
          obtain ⟨v2, w2, r2⟩ := rv2.get f2
          rw [List.getElem?_toArray, w1] at g1
          rw [List.getElem?_toArray, w2] at g2
          cases g1
          cases g2
          exact ⟨by show 2 ≤ sizeLine; decide, [u1, u2], .cons r1 (.cons r2 .nil), ⟨_, g3, rfl, _, rfl⟩⟩
        · by_cases hb2 : b' = s1.heap.objs.size + 5
          · rw [hb2] at e ⊢
            rw [eS] at e
            cases e
            refine ⟨by rw [List.length_map]; omega, acc.toList, c, by rw [hacc]; exact LiI.vals_refs as, ?_⟩
            rw [Array.toArray_toList]
            exact hS
          · rw [off b' hb hb2] at e
            exact (I1.hok b' u e).stay (fun d v _ z => kp d v z) (fun d z => kpH d _ z) fun d xs z => kpH d _ z
theorem pe_listZipK {K : PySem.W.Frag} (h : X.K = K) (hc : X.calm = true) (ha : PA X [e, e2] ta) (hg : Gl X "list") (hm : X.mg "list" = none) (hv : bootBuiltins "list" = some (.type "list")) (hg2 : Gl X "zip") (hm2 : X.mg "zip" = none)
    (hs : starEach [.Call (.Name "zip" p2) [e, e2] [] pos2] X.env = (false, eval (.Call (.Name "zip" p2) [e, e2] [] pos2) X.env) :: starEach [] X.env := by rfl)
    (hs2 : starEach [e, e2] X.env = (false, eval e X.env) :: starEach [e2] X.env := by rfl) (hpl : (backTo pos2 (starEach [e2] X.env)).any (·.1) = false := by rfl) :
    PE X (.Call (.Name "list" p) [.Call (.Name "zip" p2) [e, e2] [] pos2] [] pos) (tListZip K ta) := h ▸ pe_listZip hc ha hg hm hv hg2 hm2 hs hs2 hpl
end
end EBZ

namespace EB
open PySem PySem.Spec PyProof.Rows L2
def top (i : Nat) : Stmt := PySem.Challenge.pw_emptiesback_k03_whole_drinks_in_any_orde.main.body.getD i (.Pass ⟨0, 0, 0, 0⟩)
abbrev s_is_integer : Stmt := top 12
abbrev N_is_integer : List Str := ["value"]
theorem sc_is_integer : FnScope N_is_integer ["value"] (defScope s_is_integer) := ⟨rfl, rfl, rfl, by decide +kernel, rfl, by decide +kernel, by decide +kernel⟩
abbrev a_is_integer (K : PySem.W.Frag) : Addr := He.ga K "is_integer"
def d_is_integer : DD := ⟨a_is_integer, "is_integer", "is_integer", s_is_integer, []⟩
abbrev s_is_number : Stmt := top 13
abbrev N_is_number : List Str := ["value", "least", "most"]
theorem sc_is_number : FnScope N_is_number ["value", "least", "most"] (defScope s_is_number) := ⟨rfl, rfl, rfl, by decide +kernel, rfl, by decide +kernel, by decide +kernel⟩
abbrev a_is_number (K : PySem.W.Frag) : Addr := He.ga K "is_number"
def d_is_number : DD := ⟨a_is_number, "is_number", "is_number", s_is_number, []⟩
abbrev s_check_number : Stmt := top 14
abbrev N_check_number : List Str := ["value", "least", "most"]
theorem sc_check_number : FnScope N_check_number ["value", "least", "most"] (defScope s_check_number) := ⟨rfl, rfl, rfl, by decide +kernel, rfl, by decide +kernel, by decide +kernel⟩
abbrev a_check_number (K : PySem.W.Frag) : Addr := He.ga K "check_number"
def d_check_number : DD := ⟨a_check_number, "check_number", "check_number", s_check_number, [.int 0, .int 1000000000000000000]⟩
abbrev s_is_label : Stmt := top 15
abbrev N_is_label : List Str := ["value", "letter"]
theorem sc_is_label : FnScope N_is_label ["value"] (defScope s_is_label) := ⟨rfl, rfl, rfl, by decide +kernel, rfl, by decide +kernel, by decide +kernel⟩
abbrev a_is_label (K : PySem.W.Frag) : Addr := He.ga K "is_label"
def d_is_label : DD := ⟨a_is_label, "is_label", "is_label", s_is_label, []⟩
abbrev s_is_kind : Stmt := top 16
abbrev N_is_kind : List Str := ["value"]
theorem sc_is_kind : FnScope N_is_kind ["value"] (defScope s_is_kind) := ⟨rfl, rfl, rfl, by decide +kernel, rfl, by decide +kernel, by decide +kernel⟩
abbrev a_is_kind (K : PySem.W.Frag) : Addr := He.ga K "is_kind"
def d_is_kind : DD := ⟨a_is_kind, "is_kind", "is_kind", s_is_kind, []⟩
abbrev s_cost_of : Stmt := top 18
abbrev N_cost_of : List Str := ["trades", "drinks", "_", "left", "needed"]
theorem sc_cost_of : FnScope N_cost_of ["trades", "drinks"] (defScope s_cost_of) := ⟨rfl, rfl, rfl, by decide +kernel, rfl, by decide +kernel, by decide +kernel⟩
abbrev a_cost_of (K : PySem.W.Frag) : Addr := He.ga K "cost_of"
def d_cost_of : DD := ⟨a_cost_of, "cost_of", "cost_of", s_cost_of, []⟩
abbrev s_drinks_of_period : Stmt := top 19
abbrev N_drinks_of_period : List Str := ["trades", "drinks", "_", "left", "needed"]
theorem sc_drinks_of_period : FnScope N_drinks_of_period ["trades"] (defScope s_drinks_of_period) := ⟨rfl, rfl, rfl, by decide +kernel, rfl, by decide +kernel, by decide +kernel⟩
abbrev a_drinks_of_period (K : PySem.W.Frag) : Addr := He.ga K "drinks_of_period"
def d_drinks_of_period : DD := ⟨a_drinks_of_period, "drinks_of_period", "drinks_of_period", s_drinks_of_period, []⟩
abbrev s_tops_of : Stmt := top 20
abbrev N_tops_of : List Str := ["costs", "tops", "top", "cost"]
theorem sc_tops_of : FnScope N_tops_of ["costs"] (defScope s_tops_of) := ⟨rfl, rfl, rfl, by decide +kernel, rfl, by decide +kernel, by decide +kernel⟩
abbrev a_tops_of (K : PySem.W.Frag) : Addr := He.ga K "tops_of"
def d_tops_of : DD := ⟨a_tops_of, "tops_of", "tops_of", s_tops_of, []⟩
abbrev s_firsts_of : Stmt := top 21
abbrev N_firsts_of : List Str := ["tops", "firsts", "drinks", "top"]
theorem sc_firsts_of : FnScope N_firsts_of ["tops"] (defScope s_firsts_of) := ⟨rfl, rfl, rfl, by decide +kernel, rfl, by decide +kernel, by decide +kernel⟩
abbrev a_firsts_of (K : PySem.W.Frag) : Addr := He.ga K "firsts_of"
def d_firsts_of : DD := ⟨a_firsts_of, "firsts_of", "firsts_of", s_firsts_of, []⟩
abbrev s_gaps_of : Stmt := top 22
abbrev N_gaps_of : List Str := ["tops", "firsts", "drinks", "top"]
theorem sc_gaps_of : FnScope N_gaps_of ["tops", "firsts"] (defScope s_gaps_of) := ⟨rfl, rfl, rfl, by decide +kernel, rfl, by decide +kernel, by decide +kernel⟩
abbrev a_gaps_of (K : PySem.W.Frag) : Addr := He.ga K "gaps_of"
def d_gaps_of : DD := ⟨a_gaps_of, "gaps_of", "gaps_of", s_gaps_of, []⟩
abbrev s_value_at : Stmt := top 23
abbrev N_value_at : List Str := ["table", "at", "span", "rise", "turns"]
theorem sc_value_at : FnScope N_value_at ["table", "at", "span", "rise"] (defScope s_value_at) := ⟨rfl, rfl, rfl, by decide +kernel, rfl, by decide +kernel, by decide +kernel⟩
abbrev a_value_at (K : PySem.W.Frag) : Addr := He.ga K "value_at"
def d_value_at : DD := ⟨a_value_at, "value_at", "value_at", s_value_at, []⟩
abbrev s_is_trade : Stmt := top 26
abbrev N_is_trade : List Str := ["kind", "left", "needed"]
theorem sc_is_trade : FnScope N_is_trade ["kind", "left", "needed"] (defScope s_is_trade) := ⟨rfl, rfl, rfl, by decide +kernel, rfl, by decide +kernel, by decide +kernel⟩
abbrev a_is_trade (K : PySem.W.Frag) : Addr := He.ga K "_is_trade"
def d_is_trade : DD := ⟨a_is_trade, "_is_trade", "_is_trade", s_is_trade, []⟩
abbrev s_check_trades : Stmt := top 27
abbrev N_check_trades : List Str := ["trades", "kinds", "index", "kind", "left", "needed"]
theorem sc_check_trades : FnScope N_check_trades ["trades"] (defScope s_check_trades) := ⟨rfl, rfl, rfl, by decide +kernel, rfl, by decide +kernel, by decide +kernel⟩
abbrev a_check_trades (K : PySem.W.Frag) : Addr := He.ga K "_check_trades"
def d_check_trades : DD := ⟨a_check_trades, "_check_trades", "_check_trades", s_check_trades, []⟩
abbrev s_check_generosity : Stmt := top 28
abbrev N_check_generosity : List Str := ["trades", "whole", "_", "needed", "parts", "left"]
theorem sc_check_generosity : FnScope N_check_generosity ["trades"] (defScope s_check_generosity) := ⟨rfl, rfl, rfl, by decide +kernel, rfl, by decide +kernel, by decide +kernel⟩
abbrev a_check_generosity (K : PySem.W.Frag) : Addr := He.ga K "_check_generosity"
def d_check_generosity : DD := ⟨a_check_generosity, "_check_generosity", "_check_generosity", s_check_generosity, []⟩
abbrev s_Offer_init : Stmt := inClass (top 29) 2
abbrev N_Offer_init : List Str := ["self", "trades", "drinks", "kind", "left", "needed", "count"]
theorem sc_Offer_init : FnScope N_Offer_init ["self", "trades"] (defScope s_Offer_init) := ⟨rfl, rfl, rfl, by decide +kernel, rfl, by decide +kernel, by decide +kernel⟩
abbrev a_Offer_init (K : PySem.W.Frag) : Addr := He.ma K (He.ga K "Offer") "__init__"
def d_Offer_init : DD := ⟨a_Offer_init, "__init__", "Offer.__init__", s_Offer_init, []⟩
abbrev s_Offer_trades : Stmt := inClass (top 29) 4
abbrev N_Offer_trades : List Str := ["self"]
theorem sc_Offer_trades : FnScope N_Offer_trades ["self"] (defScope s_Offer_trades) := ⟨rfl, rfl, rfl, by decide +kernel, rfl, by decide +kernel, by decide +kernel⟩
abbrev a_Offer_trades (K : PySem.W.Frag) : Addr := propG K (He.ga K "Offer") (He.ma K (He.ga K "Offer") "trades")
def d_Offer_trades : DD := ⟨a_Offer_trades, "trades", "Offer.trades", s_Offer_trades, []⟩
abbrev s_Offer_kinds : Stmt := inClass (top 29) 5
abbrev N_Offer_kinds : List Str := ["self", "kind", "_"]
theorem sc_Offer_kinds : FnScope N_Offer_kinds ["self"] (defScope s_Offer_kinds) := ⟨rfl, rfl, rfl, by decide +kernel, rfl, by decide +kernel, by decide +kernel⟩
abbrev a_Offer_kinds (K : PySem.W.Frag) : Addr := propG K (He.ga K "Offer") (He.ma K (He.ga K "Offer") "kinds")
def d_Offer_kinds : DD := ⟨a_Offer_kinds, "kinds", "Offer.kinds", s_Offer_kinds, []⟩
abbrev s_Offer_period : Stmt := inClass (top 29) 6
abbrev N_Offer_period : List Str := ["self"]
theorem sc_Offer_period : FnScope N_Offer_period ["self"] (defScope s_Offer_period) := ⟨rfl, rfl, rfl, by decide +kernel, rfl, by decide +kernel, by decide +kernel⟩
abbrev a_Offer_period (K : PySem.W.Frag) : Addr := propG K (He.ga K "Offer") (He.ma K (He.ga K "Offer") "period")
def d_Offer_period : DD := ⟨a_Offer_period, "period", "Offer.period", s_Offer_period, []⟩
abbrev s_Offer_drinks_for : Stmt := inClass (top 29) 8
abbrev N_Offer_drinks_for : List Str := ["self", "bottles", "span", "rise"]
theorem sc_Offer_drinks_for : FnScope N_Offer_drinks_for ["self", "bottles"] (defScope s_Offer_drinks_for) := ⟨rfl, rfl, rfl, by decide +kernel, rfl, by decide +kernel, by decide +kernel⟩
abbrev a_Offer_drinks_for (K : PySem.W.Frag) : Addr := He.ma K (He.ga K "Offer") "_drinks_for"
def d_Offer_drinks_for : DD := ⟨a_Offer_drinks_for, "_drinks_for", "Offer._drinks_for", s_Offer_drinks_for, []⟩
abbrev s_Offer_most_within : Stmt := inClass (top 29) 9
abbrev N_Offer_most_within : List Str := ["self", "drinks", "rise", "span"]
theorem sc_Offer_most_within : FnScope N_Offer_most_within ["self", "drinks"] (defScope s_Offer_most_within) := ⟨rfl, rfl, rfl, by decide +kernel, rfl, by decide +kernel, by decide +kernel⟩
abbrev a_Offer_most_within (K : PySem.W.Frag) : Addr := He.ma K (He.ga K "Offer") "_most_within"
def d_Offer_most_within : DD := ⟨a_Offer_most_within, "_most_within", "Offer._most_within", s_Offer_most_within, []⟩
abbrev s_Offer_call : Stmt := inClass (top 29) 10
abbrev N_Offer_call : List Str := ["self", "bottles"]
theorem sc_Offer_call : FnScope N_Offer_call ["self", "bottles"] (defScope s_Offer_call) := ⟨rfl, rfl, rfl, by decide +kernel, rfl, by decide +kernel, by decide +kernel⟩
abbrev a_Offer_call (K : PySem.W.Frag) : Addr := He.ma K (He.ga K "Offer") "__call__"
def d_Offer_call : DD := ⟨a_Offer_call, "__call__", "Offer.__call__", s_Offer_call, []⟩
abbrev s_Offer_trades_made : Stmt := inClass (top 29) 11
abbrev N_Offer_trades_made : List Str := ["self", "bottles", "drinks", "kind", "left", "needed"]
theorem sc_Offer_trades_made : FnScope N_Offer_trades_made ["self", "bottles"] (defScope s_Offer_trades_made) := ⟨rfl, rfl, rfl, by decide +kernel, rfl, by decide +kernel, by decide +kernel⟩
abbrev a_Offer_trades_made (K : PySem.W.Frag) : Addr := He.ma K (He.ga K "Offer") "trades_made"
def d_Offer_trades_made : DD := ⟨a_Offer_trades_made, "trades_made", "Offer.trades_made", s_Offer_trades_made, []⟩
abbrev s_Offer_left_over : Stmt := inClass (top 29) 12
abbrev N_Offer_left_over : List Str := ["self", "bottles", "drinks", "kind", "left", "needed"]
theorem sc_Offer_left_over : FnScope N_Offer_left_over ["self", "bottles"] (defScope s_Offer_left_over) := ⟨rfl, rfl, rfl, by decide +kernel, rfl, by decide +kernel, by decide +kernel⟩
abbrev a_Offer_left_over (K : PySem.W.Frag) : Addr := He.ma K (He.ga K "Offer") "left_over"
def d_Offer_left_over : DD := ⟨a_Offer_left_over, "left_over", "Offer.left_over", s_Offer_left_over, []⟩
abbrev s_Offer_add : Stmt := inClass (top 29) 20
abbrev N_Offer_add : List Str := ["self", "other", "trades"]
theorem sc_Offer_add : FnScope N_Offer_add ["self", "other"] (defScope s_Offer_add) := ⟨rfl, rfl, rfl, by decide +kernel, rfl, by decide +kernel, by decide +kernel⟩
abbrev a_Offer_add (K : PySem.W.Frag) : Addr := He.ma K (He.ga K "Offer") "__add__"
def d_Offer_add : DD := ⟨a_Offer_add, "__add__", "Offer.__add__", s_Offer_add, []⟩
abbrev s_Offer_sub : Stmt := inClass (top 29) 21
abbrev N_Offer_sub : List Str := ["self", "other", "trades", "trade"]
theorem sc_Offer_sub : FnScope N_Offer_sub ["self", "other"] (defScope s_Offer_sub) := ⟨rfl, rfl, rfl, by decide +kernel, rfl, by decide +kernel, by decide +kernel⟩
abbrev a_Offer_sub (K : PySem.W.Frag) : Addr := He.ma K (He.ga K "Offer") "__sub__"
def d_Offer_sub : DD := ⟨a_Offer_sub, "__sub__", "Offer.__sub__", s_Offer_sub, []⟩
abbrev s_Offer_getitem : Stmt := inClass (top 29) 22
abbrev N_Offer_getitem : List Str := ["self", "at", "kind", "left", "needed"]
theorem sc_Offer_getitem : FnScope N_Offer_getitem ["self", "at"] (defScope s_Offer_getitem) := ⟨rfl, rfl, rfl, by decide +kernel, rfl, by decide +kernel, by decide +kernel⟩
abbrev a_Offer_getitem (K : PySem.W.Frag) : Addr := He.ma K (He.ga K "Offer") "__getitem__"
def d_Offer_getitem : DD := ⟨a_Offer_getitem, "__getitem__", "Offer.__getitem__", s_Offer_getitem, []⟩
abbrev s_Offer_iter : Stmt := inClass (top 29) 23
abbrev N_Offer_iter : List Str := ["self"]
theorem sc_Offer_iter : FnScope N_Offer_iter ["self"] (defScope s_Offer_iter) := ⟨rfl, rfl, rfl, by decide +kernel, rfl, by decide +kernel, by decide +kernel⟩
abbrev a_Offer_iter (K : PySem.W.Frag) : Addr := He.ma K (He.ga K "Offer") "__iter__"
def d_Offer_iter : DD := ⟨a_Offer_iter, "__iter__", "Offer.__iter__", s_Offer_iter, []⟩
abbrev s_Offer_bool : Stmt := inClass (top 29) 24
abbrev N_Offer_bool : List Str := ["self", "_", "left"]
theorem sc_Offer_bool : FnScope N_Offer_bool ["self"] (defScope s_Offer_bool) := ⟨rfl, rfl, rfl, by decide +kernel, rfl, by decide +kernel, by decide +kernel⟩
abbrev a_Offer_bool (K : PySem.W.Frag) : Addr := He.ma K (He.ga K "Offer") "__bool__"
def d_Offer_bool : DD := ⟨a_Offer_bool, "__bool__", "Offer.__bool__", s_Offer_bool, []⟩
abbrev s_Offer_contains : Stmt := inClass (top 29) 25
abbrev N_Offer_contains : List Str := ["self", "x"]
theorem sc_Offer_contains : FnScope N_Offer_contains ["self", "x"] (defScope s_Offer_contains) := ⟨rfl, rfl, rfl, by decide +kernel, rfl, by decide +kernel, by decide +kernel⟩
abbrev a_Offer_contains (K : PySem.W.Frag) : Addr := He.ma K (He.ga K "Offer") "__contains__"
def d_Offer_contains : DD := ⟨a_Offer_contains, "__contains__", "Offer.__contains__", s_Offer_contains, []⟩
abbrev s_Offer_le : Stmt := inClass (top 29) 26
abbrev N_Offer_le : List Str := ["self", "other"]
theorem sc_Offer_le : FnScope N_Offer_le ["self", "other"] (defScope s_Offer_le) := ⟨rfl, rfl, rfl, by decide +kernel, rfl, by decide +kernel, by decide +kernel⟩
abbrev a_Offer_le (K : PySem.W.Frag) : Addr := He.ma K (He.ga K "Offer") "__le__"
def d_Offer_le : DD := ⟨a_Offer_le, "__le__", "Offer.__le__", s_Offer_le, []⟩
abbrev s_Offer_lt : Stmt := inClass (top 29) 27
abbrev N_Offer_lt : List Str := ["self", "other"]
theorem sc_Offer_lt : FnScope N_Offer_lt ["self", "other"] (defScope s_Offer_lt) := ⟨rfl, rfl, rfl, by decide +kernel, rfl, by decide +kernel, by decide +kernel⟩
abbrev a_Offer_lt (K : PySem.W.Frag) : Addr := He.ma K (He.ga K "Offer") "__lt__"
def d_Offer_lt : DD := ⟨a_Offer_lt, "__lt__", "Offer.__lt__", s_Offer_lt, []⟩
abbrev s_Offer_ge : Stmt := inClass (top 29) 28
abbrev N_Offer_ge : List Str := ["self", "other"]
theorem sc_Offer_ge : FnScope N_Offer_ge ["self", "other"] (defScope s_Offer_ge) := ⟨rfl, rfl, rfl, by decide +kernel, rfl, by decide +kernel, by decide +kernel⟩
abbrev a_Offer_ge (K : PySem.W.Frag) : Addr := He.ma K (He.ga K "Offer") "__ge__"
def d_Offer_ge : DD := ⟨a_Offer_ge, "__ge__", "Offer.__ge__", s_Offer_ge, []⟩
abbrev s_Offer_gt : Stmt := inClass (top 29) 29
abbrev N_Offer_gt : List Str := ["self", "other"]
theorem sc_Offer_gt : FnScope N_Offer_gt ["self", "other"] (defScope s_Offer_gt) := ⟨rfl, rfl, rfl, by decide +kernel, rfl, by decide +kernel, by decide +kernel⟩
abbrev a_Offer_gt (K : PySem.W.Frag) : Addr := He.ma K (He.ga K "Offer") "__gt__"
def d_Offer_gt : DD := ⟨a_Offer_gt, "__gt__", "Offer.__gt__", s_Offer_gt, []⟩
abbrev s_slack : Stmt := top 30
abbrev N_slack : List Str := ["one", "other", "bottles"]
theorem sc_slack : FnScope N_slack ["one", "other", "bottles"] (defScope s_slack) := ⟨rfl, rfl, rfl, by decide +kernel, rfl, by decide +kernel, by decide +kernel⟩
abbrev a_slack (K : PySem.W.Frag) : Addr := He.ga K "_slack"
def d_slack : DD := ⟨a_slack, "_slack", "_slack", s_slack, []⟩
abbrev s_repetition : Stmt := top 31
abbrev N_repetition : List Str := ["one", "other", "one_bottles", "one_drinks", "other_bottles", "other_drinks", "drinks", "span", "fall"]
theorem sc_repetition : FnScope N_repetition ["one", "other"] (defScope s_repetition) := ⟨rfl, rfl, rfl, by decide +kernel, rfl, by decide +kernel, by decide +kernel⟩
abbrev a_repetition (K : PySem.W.Frag) : Addr := He.ga K "_repetition"
def d_repetition : DD := ⟨a_repetition, "_repetition", "_repetition", s_repetition, []⟩
abbrev s_never_more : Stmt := top 32
abbrev N_never_more : List Str := ["one", "other", "start", "span", "fall", "bottles"]
theorem sc_never_more : FnScope N_never_more ["one", "other"] (defScope s_never_more) := ⟨rfl, rfl, rfl, by decide +kernel, rfl, by decide +kernel, by decide +kernel⟩
abbrev a_never_more (K : PySem.W.Frag) : Addr := He.ga K "_never_more"
def d_never_more : DD := ⟨a_never_more, "_never_more", "_never_more", s_never_more, []⟩
abbrev s_first_difference : Stmt := top 33
abbrev N_first_difference : List Str := ["one", "other", "start", "span", "fall", "bottles"]
theorem sc_first_difference : FnScope N_first_difference ["one", "other"] (defScope s_first_difference) := ⟨rfl, rfl, rfl, by decide +kernel, rfl, by decide +kernel, by decide +kernel⟩
abbrev a_first_difference (K : PySem.W.Frag) : Addr := He.ga K "first_difference"
def d_first_difference : DD := ⟨a_first_difference, "first_difference", "first_difference", s_first_difference, []⟩
abbrev s_law_mix : Stmt := top 35
abbrev N_law_mix : List Str := ["_law_script", "_law_seed", "_law_mixed", "_law_cell"]
theorem sc_law_mix : FnScope N_law_mix ["_law_script", "_law_seed"] (defScope s_law_mix) := ⟨rfl, rfl, rfl, by decide +kernel, rfl, by decide +kernel, by decide +kernel⟩
abbrev a_law_mix (K : PySem.W.Frag) : Addr := He.ga K "_law_mix"
def d_law_mix : DD := ⟨a_law_mix, "_law_mix", "_law_mix", s_law_mix, []⟩
abbrev s_law_next : Stmt := top 36
abbrev N_law_next : List Str := ["_law_h", "_law_limit", "_law_cell"]
theorem sc_law_next : FnScope N_law_next ["_law_h", "_law_limit"] (defScope s_law_next) := ⟨rfl, rfl, rfl, by decide +kernel, rfl, by decide +kernel, by decide +kernel⟩
abbrev a_law_next (K : PySem.W.Frag) : Addr := He.ga K "_law_next"
def d_law_next : DD := ⟨a_law_next, "_law_next", "_law_next", s_law_next, []⟩
abbrev s_law_alike : Stmt := top 37
abbrev N_law_alike : List Str := ["_law_found", "_law_due", "_law_k"]
theorem sc_law_alike : FnScope N_law_alike ["_law_found", "_law_due"] (defScope s_law_alike) := ⟨rfl, rfl, rfl, by decide +kernel, rfl, by decide +kernel, by decide +kernel⟩
abbrev a_law_alike (K : PySem.W.Frag) : Addr := He.ga K "_law_alike"
def d_law_alike : DD := ⟨a_law_alike, "_law_alike", "_law_alike", s_law_alike, []⟩
abbrev s_law_trades : Stmt := top 38
abbrev N_law_trades : List Str := ["_law_h", "_law_most", "_law_largest", "_law_found", "_law_worth", "_law_kind", "_law_needed", "_law_left"]
theorem sc_law_trades : FnScope N_law_trades ["_law_h", "_law_most", "_law_largest"] (defScope s_law_trades) := ⟨rfl, rfl, rfl, by decide +kernel, rfl, by decide +kernel, by decide +kernel⟩
abbrev a_law_trades (K : PySem.W.Frag) : Addr := He.ga K "_law_trades"
def d_law_trades : DD := ⟨a_law_trades, "_law_trades", "_law_trades", s_law_trades, []⟩
abbrev s_law_offer : Stmt := top 39
abbrev N_law_offer : List Str := ["_law_trades_here"]
theorem sc_law_offer : FnScope N_law_offer ["_law_trades_here"] (defScope s_law_offer) := ⟨rfl, rfl, rfl, by decide +kernel, rfl, by decide +kernel, by decide +kernel⟩
abbrev a_law_offer (K : PySem.W.Frag) : Addr := He.ga K "_law_offer"
def d_law_offer : DD := ⟨a_law_offer, "_law_offer", "_law_offer", s_law_offer, []⟩
abbrev s_law_buys : Stmt := top 40
abbrev N_law_buys : List Str := ["_law_trades_here", "_law_drinks", "_law_kind", "_law_left", "_law_needed"]
theorem sc_law_buys : FnScope N_law_buys ["_law_trades_here", "_law_drinks"] (defScope s_law_buys) := ⟨rfl, rfl, rfl, by decide +kernel, rfl, by decide +kernel, by decide +kernel⟩
abbrev a_law_buys (K : PySem.W.Frag) : Addr := He.ga K "_law_buys"
def d_law_buys : DD := ⟨a_law_buys, "_law_buys", "_law_buys", s_law_buys, []⟩
abbrev s_law_party : Stmt := top 41
abbrev N_law_party : List Str := ["_law_h", "_law_trades_here", "_law_bottles", "_law_full", "_law_drunk", "_law_pieces", "_law_made", "_law_k", "_law_able", "_law_j"]
theorem sc_law_party : FnScope N_law_party ["_law_h", "_law_trades_here", "_law_bottles"] (defScope s_law_party) := ⟨rfl, rfl, rfl, by decide +kernel, rfl, by decide +kernel, by decide +kernel⟩
abbrev a_law_party (K : PySem.W.Frag) : Addr := He.ga K "_law_party"
def d_law_party : DD := ⟨a_law_party, "_law_party", "_law_party", s_law_party, []⟩
abbrev s_law : Stmt := top 42
abbrev N_law : List Str := ["_law_script", "_law_h", "_law_turn", "_law_trades_here", "_law_bottles", "_law_offer_here", "_law_drinks", "_law_made", "_law_pieces", "_law_told", "_law_due", "_law_some", "_law_one"]
theorem sc_law : FnScope N_law ["_law_script"] (defScope s_law) := ⟨rfl, rfl, rfl, by decide +kernel, rfl, by decide +kernel, by decide +kernel⟩
abbrev a_law (K : PySem.W.Frag) : Addr := He.ga K "law"
def d_law : DD := ⟨a_law, "law", "law", s_law, []⟩
/-- what the top has left -/
structure Tx (K : PySem.W.Frag) (mg : Str → Option Value) where
  fd_is_integer : FuncData
  F_is_integer : FnP K d_is_integer fd_is_integer
  g_is_integer : mg "is_integer" = some (.ref (a_is_integer K))
  fd_is_number : FuncData
  F_is_number : FnP K d_is_number fd_is_number
  g_is_number : mg "is_number" = some (.ref (a_is_number K))
  fd_check_number : FuncData
  F_check_number : FnP K d_check_number fd_check_number
  g_check_number : mg "check_number" = some (.ref (a_check_number K))
  fd_is_label : FuncData
  F_is_label : FnP K d_is_label fd_is_label
  g_is_label : mg "is_label" = some (.ref (a_is_label K))
  fd_is_kind : FuncData
  F_is_kind : FnP K d_is_kind fd_is_kind
  g_is_kind : mg "is_kind" = some (.ref (a_is_kind K))
  fd_cost_of : FuncData
  F_cost_of : FnP K d_cost_of fd_cost_of
  g_cost_of : mg "cost_of" = some (.ref (a_cost_of K))
  fd_drinks_of_period : FuncData
  F_drinks_of_period : FnP K d_drinks_of_period fd_drinks_of_period
  g_drinks_of_period : mg "drinks_of_period" = some (.ref (a_drinks_of_period K))
  fd_tops_of : FuncData
  F_tops_of : FnP K d_tops_of fd_tops_of
  g_tops_of : mg "tops_of" = some (.ref (a_tops_of K))
  fd_firsts_of : FuncData
  F_firsts_of : FnP K d_firsts_of fd_firsts_of
  g_firsts_of : mg "firsts_of" = some (.ref (a_firsts_of K))
  fd_gaps_of : FuncData
  F_gaps_of : FnP K d_gaps_of fd_gaps_of
  g_gaps_of : mg "gaps_of" = some (.ref (a_gaps_of K))
  fd_value_at : FuncData
  F_value_at : FnP K d_value_at fd_value_at
  g_value_at : mg "value_at" = some (.ref (a_value_at K))
  fd_is_trade : FuncData
  F_is_trade : FnP K d_is_trade fd_is_trade
  g_is_trade : mg "_is_trade" = some (.ref (a_is_trade K))
  fd_check_trades : FuncData
  F_check_trades : FnP K d_check_trades fd_check_trades
  g_check_trades : mg "_check_trades" = some (.ref (a_check_trades K))
  fd_check_generosity : FuncData
  F_check_generosity : FnP K d_check_generosity fd_check_generosity
  g_check_generosity : mg "_check_generosity" = some (.ref (a_check_generosity K))
  fd_Offer_init : FuncData
  F_Offer_init : FnP K d_Offer_init fd_Offer_init
  mk_Offer : Mk K (He.ga K "Offer") (a_Offer_init K)
  fd_Offer_trades : FuncData
  F_Offer_trades : FnP K d_Offer_trades fd_Offer_trades
  p_Offer_trades : PropOf K (He.ga K "Offer") "trades" (He.ma K (He.ga K "Offer") "trades") (a_Offer_trades K)
  fd_Offer_kinds : FuncData
  F_Offer_kinds : FnP K d_Offer_kinds fd_Offer_kinds
  p_Offer_kinds : PropOf K (He.ga K "Offer") "kinds" (He.ma K (He.ga K "Offer") "kinds") (a_Offer_kinds K)
  fd_Offer_period : FuncData
  F_Offer_period : FnP K d_Offer_period fd_Offer_period
  p_Offer_period : PropOf K (He.ga K "Offer") "period" (He.ma K (He.ga K "Offer") "period") (a_Offer_period K)
  fd_Offer_drinks_for : FuncData
  F_Offer_drinks_for : FnP K d_Offer_drinks_for fd_Offer_drinks_for
  m_Offer_drinks_for : Meth K (He.ga K "Offer") "_drinks_for" (a_Offer_drinks_for K)
  fd_Offer_most_within : FuncData
  F_Offer_most_within : FnP K d_Offer_most_within fd_Offer_most_within
  m_Offer_most_within : Meth K (He.ga K "Offer") "_most_within" (a_Offer_most_within K)
  fd_Offer_call : FuncData
  F_Offer_call : FnP K d_Offer_call fd_Offer_call
  co_Offer : StX.CallO K (He.ga K "Offer") (a_Offer_call K)
  fd_Offer_trades_made : FuncData
  F_Offer_trades_made : FnP K d_Offer_trades_made fd_Offer_trades_made
  m_Offer_trades_made : Meth K (He.ga K "Offer") "trades_made" (a_Offer_trades_made K)
  fd_Offer_left_over : FuncData
  F_Offer_left_over : FnP K d_Offer_left_over fd_Offer_left_over
  m_Offer_left_over : Meth K (He.ga K "Offer") "left_over" (a_Offer_left_over K)
  fd_Offer_add : FuncData
  F_Offer_add : FnP K d_Offer_add fd_Offer_add
  m_Offer_add : Meth K (He.ga K "Offer") "__add__" (a_Offer_add K)
  fd_Offer_sub : FuncData
  F_Offer_sub : FnP K d_Offer_sub fd_Offer_sub
  m_Offer_sub : Meth K (He.ga K "Offer") "__sub__" (a_Offer_sub K)
  fd_Offer_getitem : FuncData
  F_Offer_getitem : FnP K d_Offer_getitem fd_Offer_getitem
  m_Offer_getitem : Meth K (He.ga K "Offer") "__getitem__" (a_Offer_getitem K)
  fd_Offer_iter : FuncData
  F_Offer_iter : FnP K d_Offer_iter fd_Offer_iter
  m_Offer_iter : Meth K (He.ga K "Offer") "__iter__" (a_Offer_iter K)
  fd_Offer_bool : FuncData
  F_Offer_bool : FnP K d_Offer_bool fd_Offer_bool
  m_Offer_bool : Meth K (He.ga K "Offer") "__bool__" (a_Offer_bool K)
  fd_Offer_contains : FuncData
  F_Offer_contains : FnP K d_Offer_contains fd_Offer_contains
  m_Offer_contains : Meth K (He.ga K "Offer") "__contains__" (a_Offer_contains K)
  fd_Offer_le : FuncData
  F_Offer_le : FnP K d_Offer_le fd_Offer_le
  m_Offer_le : Meth K (He.ga K "Offer") "__le__" (a_Offer_le K)
  fd_Offer_lt : FuncData
  F_Offer_lt : FnP K d_Offer_lt fd_Offer_lt
  m_Offer_lt : Meth K (He.ga K "Offer") "__lt__" (a_Offer_lt K)
  fd_Offer_ge : FuncData
  F_Offer_ge : FnP K d_Offer_ge fd_Offer_ge
  m_Offer_ge : Meth K (He.ga K "Offer") "__ge__" (a_Offer_ge K)
  fd_Offer_gt : FuncData
  F_Offer_gt : FnP K d_Offer_gt fd_Offer_gt
  m_Offer_gt : Meth K (He.ga K "Offer") "__gt__" (a_Offer_gt K)
  fd_slack : FuncData
  F_slack : FnP K d_slack fd_slack
  g_slack : mg "_slack" = some (.ref (a_slack K))
  fd_repetition : FuncData
  F_repetition : FnP K d_repetition fd_repetition
  g_repetition : mg "_repetition" = some (.ref (a_repetition K))
  fd_never_more : FuncData
  F_never_more : FnP K d_never_more fd_never_more
  g_never_more : mg "_never_more" = some (.ref (a_never_more K))
  fd_first_difference : FuncData
  F_first_difference : FnP K d_first_difference fd_first_difference
  g_first_difference : mg "first_difference" = some (.ref (a_first_difference K))
  fd_law_mix : FuncData
  F_law_mix : FnP K d_law_mix fd_law_mix
  g_law_mix : mg "_law_mix" = some (.ref (a_law_mix K))
  fd_law_next : FuncData
  F_law_next : FnP K d_law_next fd_law_next
  g_law_next : mg "_law_next" = some (.ref (a_law_next K))
  fd_law_alike : FuncData
  F_law_alike : FnP K d_law_alike fd_law_alike
  g_law_alike : mg "_law_alike" = some (.ref (a_law_alike K))
  fd_law_trades : FuncData
  F_law_trades : FnP K d_law_trades fd_law_trades
  g_law_trades : mg "_law_trades" = some (.ref (a_law_trades K))
  fd_law_offer : FuncData
  F_law_offer : FnP K d_law_offer fd_law_offer
  g_law_offer : mg "_law_offer" = some (.ref (a_law_offer K))
  fd_law_buys : FuncData
  F_law_buys : FnP K d_law_buys fd_law_buys
  g_law_buys : mg "_law_buys" = some (.ref (a_law_buys K))
  fd_law_party : FuncData
  F_law_party : FnP K d_law_party fd_law_party
  g_law_party : mg "_law_party" = some (.ref (a_law_party K))
  fd_law : FuncData
  F_law : FnP K d_law fd_law
  g_law : mg "law" = some (.ref (a_law K))
  g_Offer : mg "Offer" = some (.ref (He.ga K "Offer"))
  k_Offer : Cls K (He.ga K "Offer")
  r_Offer : ClX.CRead K (He.ga K "Offer") (.type "type")
  na_trades : NoAttr K (He.ga K "Offer") "_trades"
  na_period : NoAttr K (He.ga K "Offer") "_period"
  na_tops : NoAttr K (He.ga K "Offer") "_tops"
  na_firsts : NoAttr K (He.ga K "Offer") "_firsts"
  na_gaps : NoAttr K (He.ga K "Offer") "_gaps"
  v_Offer_MAX_TRADES : ∃ u, ClX.CVal K (He.ga K "Offer") (.type "type") "MAX_TRADES" (.int 3) u
  v_Offer_MAX_NEEDED : ∃ u, ClX.CVal K (He.ga K "Offer") (.type "type") "MAX_NEEDED" (.int 12) u
  c_MAX_NUMBER : ∃ t, mg "MAX_NUMBER" = some (.int (1000000000000000000) t)
  c_MAX_LABEL_LENGTH : ∃ t, mg "MAX_LABEL_LENGTH" = some (.int (8) t)
  c_DRINK : ∃ t, mg "DRINK" = some (.str "drink" t)
  c_MAX_LEFT : ∃ t, mg "MAX_LEFT" = some (.int (12) t)
  n_len : mg "len" = none
  n_sum : mg "sum" = none
  n_max : mg "max" = none
  n_min : mg "min" = none
  n_all : mg "all" = none
  n_any : mg "any" = none
  n_isinstance : mg "isinstance" = none
  n_range : mg "range" = none
  n_enumerate : mg "enumerate" = none
  n_zip : mg "zip" = none
  n_list : mg "list" = none
  n_tuple : mg "tuple" = none
  n_int : mg "int" = none
  n_bool : mg "bool" = none
  n_str : mg "str" = none
  n_dict : mg "dict" = none
  n_divmod : mg "divmod" = none
  b_gcd : mg "gcd" = some (.builtin "math.gcd")
  b_lcm : mg "lcm" = some (.builtin "math.lcm")
def fas : List He.Fa := [.glo "is_integer",
  .glo "is_number",
  .glo "check_number",
  .glo "is_label",
  .glo "is_kind",
  .glo "cost_of",
  .glo "drinks_of_period",
  .glo "tops_of",
  .glo "firsts_of",
  .glo "gaps_of",
  .glo "value_at",
  .glo "_is_trade",
  .glo "_check_trades",
  .glo "_check_generosity",
  .mkr "Offer",
  .meth "Offer" "_drinks_for",
  .meth "Offer" "_most_within",
  .meth "Offer" "trades_made",
  .meth "Offer" "left_over",
  .meth "Offer" "__add__",
  .meth "Offer" "__sub__",
  .meth "Offer" "__getitem__",
  .meth "Offer" "__iter__",
  .meth "Offer" "__bool__",
  .meth "Offer" "__contains__",
  .meth "Offer" "__le__",
  .meth "Offer" "__lt__",
  .meth "Offer" "__ge__",
  .meth "Offer" "__gt__",
  .glo "_slack",
  .glo "_repetition",
  .glo "_never_more",
  .glo "first_difference",
  .glo "_law_mix",
  .glo "_law_next",
  .glo "_law_alike",
  .glo "_law_trades",
  .glo "_law_offer",
  .glo "_law_buys",
  .glo "_law_party",
  .glo "law",
  .glo "Offer",
  .cls "Offer",
  .noat "Offer" "_trades",
  .noat "Offer" "_period",
  .noat "Offer" "_tops",
  .noat "Offer" "_firsts",
  .noat "Offer" "_gaps",
  .int "MAX_NUMBER" (1000000000000000000),
  .int "MAX_LABEL_LENGTH" (8),
  .str "DRINK" "drink",
  .int "MAX_LEFT" (12),
  .free "len",
  .free "sum",
  .free "max",
  .free "min",
  .free "all",
  .free "any",
  .free "isinstance",
  .free "range",
  .free "enumerate",
  .free "zip",
  .free "list",
  .free "tuple",
  .free "int",
  .free "bool",
  .free "str",
  .free "dict",
  .free "divmod"]
def mores : List (PySem.W.Frag → Bool) := [fun K => okProp K "Offer" "trades",
  fun K => okProp K "Offer" "kinds",
  fun K => okProp K "Offer" "period",
  fun K => okCallO K "Offer",
  fun K => okRead K "Offer",
  fun K => okCVal K "Offer" "MAX_TRADES" (.int 3),
  fun K => okCVal K "Offer" "MAX_NEEDED" (.int 12),
  fun K => okBlt K "gcd" "math.gcd",
  fun K => okBlt K "lcm" "math.lcm"]
def moreB (K : PySem.W.Frag) : Bool := mores.all fun f => f K
def dds : List DD := [d_is_integer, d_is_number, d_check_number, d_is_label, d_is_kind, d_cost_of, d_drinks_of_period, d_tops_of, d_firsts_of, d_gaps_of, d_value_at, d_is_trade, d_check_trades, d_check_generosity, d_Offer_init, d_Offer_trades, d_Offer_kinds, d_Offer_period, d_Offer_drinks_for, d_Offer_most_within, d_Offer_call, d_Offer_trades_made, d_Offer_left_over, d_Offer_add, d_Offer_sub, d_Offer_getitem, d_Offer_iter, d_Offer_bool, d_Offer_contains, d_Offer_le, d_Offer_lt, d_Offer_ge, d_Offer_gt, d_slack, d_repetition, d_never_more, d_first_difference, d_law_mix, d_law_next, d_law_alike, d_law_trades, d_law_offer, d_law_buys, d_law_party, d_law]
theorem more_at {K : PySem.W.Frag} (h : moreB K = true) (i : Nat) {f : PySem.W.Frag → Bool} (e : mores[i]? = some f := by rfl) : f K = true := List.all_eq_true.mp h f (List.mem_of_getElem? e)
theorem tx_of {K : PySem.W.Frag} {h : Heap} {mg : Str → Option Value} (X : K.In h) (G : h.Ns mainGlobals mg) (c : Says fas moreB dds K) : Nonempty (Tx K mg) := by
  obtain ⟨fd_is_integer, F_is_integer⟩ := c.fn 0 (d := d_is_integer) rfl
  obtain ⟨fd_is_number, F_is_number⟩ := c.fn 1 (d := d_is_number) rfl
  obtain ⟨fd_check_number, F_check_number⟩ := c.fn 2 (d := d_check_number) rfl
  obtain ⟨fd_is_label, F_is_label⟩ := c.fn 3 (d := d_is_label) rfl
  obtain ⟨fd_is_kind, F_is_kind⟩ := c.fn 4 (d := d_is_kind) rfl
  obtain ⟨fd_cost_of, F_cost_of⟩ := c.fn 5 (d := d_cost_of) rfl
  obtain ⟨fd_drinks_of_period, F_drinks_of_period⟩ := c.fn 6 (d := d_drinks_of_period) rfl
  obtain ⟨fd_tops_of, F_tops_of⟩ := c.fn 7 (d := d_tops_of) rfl
  obtain ⟨fd_firsts_of, F_firsts_of⟩ := c.fn 8 (d := d_firsts_of) rfl
  obtain ⟨fd_gaps_of, F_gaps_of⟩ := c.fn 9 (d := d_gaps_of) rfl
  obtain ⟨fd_value_at, F_value_at⟩ := c.fn 10 (d := d_value_at) rfl
  obtain ⟨fd_is_trade, F_is_trade⟩ := c.fn 11 (d := d_is_trade) rfl
  obtain ⟨fd_check_trades, F_check_trades⟩ := c.fn 12 (d := d_check_trades) rfl
  obtain ⟨fd_check_generosity, F_check_generosity⟩ := c.fn 13 (d := d_check_generosity) rfl
  obtain ⟨fd_Offer_init, F_Offer_init⟩ := c.fn 14 (d := d_Offer_init) rfl
  obtain ⟨fd_Offer_trades, F_Offer_trades⟩ := c.fn 15 (d := d_Offer_trades) rfl
  obtain ⟨fd_Offer_kinds, F_Offer_kinds⟩ := c.fn 16 (d := d_Offer_kinds) rfl
  obtain ⟨fd_Offer_period, F_Offer_period⟩ := c.fn 17 (d := d_Offer_period) rfl
  obtain ⟨fd_Offer_drinks_for, F_Offer_drinks_for⟩ := c.fn 18 (d := d_Offer_drinks_for) rfl
  obtain ⟨fd_Offer_most_within, F_Offer_most_within⟩ := c.fn 19 (d := d_Offer_most_within) rfl
  obtain ⟨fd_Offer_call, F_Offer_call⟩ := c.fn 20 (d := d_Offer_call) rfl
  obtain ⟨fd_Offer_trades_made, F_Offer_trades_made⟩ := c.fn 21 (d := d_Offer_trades_made) rfl
  obtain ⟨fd_Offer_left_over, F_Offer_left_over⟩ := c.fn 22 (d := d_Offer_left_over) rfl
  obtain ⟨fd_Offer_add, F_Offer_add⟩ := c.fn 23 (d := d_Offer_add) rfl
  obtain ⟨fd_Offer_sub, F_Offer_sub⟩ := c.fn 24 (d := d_Offer_sub) rfl
  obtain ⟨fd_Offer_getitem, F_Offer_getitem⟩ := c.fn 25 (d := d_Offer_getitem) rfl
  obtain ⟨fd_Offer_iter, F_Offer_iter⟩ := c.fn 26 (d := d_Offer_iter) rfl
  obtain ⟨fd_Offer_bool, F_Offer_bool⟩ := c.fn 27 (d := d_Offer_bool) rfl
  obtain ⟨fd_Offer_contains, F_Offer_contains⟩ := c.fn 28 (d := d_Offer_contains) rfl
  obtain ⟨fd_Offer_le, F_Offer_le⟩ := c.fn 29 (d := d_Offer_le) rfl
  obtain ⟨fd_Offer_lt, F_Offer_lt⟩ := c.fn 30 (d := d_Offer_lt) rfl
  obtain ⟨fd_Offer_ge, F_Offer_ge⟩ := c.fn 31 (d := d_Offer_ge) rfl
  obtain ⟨fd_Offer_gt, F_Offer_gt⟩ := c.fn 32 (d := d_Offer_gt) rfl
  obtain ⟨fd_slack, F_slack⟩ := c.fn 33 (d := d_slack) rfl
  obtain ⟨fd_repetition, F_repetition⟩ := c.fn 34 (d := d_repetition) rfl
  obtain ⟨fd_never_more, F_never_more⟩ := c.fn 35 (d := d_never_more) rfl
  obtain ⟨fd_first_difference, F_first_difference⟩ := c.fn 36 (d := d_first_difference) rfl
  obtain ⟨fd_law_mix, F_law_mix⟩ := c.fn 37 (d := d_law_mix) rfl
  obtain ⟨fd_law_next, F_law_next⟩ := c.fn 38 (d := d_law_next) rfl
  obtain ⟨fd_law_alike, F_law_alike⟩ := c.fn 39 (d := d_law_alike) rfl
  obtain ⟨fd_law_trades, F_law_trades⟩ := c.fn 40 (d := d_law_trades) rfl
  obtain ⟨fd_law_offer, F_law_offer⟩ := c.fn 41 (d := d_law_offer) rfl
  obtain ⟨fd_law_buys, F_law_buys⟩ := c.fn 42 (d := d_law_buys) rfl
  obtain ⟨fd_law_party, F_law_party⟩ := c.fn 43 (d := d_law_party) rfl
  obtain ⟨fd_law, F_law⟩ := c.fn 44 (d := d_law) rfl
  have cm := c.bools.2.1
  exact ⟨⟨fd_is_integer,
    F_is_integer,
    He.glo_ok X G (c.fact 0 (f := .glo "is_integer") rfl),
    fd_is_number,
    F_is_number,
    He.glo_ok X G (c.fact 1 (f := .glo "is_number") rfl),
    fd_check_number,
    F_check_number,
    He.glo_ok X G (c.fact 2 (f := .glo "check_number") rfl),
    fd_is_label,
    F_is_label,
    He.glo_ok X G (c.fact 3 (f := .glo "is_label") rfl),
    fd_is_kind,
    F_is_kind,
    He.glo_ok X G (c.fact 4 (f := .glo "is_kind") rfl),
    fd_cost_of,
    F_cost_of,
    He.glo_ok X G (c.fact 5 (f := .glo "cost_of") rfl),
    fd_drinks_of_period,
    F_drinks_of_period,
    He.glo_ok X G (c.fact 6 (f := .glo "drinks_of_period") rfl),
    fd_tops_of,
    F_tops_of,
    He.glo_ok X G (c.fact 7 (f := .glo "tops_of") rfl),
    fd_firsts_of,
    F_firsts_of,
    He.glo_ok X G (c.fact 8 (f := .glo "firsts_of") rfl),
    fd_gaps_of,
    F_gaps_of,
    He.glo_ok X G (c.fact 9 (f := .glo "gaps_of") rfl),
    fd_value_at,
    F_value_at,
    He.glo_ok X G (c.fact 10 (f := .glo "value_at") rfl),
    fd_is_trade,
    F_is_trade,
    He.glo_ok X G (c.fact 11 (f := .glo "_is_trade") rfl),
    fd_check_trades,
    F_check_trades,
    He.glo_ok X G (c.fact 12 (f := .glo "_check_trades") rfl),
    fd_check_generosity,
    F_check_generosity,
    He.glo_ok X G (c.fact 13 (f := .glo "_check_generosity") rfl),
    fd_Offer_init,
    F_Offer_init,
    He.mkr_ok (c.fact 14 (f := .mkr "Offer") rfl),
    fd_Offer_trades,
    F_Offer_trades,
    okProp_of (more_at cm 0 (f := fun K => okProp K "Offer" "trades") rfl),
    fd_Offer_kinds,
    F_Offer_kinds,
    okProp_of (more_at cm 1 (f := fun K => okProp K "Offer" "kinds") rfl),
    fd_Offer_period,
    F_Offer_period,
    okProp_of (more_at cm 2 (f := fun K => okProp K "Offer" "period") rfl),
    fd_Offer_drinks_for,
    F_Offer_drinks_for,
    He.meth_ok (c.fact 15 (f := .meth "Offer" "_drinks_for") rfl),
    fd_Offer_most_within,
    F_Offer_most_within,
    He.meth_ok (c.fact 16 (f := .meth "Offer" "_most_within") rfl),
    fd_Offer_call,
    F_Offer_call,
    okCallO_of (more_at cm 3 (f := fun K => okCallO K "Offer") rfl),
    fd_Offer_trades_made,
    F_Offer_trades_made,
    He.meth_ok (c.fact 17 (f := .meth "Offer" "trades_made") rfl),
    fd_Offer_left_over,
    F_Offer_left_over,
    He.meth_ok (c.fact 18 (f := .meth "Offer" "left_over") rfl),
    fd_Offer_add,
    F_Offer_add,
    He.meth_ok (c.fact 19 (f := .meth "Offer" "__add__") rfl),
    fd_Offer_sub,
    F_Offer_sub,
    He.meth_ok (c.fact 20 (f := .meth "Offer" "__sub__") rfl),
    fd_Offer_getitem,
    F_Offer_getitem,
    He.meth_ok (c.fact 21 (f := .meth "Offer" "__getitem__") rfl),
    fd_Offer_iter,
    F_Offer_iter,
    He.meth_ok (c.fact 22 (f := .meth "Offer" "__iter__") rfl),
    fd_Offer_bool,
    F_Offer_bool,
    He.meth_ok (c.fact 23 (f := .meth "Offer" "__bool__") rfl),
    fd_Offer_contains,
    F_Offer_contains,
    He.meth_ok (c.fact 24 (f := .meth "Offer" "__contains__") rfl),
    fd_Offer_le,
    F_Offer_le,
    He.meth_ok (c.fact 25 (f := .meth "Offer" "__le__") rfl),
    fd_Offer_lt,
    F_Offer_lt,
    He.meth_ok (c.fact 26 (f := .meth "Offer" "__lt__") rfl),
    fd_Offer_ge,
    F_Offer_ge,
    He.meth_ok (c.fact 27 (f := .meth "Offer" "__ge__") rfl),
    fd_Offer_gt,
    F_Offer_gt,
    He.meth_ok (c.fact 28 (f := .meth "Offer" "__gt__") rfl),
    fd_slack,
    F_slack,
    He.glo_ok X G (c.fact 29 (f := .glo "_slack") rfl),
    fd_repetition,
    F_repetition,
    He.glo_ok X G (c.fact 30 (f := .glo "_repetition") rfl),
    fd_never_more,
    F_never_more,
    He.glo_ok X G (c.fact 31 (f := .glo "_never_more") rfl),
    fd_first_difference,
    F_first_difference,
    He.glo_ok X G (c.fact 32 (f := .glo "first_difference") rfl),
    fd_law_mix,
    F_law_mix,
    He.glo_ok X G (c.fact 33 (f := .glo "_law_mix") rfl),
    fd_law_next,
    F_law_next,
    He.glo_ok X G (c.fact 34 (f := .glo "_law_next") rfl),
    fd_law_alike,
    F_law_alike,
    He.glo_ok X G (c.fact 35 (f := .glo "_law_alike") rfl),
    fd_law_trades,
    F_law_trades,
    He.glo_ok X G (c.fact 36 (f := .glo "_law_trades") rfl),
    fd_law_offer,
    F_law_offer,
    He.glo_ok X G (c.fact 37 (f := .glo "_law_offer") rfl),
    fd_law_buys,
    F_law_buys,
    He.glo_ok X G (c.fact 38 (f := .glo "_law_buys") rfl),
    fd_law_party,
    F_law_party,
    He.glo_ok X G (c.fact 39 (f := .glo "_law_party") rfl),
    fd_law,
    F_law,
    He.glo_ok X G (c.fact 40 (f := .glo "law") rfl),
    He.glo_ok X G (c.fact 41 (f := .glo "Offer") rfl),
    He.cls_ok (c.fact 42 (f := .cls "Offer") rfl),
    okRead_of (more_at cm 4 (f := fun K => okRead K "Offer") rfl),
    He.noat_ok (c.fact 43 (f := .noat "Offer" "_trades") rfl),
    He.noat_ok (c.fact 44 (f := .noat "Offer" "_period") rfl),
    He.noat_ok (c.fact 45 (f := .noat "Offer" "_tops") rfl),
    He.noat_ok (c.fact 46 (f := .noat "Offer" "_firsts") rfl),
    He.noat_ok (c.fact 47 (f := .noat "Offer" "_gaps") rfl),
    okCVal_of (more_at cm 5 (f := fun K => okCVal K "Offer" "MAX_TRADES" (.int 3)) rfl),
    okCVal_of (more_at cm 6 (f := fun K => okCVal K "Offer" "MAX_NEEDED" (.int 12)) rfl),
    He.int_ok X G (c.fact 48 (f := .int "MAX_NUMBER" (1000000000000000000)) rfl),
    He.int_ok X G (c.fact 49 (f := .int "MAX_LABEL_LENGTH" (8)) rfl),
    He.str_ok X G (c.fact 50 (f := .str "DRINK" "drink") rfl),
    He.int_ok X G (c.fact 51 (f := .int "MAX_LEFT" (12)) rfl),
    He.free_ok X G (c.fact 52 (f := .free "len") rfl),
    He.free_ok X G (c.fact 53 (f := .free "sum") rfl),
    He.free_ok X G (c.fact 54 (f := .free "max") rfl),
    He.free_ok X G (c.fact 55 (f := .free "min") rfl),
    He.free_ok X G (c.fact 56 (f := .free "all") rfl),
    He.free_ok X G (c.fact 57 (f := .free "any") rfl),
    He.free_ok X G (c.fact 58 (f := .free "isinstance") rfl),
    He.free_ok X G (c.fact 59 (f := .free "range") rfl),
    He.free_ok X G (c.fact 60 (f := .free "enumerate") rfl),
    He.free_ok X G (c.fact 61 (f := .free "zip") rfl),
    He.free_ok X G (c.fact 62 (f := .free "list") rfl),
    He.free_ok X G (c.fact 63 (f := .free "tuple") rfl),
    He.free_ok X G (c.fact 64 (f := .free "int") rfl),
    He.free_ok X G (c.fact 65 (f := .free "bool") rfl),
    He.free_ok X G (c.fact 66 (f := .free "str") rfl),
    He.free_ok X G (c.fact 67 (f := .free "dict") rfl),
    He.free_ok X G (c.fact 68 (f := .free "divmod") rfl),
    okBlt_of X G (more_at cm 7 (f := fun K => okBlt K "gcd" "math.gcd") rfl),
    okBlt_of X G (more_at cm 8 (f := fun K => okBlt K "lcm" "math.lcm") rfl)⟩⟩
end EB

namespace EB
open PySem PySem.Spec PyProof.Rows L2
/-! ### data -/
/-- one trade -/
structure Tr where
  k : Str
  l : Int
  n : Int
def Tr.vs (t : Tr) : List V := [.str t.k, .int t.l, .int t.n]
def Tr.ok (t : Tr) : Prop := 0 ≤ t.l ∧ t.l ≤ 12 ∧ 1 ≤ t.n ∧ t.n ≤ 12
structure TrAt (K : PySem.W.Frag) (H : Hp) (a : Addr) (ts : List Tr) : Prop where
  ex : ∃ ps : List Addr, SqT K H a (ps.map V.ref) ∧ ps.length = ts.length ∧ ∀ (i : Nat) (p : Addr) (t : Tr), ps[i]? = some p → ts[i]? = some t → SqT K H p t.vs
theorem TrAt.mono {K : PySem.W.Frag} {H H' : Hp} {a : Addr} {ts : List Tr} (s : Same H H') (h : TrAt K H a ts) : TrAt K H' a ts := by
  obtain ⟨ps, h1, h2, h3⟩ := h.ex
  exact ⟨ps, Same.tup s h1, h2, fun i p t a b => Same.tup s (h3 i p t a b)⟩
theorem TrAt.at_ {K : PySem.W.Frag} {H : Hp} {ts : List Tr} {ps : List Addr} {i : Nat} {x : V} (h2 : ps.length = ts.length) (h3 : ∀ (i : Nat) (p : Addr) (t : Tr), ps[i]? = some p → ts[i]? = some t → SqT K H p t.vs)
    (hx : (ps.map V.ref)[i]? = some x) : ∃ (p : Addr) (t : Tr), x = .ref p ∧ ps[i]? = some p ∧ ts[i]? = some t ∧ t ∈ ts ∧ i < ts.length ∧ SqT K H p t.vs := by
  rw [List.getElem?_map] at hx
  cases ep : ps[i]? with
  | none =>
    rw [ep] at hx
    cases hx
  | some p =>
    rw [ep] at hx
    cases hx
    have li : i < ts.length := by
      rw [← h2]
      exact (List.getElem?_eq_some_iff.mp ep).1
    have et : ts[i]? = some ts[i] := List.getElem?_eq_getElem li
    exact ⟨p, ts[i], rfl, rfl, et, List.getElem_mem li, li, h3 i p _ ep et⟩
def buys (ts : List Tr) (d : Int) : Int := (ts.map fun t => t.l * d / t.n).sum
def cost (ts : List Tr) (d : Int) : Int := d - buys ts d
def gds (ts : List Tr) : Prop := ts.length ≤ 3 ∧ ∀ t ∈ ts, t.ok
theorem small3 {n : Nat} (h : n ≤ 100000) : n < sizeLine := Nat.lt_of_le_of_lt h (by decide)
theorem int_at {ns : List Int} {i : Nat} {x : V} (h : (ns.map V.int)[i]? = some x) : ∃ c, ns[i]? = some c ∧ x = .int c := by
  rw [List.getElem?_map] at h
  cases e : ns[i]? with
  | none =>
    rw [e] at h
    cases h
  | some c =>
    rw [e] at h
    exact ⟨c, rfl, (Option.some.inj h).symm⟩
theorem lt_of_at {α : Type} {l : List α} {i : Nat} {x : α} (h : l[i]? = some x) : i < l.length := (List.getElem?_eq_some_iff.mp h).1
theorem take_at {α : Type} {l : List α} {i : Nat} {x : α} (h : l[i]? = some x) : l.take (i + 1) = l.take i ++ [x] := by
  rw [List.take_add_one, h]
  rfl
section
variable {P : Program} {w : World} {K : PySem.W.Frag} {mg : Str → Option Value} {base : Heap}
/-- a def that lets nothing out -/
theorem fnK0 {d : DD} {fd : FuncData} {N ps : List Str} {k : Nat} {sp : Sp} (F : FnP K d fd) (S : FnScope N ps (defScope d.st)) (len : ∀ vs H Q E, sp vs H Q E → vs.length = ps.length)
    (hbody : ∀ (cdv : Value) (A : Around) (outer : List Env) (s : Shared) (H : Hp) (vs : List V) (Q : VK) (E : XK), Room k (A.deeper (envOfC d.ql (defScope d.st) s.heap.objs.size (d.adr K) cdv)) → sp vs H Q E →
      ∃ t, PSs (cxOf CX0 P w K mg base N d.ql (defScope d.st) (d.adr K) cdv A outer s H E).nox (defBody d.st) t ∧ t { nx := fun _ H' => Q .non H', rt := Q } (start N vs) H) :
    FnOk P w K mg base CX0 (k + 1) (d.adr K) fd ps sp := FunD.ok F S len fun cdv A outer s H vs Q E hr h => by
  obtain ⟨t, h1, h2⟩ := hbody cdv A outer s H vs Q E hr h
  exact ⟨t, h1.nox, h2⟩
/-- .. without defaults -/
theorem fnR0 {d : DD} {fd : FuncData} {N ps : List Str} {k : Nat} {sp : Sp} (F : FnP K d fd) (S : FnScope N ps (defScope d.st)) (e : d.df = [])
    (b : ∀ (kV doc pm : Value) (an : Option Addr) (cdv ct : Value) (us : List Value), us.length = ps.length → bindArgs (PySem.W.fnOf d.nm d.ql (defArgs d.st) (defBody d.st) (defScope d.st) .none kV doc pm an cdv ct) ⟨us, []⟩ = pure (ps.zip us))
    (len : ∀ vs H Q E, sp vs H Q E → vs.length = ps.length)
    (hbody : ∀ (cdv : Value) (A : Around) (outer : List Env) (s : Shared) (H : Hp) (vs : List V) (Q : VK) (E : XK), Room k (A.deeper (envOfC d.ql (defScope d.st) s.heap.objs.size (d.adr K) cdv)) → sp vs H Q E →
      ∃ t, PSs (cxOf CX0 P w K mg base N d.ql (defScope d.st) (d.adr K) cdv A outer s H E).nox (defBody d.st) t ∧ t { nx := fun _ H' => Q .non H', rt := Q } (start N vs) H) :
    FnR P w K mg base CX0 (k + 1) (d.adr K) sp := by
  have F1 : FnOk P w K mg base CX0 (k + 1) (d.adr K) fd ps sp := FunD.ok F S len fun cdv A outer s H vs Q E hr h => by
    obtain ⟨t, h1, h2⟩ := hbody cdv A outer s H vs Q E hr h
    exact ⟨t, h1.nox, h2⟩
  have F2 : FunD K d.nm d.ql (defArgs d.st) (defBody d.st) (defScope d.st) [] [] (d.adr K) fd := by
    have z : FnP K d fd := F
    unfold FnP at z
    rw [e] at z
    exact z
  refine (F1.raw (F2.bindsN b) .nil).imp fun vs H Q E h => ?_
  rw [List.append_nil]
  exact h
end
def perS (d : Nat) (t : Tr) : Nat := d.lcm (t.n / ((t.l.natAbs.gcd t.n.natAbs : Nat) : Int)).natAbs
def per (ts : List Tr) : Nat := ts.foldl perS 1
theorem gcd_pos' {t : Tr} (ht : t.ok) : 0 < ((t.l.natAbs.gcd t.n.natAbs : Nat) : Int) ∧ ((t.l.natAbs.gcd t.n.natAbs : Nat) : Int) ≤ 12 := by
  obtain ⟨_, _, h3, h4⟩ := ht
  have h5 : 0 < t.n.natAbs := by omega
  have h6 : 0 < t.l.natAbs.gcd t.n.natAbs := Nat.gcd_pos_of_pos_right _ h5
  have h7 : t.l.natAbs.gcd t.n.natAbs ≤ t.n.natAbs := Nat.gcd_le_right _ h5
  omega
theorem quo_le {t : Tr} (ht : t.ok) : (t.n / ((t.l.natAbs.gcd t.n.natAbs : Nat) : Int)).natAbs ≤ 12 := by
  have h1 := gcd_pos' ht
  have h2 := ht.2.2.1
  have h3 := ht.2.2.2
  have h4 : 0 ≤ t.n / ((t.l.natAbs.gcd t.n.natAbs : Nat) : Int) := Int.ediv_nonneg (by omega) (by omega)
  have h5 : t.n / ((t.l.natAbs.gcd t.n.natAbs : Nat) : Int) ≤ t.n := Int.ediv_le_self _ (by omega)
  omega
theorem per_le : ∀ (ts : List Tr) (d : Nat), (∀ t ∈ ts, t.ok) → ts.foldl perS d ≤ d * 12 ^ ts.length
  | [], d, _ => by simp
  | t :: ts, d, h => by
    have h1 := per_le ts (perS d t) fun u hu => h u (List.mem_cons_of_mem _ hu)
    have h2 : perS d t ≤ d * 12 := Nat.le_trans (PySem.W.mc_lcm_le _ _) (Nat.mul_le_mul_left _ (quo_le (h t (List.mem_cons_self ..))))
    have h3 : perS d t * 12 ^ ts.length ≤ d * 12 * 12 ^ ts.length := Nat.mul_le_mul_right _ h2
    rw [List.foldl_cons, List.length_cons, Nat.pow_succ]
    rw [Nat.mul_assoc, Nat.mul_comm 12] at h3
    omega
theorem per_most {ts : List Tr} (h : gds ts) (i : Nat) : (ts.take i).foldl perS 1 ≤ 1728 := by
  have h1 := per_le (ts.take i) 1 fun t ht => h.2 t (List.mem_of_mem_take ht)
  have h2 : (ts.take i).length ≤ 3 := by
    rw [List.length_take]
    have := h.1
    omega
  have h3 : 12 ^ (ts.take i).length ≤ 12 ^ 3 := Nat.pow_le_pow_right (by omega) h2
  omega
section
variable {P : Program} {w : World} {K : PySem.W.Frag} {mg : Str → Option Value} {base : Heap} (T : Tx K mg)
include T
/-! ### patterns -/
def spCost (K : PySem.W.Frag) : Sp := fun vs H Q _ => ∃ (a : Addr) (ts : List Tr) (d : Int), vs = [.ref a, .int d] ∧ TrAt K H a ts ∧ gds ts ∧ ∀ H', Same H H' → Q (.int (cost ts d)) H'
theorem ok_cost_of : FnR P w K mg base CX0 1 (a_cost_of K) (spCost K) := by
  refine fnR0 (d := d_cost_of) T.F_cost_of sc_cost_of rfl (fun _ _ _ _ _ _ us hl => match us, hl with | [_, _], _ => rfl) (fun vs H Q E h => ?_) (fun cdv A outer s H vs Q E hr h => ?_)
  · obtain ⟨a, ts, d, rfl, _⟩ := h
    rfl
  obtain ⟨a, ts, d, rfl, hT, ⟨hlen, hok⟩, k⟩ := h
  obtain ⟨ps, h1, h2, h3⟩ := hT.ex
  refine ⟨_, (pss_one (ps_ret (pe_op op_sub (pv 1) (pe_callB (cr_sum rfl) (by rfl) T.n_sum (by decide +kernel) (pa_cons (pe_lc (own := [("_", 2), ("left", 3), ("needed", 4)]) rfl sc_cost_of.nd (pi_tup (pv 0)) (blkOk_by (own := [("_", 2), ("left", 3), ("needed", 4)]) (N := N_cost_of) (sc := defScope s_cost_of) (by decide +kernel)) (fun _ _ _ _ _ => (pg_tupB (n := 3) (pgs_cons (pg_name (i := 2) sc_cost_of.nd rfl (Or.inl rfl) (.inr rfl)) (pgs_cons (pg_name (i := 3) sc_cost_of.nd rfl (Or.inl rfl) (.inr rfl)) (pgs_cons (pg_name (i := 4) sc_cost_of.nd rfl (Or.inl rfl) (.inr rfl)) pgs_nil))))) (fun _ _ _ _ _ => pts_nil) (fun _ _ _ _ _ => (pe_op op_fdiv (pe_op op_mul (pv 3) (pv 1)) (pv 4)))) pa_nil))))), ?_⟩
  refine ⟨_, rfl, _, rfl, a, rfl, ⟨_, h1⟩, fun D hD => ?_⟩
  refine lc_tup (xs := ps.map V.ref) (fun i H1 => Same H H1 ∧ H D = none ∧ H1 D = some (.lst ((ts.take i).map fun t => V.int (t.l * d / t.n)))) ⟨same_new hD, hD, upd_same⟩ (fun i H1 _ q => Same.tup q.1 h1) ?_ ?_
  · rintro i x H1 hx ⟨s1, n1, e1⟩
    obtain ⟨p, t, rfl, ep, et, hm, li, hp⟩ := TrAt.at_ h2 h3 hx
    have ht := hok _ hm
    refine ⟨p, _, rfl, Same.tup s1 hp, rfl, _, _, rfl, _, _, rfl, _, _, rfl, rfl, rfl, ?_⟩
    refine ⟨_, rfl, _, rfl, _, _, rfl, rfl, .inl ⟨by have := ht.1; omega, by have := ht.2.1; omega⟩, _, rfl, _, _, rfl, rfl, ⟨by have := ht.2.2.1; omega, by have := ht.2.2.2; omega⟩, ?_⟩
    refine ⟨_, e1, small3 ?_, same_mut s1 n1, n1, ?_⟩
    · rw [List.length_map, List.length_take]
      omega
    · rw [upd_same, take_at et, List.map_append]
      rfl
  · rintro H1 ⟨s1, n1, e1⟩
    refine ⟨D, ts.map fun t => t.l * d / t.n, rfl, SqL.of ?_, ?_⟩
    · rw [e1, List.length_map, h2, List.take_length, List.map_map]
      rfl
    · exact ⟨_, _, rfl, rfl, k _ s1⟩
def spPer (K : PySem.W.Frag) : Sp := fun vs H Q _ => ∃ (a : Addr) (ts : List Tr), vs = [.ref a] ∧ TrAt K H a ts ∧ gds ts ∧ ∀ H', Same H H' → Q (.int (per ts : Nat)) H'
theorem ok_drinks_of_period : FnR P w K mg base CX0 1 (a_drinks_of_period K) (spPer K) := by
  refine fnR0 (d := d_drinks_of_period) T.F_drinks_of_period sc_drinks_of_period rfl (fun _ _ _ _ _ _ us hl => match us, hl with | [_], _ => rfl) (fun vs H Q E h => ?_) (fun cdv A outer s H vs Q E hr h => ?_)
  · obtain ⟨a, ts, rfl, _⟩ := h
    rfl
  obtain ⟨a, ts, rfl, hT, hg, k⟩ := h
  obtain ⟨ps, h1, h2, h3⟩ := hT.ex
  refine ⟨_, (pss_cons (ps_set (i := 1) sc_drinks_of_period.nd rfl (Or.inl rfl) pe_int) (pss_cons (ps_for PassesOwn.never rfl (pi_tup (pv 0)) (pg_tup rfl (pgs_cons (pg_name (i := 2) sc_drinks_of_period.nd rfl (Or.inl rfl)) (pgs_cons (pg_name (i := 3) sc_drinks_of_period.nd rfl (Or.inl rfl)) (pgs_cons (pg_name (i := 4) sc_drinks_of_period.nd rfl (Or.inl rfl)) pgs_nil)))) (pss_one (ps_set (i := 1) sc_drinks_of_period.nd rfl (Or.inl rfl) (pe_callBfun cr_lcm (by rfl) T.b_lcm (pa_cons (pv 1) (pa_cons (pe_op op_fdiv (pv 4) (pe_callBfun cr_gcd (by rfl) T.b_gcd (pa_cons (pv 3) (pa_cons (pv 4) pa_nil)))) pa_nil)))))) (pss_one (ps_ret (pv 1))))), ?_⟩
  refine ⟨_, rfl, a, rfl, ⟨_, h1⟩, for_tup (xs := ps.map V.ref) (fun i σ H1 => H1 = H ∧ ∃ x2 x3 x4, σ = [some (.ref a), some (.int (((ts.take i).foldl perS 1 : Nat) : Int)), x2, x3, x4]) ⟨rfl, _, _, _, rfl⟩ (fun i σ H1 _ q => by rw [q.1]; exact h1) ?_ ?_⟩
  · rintro i x σ H1 hx ⟨rfl, x2, x3, x4, rfl⟩
    obtain ⟨p, t, rfl, ep, et, hm, li, hp⟩ := TrAt.at_ h2 h3 hx
    have ht := hg.2 _ hm
    have hq := gcd_pos' ht
    refine ⟨p, _, rfl, hp, rfl, _, _, rfl, _, _, rfl, _, _, rfl, rfl, ?_⟩
    refine ⟨_, rfl, _, rfl, _, rfl, _, rfl, _, _, rfl, _, _, rfl, rfl, ⟨hq.1, by omega⟩, _, _, rfl, ?_, ?_, rfl, some (.str t.k), some (.int t.l), some (.int t.n), ?_⟩
    · have := per_most hg i
      exact Nat.lt_of_le_of_lt (by omega : _ ≤ 1728) (by decide)
    · exact Nat.lt_of_le_of_lt (quo_le ht) (by decide)
    · rw [take_at et, List.foldl_append]
      rfl
  · rintro σ H1 ⟨rfl, x2, x3, x4, rfl⟩
    refine ⟨_, rfl, ?_⟩
    have e : (ts.take (ps.map V.ref).length).foldl perS 1 = per ts := by
      rw [List.length_map, h2, List.take_length]
      rfl
    rw [e]
    exact k _ (Same.refl _)
end
end EB

namespace EB
open PySem PySem.Spec PyProof.Rows L2
/-! ### tables -/
def topsF : Int → List Int → List Int
  | _, [] => []
  | m, c :: cs => (if m < c then c else m) :: topsF (if m < c then c else m) cs
def topsM (m : Int) (cs : List Int) : Int := cs.foldl (fun m c => if m < c then c else m) m
theorem topsF_length : ∀ (m : Int) (cs : List Int), (topsF m cs).length = cs.length
  | _, [] => rfl
  | m, c :: cs => by
    show (topsF _ cs).length + 1 = _
    rw [topsF_length]
    rfl
theorem topsF_snoc : ∀ (m : Int) (cs : List Int) (c : Int), topsF m (cs ++ [c]) = topsF m cs ++ [topsM m (cs ++ [c])]
  | m, [], c => rfl
  | m, x :: cs, c => by
    show _ :: topsF _ (cs ++ [c]) = _ :: (topsF _ cs ++ _)
    rw [topsF_snoc]
    rfl
theorem topsM_snoc (m : Int) (cs : List Int) (c : Int) : topsM m (cs ++ [c]) = if topsM m cs < c then c else topsM m cs := by
  unfold topsM
  rw [List.foldl_append]
  rfl
/-- the first place of each value that a table reaches: what is there, what is still to be gone through from place i on -/
def firstsF : Nat → List Int → List Int → List Int
  | _, acc, [] => acc
  | i, acc, t :: ts => firstsF (i + 1) (if t = (acc.length : Int) then acc ++ [(i : Int)] else acc) ts
theorem firstsF_snoc : ∀ (i : Nat) (acc ts : List Int) (t : Int), firstsF i acc (ts ++ [t]) = if t = ((firstsF i acc ts).length : Int) then firstsF i acc ts ++ [((i + ts.length : Nat) : Int)] else firstsF i acc ts
  | i, acc, [], t => rfl
  | i, acc, x :: ts, t => by
    show firstsF (i + 1) _ (ts ++ [t]) = _
    rw [firstsF_snoc]
    have e : i + 1 + ts.length = i + (x :: ts).length := by
      rw [List.length_cons]
      omega
    rw [e]
    rfl
theorem firstsF_length : ∀ (i : Nat) (acc ts : List Int), (firstsF i acc ts).length ≤ acc.length + ts.length
  | _, acc, [] => Nat.le_refl _
  | i, acc, t :: ts => by
    have h := firstsF_length (i + 1) (if t = (acc.length : Int) then acc ++ [(i : Int)] else acc) ts
    have h2 : (if t = (acc.length : Int) then acc ++ [(i : Int)] else acc).length ≤ acc.length + 1 := by
      split
      · rw [List.length_append, List.length_singleton]
        exact Nat.le_refl _
      · exact Nat.le_succ _
    rw [List.length_cons]
    show (firstsF (i + 1) (if t = (acc.length : Int) then acc ++ [(i : Int)] else acc) ts).length ≤ _
    omega
def valueAt (xs : List Int) (at_ span rise : Int) : Int :=
  if at_ < xs.length then xs.getD at_.toNat 0 else xs.getD (at_ - ((at_ - xs.length) / span + 1) * span).toNat 0 + ((at_ - xs.length) / span + 1) * rise
theorem getD_at {xs : List Int} {i : Int} (h0 : 0 ≤ i) (h1 : i < xs.length) : atI (xs.map V.int) i = some (.int (xs.getD i.toNat 0)) := by
  have hi : i.toNat < xs.length := by omega
  refine at_of (j := i.toNat) (by omega) ?_
  rw [List.getElem?_map, List.getElem?_eq_getElem hi, List.getD_eq_getElem?_getD, List.getElem?_eq_getElem hi]
  rfl
/-- the places at which a table of first places does not lead back -/
def gapsF (fs : List Int) : Nat → List Int → List Int
  | _, [] => []
  | i, t :: ts => (if fs.getD t.toNat 0 = (i : Int) then [] else [(i : Int)]) ++ gapsF fs (i + 1) ts
theorem gapsF_snoc (fs : List Int) : ∀ (i : Nat) (ts : List Int) (t : Int), gapsF fs i (ts ++ [t]) = gapsF fs i ts ++ (if fs.getD t.toNat 0 = ((i + ts.length : Nat) : Int) then [] else [((i + ts.length : Nat) : Int)])
  | i, [], t => by
    show (if _ then _ else _) ++ [] = [] ++ _
    rw [List.append_nil, List.nil_append]
    rfl
  | i, x :: ts, t => by
    show _ ++ gapsF fs (i + 1) (ts ++ [t]) = _ ++ gapsF fs (i + 1) ts ++ _
    rw [gapsF_snoc, List.append_assoc]
    have e : i + 1 + ts.length = i + (x :: ts).length := by
      rw [List.length_cons]
      omega
    rw [e]
theorem gapsF_length (fs : List Int) : ∀ (i : Nat) (ts : List Int), (gapsF fs i ts).length ≤ ts.length
  | _, [] => Nat.le_refl _
  | i, t :: ts => by
    show ((if _ then _ else _) ++ gapsF fs (i + 1) ts).length ≤ ts.length + 1
    have := gapsF_length fs (i + 1) ts
    rw [List.length_append]
    split
    · simp only [List.length_nil]
      omega
    · simp only [List.length_singleton]
      omega
section
variable {P : Program} {w : World} {K : PySem.W.Frag} {mg : Str → Option Value} {base : Heap} (T : Tx K mg)
include T
def spTops (K : PySem.W.Frag) : Sp := fun vs H Q _ => ∃ (a : Addr) (cs : List Int), vs = [.ref a] ∧ SqL K H a (cs.map V.int) ∧ cs.length ≤ 10000 ∧ ∀ H' p, Same H H' → H p = none → H' p = some (.lst ((topsF 0 cs).map V.int)) → Q (.ref p) H'
theorem ok_tops_of : FnR P w K mg base CX0 1 (a_tops_of K) (spTops K) := by
  refine fnR0 (d := d_tops_of) T.F_tops_of sc_tops_of rfl (fun _ _ _ _ _ _ us hl => match us, hl with | [_], _ => rfl) (fun vs H Q E h => ?_) (fun cdv A outer s H vs Q E hr h => ?_)
  · obtain ⟨a, cs, rfl, _⟩ := h
    rfl
  obtain ⟨a, cs, rfl, hS, hl, k⟩ := h
  refine ⟨_, (pss_cons (ps_set (i := 1) sc_tops_of.nd rfl (Or.inl rfl) (pe_lst pa_nil)) (pss_cons (ps_set (i := 2) sc_tops_of.nd rfl (Or.inl rfl) pe_int) (pss_cons (ps_for PassesOwn.never rfl (pi_list (pv 0)) (pg_name (i := 3) sc_tops_of.nd rfl (Or.inl rfl)) (pss_cons (ps_if (pt_cmpR op_gt (pv 3) (pv 2) (nomark _)) (pss_one (ps_set (i := 2) sc_tops_of.nd rfl (Or.inl rfl) (pv 3))) pss_nil) (pss_one (ps_expr (pe_bm PySem.F.plainAttrs_list PySem.F.slot_list_append PySem.F.type_list_append mt_append (pv 1) (pa_cons (pv 2) pa_nil)))))) (pss_one (ps_ret (pv 1)))))), ?_⟩
  refine ⟨Nat.zero_le _, fun p hp => ?_⟩
  refine ⟨_, rfl, a, rfl, ⟨_, (same_new hp).seq hS⟩, for_list (K := K) (a := a) (xs := cs.map V.int) (fun i σ H1 => Same H H1 ∧ H1 p = some (.lst ((topsF 0 (cs.take i)).map V.int)) ∧ ∃ x, σ = [some (.ref a), some (.ref p), some (.int (topsM 0 (cs.take i))), x])
    ⟨same_new hp, upd_same, _, rfl⟩ (fun i σ H1 _ q => q.1.seq hS) ?_ ?_⟩
  · rintro i x σ H1 hx ⟨s1, e1, x3, rfl⟩
    obtain ⟨c, ec, rfl⟩ := int_at hx
    have hi := lt_of_at ec
    have e2 : topsM 0 (cs.take (i + 1)) = if topsM 0 (cs.take i) < c then c else topsM 0 (cs.take i) := by rw [take_at ec, topsM_snoc]
    have e3 : topsF 0 (cs.take (i + 1)) = topsF 0 (cs.take i) ++ [topsM 0 (cs.take (i + 1))] := by rw [take_at ec, topsF_snoc]
    have hz : ((topsF 0 (cs.take i)).map V.int).length < sizeLine := small3 (by rw [List.length_map, topsF_length, List.length_take]; omega)
    refine ⟨_, rfl, _, rfl, _, _, rfl, rfl, _, rfl, ite2 (fun hd => ?_) (fun hd => ?_)⟩
    · have hd : topsM 0 (cs.take i) < c := of_decide_eq_true hd
      rw [if_pos hd] at e2
      refine ⟨_, rfl, ?_⟩
      refine ⟨_, rfl, .inl ⟨rfl, _, SqL.of e1⟩, _, rfl, p, _, _, rfl, rfl, e1, hz, same_mut s1 hp, ?_, some (.int c), ?_⟩
      · rw [upd_same, e3, e2, List.map_append]
        rfl
      · rw [e2]
        rfl
    · have hd : ¬ topsM 0 (cs.take i) < c := fun z => hd (decide_eq_true z)
      rw [if_neg hd] at e2
      refine ⟨_, rfl, .inl ⟨rfl, _, SqL.of e1⟩, _, rfl, p, _, _, rfl, rfl, e1, hz, same_mut s1 hp, ?_, some (.int c), ?_⟩
      · rw [upd_same, e3, e2, List.map_append]
        rfl
      · rw [e2]
        rfl
  · rintro σ H1 ⟨s1, e1, x, rfl⟩
    refine ⟨_, rfl, k _ _ s1 hp ?_⟩
    rw [e1, List.length_map, List.take_length]
def spFirsts (K : PySem.W.Frag) : Sp := fun vs H Q _ => ∃ (a : Addr) (ts : List Int), vs = [.ref a] ∧ SqL K H a (ts.map V.int) ∧ ts.length ≤ 10000 ∧ ∀ H' p, Same H H' → H p = none → H' p = some (.lst ((firstsF 0 [] ts).map V.int)) → Q (.ref p) H'
theorem ok_firsts_of : FnR P w K mg base CX0 1 (a_firsts_of K) (spFirsts K) := by
  refine fnR0 (d := d_firsts_of) T.F_firsts_of sc_firsts_of rfl (fun _ _ _ _ _ _ us hl => match us, hl with | [_], _ => rfl) (fun vs H Q E h => ?_) (fun cdv A outer s H vs Q E hr h => ?_)
  · obtain ⟨a, cs, rfl, _⟩ := h
    rfl
  obtain ⟨a, ts, rfl, hS, hl, k⟩ := h
  refine ⟨_, (pss_cons (ps_set (i := 1) sc_firsts_of.nd rfl (Or.inl rfl) (pe_lst pa_nil)) (pss_cons (ps_for PassesOwn.never rfl (pi_enum (by rfl) T.n_enumerate (pa_cons (pv 0) pa_nil)) (pg_tup rfl (pgs_cons (pg_name (i := 2) sc_firsts_of.nd rfl (Or.inl rfl)) (pgs_cons (pg_name (i := 3) sc_firsts_of.nd rfl (Or.inl rfl)) pgs_nil))) (pss_one (ps_if (pt_cmpR op_eq (pv 3) (pe_callB call_len_seq (by rfl) T.n_len PySem.boot_len (pa_cons (pv 1) pa_nil)) (nomark _)) (pss_one (ps_expr (pe_bm PySem.F.plainAttrs_list PySem.F.slot_list_append PySem.F.type_list_append mt_append (pv 1) (pa_cons (pv 2) pa_nil)))) pss_nil))) (pss_one (ps_ret (pv 1))))), ?_⟩
  refine ⟨Nat.zero_le _, fun p hp => ?_⟩
  refine ⟨_, rfl, a, _, rfl, (same_new hp).seq hS, for_it (walk_enum (K := K) (a := a) (xs := ts.map V.int)) (fun i σ H1 => Same H H1 ∧ H1 p = some (.lst ((firstsF 0 [] (ts.take i)).map V.int)) ∧ ∃ x y, σ = [some (.ref a), some (.ref p), x, y])
    ⟨same_new hp, upd_same, _, _, rfl⟩ (fun i σ H1 _ q => q.1.seq hS) ?_ ?_⟩
  · rintro i x σ H1 H2 hi ⟨s1, e1, x2, x3, rfl⟩ ⟨q, u, v, rfl, nq, rfl, eu, ev⟩
    cases eu
    obtain ⟨c, ec, rfl⟩ := int_at ev
    have li := lt_of_at ec
    have hz : (firstsF 0 [] (ts.take i)).length ≤ 10000 := by
      have := firstsF_length 0 [] (ts.take i)
      rw [List.length_take] at this
      simp only [List.length_nil] at this
      omega
    have e3 := firstsF_snoc 0 [] (ts.take i) c
    rw [← take_at ec, List.length_take, Nat.min_eq_left (Nat.le_of_lt li), Nat.zero_add] at e3
    have e1' := upd_old (u := .tup [.int (i : Nat), .int c]) e1 nq
    refine ⟨q, _, rfl, SqT.of upd_same, rfl, _, _, rfl, _, _, rfl, rfl, ?_⟩
    refine ⟨_, rfl, _, rfl, p, _, rfl, .inl (SqL.of e1'), rfl, _, rfl, ?_⟩
    refine ite2 (fun hd => ?_) (fun hd => ?_)
    · have hd2 : c = ((firstsF 0 [] (ts.take i)).length : Int) := by
        have z := of_decide_eq_true hd
        rw [List.length_map] at z
        exact V.int.inj z
      rw [if_pos hd2] at e3
      refine ⟨_, rfl, .inl ⟨rfl, _, SqL.of e1'⟩, _, rfl, p, _, _, rfl, rfl, e1', small3 (by rw [List.length_map]; omega), same_mut (s1.trans (same_new nq)) hp, ?_, _, _, rfl⟩
      rw [upd_same, e3, List.map_append]
      rfl
    · have hd2 : ¬ c = ((firstsF 0 [] (ts.take i)).length : Int) := fun z => hd (decide_eq_true (by rw [List.length_map, z]))
      rw [if_neg hd2] at e3
      exact ⟨s1.trans (same_new nq), by rw [e1', e3], _, _, rfl⟩
  · rintro σ H1 ⟨s1, e1, x, y, rfl⟩
    refine ⟨_, rfl, k _ _ s1 hp ?_⟩
    rw [e1, List.length_map, List.take_length]
def spValue (K : PySem.W.Frag) : Sp := fun vs H Q _ => ∃ (a : Addr) (xs : List Int) (i span rise : Int), vs = [.ref a, .int i, .int span, .int rise] ∧ SqL K H a (xs.map V.int) ∧ 0 ≤ i ∧ 0 < span ∧ span < 10000 ∧ -(10000) < rise ∧ rise < 10000 ∧ span ≤ xs.length ∧
  Q (.int (valueAt xs i span rise)) H
theorem ok_value_at : FnR P w K mg base CX0 1 (a_value_at K) (spValue K) := by
  refine fnR0 (d := d_value_at) T.F_value_at sc_value_at rfl (fun _ _ _ _ _ _ us hl => match us, hl with | [_, _, _, _], _ => rfl) (fun vs H Q E h => ?_) (fun cdv A outer s H vs Q E hr h => ?_)
  · obtain ⟨a, xs, i, span, rise, rfl, _⟩ := h
    rfl
  obtain ⟨a, xs, i, span, rise, rfl, hS, h0, h1, h2, h3, h4, h5, k⟩ := h
  refine ⟨_, (pss_cons (ps_if (pt_cmpR op_lt (pv 1) (pe_callB call_len_seq (by rfl) T.n_len PySem.boot_len (pa_cons (pv 0) pa_nil)) (nomark _)) (pss_one (ps_ret (pe_ix ix_list (pv 0) (pv 1) (fun _ _ => rfl)))) pss_nil) (pss_cons (ps_set (i := 4) sc_value_at.nd rfl (Or.inl rfl) (pe_op op_add (pe_op op_fdiv (pe_op op_sub (pv 1) (pe_callB call_len_seq (by rfl) T.n_len PySem.boot_len (pa_cons (pv 0) pa_nil))) (pv 2)) pe_int)) (pss_one (ps_ret (pe_op op_add (pe_ix ix_list (pv 0) (pe_op op_sub (pv 1) (pe_op op_mul (pv 4) (pv 2))) (fun _ _ => rfl)) (pe_op op_mul (pv 4) (pv 3))))))), ?_⟩
  refine ⟨_, rfl, _, rfl, a, _, rfl, .inl hS, _, _, rfl, rfl, _, rfl, ite2 (fun hd => ?_) (fun hd => ?_)⟩
  · have hd : i < (xs.length : Int) := by
      have z := of_decide_eq_true hd
      rw [List.length_map] at z
      exact z
    refine ⟨_, rfl, _, rfl, a, _, _, _, rfl, rfl, hS, getD_at h0 hd, ?_⟩
    unfold valueAt at k
    rw [if_pos hd] at k
    exact k
  · have hd : ¬ i < (xs.length : Int) := fun z => hd (decide_eq_true (by rw [List.length_map]; exact z))
    unfold valueAt at k
    rw [if_neg hd] at k
    refine ⟨_, rfl, _, rfl, a, _, rfl, .inl hS, _, _, rfl, rfl, _, rfl, _, _, rfl, rfl, ⟨h1, by omega⟩, _, _, rfl, rfl, ?_⟩
    have em : i % span = i - i / span * span := by
      have := Int.emod_add_mul_ediv i span
      rw [Int.mul_comm] at this
      omega
    have f1 : (i - xs.length) / span * span ≤ i - xs.length := by
      have := Int.emod_add_mul_ediv (i - xs.length) span
      have := Int.emod_nonneg (i - xs.length) (show span ≠ 0 by omega)
      rw [Int.mul_comm]
      omega
    have f2 : i - xs.length < (i - xs.length) / span * span + span := by
      have := Int.emod_add_mul_ediv (i - xs.length) span
      have := Int.emod_lt_of_pos (i - xs.length) h1
      rw [Int.mul_comm]
      omega
    have f3 : ((i - xs.length) / span + 1) * span = (i - xs.length) / span * span + span := by rw [Int.add_mul, Int.one_mul]
    refine ⟨_, rfl, _, rfl, _, rfl, _, rfl, _, _, rfl, rfl, .inr ⟨by omega, by omega⟩, _, _, rfl, rfl, a, _, _, .int (xs.getD (i - ((i - (xs.length : Int)) / span + 1) * span).toNat 0), rfl, rfl, hS, ?_, ?_⟩
    · show atI (xs.map V.int) (i - ((i - ((xs.map V.int).length : Int)) / span + 1) * span) = _
      rw [List.length_map]
      refine getD_at ?_ ?_
      · omega
      · omega
    · refine ⟨_, rfl, _, rfl, _, _, rfl, rfl, .inr ⟨by omega, by omega⟩, _, _, rfl, rfl, ?_⟩
      rw [List.length_map]
      exact k
def spGaps (K : PySem.W.Frag) : Sp := fun vs H Q _ => ∃ (a b : Addr) (ts fs : List Int), vs = [.ref a, .ref b] ∧ SqL K H a (ts.map V.int) ∧ SqL K H b (fs.map V.int) ∧ ts.length ≤ 10000 ∧ (∀ t ∈ ts, 0 ≤ t ∧ t < fs.length) ∧
  ∀ H' p, Same H H' → H p = none → H' p = some (.lst ((gapsF fs 0 ts).map V.int)) → Q (.ref p) H'
theorem ok_gaps_of : FnR P w K mg base CX0 1 (a_gaps_of K) (spGaps K) := by
  refine fnR0 (d := d_gaps_of) T.F_gaps_of sc_gaps_of rfl (fun _ _ _ _ _ _ us hl => match us, hl with | [_, _], _ => rfl) (fun vs H Q E h => ?_) (fun cdv A outer s H vs Q E hr h => ?_)
  · obtain ⟨a, b, ts, fs, rfl, _⟩ := h
    rfl
  obtain ⟨a, b, ts, fs, rfl, hS, hF, hl, hb, k⟩ := h
  refine ⟨_, (pss_one (ps_ret (pe_lc (own := [("drinks", 2), ("top", 3)]) rfl sc_gaps_of.nd (pi_enum (by rfl) T.n_enumerate (pa_cons (pv 0) pa_nil)) (blkOk_by (own := [("drinks", 2), ("top", 3)]) (N := N_gaps_of) (sc := defScope s_gaps_of) (by decide +kernel)) (fun _ _ _ _ _ => (pg_tupB (n := 2) (pgs_cons (pg_name (i := 2) sc_gaps_of.nd rfl (Or.inl rfl) (.inr rfl)) (pgs_cons (pg_name (i := 3) sc_gaps_of.nd rfl (Or.inl rfl) (.inr rfl)) pgs_nil)))) (fun _ _ _ _ _ => (pts_one (pt_cmpR op_ne (pe_ix (ix_listK (K := K) rfl) (pv 1) (pv 3) (fun _ _ => rfl)) (pv 2) (nomark _)))) (fun _ _ _ _ _ => (pv 2))))), ?_⟩
  refine ⟨_, rfl, a, _, rfl, hS, fun D hD => ?_⟩
  refine lc_it (walk_enum (K := K) (a := a) (xs := ts.map V.int)) (fun i H1 => Same H H1 ∧ H1 D = some (.lst ((gapsF fs 0 (ts.take i)).map V.int))) ⟨same_new hD, upd_same⟩ (fun i H1 _ q => q.1.seq hS) ?_ ?_
  · rintro i x H1 H2 hi ⟨s1, e1⟩ ⟨q, u, v, rfl, nq, rfl, eu, ev⟩
    cases eu
    obtain ⟨c, ec, rfl⟩ := int_at ev
    have li := lt_of_at ec
    have hc := hb c (List.mem_of_getElem? ec)
    have e1' := upd_old (u := .tup [.int (i : Nat), .int c]) e1 nq
    have e3 := gapsF_snoc fs 0 (ts.take i) c
    rw [← take_at ec, List.length_take, Nat.min_eq_left (Nat.le_of_lt li), Nat.zero_add] at e3
    have hz : (gapsF fs 0 (ts.take i)).length ≤ 10000 := by
      have := gapsF_length fs 0 (ts.take i)
      rw [List.length_take] at this
      omega
    refine ⟨q, _, rfl, SqT.of upd_same, rfl, _, _, rfl, _, _, rfl, rfl, rfl, ?_⟩
    refine ⟨_, rfl, _, rfl, b, _, _, _, rfl, rfl, (s1.trans (same_new nq)).seq hF, getD_at hc.1 hc.2, _, rfl, rfl, _, rfl, ?_⟩
    refine ite2 (fun hd => ?_) (fun hd => ?_)
    · have hd2 : ¬ fs.getD c.toNat 0 = (i : Int) := fun z => by
        rw [z, decide_eq_true rfl] at hd
        cases hd
      rw [if_neg hd2] at e3
      refine ⟨_, rfl, _, e1', small3 (by rw [List.length_map]; omega), same_mut (s1.trans (same_new nq)) hD, ?_⟩
      rw [upd_same, e3, List.map_append]
      rfl
    · have hd2 : fs.getD c.toNat 0 = (i : Int) := by
        apply Classical.byContradiction
        intro z
        apply hd
        rw [decide_eq_false (fun y => z (V.int.inj y))]
        rfl
      rw [if_pos hd2, List.append_nil] at e3
      exact ⟨s1.trans (same_new nq), by rw [e1', e3]⟩
  · rintro H1 ⟨s1, e1⟩
    refine k _ _ s1 hD ?_
    rw [e1, List.length_map, List.take_length]
end
end EB

namespace EB
open PySem PySem.Spec PyProof.Rows L2
/-! ### checks -/
def signOk (c : Nat) : Bool := if (!decide ((⟨#[c]⟩ : Str).cps.toList < ("a" : Str).cps.toList)) = true then (!decide (("z" : Str).cps.toList < (⟨#[c]⟩ : Str).cps.toList)) else false
def labelOk (z : Str) : Bool := if (!(if decide ((1 : Int) ≤ z.length) = true then decide ((z.length : Int) ≤ 8) else false)) = true then false else (z.cps.toList.map signOk).all id
def kindOk (z : Str) : Bool := if labelOk z = true then !decide (z = "drink") else false
def numOk (i lo hi : Int) : Bool := if decide (lo ≤ i) = true then decide (i ≤ hi) else false
def trOk (t : Tr) : Bool := if kindOk t.k = true then (if numOk t.l 0 12 = true then numOk t.n 1 12 else false) else false
theorem numOk_iff {i lo hi : Int} : numOk i lo hi = true ↔ lo ≤ i ∧ i ≤ hi := by
  unfold numOk
  by_cases h : lo ≤ i
  · rw [decide_eq_true h, if_pos rfl]
    exact ⟨fun z => ⟨h, of_decide_eq_true z⟩, fun z => decide_eq_true z.2⟩
  · rw [decide_eq_false h, if_neg Bool.false_ne_true]
    exact ⟨fun z => absurd z Bool.false_ne_true, fun z => absurd z.1 h⟩
theorem trOk_of {t : Tr} (h : t.ok) (k : kindOk t.k = true) : trOk t = true := by
  unfold trOk
  rw [if_pos k, if_pos (numOk_iff.mpr ⟨h.1, h.2.1⟩)]
  exact numOk_iff.mpr ⟨h.2.2.1, h.2.2.2⟩
section
variable {P : Program} {w : World} {K : PySem.W.Frag} {mg : Str → Option Value} {base : Heap} (T : Tx K mg)
include T
def spIsInt : Sp := fun vs H Q _ => ∃ i : Int, vs = [.int i] ∧ Q (.bl true) H
theorem ok_is_integer : FnR P w K mg base CX0 1 (a_is_integer K) spIsInt := by
  refine fnR0 (d := d_is_integer) T.F_is_integer sc_is_integer rfl (fun _ _ _ _ _ _ us hl => match us, hl with | [_], _ => rfl) (fun vs H Q E h => ?_) (fun cdv A outer s H vs Q E hr h => ?_)
  · obtain ⟨i, rfl, _⟩ := h
    rfl
  obtain ⟨i, rfl, k⟩ := h
  refine ⟨_, (pss_one (ps_ret (pe_and (pe_callB call_isi (by rfl) T.n_isinstance (by decide +kernel) (pa_cons (pv 0) (pa_cons (pe_bltn (v := .ty "int") (u := .type "int") rfl T.n_int (by decide +kernel) rfl) pa_nil))) (pe_one (pe_not (pe_callB call_isi (by rfl) T.n_isinstance (by decide +kernel) (pa_cons (pv 0) (pa_cons (pe_bltn (v := .ty "bool") (u := .type "bool") rfl T.n_bool (by decide +kernel) rfl) pa_nil)))))))), ?_⟩
  refine ⟨_, rfl, .int i, .ty "int", _, _, true, rfl, ClsV.ty "int", .base (.int i), kit_ty (by decide +kernel), true, rfl, iteT ?_⟩
  exact ⟨_, rfl, .int i, .ty "bool", _, _, false, rfl, ClsV.ty "bool", .base (.int i), kit_ty (by decide +kernel), false, rfl, k⟩
def spIsNum : Sp := fun vs H Q _ => ∃ i lo hi : Int, vs = [.int i, .int lo, .int hi] ∧ Q (.bl (numOk i lo hi)) H
theorem ok_is_number : FnR P w K mg base CX0 2 (a_is_number K) spIsNum := by
  refine fnR0 (d := d_is_number) T.F_is_number sc_is_number rfl (fun _ _ _ _ _ _ us hl => match us, hl with | [_, _, _], _ => rfl) (fun vs H Q E h => ?_) (fun cdv A outer s H vs Q E hr h => ?_)
  · obtain ⟨i, lo, hi, rfl, _⟩ := h
    rfl
  obtain ⟨i, lo, hi, rfl, k⟩ := h
  refine ⟨_, (pss_one (ps_ret (pe_and (pe_cR (ok_is_integer T) (hr.mono (by decide)) T.F_is_integer.kp T.g_is_integer pass0 (pa_cons (pv 0) pa_nil)) (pe_one (pe_chain op_le op_le (pv 1) (pv 0) (pv 2)))))), ?_⟩
  refine ⟨_, rfl, i, rfl, true, rfl, iteT ?_⟩
  refine ⟨_, rfl, _, rfl, _, _, rfl, rfl, _, rfl, ?_⟩
  unfold numOk at k
  refine ite2 (fun hd => ?_) (fun hd => ?_)
  · rw [if_pos hd] at k
    exact ⟨_, rfl, _, _, rfl, rfl, k⟩
  · rw [if_neg hd] at k
    exact k
def spIsLabel : Sp := fun vs H Q _ => ∃ z : Str, vs = [.str z] ∧ z.length ≤ 1000 ∧ ∀ H', Same H H' → Q (.bl (labelOk z)) H'
theorem ok_is_label : FnR P w K mg base CX0 1 (a_is_label K) spIsLabel := by
  refine fnR0 (d := d_is_label) T.F_is_label sc_is_label rfl (fun _ _ _ _ _ _ us hl => match us, hl with | [_], _ => rfl) (fun vs H Q E h => ?_) (fun cdv A outer s H vs Q E hr h => ?_)
  · obtain ⟨z, rfl, _⟩ := h
    rfl
  obtain ⟨z, rfl, hz, k⟩ := h
  have hz2 : z.length ≤ sizeLine := Nat.le_trans hz (by decide)
  refine ⟨_, (pss_cons (ps_if (PW.pt (pw_or (pt_not (pt_val (pe_callB call_isi (by rfl) T.n_isinstance (by decide +kernel) (pa_cons (pv 0) (pa_cons (pe_bltn (v := .ty "str") (u := .type "str") rfl T.n_str (by decide +kernel) rfl) pa_nil))))) (pw_or1 (pt_not (pt_chain op_le op_le pe_int (pe_callB call_len_str (by rfl) T.n_len PySem.boot_len (pa_cons (pv 0) pa_nil)) (pe_cI T.c_MAX_LABEL_LENGTH)))))) (pss_one (ps_ret pe_bl)) pss_nil) (pss_one (ps_ret (pe_callB (cr_all rfl) (by rfl) T.n_all (by decide +kernel) (pa_cons (pe_lc (own := [("letter", 1)]) rfl sc_is_label.nd (pi_str (pv 0)) (blkOk_by (own := [("letter", 1)]) (N := N_is_label) (sc := defScope s_is_label) (by decide +kernel)) (fun _ _ _ _ _ => (pg_name (i := 1) sc_is_label.nd rfl (Or.inl rfl) (.inr rfl))) (fun _ _ _ _ _ => pts_nil) (fun _ _ _ _ _ => (pe_chain op_le_str op_le_str pe_str (pv 1) pe_str))) pa_nil))))), ?_⟩
  refine ⟨_, rfl, .str z, .ty "str", _, _, true, rfl, ClsV.ty "str", .base (.str z), kit_ty (by decide +kernel), true, rfl, ?_⟩
  show (if false = true then _ else _)
  refine iteF ?_
  have hlast : ∀ (c : Bool), (if decide ((1 : Int) ≤ z.length) = true then decide ((z.length : Int) ≤ 8) else false) = c → labelOk z = if (!c) = true then false else (z.cps.toList.map signOk).all id := by
    rintro c rfl
    rfl
  refine ⟨_, rfl, z, rfl, hz2, _, _, rfl, rfl, _, rfl, ?_⟩
  refine ite2 (fun h1 => ?_) (fun h1 => ?_)
  · rw [if_pos h1] at hlast
    refine ⟨_, _, rfl, rfl, _, rfl, ?_⟩
    by_cases h2 : (z.length : Int) ≤ 8
    · rw [decide_eq_true h2]
      rw [hlast true (decide_eq_true h2)] at k
      refine iteF ?_
      refine ⟨_, rfl, z, rfl, fun D hD => ?_⟩
      refine lc_it (walk_str (z := z)) (fun i H1 => Same H H1 ∧ H1 D = some (.lst ((z.cps.toList.take i).map fun c => V.bl (signOk c)))) ⟨same_new hD, upd_same⟩ (fun _ _ _ _ => True.intro) ?_ ?_
      · rintro i x H1 H2 hi ⟨s1, e1⟩ ⟨rfl, c, ec, rfl⟩
        have ec2 : z.cps.toList[i]? = some c := by
          rw [Array.getElem?_toList]
          exact ec
        have hz3 : ((z.cps.toList.take i).map fun c => V.bl (signOk c)).length < sizeLine := by
          rw [List.length_map, List.length_take]
          refine small3 ?_
          have h3 : i < z.cps.size := hi
          have h4 : z.cps.size = z.length := rfl
          omega
        refine ⟨rfl, _, rfl, _, _, rfl, rfl, _, rfl, ?_⟩
        have hs : signOk c = if (!decide ((⟨#[c]⟩ : Str).cps.toList < ("a" : Str).cps.toList)) = true then (!decide (("z" : Str).cps.toList < (⟨#[c]⟩ : Str).cps.toList)) else false := rfl
        refine ite2 (fun h5 => ?_) (fun h5 => ?_)
        · rw [if_pos h5] at hs
          refine ⟨_, _, rfl, rfl, _, e1, hz3, same_mut s1 hD, ?_⟩
          rw [upd_same, take_at ec2, List.map_append, ← hs]
          rfl
        · rw [if_neg h5] at hs
          refine ⟨_, e1, hz3, same_mut s1 hD, ?_⟩
          rw [upd_same, take_at ec2, List.map_append, ← hs]
          rfl
      · rintro H1 ⟨s1, e1⟩
        refine ⟨D, z.cps.toList.map signOk, rfl, SqL.of ?_, k _ s1⟩
        rw [e1, ← Array.length_toList, List.take_length, List.map_map]
        rfl
    · rw [decide_eq_false h2]
      rw [hlast false (decide_eq_false h2)] at k
      exact iteT (k _ (Same.refl _))
  · rw [if_neg h1] at hlast
    rw [hlast false rfl] at k
    exact ⟨false, rfl, iteT (k _ (Same.refl _))⟩
def spIsKind : Sp := fun vs H Q _ => ∃ z : Str, vs = [.str z] ∧ z.length ≤ 1000 ∧ ∀ H', Same H H' → Q (.bl (kindOk z)) H'
theorem ok_is_kind : FnR P w K mg base CX0 2 (a_is_kind K) spIsKind := by
  refine fnR0 (d := d_is_kind) T.F_is_kind sc_is_kind rfl (fun _ _ _ _ _ _ us hl => match us, hl with | [_], _ => rfl) (fun vs H Q E h => ?_) (fun cdv A outer s H vs Q E hr h => ?_)
  · obtain ⟨z, rfl, _⟩ := h
    rfl
  obtain ⟨z, rfl, hz, k⟩ := h
  refine ⟨_, (pss_one (ps_ret (pe_and (pe_cR (ok_is_label T) (hr.mono (by decide)) T.F_is_label.kp T.g_is_label pass0 (pa_cons (pv 0) pa_nil)) (pe_one (pe_cmpR op_ne (pv 0) (pe_cS T.c_DRINK) (nomark _)))))), ?_⟩
  refine ⟨_, rfl, z, rfl, hz, fun H1 s1 => ⟨_, rfl, ?_⟩⟩
  unfold kindOk at k
  refine ite2 (fun h1 => ?_) (fun h1 => ?_)
  · rw [if_pos h1] at k
    refine ⟨_, rfl, rfl, ?_⟩
    have e : decide (V.str z = V.str "drink") = decide (z = "drink") := decide_eq_decide.mpr ⟨V.str.inj, fun y => by rw [y]⟩
    show Q (V.bl !decide (V.str z = V.str "drink")) H1
    rw [e]
    exact k _ s1
  · rw [if_neg h1] at k
    exact k _ s1
def spIsTrade : Sp := fun vs H Q _ => ∃ t : Tr, vs = t.vs ∧ t.k.length ≤ 1000 ∧ ∀ H', Same H H' → Q (.bl (trOk t)) H'
theorem ok_is_trade : FnR P w K mg base CX0 3 (a_is_trade K) spIsTrade := by
  refine fnR0 (d := d_is_trade) T.F_is_trade sc_is_trade rfl (fun _ _ _ _ _ _ us hl => match us, hl with | [_, _, _], _ => rfl) (fun vs H Q E h => ?_) (fun cdv A outer s H vs Q E hr h => ?_)
  · obtain ⟨t, rfl, _⟩ := h
    rfl
  obtain ⟨t, rfl, hz, k⟩ := h
  obtain ⟨uE, hE⟩ := T.v_Offer_MAX_NEEDED
  refine ⟨_, (pss_one (ps_ret (pe_and (pe_cR (ok_is_kind T) (hr.mono (by decide)) T.F_is_kind.kp T.g_is_kind pass0 (pa_cons (pv 0) pa_nil)) (pe_and (pe_cR (ok_is_number T) (hr.mono (by decide)) T.F_is_number.kp T.g_is_number pass0 (pa_cons (pv 1) (pa_cons pe_int (pa_cons (pe_cI T.c_MAX_LEFT) pa_nil)))) (pe_one (pe_cR (ok_is_number T) (hr.mono (by decide)) T.F_is_number.kp T.g_is_number pass0 (pa_cons (pv 2) (pa_cons pe_int (pa_cons (ClX.pe_cval (pe_cC T.g_Offer)) pa_nil))))))))), ?_⟩
  refine ⟨_, rfl, t.k, rfl, hz, fun H1 s1 => ⟨_, rfl, ?_⟩⟩
  unfold trOk at k
  refine ite2 (fun h1 => ?_) (fun h1 => ?_)
  · rw [if_pos h1] at k
    refine ⟨_, rfl, t.l, 0, 12, rfl, _, rfl, ite2 (fun h2 => ?_) (fun h2 => ?_)⟩
    · rw [if_pos h2] at k
      exact ⟨_, rfl, He.ga K "Offer", _, _, _, rfl, T.r_Offer, hE, t.n, 1, 12, rfl, k _ s1⟩
    · rw [if_neg h2] at k
      exact k _ s1
  · rw [if_neg h1] at k
    exact k _ s1
end
end EB

namespace EB
open PySem PySem.Spec PyProof.Rows L2
/-! ### the mathematics of offers -/
abbrev cN (ts : List Tr) : Nat → Int := fun d => cost ts (d : Int)
def worth (ts : List Tr) : Int := (ts.map fun t => 27720 / t.n * t.l).sum
/-- a good offer: at most three trades in range, together not too generous -/
structure Fair (ts : List Tr) : Prop where
  g : gds ts
  w : 10 * worth ts ≤ 9 * 27720
theorem dvd_big {n : Int} (h1 : 1 ≤ n) (h2 : n ≤ 12) : n ∣ 27720 := by
  have h : n = 1 ∨ n = 2 ∨ n = 3 ∨ n = 4 ∨ n = 5 ∨ n = 6 ∨ n = 7 ∨ n = 8 ∨ n = 9 ∨ n = 10 ∨ n = 11 ∨ n = 12 := by omega
  rcases h with rfl | rfl | rfl | rfl | rfl | rfl | rfl | rfl | rfl | rfl | rfl | rfl <;> decide
theorem sum_map_le {α : Type} {f g : α → Int} : ∀ {l : List α}, (∀ x ∈ l, f x ≤ g x) → (l.map f).sum ≤ (l.map g).sum
  | [], _ => Int.le_refl _
  | a :: l, h => by
    have h1 := h a (List.mem_cons_self ..)
    have h2 := sum_map_le (l := l) fun x hx => h x (List.mem_cons_of_mem _ hx)
    rw [List.map_cons, List.map_cons, List.sum_cons, List.sum_cons]
    omega
theorem sum_map_eq {α : Type} {f g : α → Int} : ∀ {l : List α}, (∀ x ∈ l, f x = g x) → (l.map f).sum = (l.map g).sum
  | [], _ => rfl
  | a :: l, h => by
    rw [List.map_cons, List.map_cons, List.sum_cons, List.sum_cons, h a (List.mem_cons_self ..), sum_map_eq (l := l) fun x hx => h x (List.mem_cons_of_mem _ hx)]
theorem sum_map_add {α : Type} {f g : α → Int} : ∀ {l : List α}, (l.map fun x => f x + g x).sum = (l.map f).sum + (l.map g).sum
  | [] => rfl
  | a :: l => by
    rw [List.map_cons, List.map_cons, List.map_cons, List.sum_cons, List.sum_cons, List.sum_cons, sum_map_add (l := l)]
    omega
theorem sum_map_mul {α : Type} {f : α → Int} {k : Int} : ∀ {l : List α}, (l.map fun x => f x * k).sum = (l.map f).sum * k
  | [] => by simp
  | a :: l => by
    rw [List.map_cons, List.map_cons, List.sum_cons, List.sum_cons, sum_map_mul (l := l), Int.add_mul]
theorem fl_mono {l n x y : Int} (hl : 0 ≤ l) (hn : 0 < n) (h : x ≤ y) : l * x / n ≤ l * y / n := Int.ediv_le_ediv hn (Int.mul_le_mul_of_nonneg_left h hl)
theorem fl_super {l n x y : Int} (hn : 0 < n) : l * x / n + l * y / n ≤ l * (x + y) / n := by
  rw [Int.mul_add]
  have h1 := Int.ediv_mul_le (l * x) (Int.ne_of_gt hn)
  have h2 := Int.ediv_mul_le (l * y) (Int.ne_of_gt hn)
  refine Int.le_ediv_of_mul_le hn ?_
  rw [Int.add_mul]
  omega
theorem tr_pos {t : Tr} (h : t.ok) : 0 < t.n := by
  have := h.2.2.1
  omega
/-! periods -/
theorem quo_dvd {t : Tr} (h : t.ok) {d : Nat} : (t.n / ((t.l.natAbs.gcd t.n.natAbs : Nat) : Int)).natAbs ∣ d ↔ t.n ∣ t.l * (d : Int) := by
  obtain ⟨l, hl⟩ := Int.eq_ofNat_of_zero_le h.1
  obtain ⟨n, hn⟩ := Int.eq_ofNat_of_zero_le (Int.le_of_lt (tr_pos h))
  have hp := tr_pos h
  rw [hl, hn]
  rw [hn] at hp
  have hp2 : 0 < n := by omega
  simp only [Int.natAbs_natCast]
  have hg : 0 < l.gcd n := Nat.gcd_pos_of_pos_right _ hp2
  rw [← Int.natCast_ediv, Int.natAbs_natCast]
  have e1 : ((n : Int) ∣ (l : Int) * (d : Int)) ↔ n ∣ l * d := by
    rw [← Int.natCast_mul]
    exact Int.natCast_dvd_natCast
  rw [e1]
  have hn2 : n = n / l.gcd n * l.gcd n := (Nat.div_mul_cancel (Nat.gcd_dvd_right l n)).symm
  have hl2 : l = l / l.gcd n * l.gcd n := (Nat.div_mul_cancel (Nat.gcd_dvd_left l n)).symm
  have co : Nat.Coprime (n / l.gcd n) (l / l.gcd n) := (Nat.coprime_div_gcd_div_gcd hg).symm
  constructor
  · rintro ⟨k, rfl⟩
    refine ⟨l / l.gcd n * k, ?_⟩
    have : l * (n / l.gcd n * k) = (l / l.gcd n * l.gcd n) * (n / l.gcd n * k) := by rw [← hl2]
    rw [this]
    have : n * (l / l.gcd n * k) = (n / l.gcd n * l.gcd n) * (l / l.gcd n * k) := by rw [← hn2]
    rw [this]
    simp only [Nat.mul_comm, Nat.mul_left_comm, Nat.mul_assoc]
  · rintro ⟨k, hk⟩
    refine co.dvd_of_dvd_mul_left (⟨k, ?_⟩ : n / l.gcd n ∣ l / l.gcd n * d)
    refine Nat.eq_of_mul_eq_mul_right hg ?_
    have e2 : l / l.gcd n * d * l.gcd n = l / l.gcd n * l.gcd n * d := by simp only [Nat.mul_comm, Nat.mul_left_comm]
    have e3 : n / l.gcd n * k * l.gcd n = n / l.gcd n * l.gcd n * k := by simp only [Nat.mul_comm, Nat.mul_left_comm]
    rw [e2, e3, ← hl2, ← hn2]
    exact hk
theorem perF_dvd : ∀ (ts : List Tr) (p d : Nat), (∀ t ∈ ts, t.ok) → (ts.foldl perS p ∣ d ↔ p ∣ d ∧ ∀ t ∈ ts, t.n ∣ t.l * (d : Int))
  | [], p, d, _ => by simp
  | t :: ts, p, d, h => by
    rw [List.foldl_cons, perF_dvd ts (perS p t) d fun u hu => h u (List.mem_cons_of_mem _ hu)]
    have e : perS p t ∣ d ↔ p ∣ d ∧ t.n ∣ t.l * (d : Int) := by
      unfold perS
      rw [Nat.lcm_dvd_iff, quo_dvd (h t (List.mem_cons_self ..))]
    rw [e]
    constructor
    · rintro ⟨⟨a, b⟩, c⟩
      refine ⟨a, fun u hu => ?_⟩
      rcases List.mem_cons.mp hu with rfl | hu
      · exact b
      · exact c u hu
    · rintro ⟨a, b⟩
      exact ⟨⟨a, b t (List.mem_cons_self ..)⟩, fun u hu => b u (List.mem_cons_of_mem _ hu)⟩
/-- the period divides just the numbers of drinks that leave whole trades -/
theorem per_dvd {ts : List Tr} (h : gds ts) {d : Nat} : per ts ∣ d ↔ ∀ t ∈ ts, t.n ∣ t.l * (d : Int) := by
  unfold per
  rw [perF_dvd ts 1 d h.2]
  exact ⟨fun z => z.2, fun z => ⟨Nat.one_dvd d, z⟩⟩
theorem perF_pos : ∀ (ts : List Tr) (p : Nat), 0 < p → (∀ t ∈ ts, t.ok) → 0 < ts.foldl perS p
  | [], p, hp, _ => hp
  | t :: ts, p, hp, h => by
    rw [List.foldl_cons]
    refine perF_pos ts _ ?_ fun u hu => h u (List.mem_cons_of_mem _ hu)
    have ht := h t (List.mem_cons_self ..)
    refine Nat.lcm_pos hp ?_
    have h1 := gcd_pos' ht
    have hn := tr_pos ht
    have h3 : ((t.l.natAbs.gcd t.n.natAbs : Nat) : Int) ≤ t.n := by
      have := Nat.gcd_le_right t.l.natAbs (show 0 < t.n.natAbs by omega)
      omega
    have h4 : 0 < t.n / ((t.l.natAbs.gcd t.n.natAbs : Nat) : Int) := Int.ediv_pos_of_pos_of_dvd hn (by omega) (by
      have : t.l.natAbs.gcd t.n.natAbs ∣ t.n.natAbs := Nat.gcd_dvd_right _ _
      exact Int.dvd_natAbs.mp (Int.natCast_dvd_natCast.mpr this))
    omega
theorem per_pos {ts : List Tr} (h : gds ts) : 0 < per ts := perF_pos ts 1 (by omega) h.2
/-! costs -/
theorem ten_buys {ts : List Tr} (f : Fair ts) (d : Nat) : 10 * buys ts d ≤ 9 * (d : Int) := by
  have h1 : buys ts d * 27720 ≤ worth ts * d := by
    unfold buys worth
    rw [← sum_map_mul, ← sum_map_mul]
    refine sum_map_le fun t ht => ?_
    have hn := tr_pos (f.g.2 t ht)
    obtain ⟨q, hq⟩ := dvd_big (f.g.2 t ht).2.2.1 (f.g.2 t ht).2.2.2
    have e1 : 27720 / t.n = q := by
      rw [hq]
      exact Int.mul_ediv_cancel_left _ (Int.ne_of_gt hn)
    have hq0 : 0 ≤ q := by
      rw [← e1]
      exact Int.ediv_nonneg (by omega) (by omega)
    rw [e1, hq]
    have h2 := Int.ediv_mul_le (t.l * (d : Int)) (Int.ne_of_gt hn)
    have h3 := Int.mul_le_mul_of_nonneg_right h2 hq0
    have e2 : t.l * (d : Int) / t.n * (t.n * q) = t.l * (d : Int) / t.n * t.n * q := by rw [Int.mul_assoc]
    have e3 : q * t.l * (d : Int) = t.l * (d : Int) * q := by rw [Int.mul_assoc, Int.mul_comm]
    rw [e2, e3]
    exact h3
  have h2 : worth ts * d ≤ 24948 * (d : Int) := Int.mul_le_mul_of_nonneg_right (by have := f.w; omega) (by omega)
  omega
theorem buys_nonneg {ts : List Tr} (f : gds ts) (d : Nat) : 0 ≤ buys ts d := by
  have h : ((ts.map fun _ => (0 : Int))).sum ≤ buys ts d := sum_map_le fun t ht => Int.ediv_nonneg (Int.mul_nonneg (f.2 t ht).1 (by omega)) (Int.le_of_lt (tr_pos (f.2 t ht)))
  have e : ((ts.map fun _ => (0 : Int))).sum = 0 := by
    have : ∀ l : List Tr, ((l.map fun _ => (0 : Int))).sum = 0 := by
      intro l
      induction l with
      | nil => rfl
      | cons a l ih => rw [List.map_cons, List.sum_cons, ih]; rfl
    exact this ts
  omega
/-- the bottles of a period -/
def perB (ts : List Tr) : Nat := (cN ts (per ts)).toNat
theorem cf {ts : List Tr} (f : Fair ts) : CF (cN ts) (per ts) (perB ts) where
  zero := by
    show (0 : Int) - buys ts 0 = 0
    have : buys ts 0 = 0 := by
      unfold buys
      have e : (ts.map fun t => t.l * 0 / t.n).sum = ((ts.map fun _ => (0 : Int) * 0)).sum := sum_map_eq fun t _ => by rw [Int.mul_zero, Int.zero_ediv]; rfl
      rw [e, sum_map_mul, Int.mul_zero]
    omega
  step := fun d => by
    show ((d + 1 : Nat) : Int) - buys ts ((d + 1 : Nat) : Int) ≤ (d : Int) - buys ts d + 1
    have h : buys ts d ≤ buys ts ((d + 1 : Nat) : Int) := sum_map_le fun t ht => fl_mono (f.g.2 t ht).1 (tr_pos (f.g.2 t ht)) (by omega)
    omega
  per := fun d => by
    have e : buys ts ((d + per ts : Nat) : Int) = buys ts d + buys ts (per ts) := by
      unfold buys
      rw [← sum_map_add]
      refine sum_map_eq fun t ht => ?_
      have hd := (per_dvd f.g (d := per ts)).mp (Nat.dvd_refl _) t ht
      rw [Int.natCast_add, Int.mul_add]
      exact Int.add_ediv_of_dvd_right hd
    have h10 := ten_buys f (per ts)
    have hB : ((perB ts : Nat) : Int) = (per ts : Int) - buys ts (per ts) := by
      unfold perB cN cost
      omega
    show ((d + per ts : Nat) : Int) - buys ts ((d + per ts : Nat) : Int) = (d : Int) - buys ts d + (perB ts : Int)
    rw [e, hB]
    omega
  ppos := per_pos f.g
  ten := fun d => by
    have := ten_buys f d
    show (d : Int) ≤ 10 * ((d : Int) - buys ts d)
    omega
  sub := fun x y => by
    have e : buys ts x + buys ts y ≤ buys ts ((x + y : Nat) : Int) := by
      unfold buys
      rw [← sum_map_add]
      refine sum_map_le fun t ht => ?_
      rw [Int.natCast_add]
      exact fl_super (tr_pos (f.g.2 t ht))
    show ((x + y : Nat) : Int) - buys ts ((x + y : Nat) : Int) ≤ (x : Int) - buys ts x + ((y : Int) - buys ts y)
    omega
theorem perB_eq {ts : List Tr} (f : Fair ts) : ((perB ts : Nat) : Int) = cost ts (per ts) := by
  have h := (cf f).nonneg (per ts)
  unfold perB
  exact Int.toNat_of_nonneg h
theorem perB_le {ts : List Tr} (f : Fair ts) : perB ts ≤ per ts := by
  have h : cost ts (per ts) ≤ (per ts : Int) := (cf f).le_self (per ts)
  have e := perB_eq f
  omega
/-! tables -/
theorem tops_eq {c : Nat → Int} (h0 : c 0 = 0) : ∀ n : Nat, topsF 0 ((List.range (n + 1)).map c) = (List.range (n + 1)).map (T c) ∧ topsM 0 ((List.range (n + 1)).map c) = T c n
  | 0 => by
    constructor
    · show [if (0 : Int) < c 0 then c 0 else 0] = [c 0]
      rw [h0]
      rfl
    · show (if (0 : Int) < c 0 then c 0 else 0) = c 0
      rw [h0]
      rfl
  | n + 1 => by
    obtain ⟨h1, h2⟩ := tops_eq h0 n
    have e : topsM 0 ((List.range (n + 1 + 1)).map c) = T c (n + 1) := by
      rw [List.range_succ, List.map_append, List.map_singleton, topsM_snoc, h2]
      rfl
    refine ⟨?_, e⟩
    rw [List.range_succ, List.map_append, List.map_append, List.map_singleton, List.map_singleton, topsF_snoc, h1, ← e]
    rw [List.range_succ (n := n + 1), List.map_append, List.map_singleton]
theorem firsts_eq {c : Nat → Int} {P B : Nat} (h : CF c P B) : ∀ n : Nat, firstsF 0 [] ((List.range (n + 1)).map (T c)) = (List.range ((T c n).toNat + 1)).map fun k => ((D c k : Nat) : Int)
  | 0 => by
    have e : T c 0 = 0 := h.zero
    show (if T c 0 = ((([] : List Int)).length : Int) then [] ++ [((0 : Nat) : Int)] else []) = _
    rw [e]
    show [((0 : Nat) : Int)] = [((D c 0 : Nat) : Int)]
    rw [h.D_zero]
  | n + 1 => by
    have ih := firsts_eq h n
    have hs := h.T_step n
    have hm := CF.T_mono c (Nat.le_add_right n 1)
    have hn := h.T_nonneg n
    rw [List.range_succ, List.map_append, List.map_singleton, firstsF_snoc, ih]
    simp only [List.length_map, List.length_range, Nat.zero_add]
    by_cases q : T c (n + 1) = (((T c n).toNat + 1 : Nat) : Int)
    · rw [if_pos q]
      have e1 : (T c (n + 1)).toNat = (T c n).toNat + 1 := by omega
      rw [e1, List.range_succ (n := (T c n).toNat + 1), List.map_append, List.map_singleton]
      have e2 : D c ((T c n).toNat + 1) = n + 1 := by
        refine h.D_eq ⟨?_, fun j hj => ?_⟩
        · obtain ⟨j, hj, ej⟩ := CF.T_at c (n + 1)
          rcases Nat.lt_or_eq_of_le hj with z | z
          · have := CF.T_ge c (d := n) (j := j) (by omega)
            omega
          · rw [z] at ej
            omega
        · have := CF.T_ge c (d := n) (j := j) (by omega)
          push_cast
          omega
      rw [e2]
    · rw [if_neg q]
      have e1 : (T c (n + 1)).toNat = (T c n).toNat := by
        push_cast at q
        omega
      rw [e1]
theorem getD_map {f : Nat → Int} {n i : Nat} (h : i < n) : ((List.range n).map f).getD i 0 = f i := by
  rw [List.getD_eq_getElem?_getD, List.getElem?_map, List.getElem?_range h]
  rfl
/-- behind its end the table of the greatest costs goes on as it is said -/
theorem value_tops {c : Nat → Int} {P B : Nat} (h : CF c P B) (d : Nat) : valueAt ((List.range (2 * P)).map (T c)) d P B = T c d := by
  have hp := h.ppos
  unfold valueAt
  simp only [List.length_map, List.length_range]
  by_cases q : (d : Int) < ((2 * P : Nat) : Int)
  · rw [if_pos q, Int.toNat_natCast, getD_map (by omega)]
  · rw [if_neg q]
    obtain ⟨e, he⟩ : ∃ e, d = 2 * P + e := ⟨d - 2 * P, by omega⟩
    have e1 : (d : Int) - ((2 * P : Nat) : Int) = (e : Int) := by omega
    rw [e1, ← Int.natCast_ediv]
    have h1 := Nat.div_add_mod e P
    have h2 := Nat.mod_lt e hp
    have h3 : (e / P + 1) * P = P * (e / P) + P := by rw [Nat.add_mul, Nat.one_mul, Nat.mul_comm]
    have e2 : (d : Int) - (((e / P : Nat) : Int) + 1) * (P : Int) = ((P + e % P : Nat) : Int) := by
      have : (((e / P : Nat) : Int) + 1) * (P : Int) = (((e / P + 1) * P : Nat) : Int) := by push_cast; rfl
      rw [this]
      omega
    rw [e2, Int.toNat_natCast, getD_map (by omega)]
    have e3 : d = P + e % P + (e / P + 1) * P := by omega
    have h5 := h.T_perk (d := P + e % P) (by omega) (e / P + 1)
    rw [← e3] at h5
    rw [h5]
    push_cast
    rfl
theorem value_firsts {c : Nat → Int} {P B : Nat} (h : CF c P B) (n : Nat) : valueAt ((List.range ((T c (2 * P - 1)).toNat + 1)).map fun k => ((D c k : Nat) : Int)) n B P = ((D c n : Nat) : Int) := by
  have hp := h.ppos
  have hb := h.bpos
  have ht : T c (2 * P - 1) = T c (P - 1) + B := by
    have := h.T_per (d := P - 1) (by omega)
    rw [show P - 1 + P = 2 * P - 1 by omega] at this
    exact this
  have h0 := h.T_nonneg (P - 1)
  generalize hL : (T c (2 * P - 1)).toNat + 1 = L
  unfold valueAt
  simp only [List.length_map, List.length_range]
  by_cases q : (n : Int) < (L : Int)
  · rw [if_pos q, Int.toNat_natCast, getD_map (by omega)]
  · rw [if_neg q]
    obtain ⟨e, he⟩ : ∃ e, n = L + e := ⟨n - L, by omega⟩
    have e1 : (n : Int) - (L : Int) = (e : Int) := by omega
    rw [e1, ← Int.natCast_ediv]
    have h1 := Nat.div_add_mod e B
    have h2 := Nat.mod_lt e hb
    have h3 : (e / B + 1) * B = B * (e / B) + B := by rw [Nat.add_mul, Nat.one_mul, Nat.mul_comm]
    obtain ⟨g, hg⟩ : ∃ g, L = B + g := ⟨L - B, by omega⟩
    have e2 : (n : Int) - (((e / B : Nat) : Int) + 1) * (B : Int) = ((g + e % B : Nat) : Int) := by
      have : (((e / B : Nat) : Int) + 1) * (B : Int) = (((e / B + 1) * B : Nat) : Int) := by push_cast; rfl
      rw [this]
      omega
    rw [e2, Int.toNat_natCast, getD_map (by omega)]
    have e3 : n = g + e % B + (e / B + 1) * B := by omega
    have h5 := h.D_perk (n := g + e % B) (by omega) (e / B + 1)
    rw [← e3] at h5
    rw [h5]
    push_cast
    rfl
end EB

namespace EB
open PySem PySem.Spec PyProof.Rows L2
/-! ### what an offer is -/
def nmOk (ts : List Tr) : Prop := (ts.map Tr.k).Nodup ∧ ∀ t ∈ ts, kindOk t.k = true ∧ t.k.length ≤ 1000
def wholeS (d : Nat) (t : Tr) : Nat := d.lcm t.n.natAbs
def wholeF (ts : List Tr) : Nat := ts.foldl wholeS 1
theorem wholeF_le : ∀ (ts : List Tr) (d : Nat), (∀ t ∈ ts, t.ok) → ts.foldl wholeS d ≤ d * 12 ^ ts.length
  | [], d, _ => by simp
  | t :: ts, d, h => by
    have h1 := wholeF_le ts (wholeS d t) fun u hu => h u (List.mem_cons_of_mem _ hu)
    have ht := h t (List.mem_cons_self ..)
    have h2 : wholeS d t ≤ d * 12 := Nat.le_trans (PySem.W.mc_lcm_le _ _) (Nat.mul_le_mul_left _ (by have := ht.2.2.1; have := ht.2.2.2; omega))
    have h3 : wholeS d t * 12 ^ ts.length ≤ d * 12 * 12 ^ ts.length := Nat.mul_le_mul_right _ h2
    rw [List.foldl_cons, List.length_cons, Nat.pow_succ]
    rw [Nat.mul_assoc, Nat.mul_comm 12] at h3
    omega
theorem wholeF_most {ts : List Tr} (h : gds ts) (i : Nat) : (ts.take i).foldl wholeS 1 ≤ 1728 := by
  have h1 := wholeF_le (ts.take i) 1 fun t ht => h.2 t (List.mem_of_mem_take ht)
  have h2 : (ts.take i).length ≤ 3 := by
    rw [List.length_take]
    have := h.1
    omega
  have h3 : 12 ^ (ts.take i).length ≤ 12 ^ 3 := Nat.pow_le_pow_right (by omega) h2
  omega
theorem wholeF_dvd : ∀ (ts : List Tr) (d m : Nat), (ts.foldl wholeS d ∣ m ↔ d ∣ m ∧ ∀ t ∈ ts, t.n.natAbs ∣ m)
  | [], d, m => by simp
  | t :: ts, d, m => by
    rw [List.foldl_cons, wholeF_dvd ts (wholeS d t) m]
    unfold wholeS
    rw [Nat.lcm_dvd_iff]
    constructor
    · rintro ⟨⟨a, b⟩, c⟩
      refine ⟨a, fun u hu => ?_⟩
      rcases List.mem_cons.mp hu with rfl | hu
      · exact b
      · exact c u hu
    · rintro ⟨a, b⟩
      exact ⟨⟨a, b t (List.mem_cons_self ..)⟩, fun u hu => b u (List.mem_cons_of_mem _ hu)⟩
def parts (ts : List Tr) : Int := (ts.map fun t => (wholeF ts : Int) / t.n * t.l).sum
theorem parts_fair {ts : List Tr} (g : gds ts) : 10 * parts ts ≤ 9 * (wholeF ts : Int) ↔ 10 * worth ts ≤ 9 * 27720 := by
  have hd : wholeF ts ∣ 27720 := by
    refine (wholeF_dvd ts 1 27720).mpr ⟨Nat.one_dvd _, fun t ht => ?_⟩
    have := dvd_big (g.2 t ht).2.2.1 (g.2 t ht).2.2.2
    exact Int.natAbs_dvd_natAbs.mpr this
  obtain ⟨k, hk⟩ := hd
  have hk0 : 0 < k := by
    rcases Nat.eq_zero_or_pos k with z | z
    · rw [z] at hk
      omega
    · exact z
  have hw : worth ts = parts ts * k := by
    unfold worth parts
    rw [← sum_map_mul]
    refine sum_map_eq fun t ht => ?_
    have hn := tr_pos (g.2 t ht)
    have h1 : t.n.natAbs ∣ wholeF ts := ((wholeF_dvd ts 1 (wholeF ts)).mp (Nat.dvd_refl _)).2 t ht
    obtain ⟨q, hq⟩ := h1
    have hq2 : (wholeF ts : Int) = t.n * (q : Int) := by
      rw [hq]
      push_cast
      rw [Int.natAbs_of_nonneg (Int.le_of_lt hn)]
    have e1 : (wholeF ts : Int) / t.n = q := by
      rw [hq2]
      exact Int.mul_ediv_cancel_left _ (Int.ne_of_gt hn)
    have e2 : (27720 : Int) / t.n = (q : Int) * k := by
      have : (27720 : Int) = t.n * ((q : Int) * k) := by
        have z : (27720 : Int) = ((wholeF ts * k : Nat) : Int) := by rw [← hk]; rfl
        rw [z]
        push_cast
        rw [hq2, Int.mul_assoc]
      rw [this]
      exact Int.mul_ediv_cancel_left _ (Int.ne_of_gt hn)
    rw [e1, e2, Int.mul_assoc, Int.mul_assoc, Int.mul_comm (k : Int)]
  have hz : (27720 : Int) = (wholeF ts : Int) * k := by
    have z : (27720 : Int) = ((wholeF ts * k : Nat) : Int) := by rw [← hk]; rfl
    rw [z]
    push_cast
    rfl
  have hk1 : (0 : Int) < k := by omega
  rw [hw, hz]
  constructor
  · intro h
    have := Int.mul_le_mul_of_nonneg_right h (Int.le_of_lt hk1)
    rw [Int.mul_assoc, Int.mul_assoc] at this
    exact this
  · intro h
    refine Int.le_of_mul_le_mul_right ?_ hk1
    rw [Int.mul_assoc, Int.mul_assoc]
    exact h
/-- the tables of an offer -/
abbrev topsL (ts : List Tr) : List Int := (List.range (2 * per ts)).map (T (cN ts))
noncomputable abbrev firstsL (ts : List Tr) : List Int := (List.range ((T (cN ts) (2 * per ts - 1)).toNat + 1)).map fun k => ((D (cN ts) k : Nat) : Int)
noncomputable abbrev gapsL (ts : List Tr) : List Int := gapsF (firstsL ts) 0 (topsL ts)
def ofs (t p o f g : Addr) : List (Str × V) := [("_trades", .ref t), ("_period", .ref p), ("_tops", .ref o), ("_firsts", .ref f), ("_gaps", .ref g)]
/-- at a an offer of these trades -/
structure OfAt (K : PySem.W.Frag) (H : Hp) (a : Addr) (ts : List Tr) : Prop where
  ex : ∃ dx t p o f g, H a = some (.ins (He.ga K "Offer") dx (ofs t p o f g)) ∧ TrAt K H t ts ∧ SqT K H p [.int (perB ts : Nat), .int (per ts : Nat)] ∧ SqL K H o ((topsL ts).map V.int) ∧ SqL K H f ((firstsL ts).map V.int) ∧ SqL K H g ((gapsL ts).map V.int)
theorem OfAt.mono {K : PySem.W.Frag} {H H' : Hp} {a : Addr} {ts : List Tr} (s : Same H H') (h : OfAt K H a ts) : OfAt K H' a ts := by
  obtain ⟨dx, t, p, o, f, g, h1, h2, h3, h4, h5, h6⟩ := h.ex
  exact ⟨dx, t, p, o, f, g, s _ _ h1, h2.mono s, Same.tup s h3, s.seq h4, s.seq h5, s.seq h6⟩
section
variable {P : Program} {w : World} {K : PySem.W.Frag} {mg : Str → Option Value} {base : Heap} (T' : Tx K mg)
theorem inV_str {z : Str} {l : List Str} (h : z ∉ l) : inV (.str z) (l.map V.str) = false := by
  unfold inV
  rw [List.any_eq_false]
  intro y hy
  obtain ⟨x, hx, rfl⟩ := List.mem_map.mp hy
  show ¬ ((x == z) = true)
  intro e
  exact h (eq_of_beq e ▸ hx)
theorem flat_str (l : List Str) : (l.map V.str).all flatV = true := by
  rw [List.all_eq_true]
  intro y hy
  obtain ⟨x, hx, rfl⟩ := List.mem_map.mp hy
  rfl
end
section
variable {P : Program} {w : World} {K : PySem.W.Frag} {mg : Str → Option Value} {base : Heap} (T : Tx K mg)
include T
def spChkTr (K : PySem.W.Frag) : Sp := fun vs H Q _ => ∃ (a : Addr) (ts : List Tr), vs = [.ref a] ∧ TrAt K H a ts ∧ gds ts ∧ ts ≠ [] ∧ nmOk ts ∧ ∀ H', Same H H' → Q .non H'
theorem ok_check_trades : FnR P w K mg base CX0 4 (a_check_trades K) (spChkTr K) := by
  refine fnR0 (d := d_check_trades) T.F_check_trades sc_check_trades rfl (fun _ _ _ _ _ _ us hl => match us, hl with | [_], _ => rfl) (fun vs H Q E h => ?_) (fun cdv A outer s H vs Q E hr h => ?_)
  · obtain ⟨a, ts, rfl, _⟩ := h
    rfl
  obtain ⟨a, ts, rfl, hT, hg, hne, hnm, k⟩ := h
  obtain ⟨ps, h1, h2, h3⟩ := hT.ex
  obtain ⟨uE, hE⟩ := T.v_Offer_MAX_TRADES
  refine ⟨_, (pss_cons (ps_if (pt_not (pt_truth (pv 0) (by intro _; rfl))) (pss_one ps_never) pss_nil) (pss_cons (ps_set (i := 1) sc_check_trades.nd rfl (Or.inl rfl) (pe_lst pa_nil)) (pss_one (ps_for PassesOwn.never rfl (pi_enumT (by rfl) T.n_enumerate (pa_cons (pv 0) pa_nil)) (pg_tup rfl (pgs_cons (pg_name (i := 2) sc_check_trades.nd rfl (Or.inl rfl)) (pgs_cons (pg_tup rfl (pgs_cons (pg_name (i := 3) sc_check_trades.nd rfl (Or.inl rfl)) (pgs_cons (pg_name (i := 4) sc_check_trades.nd rfl (Or.inl rfl)) (pgs_cons (pg_name (i := 5) sc_check_trades.nd rfl (Or.inl rfl)) pgs_nil)))) pgs_nil))) (pss_cons (ps_if (PW.pt (pw_or (pt_cmpR op_eq (pv 2) (ClX.pe_cval (pe_cC T.g_Offer)) (nomark _)) (pw_or (pt_cmpR op_in_seq (pv 3) (pv 1) rfl) (pw_or1 (pt_not (pt_val (pe_cR (ok_is_trade T) (hr.mono (by decide)) T.F_is_trade.kp T.g_is_trade pass0 (pa_cons (pv 3) (pa_cons (pv 4) (pa_cons (pv 5) pa_nil)))))))))) (pss_one ps_never) pss_nil) (pss_one (ps_expr (pe_bm PySem.F.plainAttrs_list PySem.F.slot_list_append PySem.F.type_list_append mt_append (pv 1) (pa_cons (pv 3) pa_nil))))))))), ?_⟩
  have hps : (ps.map V.ref).isEmpty = false := by
    cases ps with
    | nil =>
      cases ts with
      | nil => exact absurd rfl hne
      | cons _ _ => cases h2
    | cons _ _ => rfl
  refine ⟨_, rfl, true, .inr (.inl ⟨_, h1, by rw [hps]; rfl⟩), iteF ?_⟩
  refine ⟨Nat.zero_le _, fun p hp => ?_⟩
  refine ⟨_, rfl, a, _, rfl, Same.tup (same_new hp) h1, for_it (walk_enumT (K := K) (a := a) (xs := ps.map V.ref)) (fun i σ H1 => Same H H1 ∧ H1 p = some (.lst (((ts.take i).map Tr.k).map V.str)) ∧ ∃ x2 x3 x4 x5, σ = [some (.ref a), some (.ref p), x2, x3, x4, x5])
    ⟨same_new hp, upd_same, _, _, _, _, rfl⟩ (fun i σ H1 _ q => Same.tup q.1 h1) ?_ ?_⟩
  · rintro i x σ H1 H2 hi ⟨s1, e1, x2, x3, x4, x5, rfl⟩ ⟨q, u, v, rfl, nq, rfl, eu, ev⟩
    cases eu
    obtain ⟨pt, t, rfl, ep, et, hm, li, hpt⟩ := TrAt.at_ h2 h3 ev
    have s2 : Same H (upd H1 q (.tup [.int (i : Nat), .ref pt])) := s1.trans (same_new nq)
    have e2 := upd_old (u := .tup [.int (i : Nat), .ref pt]) e1 nq
    have ht := hg.2 _ hm
    have hk := hnm.2 _ hm
    refine ⟨q, _, rfl, SqT.of upd_same, rfl, _, _, rfl, _, _, rfl, ⟨pt, _, rfl, Same.tup s2 hpt, rfl, _, _, rfl, _, _, rfl, _, _, rfl, rfl, rfl, ?_⟩⟩
    refine ⟨_, rfl, He.ga K "Offer", _, _, _, rfl, T.r_Offer, hE, rfl, _, rfl, ite2 (fun hd => ?_) (fun _ => ?_)⟩
    · have hd := V.int.inj (of_decide_eq_true hd)
      have := hg.1
      omega
    have hnotin : t.k ∉ (ts.take i).map Tr.k := by
      intro hin
      have hnd : ((ts.take (i + 1)).map Tr.k).Nodup := (hnm.1.sublist ((List.take_sublist _ _).map _))
      rw [take_at et, List.map_append, List.nodup_append] at hnd
      exact hnd.2.2 _ hin _ (List.mem_singleton.mpr rfl) rfl
    refine ⟨_, rfl, _, rfl, p, _, rfl, .inl (SqL.of e2), rfl, flat_str _, _, rfl, ite2 (fun hd => ?_) (fun _ => ?_)⟩
    · rw [if_neg Bool.false_ne_true, inV_str hnotin] at hd
      cases hd
    refine ⟨_, rfl, _, rfl, _, rfl, t, rfl, hk.2, fun H3 s3 => ⟨_, rfl, ?_⟩⟩
    rw [trOk_of ht hk.1]
    refine iteF ?_
    have e3 := s3 _ _ e2
    refine ⟨_, rfl, .inl ⟨rfl, _, SqL.of e3⟩, _, rfl, p, _, _, rfl, rfl, e3, small3 ?_, same_mut (s2.trans s3) hp, ?_, _, _, _, _, rfl⟩
    · rw [List.length_map, List.length_map, List.length_take]
      have := hg.1
      omega
    · rw [upd_same, take_at et, List.map_append, List.map_append]
      rfl
  · rintro σ H1 ⟨s1, e1, x2, x3, x4, x5, rfl⟩
    exact k _ s1
def spChkGen (K : PySem.W.Frag) : Sp := fun vs H Q _ => ∃ (a : Addr) (ts : List Tr), vs = [.ref a] ∧ TrAt K H a ts ∧ Fair ts ∧ ∀ H', Same H H' → Q .non H'
theorem ok_check_generosity : FnR P w K mg base CX0 1 (a_check_generosity K) (spChkGen K) := by
  refine fnR0 (d := d_check_generosity) T.F_check_generosity sc_check_generosity rfl (fun _ _ _ _ _ _ us hl => match us, hl with | [_], _ => rfl) (fun vs H Q E h => ?_) (fun cdv A outer s H vs Q E hr h => ?_)
  · obtain ⟨a, ts, rfl, _⟩ := h
    rfl
  obtain ⟨a, ts, rfl, hT, hf, k⟩ := h
  obtain ⟨ps, h1, h2, h3⟩ := hT.ex
  refine ⟨_, (pss_cons (ps_set (i := 1) sc_check_generosity.nd rfl (Or.inr rfl) pe_int) (pss_cons (ps_for PassesOwn.never rfl (pi_tup (pv 0)) (pg_tup rfl (pgs_cons (pg_name (i := 2) sc_check_generosity.nd rfl (Or.inl rfl)) (pgs_cons (pg_name (i := 2) sc_check_generosity.nd rfl (Or.inl rfl)) (pgs_cons (pg_name (i := 3) sc_check_generosity.nd rfl (Or.inl rfl)) pgs_nil)))) (pss_one (ps_set (i := 1) sc_check_generosity.nd rfl (Or.inr rfl) (pe_callBfun cr_lcm (by rfl) T.b_lcm (pa_cons (pv 1) (pa_cons (pv 3) pa_nil)))))) (pss_cons (ps_set (i := 4) sc_check_generosity.nd rfl (Or.inl rfl) (pe_callB (cr_sum rfl) (by rfl) T.n_sum (by decide +kernel) (pa_cons (pe_lc (own := [("_", 2), ("left", 5), ("needed", 3)]) rfl sc_check_generosity.nd (pi_tup (pv 0)) (blkOk_by (own := [("_", 2), ("left", 5), ("needed", 3)]) (N := N_check_generosity) (sc := defScope s_check_generosity) (by decide +kernel)) (fun _ _ _ _ _ => (pg_tupB (n := 3) (pgs_cons (pg_name (i := 2) sc_check_generosity.nd rfl (Or.inl rfl) (.inr rfl)) (pgs_cons (pg_name (i := 5) sc_check_generosity.nd rfl (Or.inl rfl) (.inr rfl)) (pgs_cons (pg_name (i := 3) sc_check_generosity.nd rfl (Or.inl rfl) (.inr rfl)) pgs_nil))))) (fun _ _ _ _ _ => pts_nil) (fun _ _ _ _ _ => (pe_op op_mul (pe_op op_fdiv (pv 1) (pv 3)) (pv 5)))) pa_nil))) (pss_one (ps_if (pt_cmpR op_gt (pe_op op_mul pe_int (pv 4)) (pe_op op_mul pe_int (pv 1)) (nomark _)) (pss_one ps_never) pss_nil))))), ?_⟩
  refine ⟨_, rfl, a, rfl, ⟨_, h1⟩, for_tup (xs := ps.map V.ref) (fun i σ H1 => H1 = H ∧ ∃ x2 x3 x4 x5, σ = [some (.ref a), some (.int (((ts.take i).foldl wholeS 1 : Nat) : Int)), x2, x3, x4, x5]) ⟨rfl, _, _, _, _, rfl⟩ (fun i σ H1 _ q => by rw [q.1]; exact h1) ?_ ?_⟩
  · rintro i x σ H1 hx ⟨rfl, x2, x3, x4, x5, rfl⟩
    obtain ⟨p, t, rfl, ep, et, hm, li, hp⟩ := TrAt.at_ h2 h3 hx
    have ht := hf.g.2 _ hm
    refine ⟨p, _, rfl, hp, rfl, _, _, rfl, _, _, rfl, _, _, rfl, rfl, ?_⟩
    refine ⟨_, rfl, _, rfl, _, _, rfl, ?_, ?_, rfl, some (.int t.l), some (.int t.n), x4, x5, ?_⟩
    · have := wholeF_most hf.g i
      exact Nat.lt_of_le_of_lt (by omega : _ ≤ 1728) (by decide)
    · have := ht.2.2.1
      have := ht.2.2.2
      exact Nat.lt_of_le_of_lt (by omega : _ ≤ 12) (by decide)
    · rw [take_at et, List.foldl_append]
      rfl
  · rintro σ H1 ⟨rfl, x2, x3, x4, x5, rfl⟩
    have ew : (ts.take (ps.map V.ref).length).foldl wholeS 1 = wholeF ts := by
      rw [List.length_map, h2, List.take_length]
      rfl
    rw [ew]
    have hw : wholeF ts ≤ 1728 := by
      have := wholeF_most hf.g ts.length
      rw [List.take_length] at this
      exact this
    refine ⟨_, rfl, a, rfl, ⟨_, h1⟩, fun D hD => ?_⟩
    refine lc_tup (xs := ps.map V.ref) (fun i H2 => Same H1 H2 ∧ H1 D = none ∧ H2 D = some (.lst ((ts.take i).map fun t => V.int ((wholeF ts : Int) / t.n * t.l)))) ⟨same_new hD, hD, upd_same⟩ (fun i H2 _ q => Same.tup q.1 h1) ?_ ?_
    · rintro i x H2 hx ⟨s1, n1, e1⟩
      obtain ⟨p, t, rfl, ep, et, hm, li, hp⟩ := TrAt.at_ h2 h3 hx
      have ht := hf.g.2 _ hm
      refine ⟨p, _, rfl, Same.tup s1 hp, rfl, _, _, rfl, _, _, rfl, _, _, rfl, rfl, rfl, ?_⟩
      refine ⟨_, rfl, _, rfl, _, _, rfl, rfl, ⟨by have := ht.2.2.1; omega, by have := ht.2.2.2; omega⟩, _, rfl, _, _, rfl, rfl, .inr ⟨by have := ht.1; omega, by have := ht.2.1; omega⟩, ?_⟩
      refine ⟨_, e1, small3 ?_, same_mut s1 n1, n1, ?_⟩
      · rw [List.length_map, List.length_take]
        have := hf.g.1
        omega
      · rw [upd_same, take_at et, List.map_append]
        rfl
    · rintro H2 ⟨s1, n1, e1⟩
      refine ⟨D, ts.map fun t => (wholeF ts : Int) / t.n * t.l, rfl, SqL.of ?_, ?_⟩
      · rw [e1, List.length_map, h2, List.take_length, List.map_map]
        rfl
      · refine ⟨_, rfl, _, _, rfl, rfl, .inl ⟨by decide, by decide⟩, _, rfl, _, _, rfl, rfl, .inl ⟨by decide, by decide⟩, _, _, rfl, rfl, _, rfl, ite2 (fun hd => ?_) (fun _ => k _ s1)⟩
        have hd : 9 * (wholeF ts : Int) < 10 * parts ts := of_decide_eq_true hd
        have := (parts_fair hf.g).mpr hf.w
        omega
end
end EB

namespace EB
open PySem PySem.Spec PyProof.Rows L2
/-! ### a heap with one object left out -/
def hid (H : Hp) (x : Addr) : Hp := fun b => if b = x then none else H b
theorem hid_x {H : Hp} {x : Addr} : hid H x x = none := if_pos rfl
theorem hid_ne {H : Hp} {x b : Addr} (h : b ≠ x) : hid H x b = H b := if_neg h
theorem hid_same {H : Hp} {x : Addr} : Same (hid H x) H := fun b o e => by
  by_cases h : b = x
  · rw [h, hid_x] at e
    cases e
  · rw [hid_ne h] at e
    exact e
theorem same_hid {H0 H : Hp} {x : Addr} (s : Same H0 H) (h : H0 x = none) : Same H0 (hid H x) := fun b o e => by
  rw [hid_ne (ne_of_none e h)]
  exact s b o e
theorem hid_old {H : Hp} {x b : Addr} {o u : HO} (h : H b = some o) (hx : H x = some u) (d : o ≠ u) : hid H x b = some o := by
  rw [hid_ne (ne_of h hx d)]
  exact h
theorem hid_upd {H : Hp} {x : Addr} {o : HO} : hid (upd H x o) x = hid H x := funext fun b => by
  by_cases h : b = x
  · rw [h, hid_x, hid_x]
  · rw [hid_ne h, hid_ne h, upd_ne h]
theorem putF_ne {f g : Str} {v x : V} {r : List (Str × V)} (h : ¬ g = f) : putF f v ((g, x) :: r) = (g, x) :: putF f v r := by
  show (if g = f then _ else _) = _
  rw [if_neg h]
theorem put1 {a : V} : putF "_trades" a [] = ([("_trades", a)] : List (Str × V)) := rfl
theorem put2 {a b : V} : putF "_period" b ([("_trades", a)] : List (Str × V)) = ([("_trades", a), ("_period", b)] : List (Str × V)) := by
  rw [putF_ne (by decide +kernel)]
  rfl
theorem put3 {a b c : V} : putF "_tops" c ([("_trades", a), ("_period", b)] : List (Str × V)) = ([("_trades", a), ("_period", b), ("_tops", c)] : List (Str × V)) := by
  rw [putF_ne (by decide +kernel), putF_ne (by decide +kernel)]
  rfl
theorem put4 {a b c d : V} : putF "_firsts" d ([("_trades", a), ("_period", b), ("_tops", c)] : List (Str × V)) = ([("_trades", a), ("_period", b), ("_tops", c), ("_firsts", d)] : List (Str × V)) := by
  rw [putF_ne (by decide +kernel), putF_ne (by decide +kernel), putF_ne (by decide +kernel)]
  rfl
theorem put5 {a b c d e : V} : putF "_gaps" e ([("_trades", a), ("_period", b), ("_tops", c), ("_firsts", d)] : List (Str × V)) = ([("_trades", a), ("_period", b), ("_tops", c), ("_firsts", d), ("_gaps", e)] : List (Str × V)) := by
  rw [putF_ne (by decide +kernel), putF_ne (by decide +kernel), putF_ne (by decide +kernel), putF_ne (by decide +kernel)]
  rfl
theorem lkN {k g : Str} {v : V} {r : List (Str × V)} (h : (k == g) = false) : ((g, v) :: r).lookup k = r.lookup k := by rw [List.lookup_cons, h]
theorem lkY {k : Str} {v : V} {r : List (Str × V)} : ((k, v) :: r).lookup k = some v := by rw [List.lookup_cons, beq_self_eq_true]
theorem lk_tops {a b c : V} {r : List (Str × V)} : (("_trades", a) :: ("_period", b) :: ("_tops", c) :: r : List (Str × V)).lookup ("_tops" : Str) = some c := by
  rw [lkN (by decide +kernel), lkN (by decide +kernel), lkY]
theorem lk_firsts {a b c d : V} {r : List (Str × V)} : (("_trades", a) :: ("_period", b) :: ("_tops", c) :: ("_firsts", d) :: r : List (Str × V)).lookup ("_firsts" : Str) = some d := by
  rw [lkN (by decide +kernel), lkN (by decide +kernel), lkN (by decide +kernel), lkY]
theorem lk_gaps {a b c d e : V} {r : List (Str × V)} : (("_trades", a) :: ("_period", b) :: ("_tops", c) :: ("_firsts", d) :: ("_gaps", e) :: r : List (Str × V)).lookup ("_gaps" : Str) = some e := by
  rw [lkN (by decide +kernel), lkN (by decide +kernel), lkN (by decide +kernel), lkN (by decide +kernel), lkY]
theorem lk_period {a b : V} {r : List (Str × V)} : (("_trades", a) :: ("_period", b) :: r : List (Str × V)).lookup ("_period" : Str) = some b := by
  rw [lkN (by decide +kernel), lkY]
theorem lk_trades {a : V} {r : List (Str × V)} : (("_trades", a) :: r : List (Str × V)).lookup ("_trades" : Str) = some a := lkY
theorem lk_no {t p o f g : Addr} {m : Str} (h : ((m == "_trades") || ((m == "_period") || ((m == "_tops") || ((m == "_firsts") || (m == "_gaps"))))) = false) : (ofs t p o f g).lookup m = none := by
  obtain ⟨h1, h⟩ := Bool.or_eq_false_iff.mp h
  obtain ⟨h2, h⟩ := Bool.or_eq_false_iff.mp h
  obtain ⟨h3, h⟩ := Bool.or_eq_false_iff.mp h
  obtain ⟨h4, h5⟩ := Bool.or_eq_false_iff.mp h
  unfold ofs
  rw [lkN h1, lkN h2, lkN h3, lkN h4, lkN h5]
  rfl
theorem per_le' {ts : List Tr} (g : gds ts) : per ts ≤ 1728 := by
  have := per_most g ts.length
  rw [List.take_length] at this
  exact this
theorem tops_in {ts : List Tr} (f : Fair ts) : ∀ t ∈ topsL ts, 0 ≤ t ∧ t < (firstsL ts).length := by
  intro t ht
  obtain ⟨d, hd, rfl⟩ := List.mem_map.mp ht
  have h1 := List.mem_range.mp hd
  have h2 := (cf f).T_nonneg d
  have h3 := CF.T_mono (cN ts) (show d ≤ 2 * per ts - 1 by omega)
  refine ⟨h2, ?_⟩
  rw [List.length_map, List.length_range]
  omega
/-- an offer at a whose tables were not there ahead of it -/
structure OfNew (K : PySem.W.Frag) (H0 H : Hp) (a : Addr) (ts : List Tr) : Prop where
  ex : ∃ dx t p o f g, H a = some (.ins (He.ga K "Offer") dx (ofs t p o f g)) ∧ TrAt K H t ts ∧ SqT K H p [.int (perB ts : Nat), .int (per ts : Nat)] ∧ SqL K H o ((topsL ts).map V.int) ∧ SqL K H f ((firstsL ts).map V.int) ∧ SqL K H g ((gapsL ts).map V.int) ∧
    H0 o = none ∧ H0 f = none ∧ H0 g = none
section
variable {P : Program} {w : World} {K : PySem.W.Frag} {mg : Str → Option Value} {base : Heap}
/-- a def whose last parameter takes what is left over -/
theorem fnRS {d : DD} {fd : FuncData} {N ps : List Str} {pv : Str} {k : Nat} {sp : Sp} (F : FnP K d fd) (S : FnScope N (ps ++ [pv]) (defScope d.st)) (e : d.df = [])
    (b : ∀ (kV doc pm : Value) (an : Option Addr) (cdv ct : Value) (us rest : List Value), us.length = ps.length → bindArgs (PySem.W.fnOf d.nm d.ql (defArgs d.st) (defBody d.st) (defScope d.st) .none kV doc pm an cdv ct) ⟨us ++ rest, []⟩ = (newTuple rest >>= fun t => pure (ps.zip us ++ [(pv, t)])))
    (hbody : ∀ (cdv : Value) (A : Around) (outer : List Env) (s : Shared) (H : Hp) (vs : List V) (Q : VK) (E : XK), Room k (A.deeper (envOfC d.ql (defScope d.st) s.heap.objs.size (d.adr K) cdv)) → sp vs H Q E →
      ∃ t, PSs (cxOf CX0 P w K mg base N d.ql (defScope d.st) (d.adr K) cdv A outer s H E).nox (defBody d.st) t ∧ t { nx := fun _ H' => Q .non H', rt := Q } (start N vs) H) :
    FnR P w K mg base CX0 (k + 1) (d.adr K) (fun vs H Q E => ∃ ws rest, vs = ws ++ rest ∧ ws.length = ps.length ∧ rest.length ≤ sizeLine ∧ ∀ p, H p = none → sp (ws ++ [V.ref p]) (upd H p (.tup rest)) Q E) := by
  have z : FnP K d fd := F
  unfold FnP at z
  rw [e] at z
  obtain ⟨oc, od, dV, kV, doc, pm, an, cdv, ct, osl, rfl, lk, hcd, hD, hK⟩ := z.ex
  have hdV : dV = .none := by
    rcases hD with ⟨_, h⟩ | ⟨h, _⟩
    · exact h
    · exact absurd rfl h
  subst hdV
  exact StX.fn_star lk hcd S StX.cxUp_none (fun us rest hl => b kV doc pm an cdv ct us rest hl) fun A outer s H vs Q E hr h => by
    obtain ⟨t, h1, h2⟩ := hbody cdv A outer s H vs Q E hr h
    exact ⟨t, h1.nox, h2⟩
/-- a def called with its first values, the others filled up by its defaults -/
theorem fnRD {d : DD} {fd : FuncData} {N ps : List Str} {k : Nat} {sp : Sp} (F : FnP K d fd) (S : FnScope N ps (defScope d.st)) (n j : Nat) (hd : d.df.map (He.Dv.v K) ≠ []) (hn : n + ((d.df.map (He.Dv.v K)).length - j) = ps.length)
    (b : ∀ (Tt : Addr) (kV doc pm : Value) (an : Option Addr) (cdv ct : Value) (us its : List Value), us.length = n → its.length = (d.df.map (He.Dv.v K)).length →
      ∃ k, bindArgs (PySem.W.fnOf d.nm d.ql (defArgs d.st) (defBody d.st) (defScope d.st) (.ref Tt) kV doc pm an cdv ct) ⟨us, []⟩ = seqItems? (.ref Tt) >>= k ∧ k (some its.toArray) = pure (ps.zip (us ++ its.drop j)))
    (len : ∀ vs H Q E, sp vs H Q E → vs.length = ps.length)
    (hbody : ∀ (cdv : Value) (A : Around) (outer : List Env) (s : Shared) (H : Hp) (vs : List V) (Q : VK) (E : XK), Room k (A.deeper (envOfC d.ql (defScope d.st) s.heap.objs.size (d.adr K) cdv)) → sp vs H Q E →
      ∃ t, PSs (cxOf CX0 P w K mg base N d.ql (defScope d.st) (d.adr K) cdv A outer s H E).nox (defBody d.st) t ∧ t { nx := fun _ H' => Q .non H', rt := Q } (start N vs) H) :
    FnR P w K mg base CX0 (k + 1) (d.adr K) (fun vs H Q E => sp (vs ++ (d.df.map (He.Dv.v K)).drop j) H Q E) := by
  have F1 : FnOk P w K mg base CX0 (k + 1) (d.adr K) fd ps sp := FunD.ok F S len fun cdv A outer s H vs Q E hr h => by
    obtain ⟨t, h1, h2⟩ := hbody cdv A outer s H vs Q E hr h
    exact ⟨t, h1.nox, h2⟩
  obtain ⟨ds, h1, h2⟩ := FunD.binds1 F n j hd hn b
  exact F1.raw h2 h1
end
section
variable {P : Program} {w : World} {K : PySem.W.Frag} {mg : Str → Option Value} {base : Heap} (T : Tx K mg)
include T
def spChkNum : Sp := fun vs H Q _ => ∃ i lo hi : Int, vs = [.int i, .int lo, .int hi] ∧ lo ≤ i ∧ i ≤ hi ∧ Q .non H
def spChkNum1 : Sp := fun vs H Q _ => ∃ i : Int, vs = [.int i] ∧ 0 ≤ i ∧ i ≤ 1000000000000000000 ∧ Q .non H
theorem ok_check_number : FnR P w K mg base CX0 3 (a_check_number K) spChkNum1 := by
  refine (fnRD (d := d_check_number) (sp := spChkNum) (k := 2) (ps := ["value", "least", "most"]) T.F_check_number sc_check_number 1 0 (fun z => nomatch z) rfl (fun _ _ _ _ _ _ _ us its hl hi => match us, its, hl, hi with | [_], [_, _], _, _ => ⟨_, rfl, rfl⟩) (fun vs H Q E h => ?_) (fun cdv A outer s H vs Q E hr h => ?_)).imp fun vs H Q E h => ?_
  · obtain ⟨i, lo, hi, rfl, _⟩ := h
    rfl
  · obtain ⟨i, lo, hi, rfl, h1, h2, k⟩ := h
    refine ⟨_, (pss_one (ps_if (pt_not (pt_val (pe_cR (ok_is_number T) (hr.mono (by decide)) T.F_is_number.kp T.g_is_number pass0 (pa_cons (pv 0) (pa_cons (pv 1) (pa_cons (pv 2) pa_nil)))))) (pss_one ps_never) pss_nil)), ?_⟩
    refine ⟨_, rfl, _, rfl, _, rfl, i, lo, hi, rfl, _, rfl, ?_⟩
    rw [numOk_iff.mpr ⟨h1, h2⟩]
    exact iteF k
  · obtain ⟨i, rfl, h1, h2, k⟩ := h
    exact ⟨i, 0, 1000000000000000000, rfl, h1, h2, k⟩
def spInit (K : PySem.W.Frag) : Sp := fun vs H Q _ => ∃ (x p : Addr) (H0 : Hp) (dx : Addr) (ts : List Tr), vs = [.ref x, .ref p] ∧ Same H0 H ∧ H0 x = none ∧ H x = some (.ins (He.ga K "Offer") dx []) ∧ TrAt K H0 p ts ∧ Fair ts ∧ ts ≠ [] ∧ nmOk ts ∧
  ∀ H', Same H0 H' → OfNew K H0 H' x ts → Q .non H'
theorem ok_Offer_init : FnR P w K mg base CX0 5 (a_Offer_init K) (fun vs H Q E => ∃ ws rest, vs = ws ++ rest ∧ ws.length = 1 ∧ rest.length ≤ sizeLine ∧ ∀ p, H p = none → spInit K (ws ++ [V.ref p]) (upd H p (.tup rest)) Q E) := by
  refine fnRS (d := d_Offer_init) (ps := ["self"]) T.F_Offer_init sc_Offer_init rfl (fun kV doc pm an cdv ct => StX.bind_star1 (B := fun us => bindArgs (PySem.W.fnOf d_Offer_init.nm d_Offer_init.ql (defArgs d_Offer_init.st) (defBody d_Offer_init.st) (defScope d_Offer_init.st) .none kV doc pm an cdv ct) ⟨us, []⟩) (fun _ => rfl) (fun _ _ _ => rfl)) (fun cdv A outer s H vs Q E hr h => ?_)
  obtain ⟨x, p, H0, dx, ts, rfl, s0, n0, hx, hT0, hf, hne, hnm, k⟩ := h
  refine ⟨_, (pss_cons (ps_expr (pe_cR (ok_check_trades T) (hr.mono (by decide)) T.F_check_trades.kp T.g_check_trades pass0 (pa_cons (pv 1) pa_nil))) (pss_cons (ps_expr (pe_cR (ok_check_generosity T) (hr.mono (by decide)) T.F_check_generosity.kp T.g_check_generosity pass0 (pa_cons (pv 1) pa_nil))) (pss_cons (ps_fld (pv 0) (pe_callTy call_tuple_of (by rfl) T.n_tuple (by decide +kernel) (pa_cons (pe_lc (own := [("kind", 3), ("left", 4), ("needed", 5)]) rfl sc_Offer_init.nd (pi_tup (pv 1)) (blkOk_by (own := [("kind", 3), ("left", 4), ("needed", 5)]) (N := N_Offer_init) (sc := defScope s_Offer_init) (by decide +kernel)) (fun _ _ _ _ _ => (pg_tupB (n := 3) (pgs_cons (pg_name (i := 3) sc_Offer_init.nd rfl (Or.inl rfl) (.inr rfl)) (pgs_cons (pg_name (i := 4) sc_Offer_init.nd rfl (Or.inl rfl) (.inr rfl)) (pgs_cons (pg_name (i := 5) sc_Offer_init.nd rfl (Or.inl rfl) (.inr rfl)) pgs_nil))))) (fun _ _ _ _ _ => pts_nil) (fun _ _ _ _ _ => (pe_tup (pa_cons (pv 3) (pa_cons (pv 4) (pa_cons (pv 5) pa_nil)))))) pa_nil)) rfl) (pss_cons (ps_set (i := 2) sc_Offer_init.nd rfl (Or.inl rfl) (pe_cR (ok_drinks_of_period T) (hr.mono (by decide)) T.F_drinks_of_period.kp T.g_drinks_of_period pass0 (pa_cons (pv 1) pa_nil))) (pss_cons (ps_fld (pv 0) (pe_tup (pa_cons (pe_cR (ok_cost_of T) (hr.mono (by decide)) T.F_cost_of.kp T.g_cost_of pass0 (pa_cons (pv 1) (pa_cons (pv 2) pa_nil))) (pa_cons (pv 2) pa_nil))) rfl) (pss_cons (ps_fld (pv 0) (pe_cR (ok_tops_of T) (hr.mono (by decide)) T.F_tops_of.kp T.g_tops_of pass0 (pa_cons (pe_lc (own := [("count", 6)]) rfl sc_Offer_init.nd (pi_range1 rfl T.n_range (pa_cons (pe_op op_mul pe_int (pv 2)) pa_nil)) (blkOk_by (own := [("count", 6)]) (N := N_Offer_init) (sc := defScope s_Offer_init) (by decide +kernel)) (fun _ _ _ _ _ => (pg_name (i := 6) sc_Offer_init.nd rfl (Or.inl rfl) (.inr rfl))) (fun _ _ _ _ _ => pts_nil) (fun _ _ _ _ _ => (pe_cR (ok_cost_of T) (hr.mono (by decide)) T.F_cost_of.kp T.g_cost_of pass0 (pa_cons (pv 1) (pa_cons (pv 6) pa_nil))))) pa_nil)) rfl) (pss_cons (ps_fld (pv 0) (pe_cR (ok_firsts_of T) (hr.mono (by decide)) T.F_firsts_of.kp T.g_firsts_of pass0 (pa_cons (pe_fld (pv 0) rfl) pa_nil)) rfl) (pss_one (ps_fld (pv 0) (pe_cR (ok_gaps_of T) (hr.mono (by decide)) T.F_gaps_of.kp T.g_gaps_of pass0 (pa_cons (pe_fld (pv 0) rfl) (pa_cons (pe_fld (pv 0) rfl) pa_nil))) rfl))))))))), ?_⟩
  -- the checks
  refine ⟨_, rfl, p, ts, rfl, hT0.mono s0, hf.g, hne, hnm, fun H1 s1 => ?_⟩
  refine ⟨_, rfl, p, ts, rfl, hT0.mono (s0.trans s1), hf, fun H2 s2 => ?_⟩
  have s02 : Same H0 H2 := s0.trans (s1.trans s2)
  have hx2 : H2 x = some (.ins (He.ga K "Offer") dx []) := s2 _ _ (s1 _ _ hx)
  obtain ⟨ps, h1, h2, h3⟩ := (hT0.mono s02).ex
  -- the trades
  refine ⟨_, rfl, p, rfl, ⟨_, h1⟩, fun D hD => ?_⟩
  refine lc_tup (xs := ps.map V.ref) (fun i H3 => Same H2 H3 ∧ ∃ qs : List Addr, qs.length = i ∧ H3 D = some (.lst (qs.map V.ref)) ∧ ∀ (j : Nat) (q : Addr) (t : Tr), qs[j]? = some q → ts[j]? = some t → H3 q = some (.tup t.vs))
    ⟨same_new hD, [], rfl, upd_same, fun j q t hq => by cases hq⟩ (fun i H3 _ q => Same.tup q.1 h1) ?_ ?_
  · rintro i y H3 hy ⟨s3, qs, hq1, e3, hq2⟩
    obtain ⟨pt, t, rfl, ep, et, hm, li, hpt⟩ := TrAt.at_ h2 h3 hy
    refine ⟨pt, _, rfl, Same.tup s3 hpt, rfl, _, _, rfl, _, _, rfl, _, _, rfl, rfl, rfl, ?_⟩
    refine ⟨_, rfl, _, rfl, _, rfl, by show 3 ≤ sizeLine; decide, fun q nq => ?_⟩
    have nD : D ≠ q := ne_of_none e3 nq
    refine ⟨_, upd_old e3 nq, small3 (by rw [List.length_map, hq1]; have := hf.g.1; omega), same_mut (s3.trans (same_new nq)) hD, qs ++ [q], by rw [List.length_append, hq1]; rfl, by rw [upd_same, List.map_append]; rfl, fun j q' t' hj ht' => ?_⟩
    rcases Nat.lt_or_ge j qs.length with z | z
    · rw [List.getElem?_append_left z] at hj
      have e4 := upd_old (u := .tup t.vs) (hq2 j q' t' hj ht') nq
      rw [upd_ne (ne_of (upd_old (u := .tup t.vs) (hq2 j q' t' hj ht') nq) (upd_old (u := .tup t.vs) e3 nq) (by intro z; cases z))]
      exact e4
    · rw [List.getElem?_append_right z] at hj
      have ej : j = qs.length := by
        have := lt_of_at hj
        simp only [List.length_singleton] at this
        omega
      rw [ej, Nat.sub_self] at hj
      have eq : q = q' := Option.some.inj hj
      subst eq
      rw [ej, hq1, et] at ht'
      have ett : t = t' := Option.some.inj ht'
      subst ett
      rw [upd_ne nD.symm]
      exact upd_same
  rintro H3 ⟨s3, qs, hq1, e3, hq2⟩
  rw [List.length_map] at hq1
  refine ⟨D, _, rfl, .inl ⟨SqL.of e3, fun l hl => ?_⟩⟩
  have hx3 : H3 x = some (.ins (He.ga K "Offer") dx []) := s3 _ _ hx2
  have hx4 := upd_old (u := .tup (qs.map V.ref)) hx3 hl
  have s04 : Same H0 (upd H3 l (.tup (qs.map V.ref))) := s02.trans (s3.trans (same_new hl))
  refine ⟨_, rfl, x, _, dx, [], rfl, hx4, T.k_Offer, T.na_trades, by show 0 < 1000; decide, ?_⟩
  -- the period
  generalize hH4 : upd H3 l (.tup (qs.map V.ref)) = H4 at hx4 s04
  have e4 : H4 l = some (.tup (qs.map V.ref)) := by rw [← hH4]; exact upd_same
  have q4 : ∀ (j : Nat) (q : Addr) (t : Tr), qs[j]? = some q → ts[j]? = some t → H4 q = some (.tup t.vs) := fun j q t a b => by
    rw [← hH4]
    exact upd_old (hq2 j q t a b) hl
  -- B4: all but the offer itself
  have sB4 : Same H0 (hid H4 x) := same_hid s04 n0
  have tB4 : TrAt K (hid H4 x) l ts := by
    refine ⟨qs, SqT.of (hid_old e4 hx4 (by intro z; cases z)), by rw [hq1, h2], fun j q t a b => SqT.of (hid_old (q4 j q t a b) hx4 (by intro z; cases z))⟩
  have pB4 : TrAt K (hid H4 x) p ts := hT0.mono sB4
  generalize hB4 : hid H4 x = B4 at sB4 tB4 pB4
  have nB4 : B4 x = none := by rw [← hB4]; exact hid_x
  rw [put1]
  have sb5 : Same B4 (upd H4 x (.ins (He.ga K "Offer") dx [("_trades", .ref l)])) := by
    rw [← hB4]
    exact same_mut hid_same hid_x
  generalize hH5 : upd H4 x (.ins (He.ga K "Offer") dx [("_trades", .ref l)]) = H5 at sb5
  have hx5 : H5 x = some (.ins (He.ga K "Offer") dx [("_trades", .ref l)]) := by rw [← hH5]; exact upd_same
  refine ⟨_, rfl, p, ts, rfl, pB4.mono sb5, hf.g, fun H6 s6 => ?_⟩
  refine ⟨_, rfl, _, rfl, p, ts, _, rfl, pB4.mono (sb5.trans s6), hf.g, fun H7 s7 => ⟨_, rfl, by show 2 ≤ sizeLine; decide, fun pp hpp => ?_⟩⟩
  have hx8 := upd_old (u := .tup [.int (cost ts (per ts : Nat)), .int (per ts : Nat)]) (s7 _ _ (s6 _ _ hx5)) hpp
  have sb8 : Same B4 (upd H7 pp (.tup [.int (cost ts (per ts : Nat)), .int (per ts : Nat)])) := sb5.trans (s6.trans (s7.trans (same_new hpp)))
  refine ⟨_, rfl, x, _, dx, _, rfl, hx8, T.k_Offer, T.na_period, by show 1 < 1000; decide, ?_⟩
  rw [put2]
  generalize hH8 : upd H7 pp (.tup [.int (cost ts (per ts : Nat)), .int (per ts : Nat)]) = H8 at hx8 sb8
  have e8 : H8 pp = some (.tup [.int (perB ts : Nat), .int (per ts : Nat)]) := by rw [← hH8, upd_same, perB_eq hf]
  have sB8 : Same B4 (hid H8 x) := same_hid sb8 nB4
  have eB8 : hid H8 x pp = some (.tup [.int (perB ts : Nat), .int (per ts : Nat)]) := hid_old e8 hx8 (by intro z; cases z)
  generalize hB8 : hid H8 x = B8 at sB8 eB8
  have nB8 : B8 x = none := by rw [← hB8]; exact hid_x
  have sb9 : Same B8 (upd H8 x (.ins (He.ga K "Offer") dx [("_trades", .ref l), ("_period", .ref pp)])) := by
    rw [← hB8]
    exact same_mut hid_same hid_x
  generalize hH9 : upd H8 x (.ins (He.ga K "Offer") dx [("_trades", .ref l), ("_period", .ref pp)]) = H9 at sb9
  have hx9 : H9 x = some (.ins (He.ga K "Offer") dx [("_trades", .ref l), ("_period", .ref pp)]) := by rw [← hH9]; exact upd_same
  have hp := per_le' hf.g
  have pB8 : TrAt K B8 p ts := pB4.mono sB8
  -- the tops
  refine ⟨_, rfl, _, _, rfl, rfl, .inl ⟨by decide, by decide⟩, _, rfl, ?_, ?_, fun D2 hD2 => ?_⟩
  · omega
  · omega
  refine lc_range (lo := 0) (n := (2 * (per ts : Int)).toNat) (fun i H10 => Same H9 H10 ∧ H10 D2 = some (.lst (((List.range i).map (cN ts)).map V.int))) ⟨same_new hD2, upd_same⟩ ?_ ?_
  · rintro i H10 hi ⟨s10, e10⟩
    refine ⟨rfl, _, rfl, _, rfl, p, ts, _, rfl, pB8.mono (sb9.trans s10), hf.g, fun H11 s11 => ⟨_, s11 _ _ e10, small3 ?_, same_mut (s10.trans s11) hD2, ?_⟩⟩
    · rw [List.length_map, List.length_map, List.length_range]
      omega
    · rw [upd_same, List.range_succ, List.map_append, List.map_append]
      show _ = some (HO.lst (_ ++ [V.int (cost ts (i : Int))]))
      rw [Int.zero_add]
  rintro H10 ⟨s10, e10⟩
  have en : (2 * (per ts : Int)).toNat = 2 * per ts := by omega
  rw [en] at e10
  obtain ⟨m, hm⟩ : ∃ m, 2 * per ts = m + 1 := ⟨2 * per ts - 1, by have := per_pos hf.g; omega⟩
  have etops : topsF 0 ((List.range (2 * per ts)).map (cN ts)) = topsL ts := by
    unfold topsL
    rw [hm]
    exact (tops_eq (cf hf).zero m).1
  refine ⟨D2, _, rfl, SqL.of e10, by rw [List.length_map, List.length_range]; omega, fun H11 o s11 no e11 => ?_⟩
  rw [etops] at e11
  have hx11 : H11 x = some (.ins (He.ga K "Offer") dx [("_trades", .ref l), ("_period", .ref pp)]) := s11 _ _ (s10 _ _ hx9)
  have sb11 : Same B8 H11 := sb9.trans (s10.trans s11)
  refine ⟨_, rfl, x, _, dx, _, rfl, hx11, T.k_Offer, T.na_tops, by show 2 < 1000; decide, ?_⟩
  rw [put3]
  have sB11 : Same B8 (hid H11 x) := same_hid sb11 nB8
  have eB11 : hid H11 x o = some (.lst ((topsL ts).map V.int)) := hid_old e11 hx11 (by intro z; cases z)
  generalize hB11 : hid H11 x = B11 at sB11 eB11
  have nB11 : B11 x = none := by rw [← hB11]; exact hid_x
  have sb12 : Same B11 (upd H11 x (.ins (He.ga K "Offer") dx [("_trades", .ref l), ("_period", .ref pp), ("_tops", .ref o)])) := by
    rw [← hB11]
    exact same_mut hid_same hid_x
  generalize hH12 : upd H11 x (.ins (He.ga K "Offer") dx [("_trades", .ref l), ("_period", .ref pp), ("_tops", .ref o)]) = H12 at sb12
  have hx12 : H12 x = some (.ins (He.ga K "Offer") dx [("_trades", .ref l), ("_period", .ref pp), ("_tops", .ref o)]) := by rw [← hH12]; exact upd_same
  -- the firsts
  have efirsts : firstsF 0 [] (topsL ts) = firstsL ts := by
    show firstsF 0 [] ((List.range (2 * per ts)).map (EB.T (cN ts))) = (List.range ((EB.T (cN ts) (2 * per ts - 1)).toNat + 1)).map _
    rw [hm]
    exact firsts_eq (cf hf) m
  have ltop : (topsL ts).length ≤ 10000 := by
    rw [List.length_map, List.length_range]
    omega
  refine ⟨_, rfl, x, _, dx, _, _, rfl, hx12, T.k_Offer, T.na_tops, lk_tops, o, topsL ts, rfl, SqL.of (sb12 _ _ eB11), ltop, fun H13 f s13 nf e13 => ?_⟩
  rw [efirsts] at e13
  have hx13 := s13 _ _ hx12
  refine ⟨_, rfl, x, _, dx, _, rfl, hx13, T.k_Offer, T.na_firsts, by show 3 < 1000; decide, ?_⟩
  rw [put4]
  have sB13 : Same B11 (hid H13 x) := same_hid (sb12.trans s13) nB11
  have eB13 : hid H13 x f = some (.lst ((firstsL ts).map V.int)) := hid_old e13 hx13 (by intro z; cases z)
  generalize hB13 : hid H13 x = B13 at sB13 eB13
  have nB13 : B13 x = none := by rw [← hB13]; exact hid_x
  have sb14 : Same B13 (upd H13 x (.ins (He.ga K "Offer") dx [("_trades", .ref l), ("_period", .ref pp), ("_tops", .ref o), ("_firsts", .ref f)])) := by
    rw [← hB13]
    exact same_mut hid_same hid_x
  generalize hH14 : upd H13 x (.ins (He.ga K "Offer") dx [("_trades", .ref l), ("_period", .ref pp), ("_tops", .ref o), ("_firsts", .ref f)]) = H14 at sb14
  have hx14 : H14 x = some (.ins (He.ga K "Offer") dx [("_trades", .ref l), ("_period", .ref pp), ("_tops", .ref o), ("_firsts", .ref f)]) := by rw [← hH14]; exact upd_same
  -- the gaps
  refine ⟨_, rfl, x, _, dx, _, _, rfl, hx14, T.k_Offer, T.na_tops, lk_tops, _, rfl, x, _, dx, _, _, rfl, hx14, T.k_Offer, T.na_firsts, lk_firsts, o, f, topsL ts, firstsL ts, rfl, SqL.of (sb14 _ _ (sB13 _ _ eB11)), SqL.of (sb14 _ _ eB13), ltop, tops_in hf, fun H15 g s15 ng e15 => ?_⟩
  have hx15 := s15 _ _ hx14
  refine ⟨_, rfl, x, _, dx, _, rfl, hx15, T.k_Offer, T.na_gaps, by show 4 < 1000; decide, ?_⟩
  rw [put5]
  have s16 : Same B13 (upd H15 x (.ins (He.ga K "Offer") dx (ofs l pp o f g))) := same_mut (sb14.trans s15) nB13
  have s017 : Same H0 B13 := sB4.trans (sB8.trans (sB11.trans sB13))
  refine k _ (s017.trans s16) ⟨dx, l, pp, o, f, g, upd_same, tB4.mono (sB8.trans (sB11.trans (sB13.trans s16))), SqT.of (s16 _ _ (sB13 _ _ (sB11 _ _ eB8))), SqL.of (s16 _ _ (sB13 _ _ eB11)), SqL.of (s16 _ _ eB13), SqL.of ?_, Same.free (sB4.trans (sB8.trans (sb9.trans s10))) no, Same.free (sB4.trans (sB8.trans (sB11.trans sb12))) nf, Same.free (s017.trans sb14) ng⟩
  rw [upd_ne (ne_of e15 hx15 (by intro z; cases z))]
  exact e15
end
end EB

namespace EB
open PySem PySem.Spec PyProof.Rows L2
/-! ### the source of draws: a list at h, its cells at l -/
def hid2 (H : Hp) (h l : Addr) : Hp := fun b => if b = h ∨ b = l then none else H b
theorem hid2_h {H : Hp} {h l : Addr} : hid2 H h l h = none := if_pos (.inl rfl)
theorem hid2_l {H : Hp} {h l : Addr} : hid2 H h l l = none := if_pos (.inr rfl)
theorem hid2_ne {H : Hp} {h l b : Addr} (h1 : b ≠ h) (h2 : b ≠ l) : hid2 H h l b = H b := if_neg fun z => z.elim h1 h2
theorem hid2_same {H : Hp} {h l : Addr} : Same (hid2 H h l) H := fun b o e => by
  by_cases q : b = h ∨ b = l
  · unfold hid2 at e
    rw [if_pos q] at e
    cases e
  · unfold hid2 at e
    rw [if_neg q] at e
    exact e
theorem same_hid2 {H0 H : Hp} {h l : Addr} (s : Same H0 H) (n1 : H0 h = none) (n2 : H0 l = none) : Same H0 (hid2 H h l) := fun b o e => by
  rw [hid2_ne (ne_of_none e n1) (ne_of_none e n2)]
  exact s b o e
/-- the state of the draws; H0 knows nothing of it -/
structure HS (H0 H : Hp) (h l : Addr) : Prop where
  same : Same H0 H
  nh : H0 h = none
  nl : H0 l = none
  ne : h ≠ l
  ex : ∃ (m i : Int) (ns : List Int), H h = some (.lst [.int m, .ref l, .int i]) ∧ H l = some (.lst (ns.map V.int)) ∧ 0 ≤ m ∧ m < 2147483647 ∧ 0 ≤ i ∧ ns.length ≤ 63
theorem HS.grow {H0 H H' : Hp} {h l : Addr} (x : HS H0 H h l) (s : Same H H') : HS H0 H' h l := by
  obtain ⟨m, i, ns, e1, e2, r⟩ := x.ex
  exact ⟨x.same.trans s, x.nh, x.nl, x.ne, m, i, ns, s _ _ e1, s _ _ e2, r⟩
theorem HS.re {H0 H : Hp} {h l : Addr} (x : HS H0 H h l) : HS (hid2 H h l) H h l := ⟨hid2_same, hid2_h, hid2_l, x.ne, x.ex⟩
theorem HS.sub {H0 H : Hp} {h l : Addr} (x : HS H0 H h l) : Same H0 (hid2 H h l) := same_hid2 x.same x.nh x.nl
theorem HS.tup {K : PySem.W.Frag} {H0 H : Hp} {h l a : Addr} {xs : List V} (x : HS H0 H h l) (t : SqT K H a xs) : SqT K (hid2 H h l) a xs := by
  obtain ⟨m, i, ns, e1, e2, _⟩ := x.ex
  rcases t with (t | ⟨o, t⟩) | t
  · exact .inl (.inl (by rw [hid2_ne (ne_of t e1 (by intro z; cases z)) (ne_of t e2 (by intro z; cases z))]; exact t))
  · exact .inl (.inr ⟨o, by rw [hid2_ne (ne_of t e1 (by intro z; cases z)) (ne_of t e2 (by intro z; cases z))]; exact t⟩)
  · exact .inr t
theorem HS.tr {K : PySem.W.Frag} {H0 H : Hp} {h l a : Addr} {ts : List Tr} (x : HS H0 H h l) (t : TrAt K H a ts) : TrAt K (hid2 H h l) a ts := by
  obtain ⟨ps, h1, h2, h3⟩ := t.ex
  exact ⟨ps, x.tup h1, h2, fun i p t a b => x.tup (h3 i p t a b)⟩
theorem HS.lst {K : PySem.W.Frag} {H0 H : Hp} {h l a : Addr} {xs : List V} (x : HS H0 H h l) (t : SqL K H a xs) (n1 : a ≠ h) (n2 : a ≠ l) : SqL K (hid2 H h l) a xs := by
  rcases t with (t | ⟨o, t⟩) | t
  · exact .inl (.inl (by rw [hid2_ne n1 n2]; exact t))
  · exact .inl (.inr ⟨o, by rw [hid2_ne n1 n2]; exact t⟩)
  · exact .inr t
theorem HS.of_ {K : PySem.W.Frag} {H0 H H1 : Hp} {h l a : Addr} {ts : List Tr} (x : HS H0 H h l) (s : Same H H1) (t : OfNew K H H1 a ts) : OfAt K (hid2 H1 h l) a ts := by
  obtain ⟨dx, t, p, o, f, g, h1, h2, h3, h4, h5, h6, n1, n2, n3⟩ := t.ex
  have y := x.grow s
  obtain ⟨m, i, ns, e1, e2, _⟩ := x.ex
  have q : ∀ b, H b = none → b ≠ h ∧ b ≠ l := fun b n => ⟨(ne_of_none e1 n).symm, (ne_of_none e2 n).symm⟩
  refine ⟨dx, t, p, o, f, g, ?_, y.tr h2, y.tup h3, y.lst h4 (q o n1).1 (q o n1).2, y.lst h5 (q f n2).1 (q f n2).2, y.lst h6 (q g n3).1 (q g n3).2⟩
  rw [hid2_ne (ne_of h1 (s _ _ e1) (by intro z; cases z)) (ne_of h1 (s _ _ e2) (by intro z; cases z))]
  exact h1
theorem ixN_int {n : Nat} {i : Int} (h0 : 0 ≤ i) (h1 : i < n) : ixN n i = some i.toNat := by
  unfold ixN
  rw [if_pos h0, if_pos h1]
section
variable {P : Program} {w : World} {K : PySem.W.Frag} {mg : Str → Option Value} {base : Heap} (T : Tx K mg)
include T
def spMix (K : PySem.W.Frag) : Sp := fun vs H Q _ => ∃ (a : Addr) (ns : List Int) (seed : Int), vs = [.ref a, .int seed] ∧ SqL K H a (ns.map V.int) ∧ ns.length ≤ 63 ∧ 0 ≤ seed ∧ seed < 2147483647 ∧ ∀ H' h l, HS H H' h l → Q (.ref h) H'
theorem ok_law_mix : FnR P w K mg base CX0 1 (a_law_mix K) (spMix K) := by
  refine fnR0 (d := d_law_mix) T.F_law_mix sc_law_mix rfl (fun _ _ _ _ _ _ us hl => match us, hl with | [_, _], _ => rfl) (fun vs H Q E h => ?_) (fun cdv A outer s H vs Q E hr h => ?_)
  · obtain ⟨a, ns, seed, rfl, _⟩ := h
    rfl
  obtain ⟨a, ns, seed, rfl, hS, hl, h0, h1, k⟩ := h
  refine ⟨_, (pss_cons (ps_set (i := 2) sc_law_mix.nd rfl (Or.inl rfl) (pv 1)) (pss_cons (ps_for PassesOwn.never rfl (pi_list (pv 0)) (pg_name (i := 3) sc_law_mix.nd rfl (Or.inl rfl)) (pss_one (ps_set (i := 2) sc_law_mix.nd rfl (Or.inl rfl) (pe_op op_mod (pe_op op_add (pe_op op_add (pe_op op_mul (pv 2) pe_int) (pe_op op_mod (pv 3) pe_int)) pe_int) pe_int)))) (pss_one (ps_ret (pe_lst (pa_cons (pv 2) (pa_cons (pe_callTy call_list_of (by rfl) T.n_list (by decide +kernel) (pa_cons (pv 0) pa_nil)) (pa_cons pe_int pa_nil)))))))), ?_⟩
  refine ⟨_, rfl, _, rfl, a, rfl, ⟨_, hS⟩, for_list (K := K) (a := a) (xs := ns.map V.int) (fun i σ H1 => H1 = H ∧ ∃ (m : Int) (x : Option V), 0 ≤ m ∧ m < 2147483647 ∧ σ = [some (.ref a), some (.int seed), some (.int m), x]) ⟨rfl, seed, none, h0, h1, rfl⟩ (fun i σ H1 _ q => by rw [q.1]; exact hS) ?_ ?_⟩
  · rintro i x σ H1 hx ⟨rfl, m, x3, m0, m1, rfl⟩
    obtain ⟨c, ec, rfl⟩ := int_at hx
    refine ⟨_, rfl, _, _, rfl, rfl, .inr ⟨by decide, by decide⟩, _, rfl, _, _, rfl, rfl, by show (0 : Int) < 2147483629; decide, _, _, rfl, rfl, _, _, rfl, rfl, _, _, rfl, rfl, by show (0 : Int) < 2147483647; decide, rfl, _, some (.int c), ?_, ?_, rfl⟩
    · exact Int.emod_nonneg _ (by decide)
    · exact Int.emod_lt_of_pos _ (by decide)
  · rintro σ H1 ⟨rfl, m, x3, m0, m1, rfl⟩
    refine ⟨_, rfl, _, rfl, a, _, rfl, .inl hS, fun l hl1 => ⟨by show 3 ≤ sizeLine; decide, fun h hh => ?_⟩⟩
    have nh : h ≠ l := fun z => by
      rw [z, upd_same] at hh
      cases hh
    have hh2 : H1 h = none := by
      rw [upd_ne nh] at hh
      exact hh
    refine k _ h l ⟨(same_new hl1).trans (same_new hh), hh2, hl1, nh, m, 0, ns, upd_same, ?_, m0, m1, Int.le_refl _, hl⟩
    rw [upd_ne nh.symm]
    exact upd_same
def spNext : Sp := fun vs H Q _ => ∃ (h l : Addr) (lim : Int) (H0 : Hp), vs = [.ref h, .int lim] ∧ 0 < lim ∧ lim ≤ 2000000000000000000 ∧ HS H0 H h l ∧ ∀ H' r, HS H0 H' h l → 0 ≤ r → r < lim → Q (.int r) H'
theorem ok_law_next : FnR P w K mg base CX0 1 (a_law_next K) spNext := by
  refine fnR0 (d := d_law_next) T.F_law_next sc_law_next rfl (fun _ _ _ _ _ _ us hl => match us, hl with | [_, _], _ => rfl) (fun vs H Q E h => ?_) (fun cdv A outer s H vs Q E hr h => ?_)
  · obtain ⟨h, l, lim, H0, rfl, _⟩ := h
    rfl
  obtain ⟨h, l, lim, H0, rfl, l0, l1, hs, k⟩ := h
  obtain ⟨s0, nh, nl, hne, m, i, ns, eh, el, m0, m1, i0, hl⟩ := hs
  refine ⟨_, (pss_cons (ps_set (i := 2) sc_law_next.nd rfl (Or.inl rfl) (pe_ix ix_list (pe_op op_cat (pe_ix ix_list (pv 0) pe_int (fun _ _ => rfl)) (pe_lst (pa_cons pe_int pa_nil))) (pe_op op_mod (pe_ix ix_list (pv 0) pe_int (fun _ _ => rfl)) (pe_callB (call_max2 rfl) (by rfl) T.n_max (by decide +kernel) (pa_cons pe_int (pa_cons (pe_callB call_len_seq (by rfl) T.n_len PySem.boot_len (pa_cons (pe_ix ix_list (pv 0) pe_int (fun _ _ => rfl)) pa_nil)) pa_nil)))) (fun _ _ => rfl))) (pss_cons (ps_if (pt_cmpR op_ge (pv 2) (pe_op op_pow pe_int pe_int) (nomark _)) (pss_cons (ps_asg (pe_op op_fdivW (pv 2) (pv 1)) (pg_sub (pe_ix ix_list (pv 0) pe_int (fun _ _ => rfl)) (pe_op op_mod (pe_ix ix_list (pv 0) pe_int (fun _ _ => rfl)) (pe_callB call_len_seq (by rfl) T.n_len PySem.boot_len (pa_cons (pe_ix ix_list (pv 0) pe_int (fun _ _ => rfl)) pa_nil))) set_list)) (pss_one (ps_ret (pe_op op_mod (pv 2) (pv 1))))) pss_nil) (pss_cons (ps_asg (pe_op op_mod (pe_op op_add (pe_op op_add (pe_op op_mul (pe_ix ix_list (pv 0) pe_int (fun _ _ => rfl)) pe_int) (pe_op op_mul (pv 2) pe_int)) pe_int) pe_int) (pg_sub (pv 0) pe_int set_list)) (pss_cons (ps_asg (pe_op op_add (pe_ix ix_list (pv 0) pe_int (fun _ _ => rfl)) pe_int) (pg_sub (pv 0) pe_int set_list)) (pss_one (ps_ret (pe_op op_mod (pe_op op_fdiv (pe_ix ix_list (pv 0) pe_int (fun _ _ => rfl)) pe_int) (pv 1)))))))), ?_⟩
  refine ⟨_, rfl, h, _, 1, _, rfl, rfl, SqL.of eh, rfl, by show 1 ≤ sizeLine; decide, fun z hz => ?_⟩
  refine ⟨l, z, _, _, rfl, rfl, upd_old el hz, upd_same, by rw [List.length_map]; exact Nat.le_trans (Nat.succ_le_succ hl) (by decide), fun y hy => ?_⟩
  have eh2 := upd_old (u := .lst (ns.map V.int ++ [.int 0])) (upd_old (u := .lst [.int 0]) eh hz) hy
  have el2 := upd_old (u := .lst (ns.map V.int ++ [.int 0])) (upd_old (u := .lst [.int 0]) el hz) hy
  have s2 : Same H (upd (upd H z (.lst [.int 0])) y (.lst (ns.map V.int ++ [.int 0]))) := (same_new hz).trans (same_new hy)
  have ey : (upd (upd H z (.lst [.int 0])) y (.lst (ns.map V.int ++ [.int 0]))) y = some (.lst (ns.map V.int ++ [.int 0])) := upd_same
  generalize upd (upd H z (.lst [.int 0])) y (.lst (ns.map V.int ++ [.int 0])) = H2 at eh2 el2 s2 ey
  refine ⟨_, rfl, h, _, 2, _, rfl, rfl, SqL.of eh2, rfl, _, rfl, h, _, 1, _, rfl, rfl, SqL.of eh2, rfl, l, _, rfl, .inl (SqL.of el2), 1, _, rfl, ?_⟩
  have hlen : ((ns.map V.int).length : Int) = (ns.length : Int) := by rw [List.length_map]
  rw [hlen]
  have hj : 0 < (if (ns.length : Int) > 1 then (ns.length : Int) else 1) := by split <;> omega
  have hjm : (if (ns.length : Int) > 1 then (ns.length : Int) else 1) ≤ ns.length + 1 := by split <;> omega
  have hj2 : ns ≠ [] → (if (ns.length : Int) > 1 then (ns.length : Int) else 1) = ns.length := fun hn => by
    have : 0 < ns.length := List.length_pos_iff.mpr hn
    split <;> omega
  generalize (if (ns.length : Int) > 1 then (ns.length : Int) else 1) = j at hj hjm hj2
  refine ⟨_, _, rfl, rfl, hj, ?_⟩
  have r0 := Int.emod_nonneg i (Int.ne_of_gt hj)
  have r1 := Int.emod_lt_of_pos i hj
  -- the cell that is read
  obtain ⟨c, hc, hc2⟩ : ∃ c : Int, (ns.map V.int ++ [V.int 0])[(i % j).toNat]? = some (.int c) ∧ (0 < c → ns ≠ []) := by
    by_cases hn : ns = []
    · subst hn
      have : (i % j).toNat = 0 := by
        simp only [List.length_nil] at hjm
        omega
      rw [this]
      exact ⟨0, rfl, fun z => absurd z (by decide)⟩
    · have ej := hj2 hn
      have lt : (i % j).toNat < ns.length := by omega
      refine ⟨ns[(i % j).toNat], ?_, fun _ => hn⟩
      rw [List.getElem?_append_left (by rw [List.length_map]; exact lt), List.getElem?_map, List.getElem?_eq_getElem lt]
      rfl
  refine ⟨y, _, _, .int c, rfl, rfl, SqL.of ey, at_of (j := (i % j).toNat) (by omega) hc, ?_⟩
  refine ⟨_, rfl, _, _, rfl, rfl, ⟨by decide, by decide, by decide⟩, _, _, rfl, rfl, _, rfl, ite2 (fun hd => ?_) (fun hd => ?_)⟩
  · -- a great cell: a digit of it
    have hd : (10 : Int) ^ (18 : Int).toNat ≤ c := of_decide_eq_true hd
    have hc0 : 0 < c := Int.lt_of_lt_of_le (by decide) hd
    have hn := hc2 hc0
    have ej := hj2 hn
    have hp : 0 < ns.length := List.length_pos_iff.mpr hn
    refine ⟨_, rfl, _, rfl, _, _, rfl, rfl, wide_div l0 (b := 64) ?_ (by decide) (by decide), ?_⟩
    · have : lim.natAbs ≤ 2000000000000000000 := by omega
      exact Nat.lt_of_le_of_lt this (by decide)
    refine ⟨_, rfl, h, _, 1, _, rfl, rfl, SqL.of eh2, rfl, _, rfl, h, _, 2, _, rfl, rfl, SqL.of eh2, rfl, _, rfl, h, _, 1, _, rfl, rfl, SqL.of eh2, rfl, l, _, rfl, .inl (SqL.of el2), _, _, rfl, rfl, ?_, ?_⟩
    · show (0 : Int) < ((ns.map V.int).length : Int)
      rw [hlen]
      omega
    rw [hlen]
    have q0 := Int.emod_nonneg i (show (ns.length : Int) ≠ 0 by omega)
    have q1 := Int.emod_lt_of_pos i (show (0 : Int) < ns.length by omega)
    refine ⟨l, _, _, _, rfl, rfl, el2, ixN_int q0 (by rw [List.length_map]; exact q1), ?_⟩
    refine ⟨_, rfl, _, rfl, _, _, rfl, rfl, l0, ?_⟩
    refine k _ _ ⟨same_mut (s0.trans s2) nl, nh, nl, hne, m, i, ns.set (i % (ns.length : Int)).toNat (c / lim), ?_, ?_, m0, m1, i0, by rw [List.length_set]; exact hl⟩ (Int.emod_nonneg _ (Int.ne_of_gt l0)) (Int.emod_lt_of_pos _ l0)
    · rw [upd_ne hne]
      exact eh2
    · rw [upd_same, List.map_set]
  · -- mixed with the cell
    refine ⟨_, rfl, h, _, 0, _, rfl, rfl, SqL.of eh2, rfl, _, _, rfl, rfl, .inr ⟨by decide, by decide⟩, _, rfl, _, _, rfl, rfl, .inr ⟨by decide, by decide⟩, _, _, rfl, rfl, _, _, rfl, rfl, _, _, rfl, rfl, by show (0 : Int) < 2147483647; decide, ?_⟩
    refine ⟨_, rfl, h, _, 0, 0, rfl, rfl, eh2, rfl, ?_⟩
    have b0 : 0 ≤ (m * 48271 + c * 69621 + 11) % 2147483647 := Int.emod_nonneg _ (by decide)
    have b1 : (m * 48271 + c * 69621 + 11) % 2147483647 < 2147483647 := Int.emod_lt_of_pos _ (by decide)
    have e3 : upd H2 h (.lst ([V.int m, .ref l, .int i].set 0 (.int ((m * 48271 + c * 69621 + 11) % 2147483647)))) h = some (.lst [V.int ((m * 48271 + c * 69621 + 11) % 2147483647), .ref l, .int i]) := upd_same
    refine ⟨_, rfl, h, _, 2, _, rfl, rfl, SqL.of e3, rfl, _, _, rfl, rfl, _, rfl, h, _, 2, 2, rfl, rfl, e3, rfl, ?_⟩
    rw [upd_upd]
    have e4 : upd H2 h (.lst ([V.int ((m * 48271 + c * 69621 + 11) % 2147483647), .ref l, .int i].set 2 (.int (i + 1)))) h = some (.lst [V.int ((m * 48271 + c * 69621 + 11) % 2147483647), .ref l, .int (i + 1)]) := upd_same
    refine ⟨_, rfl, h, _, 0, _, rfl, rfl, SqL.of e4, rfl, _, _, rfl, rfl, ⟨by decide, by decide⟩, _, rfl, _, _, rfl, rfl, l0, ?_⟩
    refine k _ _ ⟨same_mut (s0.trans s2) nh, nh, nl, hne, (m * 48271 + c * 69621 + 11) % 2147483647, i + 1, ns, e4, ?_, b0, b1, by omega, hl⟩ (Int.emod_nonneg _ (Int.ne_of_gt l0)) (Int.emod_lt_of_pos _ l0)
    rw [upd_ne hne.symm]
    exact el2
def spBuys (K : PySem.W.Frag) : Sp := fun vs H Q _ => ∃ (a : Addr) (ts : List Tr) (d : Int), vs = [.ref a, .int d] ∧ TrAt K H a ts ∧ gds ts ∧ ∀ H', Same H H' → Q (.int (buys ts d)) H'
theorem ok_law_buys : FnR P w K mg base CX0 1 (a_law_buys K) (spBuys K) := by
  refine fnR0 (d := d_law_buys) T.F_law_buys sc_law_buys rfl (fun _ _ _ _ _ _ us hl => match us, hl with | [_, _], _ => rfl) (fun vs H Q E h => ?_) (fun cdv A outer s H vs Q E hr h => ?_)
  · obtain ⟨a, ts, d, rfl, _⟩ := h
    rfl
  obtain ⟨a, ts, d, rfl, hT, ⟨hlen, hok⟩, k⟩ := h
  obtain ⟨ps, h1, h2, h3⟩ := hT.ex
  refine ⟨_, (pss_one (ps_ret (pe_callB (cr_sum rfl) (by rfl) T.n_sum (by decide +kernel) (pa_cons (pe_lc (own := [("_law_kind", 2), ("_law_left", 3), ("_law_needed", 4)]) rfl sc_law_buys.nd (pi_tup (pv 0)) (blkOk_by (own := [("_law_kind", 2), ("_law_left", 3), ("_law_needed", 4)]) (N := N_law_buys) (sc := defScope s_law_buys) (by decide +kernel)) (fun _ _ _ _ _ => (pg_tupB (n := 3) (pgs_cons (pg_name (i := 2) sc_law_buys.nd rfl (Or.inl rfl) (.inr rfl)) (pgs_cons (pg_name (i := 3) sc_law_buys.nd rfl (Or.inl rfl) (.inr rfl)) (pgs_cons (pg_name (i := 4) sc_law_buys.nd rfl (Or.inl rfl) (.inr rfl)) pgs_nil))))) (fun _ _ _ _ _ => pts_nil) (fun _ _ _ _ _ => (pe_op op_fdiv (pe_op op_mul (pv 3) (pv 1)) (pv 4)))) pa_nil)))), ?_⟩
  refine ⟨_, rfl, a, rfl, ⟨_, h1⟩, fun D hD => ?_⟩
  refine lc_tup (xs := ps.map V.ref) (fun i H1 => Same H H1 ∧ H D = none ∧ H1 D = some (.lst ((ts.take i).map fun t => V.int (t.l * d / t.n)))) ⟨same_new hD, hD, upd_same⟩ (fun i H1 _ q => Same.tup q.1 h1) ?_ ?_
  · rintro i x H1 hx ⟨s1, n1, e1⟩
    obtain ⟨p, t, rfl, ep, et, hm, li, hp⟩ := TrAt.at_ h2 h3 hx
    have ht := hok _ hm
    refine ⟨p, _, rfl, Same.tup s1 hp, rfl, _, _, rfl, _, _, rfl, _, _, rfl, rfl, rfl, ?_⟩
    refine ⟨_, rfl, _, rfl, _, _, rfl, rfl, .inl ⟨by have := ht.1; omega, by have := ht.2.1; omega⟩, _, rfl, _, _, rfl, rfl, ⟨by have := ht.2.2.1; omega, by have := ht.2.2.2; omega⟩, ?_⟩
    refine ⟨_, e1, small3 ?_, same_mut s1 n1, n1, ?_⟩
    · rw [List.length_map, List.length_take]
      omega
    · rw [upd_same, take_at et, List.map_append]
      rfl
  · rintro H1 ⟨s1, n1, e1⟩
    refine ⟨D, ts.map fun t => t.l * d / t.n, rfl, SqL.of ?_, ?_⟩
    · rw [e1, List.length_map, h2, List.take_length, List.map_map]
      rfl
    · exact k _ s1
end
end EB

namespace EB
open PySem PySem.Spec PyProof.Rows L2
theorem HS.keep {H0 H : Hp} {h l b : Addr} {o : HO} (e : H b = some o) (n1 : b ≠ h) (n2 : b ≠ l) : hid2 H h l b = some o := by
  rw [hid2_ne n1 n2]
  exact e
theorem HS.new {H0 H : Hp} {h l b : Addr} (x : HS H0 H h l) (n : H b = none) : b ≠ h ∧ b ≠ l := by
  obtain ⟨m, i, ns, e1, e2, _⟩ := x.ex
  exact ⟨(ne_of_none e1 n).symm, (ne_of_none e2 n).symm⟩
theorem HS.mut {H0 H : Hp} {h l b : Addr} {o : HO} (x : HS H0 H h l) (n : H0 b = none) (n1 : b ≠ h) (n2 : b ≠ l) : HS H0 (upd H b o) h l := by
  obtain ⟨m, i, ns, e1, e2, r⟩ := x.ex
  exact ⟨same_mut x.same n, x.nh, x.nl, x.ne, m, i, ns, by rw [upd_ne n1.symm]; exact e1, by rw [upd_ne n2.symm]; exact e2, r⟩
theorem HS.down {H0 H H' : Hp} {h l : Addr} (x : HS H0 H h l) (y : HS (hid2 H h l) H' h l) : HS H0 H' h l := ⟨x.sub.trans y.same, x.nh, x.nl, x.ne, y.ex⟩
def kinds3 : List Str := ["empty", "cap", "label"]
/-- trades as the law draws them -/
structure Drawn (ts : List Tr) (most largest : Int) : Prop where
  ks : ts.map Tr.k = kinds3.take ts.length
  len : (ts.length : Int) ≤ most
  len3 : ts.length ≤ 3
  each : ∀ t ∈ ts, t.ok ∧ t.n ≤ largest ∧ t.l ≤ t.n
  w : 10 * worth ts ≤ 9 * 27720
theorem Drawn.fair {ts : List Tr} {a b : Int} (d : Drawn ts a b) : Fair ts := ⟨⟨d.len3, fun t ht => (d.each t ht).1⟩, d.w⟩
theorem Drawn.nm {ts : List Tr} {a b : Int} (d : Drawn ts a b) : nmOk ts := by
  have hk : ∀ k ∈ kinds3, kindOk k = true ∧ k.length ≤ 1000 := by decide +kernel
  have hn : kinds3.Nodup := by decide +kernel
  refine ⟨by rw [d.ks]; exact hn.sublist (List.take_sublist _ _), fun t ht => ?_⟩
  have : t.k ∈ ts.map Tr.k := List.mem_map.mpr ⟨t, ht, rfl⟩
  rw [d.ks] at this
  exact hk _ (List.mem_of_mem_take this)
theorem worth_snoc (ts : List Tr) (t : Tr) : worth (ts ++ [t]) = worth ts + 27720 / t.n * t.l := by
  unfold worth
  rw [List.map_append, List.sum_append]
  simp
/-- new tuples, one for each trade -/
def NewTr (H : Hp) (qs : List Addr) (ts : List Tr) : Prop := qs.length = ts.length ∧ ∀ (j : Nat) (q : Addr) (t : Tr), qs[j]? = some q → ts[j]? = some t → H q = some (.tup t.vs)
theorem NewTr.at_ {K : PySem.W.Frag} {H : Hp} {qs : List Addr} {ts : List Tr} {p : Addr} (n : NewTr H qs ts) (h : SqT K H p (qs.map V.ref)) : TrAt K H p ts := ⟨qs, h, n.1, fun i q t a b => SqT.of (n.2 i q t a b)⟩
theorem NewTr.mono {H H' : Hp} {qs : List Addr} {ts : List Tr} (n : NewTr H qs ts) (h : ∀ q xs, H q = some (.tup xs) → H' q = some (.tup xs)) : NewTr H' qs ts := ⟨n.1, fun j q t a b => h _ _ (n.2 j q t a b)⟩
theorem NewTr.snoc {H : Hp} {qs : List Addr} {ts : List Tr} {q : Addr} {t : Tr} (n : NewTr H qs ts) (h : H q = some (.tup t.vs)) : NewTr H (qs ++ [q]) (ts ++ [t]) := by
  refine ⟨by rw [List.length_append, List.length_append, n.1]; rfl, fun j q' t' hj ht' => ?_⟩
  rcases Nat.lt_or_ge j qs.length with z | z
  · rw [List.getElem?_append_left z] at hj
    rw [List.getElem?_append_left (by rw [← n.1]; exact z)] at ht'
    exact n.2 j q' t' hj ht'
  · rw [List.getElem?_append_right z] at hj
    rw [List.getElem?_append_right (by rw [← n.1]; exact z)] at ht'
    have ej : j - qs.length = 0 := by
      have := lt_of_at hj
      simp only [List.length_singleton] at this
      omega
    rw [ej] at hj
    rw [← n.1, ej] at ht'
    cases Option.some.inj hj
    cases Option.some.inj ht'
    exact h
theorem HS.keepT {H : Hp} {h l q : Addr} {xs : List V} {H0 : Hp} (x : HS H0 H h l) (e : H q = some (.tup xs)) : hid2 H h l q = some (.tup xs) := by
  obtain ⟨m, i, ns, e1, e2, _⟩ := x.ex
  exact HS.keep (H0 := H0) e (ne_of e e1 (by intro z; cases z)) (ne_of e e2 (by intro z; cases z))
section
variable {P : Program} {w : World} {K : PySem.W.Frag} {mg : Str → Option Value} {base : Heap} (T : Tx K mg)
include T
def spTrades (K : PySem.W.Frag) : Sp := fun vs H Q _ => ∃ (h l : Addr) (most largest : Int) (H0 : Hp), vs = [.ref h, .int most, .int largest] ∧ 1 ≤ most ∧ most ≤ 3 ∧ 1 ≤ largest ∧ largest ≤ 12 ∧ HS H0 H h l ∧
  ∀ H' p ts, HS H0 H' h l → TrAt K H' p ts → ts ≠ [] → Drawn ts most largest → Q (.ref p) H'
theorem ok_law_trades : FnR P w K mg base CX0 2 (a_law_trades K) (spTrades K) := by
  refine fnR0 (d := d_law_trades) T.F_law_trades sc_law_trades rfl (fun _ _ _ _ _ _ us hl => match us, hl with | [_, _, _], _ => rfl) (fun vs H Q E h => ?_) (fun cdv A outer s H vs Q E hr h => ?_)
  · obtain ⟨h, l, most, largest, H0, rfl, _⟩ := h
    rfl
  obtain ⟨h, l, most, largest, H0, rfl, m1, m3, g1, g12, hs, k⟩ := h
  refine ⟨_, (pss_cons (ps_par (i := 3) (j := 4) (by rfl) sc_law_trades.nd rfl rfl (by decide) rfl rfl (pa_cons (pe_lst pa_nil) (pa_cons pe_int pa_nil)) (by rfl)) (pss_cons (ps_for PassesOwn.never rfl (pi_list (pe_slice sl_list (pe_lst (pa_cons pe_str (pa_cons pe_str (pa_cons pe_str pa_nil)))) po_none (po_some (pe_op op_add pe_int (pe_cR (ok_law_next T) (hr.mono (by decide)) T.F_law_next.kp T.g_law_next pass0 (pa_cons (pv 0) (pa_cons (pv 1) pa_nil))))))) (pg_name (i := 5) sc_law_trades.nd rfl (Or.inl rfl)) (pss_cons (ps_set (i := 6) sc_law_trades.nd rfl (Or.inl rfl) (pe_op op_add pe_int (pe_cR (ok_law_next T) (hr.mono (by decide)) T.F_law_next.kp T.g_law_next pass0 (pa_cons (pv 0) (pa_cons (pv 2) pa_nil))))) (pss_cons (ps_set (i := 7) sc_law_trades.nd rfl (Or.inl rfl) (pe_cR (ok_law_next T) (hr.mono (by decide)) T.F_law_next.kp T.g_law_next pass0 (pa_cons (pv 0) (pa_cons (pe_op op_add (pv 6) pe_int) pa_nil)))) (pss_cons (ps_while PassesOwn.never (pt_cmpR op_gt (pe_op op_mul pe_int (pe_op op_add (pe_op op_mul (pv 4) (pv 6)) (pe_op op_mul (pv 7) pe_int))) (pe_op op_mul (pe_op op_mul pe_int pe_int) (pv 6)) (nomark _)) (pss_one (ps_set (i := 7) sc_law_trades.nd rfl (Or.inl rfl) (pe_op op_sub (pv 7) pe_int)))) (pss_cons (ps_set (i := 4) sc_law_trades.nd rfl (Or.inl rfl) (pe_op op_add (pv 4) (pe_op op_fdiv (pe_op op_mul (pv 7) pe_int) (pv 6)))) (pss_one (ps_expr (pe_bm PySem.F.plainAttrs_list PySem.F.slot_list_append PySem.F.type_list_append mt_append (pv 3) (pa_cons (pe_tup (pa_cons (pv 5) (pa_cons (pv 7) (pa_cons (pv 6) pa_nil)))) pa_nil))))))))) (pss_one (ps_ret (pe_callTy call_tuple_of (by rfl) T.n_tuple (by decide +kernel) (pa_cons (pv 3) pa_nil)))))), ?_⟩
  refine ⟨Nat.zero_le _, fun F hF => ⟨_, _, rfl, ?_⟩⟩
  have nF := hs.new hF
  have n0F : H0 F = none := hs.same.free hF
  have hsA := hs.grow (same_new (u := .lst []) hF)
  refine ⟨by show 3 ≤ sizeLine; decide, fun L hL => ?_⟩
  have nL := hsA.new hL
  have nFL : F ≠ L := ne_of_none upd_same hL
  have hsB := hsA.grow (same_new (u := .lst [.str "empty", .str "cap", .str "label"]) hL)
  have eF : upd (upd H F (.lst [])) L (.lst [.str "empty", .str "cap", .str "label"]) F = some (.lst []) := by
    rw [upd_ne nFL]
    exact upd_same
  have eL : upd (upd H F (.lst [])) L (.lst [.str "empty", .str "cap", .str "label"]) L = some (.lst (kinds3.map V.str)) := upd_same
  have n0L : H0 L = none := hsA.same.free hL
  generalize upd (upd H F (.lst [])) L (.lst [.str "empty", .str "cap", .str "label"]) = HB at hsB eF eL
  refine ⟨_, rfl, _, rfl, h, l, most, hid2 HB h l, rfl, by omega, by omega, hsB.re, fun HC r hsC r0 r1 => ⟨_, _, rfl, rfl, _, rfl, L, _, rfl, SqL.of (hsC.same _ _ (HS.keep (H0 := H0) eL nL.1 nL.2)), fun p hp => ?_⟩⟩
  have eFC : HC F = some (.lst []) := hsC.same _ _ (HS.keep (H0 := H0) eF nF.1 nF.2)
  have hsC' : HS H0 HC h l := hsB.down hsC
  have np := hsC'.new hp
  have n0p : H0 p = none := hsC'.same.free hp
  have npF : p ≠ F := (ne_of_none eFC hp).symm
  -- the kinds that are gone through
  obtain ⟨n, hn, hn1, hn3⟩ : ∃ n : Nat, (1 + r) = (n : Int) ∧ 1 ≤ n ∧ n ≤ 3 := ⟨(1 + r).toNat, by omega, by omega, by omega⟩
  have hnm : (n : Int) ≤ most := by omega
  have ecut : cutV (kinds3.map V.str) none (some (1 + r)) = (kinds3.take n).map V.str := by
    rw [hn]
    unfold cutV
    rw [HT.sIx_none, HT.sIx_nat]
    have hl3 : (kinds3.map V.str).length = 3 := rfl
    rw [hl3, Nat.min_eq_left hn3, Nat.sub_zero, List.drop_zero, List.map_take]
  rw [ecut]
  have hsD := hsC'.grow (same_new (u := .lst ((kinds3.take n).map V.str)) hp)
  have eFD : upd HC p (.lst ((kinds3.take n).map V.str)) F = some (.lst []) := by
    rw [upd_ne npF.symm]
    exact eFC
  have epD : upd HC p (.lst ((kinds3.take n).map V.str)) p = some (.lst ((kinds3.take n).map V.str)) := upd_same
  generalize upd HC p (.lst ((kinds3.take n).map V.str)) = HD at hsD eFD epD
  refine ⟨p, rfl, ⟨_, SqL.of epD⟩, for_list (K := K) (a := p) (xs := (kinds3.take n).map V.str) (fun i σ H1 => HS H0 H1 h l ∧ H1 p = some (.lst ((kinds3.take n).map V.str)) ∧ ∃ (ts : List Tr) (qs : List Addr) (x5 x6 x7 : Option V),
      ts.length = i ∧ H1 F = some (.lst (qs.map V.ref)) ∧ NewTr H1 qs ts ∧ (i ≤ n → ts.map Tr.k = kinds3.take i) ∧ (∀ t ∈ ts, t.ok ∧ t.n ≤ largest ∧ t.l ≤ t.n) ∧ 10 * worth ts ≤ 9 * 27720 ∧ 0 ≤ worth ts ∧
      σ = [some (.ref h), some (.int most), some (.int largest), some (.ref F), some (.int (worth ts)), x5, x6, x7])
    ⟨hsD, epD, [], [], none, none, none, rfl, eFD, ⟨rfl, fun j q t a => (by cases a)⟩, fun _ => rfl, fun t ht => (by cases ht), by decide, by decide, rfl⟩ (fun i σ H1 _ q => SqL.of q.2.1) ?_ ?_⟩
  · rintro i x σ H1 hx ⟨hs1, ep1, ts, qs, x5, x6, x7, hti, eF1, hnt, hks, hall, hw, hw0, rfl⟩
    have hin : i < n := by
      have := lt_of_at hx
      rw [List.length_map, List.length_take] at this
      omega
    obtain ⟨kd, ekd, rfl⟩ : ∃ kd, (kinds3.take n)[i]? = some kd ∧ x = .str kd := by
      rw [List.getElem?_map] at hx
      cases e : (kinds3.take n)[i]? with
      | none =>
        rw [e] at hx
        cases hx
      | some kd =>
        rw [e] at hx
        exact ⟨kd, rfl, (Option.some.inj hx).symm⟩
    have ekd2 : kinds3[i]? = some kd := by
      rw [List.getElem?_take] at ekd
      rw [if_pos hin] at ekd
      exact ekd
    -- needed
    refine ⟨_, rfl, _, rfl, h, l, largest, hid2 H1 h l, rfl, by omega, by omega, hs1.re, fun H2 r2 hs2 r20 r21 => ⟨_, _, rfl, rfl, ?_⟩⟩
    have hs2' := hs1.down hs2
    have ep2 := hs2.same _ _ (HS.keep (H0 := H0) ep1 np.1 np.2)
    have eF2 := hs2.same _ _ (HS.keep (H0 := H0) eF1 nF.1 nF.2)
    have hnt2 := hnt.mono fun q xs e => hs2.same _ _ (hs1.keepT e)
    -- left
    refine ⟨_, rfl, _, rfl, _, _, rfl, rfl, h, l, (1 + r2) + 1, hid2 H2 h l, rfl, by omega, by omega, hs2'.re, fun H3 r3 hs3 r30 r31 => ?_⟩
    have hs3' := hs2'.down hs3
    have ep3 := hs3.same _ _ (HS.keep (H0 := H0) ep2 np.1 np.2)
    have eF3 := hs3.same _ _ (HS.keep (H0 := H0) eF2 nF.1 nF.2)
    have hnt3 := hnt2.mono fun q xs e => hs3.same _ _ (hs2'.keepT e)
    obtain ⟨nd, hnd⟩ : ∃ nd : Int, nd = 1 + r2 := ⟨_, rfl⟩
    have nd1 : 1 ≤ nd := by omega
    have nd2 : nd ≤ 12 := by omega
    have e27 : (9 : Int) * 27720 * nd = 249480 * nd := rfl
    refine ⟨fun m σ H => H = H3 ∧ ∃ lf : Int, 0 ≤ lf ∧ lf ≤ r3 ∧ m = lf.toNat ∧ σ = [some (.ref h), some (.int most), some (.int largest), some (.ref F), some (.int (worth ts)), some (.str kd), some (.int nd), some (.int lf)], ⟨r3.toNat, rfl, r3, r30, Int.le_refl _, rfl, (by rw [hnd]; rfl)⟩, ?_⟩
    rintro m σ H4 ⟨rfl, lf, lf0, lf1, hm, rfl⟩
    have hwn : 10 * (worth ts * nd) ≤ 249480 * nd := by
      have := Int.mul_le_mul_of_nonneg_right hw (show 0 ≤ nd by omega)
      rw [Int.mul_assoc] at this
      exact this
    have hww : worth ts ≤ 24948 := by omega
    refine ⟨_, rfl, _, rfl, _, _, rfl, rfl, .inr ⟨by omega, by omega⟩, _, rfl, _, _, rfl, rfl, .inr ⟨by decide, by decide⟩, _, _, rfl, rfl, _, _, rfl, rfl, .inl ⟨by decide, by decide⟩, _, _, rfl, rfl, .inl ⟨by decide, by decide⟩, _, rfl, _, _, rfl, rfl, .inr ⟨by omega, by omega⟩, _, _, rfl, rfl, _, rfl, ite2 (fun hd => ?_) (fun hd => ?_)⟩
    · have hd : 9 * 27720 * nd < 10 * (worth ts * nd + lf * 27720) := of_decide_eq_true hd
      refine ⟨fun σ' H' => ∃ m', m' < m ∧ (H' = H4 ∧ ∃ lf : Int, 0 ≤ lf ∧ lf ≤ r3 ∧ m' = lf.toNat ∧ σ' = [some (.ref h), some (.int most), some (.int largest), some (.ref F), some (.int (worth ts)), some (.str kd), some (.int nd), some (.int lf)]), fun _ _ z => z, ?_⟩
      exact ⟨_, rfl, _, _, rfl, rfl, (lf - 1).toNat, by omega, rfl, lf - 1, by omega, by omega, rfl, rfl⟩
    · have hd : ¬ 9 * 27720 * nd < 10 * (worth ts * nd + lf * 27720) := fun z => hd (decide_eq_true z)
      obtain ⟨q0, hq0⟩ := dvd_big nd1 nd2
      have eq1 : lf * 27720 / nd = q0 * lf := by
        rw [hq0, show lf * (nd * q0) = nd * (q0 * lf) by rw [Int.mul_left_comm, Int.mul_comm lf q0]]
        exact Int.mul_ediv_cancel_left _ (by omega)
      have eq2 : (27720 : Int) / nd = q0 := by
        rw [hq0]
        exact Int.mul_ediv_cancel_left _ (by omega)
      have hle : 10 * (worth ts + q0 * lf) ≤ 9 * 27720 := by
        have h1 : 10 * (worth ts + q0 * lf) * nd ≤ 9 * 27720 * nd := by
          have h2 : lf * 27720 = q0 * lf * nd := by
            rw [hq0, Int.mul_comm (q0 * lf) nd, Int.mul_left_comm, Int.mul_comm lf q0]
          have h3 : 10 * (worth ts + q0 * lf) * nd = 10 * (worth ts * nd + q0 * lf * nd) := by
            rw [Int.mul_assoc, Int.add_mul]
          rw [h3, ← h2]
          omega
        exact Int.le_of_mul_le_mul_right h1 (by omega)
      have hq00 : 0 ≤ q0 := by
        rw [← eq2]
        exact Int.ediv_nonneg (by decide) (by omega)
      have hql : 0 ≤ q0 * lf := Int.mul_nonneg hq00 lf0
      have ewt : worth (ts ++ [⟨kd, lf, nd⟩]) = worth ts + lf * 27720 / nd := by
        rw [worth_snoc, eq1]
        show worth ts + 27720 / nd * lf = _
        rw [eq2]
      -- worth, and the trade
      refine ⟨_, rfl, _, rfl, _, _, rfl, rfl, .inr ⟨by decide, by decide⟩, _, rfl, _, _, rfl, rfl, ⟨by omega, by omega⟩, _, _, rfl, rfl, ?_⟩
      refine ⟨_, rfl, .inl ⟨rfl, _, SqL.of eF3⟩, _, rfl, _, rfl, _, rfl, by show 3 ≤ sizeLine; decide, fun q hq => ?_⟩
      have eF5 := upd_old (u := .tup [.str kd, .int lf, .int nd]) eF3 hq
      have nq := hs3'.new hq
      have npq : p ≠ q := ne_of_none ep3 hq
      have nFq : F ≠ q := ne_of_none eF3 hq
      refine ⟨F, _, _, rfl, rfl, eF5, small3 ?_, ?_⟩
      · rw [List.length_map, hnt3.1]
        omega
      refine ⟨(hs3'.grow (same_new hq)).mut n0F nF.1 nF.2, ?_, ts ++ [⟨kd, lf, nd⟩], qs ++ [q], some (.str kd), some (.int nd), some (.int lf), ?_, ?_, ?_, fun hi => ?_, fun t ht => ?_, ?_, ?_, ?_⟩
      · rw [upd_ne npF]
        exact upd_old ep3 hq
      · rw [List.length_append, hti]
        rfl
      · rw [upd_same, List.map_append]
        rfl
      · refine NewTr.snoc (hnt3.mono fun q' xs e => ?_) ?_
        · rw [upd_ne (ne_of e eF3 (by intro z; cases z))]
          exact upd_old e hq
        · rw [upd_ne nFq.symm]
          exact upd_same
      · rw [List.map_append, hks (by omega), take_at ekd2]
        rfl
      · rcases List.mem_append.mp ht with ht | ht
        · exact hall t ht
        · cases List.mem_singleton.mp ht
          exact ⟨⟨lf0, by show lf ≤ 12; omega, nd1, nd2⟩, by show nd ≤ largest; omega, by show lf ≤ nd; omega⟩
      · rw [ewt, eq1]
        exact hle
      · rw [ewt, eq1]
        omega
      · rw [ewt]
        rfl
  · rintro σ H1 ⟨hs1, ep1, ts, qs, x5, x6, x7, hti, eF1, hnt, hks, hall, hw, hw0, rfl⟩
    have hlen : ((kinds3.take n).map V.str).length = n := by
      rw [List.length_map, List.length_take]
      exact Nat.min_eq_left hn3
    rw [hlen] at hti
    refine ⟨_, rfl, F, _, rfl, .inl ⟨SqL.of eF1, fun p' hp' => ?_⟩⟩
    refine k _ p' ts (hs1.grow (same_new hp')) ((hnt.mono fun q xs e => upd_old e hp').at_ (SqT.of upd_same)) (fun z => by rw [z] at hti; simp only [List.length_nil] at hti; omega) ⟨?_, by omega, by omega, hall, hw⟩
    rw [hlen] at hks
    rw [hks (Nat.le_refl _), hti]
end
end EB

namespace EB
open PySem PySem.Spec PyProof.Rows L2
theorem upd_none {H : Hp} {a b : Addr} {o : HO} (h : upd H a o b = none) : b ≠ a ∧ H b = none := by
  have n : b ≠ a := fun z => by
    rw [z, upd_same] at h
    cases h
  rw [upd_ne n] at h
  exact ⟨n, h⟩
/-- what a new offer asks, its trades handed on one by one -/
theorem make_ok {K : PySem.W.Frag} {H : Hp} {ts : List Tr} {ps : List Addr} {Q : VK} {E : XK} {x dx : Addr} (h2 : ps.length = ts.length) (h3 : ∀ (i : Nat) (p : Addr) (t : Tr), ps[i]? = some p → ts[i]? = some t → SqT K H p t.vs)
    (hf : Fair ts) (hne : ts ≠ []) (hnm : nmOk ts) (nx : H x = none) (nd : H dx = none) (ned : dx ≠ x) (k : ∀ H', Same H H' → OfNew K H H' x ts → Q (.ref x) H') :
    ∃ ws rest, (V.ref x :: ps.map V.ref) = ws ++ rest ∧ ws.length = 1 ∧ rest.length ≤ sizeLine ∧ ∀ p, (upd (upd H dx (.own x)) x (.ins (He.ga K "Offer") dx [])) p = none →
      spInit K (ws ++ [V.ref p]) (upd (upd (upd H dx (.own x)) x (.ins (He.ga K "Offer") dx [])) p (.tup rest)) (fun v H2 => v = .non ∧ Q (.ref x) H2) E := by
  refine ⟨[.ref x], ps.map V.ref, rfl, rfl, ?_, fun p hp => ?_⟩
  · rw [List.length_map, h2]
    exact Nat.le_trans hf.g.1 (by decide)
  obtain ⟨npx, hp1⟩ := upd_none hp
  obtain ⟨npd, hp2⟩ := upd_none hp1
  have sH : Same H (upd H p (.tup (ps.map V.ref))) := same_new hp2
  refine ⟨x, p, upd H p (.tup (ps.map V.ref)), dx, ts, rfl, fun b o e => ?_, by rw [upd_ne npx.symm]; exact nx, by rw [upd_ne npx.symm]; exact upd_same, ⟨ps, SqT.of upd_same, h2, fun i q t a b => Same.tup sH (h3 i q t a b)⟩, hf, hne, hnm, fun H' s' o' => ⟨rfl, ?_⟩⟩
  · by_cases z : b = p
    · rw [z, upd_same] at e
      rw [z, upd_same]
      exact e
    · rw [upd_ne z] at e
      rw [upd_ne z, upd_ne (ne_of_none e nx), upd_ne (ne_of_none e nd)]
      exact e
  · obtain ⟨d, t, q, o, f, g, e1, e2, e3, e4, e5, e6, n1, n2, n3⟩ := o'.ex
    exact k _ (sH.trans s') ⟨d, t, q, o, f, g, e1, e2, e3, e4, e5, e6, (upd_none n1).2, (upd_none n2).2, (upd_none n3).2⟩
section
variable {P : Program} {w : World} {K : PySem.W.Frag} {mg : Str → Option Value} {base : Heap} (T : Tx K mg)
include T
def spOffer (K : PySem.W.Frag) : Sp := fun vs H Q _ => ∃ (p : Addr) (ts : List Tr), vs = [.ref p] ∧ TrAt K H p ts ∧ Fair ts ∧ ts ≠ [] ∧ nmOk ts ∧ ∀ H' x, Same H H' → OfNew K H H' x ts → Q (.ref x) H'
theorem ok_law_offer : FnR P w K mg base CX0 7 (a_law_offer K) (spOffer K) := by
  refine fnR0 (d := d_law_offer) T.F_law_offer sc_law_offer rfl (fun _ _ _ _ _ _ us hl => match us, hl with | [_], _ => rfl) (fun vs H Q E h => ?_) (fun cdv A outer s H vs Q E hr h => ?_)
  · obtain ⟨p, ts, rfl, _⟩ := h
    rfl
  obtain ⟨p, ts, rfl, hT, hf, hne, hnm, k⟩ := h
  obtain ⟨ps, h1, h2, h3⟩ := hT.ex
  refine ⟨_, (pss_cons (ps_if (pt_cmpR op_eq (pe_callB call_len_seq (by rfl) T.n_len PySem.boot_len (pa_cons (pv 0) pa_nil)) pe_int (nomark _)) (pss_one (ps_ret (StX.pe_makeR T.mk_Offer (ok_Offer_init T) (hr.mono (by decide)) (by rfl) T.g_Offer pass0 (pa_cons (pe_ix ix_tup (pv 0) pe_int (fun _ _ => rfl)) pa_nil)))) pss_nil) (pss_one (ps_ret (pe_ifExp (pt_cmpR op_eq (pe_callB call_len_seq (by rfl) T.n_len PySem.boot_len (pa_cons (pv 0) pa_nil)) pe_int (nomark _)) (StX.pe_makeR T.mk_Offer (ok_Offer_init T) (hr.mono (by decide)) (by rfl) T.g_Offer pass0 (pa_cons (pe_ix ix_tup (pv 0) pe_int (fun _ _ => rfl)) (pa_cons (pe_ix ix_tup (pv 0) pe_int (fun _ _ => rfl)) pa_nil))) (StX.pe_makeR T.mk_Offer (ok_Offer_init T) (hr.mono (by decide)) (by rfl) T.g_Offer pass0 (pa_cons (pe_ix ix_tup (pv 0) pe_int (fun _ _ => rfl)) (pa_cons (pe_ix ix_tup (pv 0) pe_int (fun _ _ => rfl)) (pa_cons (pe_ix ix_tup (pv 0) pe_int (fun _ _ => rfl)) pa_nil)))))))), ?_⟩
  refine ⟨_, rfl, p, _, rfl, .inr h1, rfl, _, rfl, ite2 (fun hd => ?_) (fun hd => ?_)⟩
  · have hd : ((ps.map V.ref).length : Int) = 1 := V.int.inj (of_decide_eq_true hd)
    match ps, hd, h1, h2, h3 with
    | [a], _, h1, h2, h3 =>
      refine ⟨_, rfl, p, _, 0, _, rfl, rfl, h1, rfl, fun x dx nx nd ned => ?_⟩
      exact make_ok h2 h3 hf hne hnm nx nd ned fun H' s' o' => k H' x s' o'
    | [], hd, _, _, _ => exact absurd hd (by decide)
    | a :: b :: r, hd, _, _, _ =>
      simp only [List.map_cons, List.length_cons] at hd
      omega
  · have hd : ¬ ((ps.map V.ref).length : Int) = 1 := fun z => hd (decide_eq_true (by rw [z]))
    refine ⟨_, rfl, p, _, rfl, .inr h1, rfl, _, rfl, ite2 (fun hd2 => ?_) (fun hd2 => ?_)⟩
    · have hd2 : ((ps.map V.ref).length : Int) = 2 := V.int.inj (of_decide_eq_true hd2)
      match ps, hd2, h1, h2, h3 with
      | [a, b], _, h1, h2, h3 =>
        refine ⟨_, rfl, p, _, 0, _, rfl, rfl, h1, rfl, _, rfl, p, _, 1, _, rfl, rfl, h1, rfl, fun x dx nx nd ned => ?_⟩
        exact make_ok h2 h3 hf hne hnm nx nd ned fun H' s' o' => k H' x s' o'
      | [], hd, _, _, _ => exact absurd hd (by decide)
      | [_], hd, _, _, _ => exact absurd hd (by simp)
      | a :: b :: c :: r, hd, _, _, _ =>
        simp only [List.map_cons, List.length_cons] at hd
        omega
    · have hd2 : ¬ ((ps.map V.ref).length : Int) = 2 := fun z => hd2 (decide_eq_true (by rw [z]))
      have hl := hf.g.1
      match ps, hd, hd2, h1, h2, h3 with
      | [a, b, c], _, _, h1, h2, h3 =>
        refine ⟨_, rfl, p, _, 0, _, rfl, rfl, h1, rfl, _, rfl, p, _, 1, _, rfl, rfl, h1, rfl, _, rfl, p, _, 2, _, rfl, rfl, h1, rfl, fun x dx nx nd ned => ?_⟩
        exact make_ok h2 h3 hf hne hnm nx nd ned fun H' s' o' => k H' x s' o'
      | [], _, _, _, h2, _ =>
        cases ts with
        | nil => exact absurd rfl hne
        | cons _ _ => cases h2
      | [_], hd, _, _, _, _ => exact absurd rfl hd
      | [_, _], _, hd, _, _, _ => exact absurd rfl hd
      | a :: b :: c :: d :: r, _, _, _, h2, _ =>
        simp only [List.length_cons] at h2
        omega
/-! ### an offer's methods -/
def spDF (K : PySem.W.Frag) : Sp := fun vs H Q _ => ∃ (a : Addr) (ts : List Tr) (n : Nat), vs = [.ref a, .int (n : Nat)] ∧ OfAt K H a ts ∧ Fair ts ∧ Q (.int (D (cN ts) n : Nat)) H
theorem ok_Offer_drinks_for : FnR P w K mg base CX0 2 (a_Offer_drinks_for K) (spDF K) := by
  refine fnR0 (d := d_Offer_drinks_for) T.F_Offer_drinks_for sc_Offer_drinks_for rfl (fun _ _ _ _ _ _ us hl => match us, hl with | [_, _], _ => rfl) (fun vs H Q E h => ?_) (fun cdv A outer s H vs Q E hr h => ?_)
  · obtain ⟨a, ts, n, rfl, _⟩ := h
    rfl
  obtain ⟨a, ts, n, rfl, ho, hf, k⟩ := h
  obtain ⟨dx, t, p, o, f, g, e1, e2, e3, e4, e5, e6⟩ := ho.ex
  refine ⟨_, (pss_cons (ps_asg (pe_fld (pv 0) rfl) (pg_tup rfl (pgs_cons (pg_name (i := 2) sc_Offer_drinks_for.nd rfl (Or.inl rfl)) (pgs_cons (pg_name (i := 3) sc_Offer_drinks_for.nd rfl (Or.inl rfl)) pgs_nil)))) (pss_one (ps_ret (pe_cR (ok_value_at T) (hr.mono (by decide)) T.F_value_at.kp T.g_value_at pass0 (pa_cons (pe_fld (pv 0) rfl) (pa_cons (pv 1) (pa_cons (pv 2) (pa_cons (pv 3) pa_nil)))))))), ?_⟩
  refine ⟨_, rfl, a, _, dx, _, _, rfl, e1, T.k_Offer, T.na_period, lk_period, p, _, rfl, e3, rfl, _, _, rfl, _, _, rfl, rfl, ?_⟩
  refine ⟨_, rfl, a, _, dx, _, _, rfl, e1, T.k_Offer, T.na_firsts, lk_firsts, _, rfl, _, rfl, _, rfl, f, firstsL ts, n, perB ts, per ts, rfl, e5, by omega, ?_, ?_, ?_, ?_, ?_, ?_⟩
  all_goals have hp := per_le' hf.g
  all_goals have hb := (cf hf).bpos
  all_goals have hB := perB_le hf
  · omega
  · omega
  · omega
  · omega
  · have ht := (cf hf).T_per (d := per ts - 1) (by have := per_pos hf.g; omega)
    have h0 := (cf hf).T_nonneg (per ts - 1)
    have e : per ts - 1 + per ts = 2 * per ts - 1 := by have := per_pos hf.g; omega
    rw [e] at ht
    rw [List.length_map, List.length_range]
    omega
  · rw [value_firsts (cf hf)]
    exact k
def spCall (K : PySem.W.Frag) : Sp := fun vs H Q _ => ∃ (a : Addr) (ts : List Tr) (n : Nat), vs = [.ref a, .int (n : Nat)] ∧ OfAt K H a ts ∧ Fair ts ∧ n ≤ 1000000000000000000 ∧ Q (.int (D (cN ts) n : Nat)) H
theorem ok_Offer_call : FnR P w K mg base CX0 4 (a_Offer_call K) (spCall K) := by
  refine fnR0 (d := d_Offer_call) T.F_Offer_call sc_Offer_call rfl (fun _ _ _ _ _ _ us hl => match us, hl with | [_, _], _ => rfl) (fun vs H Q E h => ?_) (fun cdv A outer s H vs Q E hr h => ?_)
  · obtain ⟨a, ts, n, rfl, _⟩ := h
    rfl
  obtain ⟨a, ts, n, rfl, ho, hf, hn, k⟩ := h
  obtain ⟨dx, t, p, o, f, g, e1, e2, e3, e4, e5, e6⟩ := ho.ex
  refine ⟨_, (pss_cons (ps_expr (pe_cR (ok_check_number T) (hr.mono (by decide)) T.F_check_number.kp T.g_check_number pass0 (pa_cons (pv 1) pa_nil))) (pss_one (ps_ret (pe_methR (pv 0) T.k_Offer T.m_Offer_drinks_for (ok_Offer_drinks_for T) (hr.mono (by decide)) pass0 (pa_cons (pv 1) pa_nil))))), ?_⟩
  refine ⟨_, rfl, n, rfl, by omega, by omega, ?_⟩
  exact ⟨_, rfl, a, dx, _, rfl, e1, lk_no (by decide +kernel), _, rfl, a, ts, n, rfl, ho, hf, k⟩
end
end EB

namespace EB
open PySem PySem.Spec PyProof.Rows L2
/-! ### data of some depth -/
inductive Lev : Nat → PyData → Prop
  | non {n : Nat} : Lev n .none
  | bl {n : Nat} (b : Bool) : Lev n (.bool b)
  | int {n : Nat} (i : Int) : Lev n (.int i)
  | str {n : Nat} (z : Str) : Lev n (.str z)
  | lst {n : Nat} {ds : List PyData} (h : ∀ d ∈ ds, Lev n d) (hl : ds.length ≤ 10000) : Lev (n + 1) (.list ds)
  | tup {n : Nat} {ds : List PyData} (h : ∀ d ∈ ds, Lev n d) (hl : ds.length ≤ 10000) : Lev (n + 1) (.tuple ds)
mutual
theorem dp_mono {K : PySem.W.Frag} {H H' : Hp} (s : Same H H') : ∀ {v : V} {d : PyData}, Dp K H v d → Dp K H' v d
  | _, _, .non => .non
  | _, _, .bl b => .bl b
  | _, _, .int i => .int i
  | _, _, .str z => .str z
  | _, _, .lst h a => .lst (s.seq h) (dps_mono s a)
  | _, _, .tup h a => .tup (Same.tup s h) (dps_mono s a)
theorem dps_mono {K : PySem.W.Frag} {H H' : Hp} (s : Same H H') : ∀ {vs : List V} {ds : List PyData}, DpAll K H vs ds → DpAll K H' vs ds
  | _, _, .nil => .nil
  | _, _, .cons a b => .cons (dp_mono s a) (dps_mono s b)
end
theorem dps_len {K : PySem.W.Frag} {H : Hp} : ∀ {vs : List V} {ds : List PyData}, DpAll K H vs ds → vs.length = ds.length
  | _, _, .nil => rfl
  | _, _, .cons _ b => congrArg Nat.succ (dps_len b)
theorem dps_at {K : PySem.W.Frag} {H : Hp} : ∀ {vs : List V} {ds : List PyData} {i : Nat}, DpAll K H vs ds → i < ds.length → ∃ v d, vs[i]? = some v ∧ d ∈ ds ∧ Dp K H v d ∧ ds[i]? = some d
  | _, _, 0, .cons a b, _ => ⟨_, _, rfl, List.mem_cons_self .., a, rfl⟩
  | _, _, i + 1, .cons a b, h => by
    obtain ⟨v, d, e1, e2, e3, e4⟩ := dps_at (i := i) b (Nat.lt_of_succ_lt_succ h)
    exact ⟨v, d, e1, List.mem_cons_of_mem _ e2, e3, e4⟩
theorem dps_ints {K : PySem.W.Frag} {H : Hp} : ∀ (ns : List Int), DpAll K H (ns.map V.int) (ns.map PyData.int)
  | [] => .nil
  | n :: ns => .cons (.int n) (dps_ints ns)
theorem tyL {K : PySem.W.Frag} {H : Hp} {a : Addr} {xs : List V} (h : SqL K H a xs) : TyX K H (.ref a) (.type "list") := by
  rcases h with (h | ⟨o, h⟩) | ⟨o, its, n, h1, h2, _⟩
  · exact .base (.lst h)
  · exact .base (.frz h)
  · exact .kList h1 h2
theorem tyT {K : PySem.W.Frag} {H : Hp} {a : Addr} {xs : List V} (h : SqT K H a xs) : TyX K H (.ref a) (.type "tuple") := by
  rcases h with (h | ⟨o, h⟩) | ⟨o, its, n, h1, h2, _⟩
  · exact .base (.tup h)
  · exact .fTuple h
  · exact .kTuple h1 h2
theorem isTL {K : PySem.W.Frag} (q : Bool) : PySem.W.kitAny K (.type (if q then "list" else "tuple")) [.type "tuple", .type "list"] = some true := by
  cases q with
  | true => exact kitAny_cons (b := false) (kit_ty (by decide +kernel)) (fun _ => kitAny_cons (b := true) (kit_ty (by decide +kernel)) (fun z => nomatch z) (fun _ => rfl)) (fun z => nomatch z)
  | false => exact kitAny_cons (b := true) (kit_ty (by decide +kernel)) (fun z => nomatch z) (fun _ => rfl)
/-- a list (q) or a tuple -/
def SqQ (K : PySem.W.Frag) (H : Hp) (q : Bool) (a : Addr) (xs : List V) : Prop := if q = true then SqL K H a xs else SqT K H a xs
theorem SqQ.ty {K : PySem.W.Frag} {H : Hp} {q : Bool} {a : Addr} {xs : List V} (h : SqQ K H q a xs) : TyX K H (.ref a) (.type (if q then "list" else "tuple")) := by
  cases q with
  | true => exact tyL h
  | false => exact tyT h
theorem SqQ.or {K : PySem.W.Frag} {H : Hp} {q : Bool} {a : Addr} {xs : List V} (h : SqQ K H q a xs) : SqL K H a xs ∨ SqT K H a xs := by
  cases q with
  | true => exact .inl h
  | false => exact .inr h
theorem SqQ.mono {K : PySem.W.Frag} {H H' : Hp} {q : Bool} {a : Addr} {xs : List V} (s : Same H H') (h : SqQ K H q a xs) : SqQ K H' q a xs := by
  cases q with
  | true => exact s.seq h
  | false => exact Same.tup s h
theorem SqQ.ix {K : PySem.W.Frag} {H : Hp} {q : Bool} {a : Addr} {xs : List V} {i : Int} {v : V} {Q : VK} (h : SqQ K H q a xs) (e : atI xs i = some v) (k : Q v H) : rIx K (.ref a) (.int i) H Q := by
  cases q with
  | true => exact .inl ⟨a, xs, i, v, rfl, rfl, h, e, k⟩
  | false => exact .inr (.inl ⟨a, xs, i, v, rfl, rfl, h, e, k⟩)
theorem kitD (q : Bool) {K : PySem.W.Frag} : PySem.W.kitOne K (.type (if q then "list" else "tuple")) (.type "dict") = some false := by
  cases q with
  | true => exact kit_ty (by decide +kernel)
  | false => exact kit_ty (by decide +kernel)
theorem kitL (q : Bool) {K : PySem.W.Frag} : PySem.W.kitOne K (.type (if q then "list" else "tuple")) (.type "list") = some q := by
  cases q with
  | true => exact kit_ty (by decide +kernel)
  | false => exact kit_ty (by decide +kernel)
theorem shapedN : SeqAt.shaped (PyData.list []) = true := by decide +kernel
theorem alike_low {n : Nat} {d : PyData} (h : Lev n d) : Lev 0 d ∨ ∃ (q : Bool) (ds : List PyData) (m : Nat), n = m + 1 ∧ d = (if q then .list ds else .tuple ds) ∧ (∀ e ∈ ds, Lev m e) ∧ ds.length ≤ 10000 := by
  cases h with
  | non => exact .inl .non
  | bl b => exact .inl (.bl b)
  | int i => exact .inl (.int i)
  | str z => exact .inl (.str z)
  | lst h hl => exact .inr ⟨true, _, _, rfl, rfl, h, hl⟩
  | tup h hl => exact .inr ⟨false, _, _, rfl, rfl, h, hl⟩
theorem dp_seq {K : PySem.W.Frag} {H : Hp} {v : V} {q : Bool} {ds : List PyData} (h : Dp K H v (if q then .list ds else .tuple ds)) : ∃ a xs, v = .ref a ∧ SqQ K H q a xs ∧ DpAll K H xs ds := by
  cases q with
  | true =>
    cases h with
    | lst h a => exact ⟨_, _, rfl, h, a⟩
  | false =>
    cases h with
    | tup h a => exact ⟨_, _, rfl, h, a⟩
section
variable {P : Program} {w : World} {K : PySem.W.Frag} {mg : Str → Option Value} {base : Heap} (T : Tx K mg)
include T
def spAlike (K : PySem.W.Frag) (n : Nat) : Sp := fun vs H Q _ => ∃ (v u : V) (d : PyData), vs = [v, u] ∧ Dp K H v d ∧ Dp K H u d ∧ Lev n d ∧ ∀ H', Same H H' → Q (.bl true) H'
theorem ok_alike0 : FnR P w K mg base CX0 1 (a_law_alike K) (spAlike K 0) := by
  refine fnR0 (d := d_law_alike) T.F_law_alike sc_law_alike rfl (fun _ _ _ _ _ _ us hl => match us, hl with | [_, _], _ => rfl) (fun vs H Q E h => ?_) (fun cdv A outer s H vs Q E hr h => ?_)
  · obtain ⟨i, j, _, rfl, _⟩ := h
    rfl
  obtain ⟨v, u, d, rfl, hv, hu, hd, k⟩ := h
  refine ⟨_, pss_cons (ps_if (pt_val (pe_callB call_isi (by rfl) T.n_isinstance (by decide +kernel) (pa_cons (pv 1) (pa_cons (pe_bltn (v := .ty "dict") (u := .type "dict") rfl T.n_dict (by decide +kernel) rfl) pa_nil)))) pss_never pss_nil) (pss_cons (ps_if (pt_val (pe_callB call_isiT (by rfl) T.n_isinstance (by decide +kernel) (pa_cons (pv 1) (pa_cons (pe_tup (pa_cons (pe_bltn (v := .ty "tuple") (u := .type "tuple") rfl T.n_tuple (by decide +kernel) rfl) (pa_cons (pe_bltn (v := .ty "list") (u := .type "list") rfl T.n_list (by decide +kernel) rfl) pa_nil))) pa_nil)))) pss_never pss_nil) (pss_cons (ps_if (PW.pt (pw_or (pt_cmpR op_isN (pv 1) pe_non (nomark _)) (pw_or1 (pt_val (pe_callB call_isi (by rfl) T.n_isinstance (by decide +kernel) (pa_cons (pv 1) (pa_cons (pe_bltn (v := .ty "str") (u := .type "str") rfl T.n_str (by decide +kernel) rfl) pa_nil))))))) (pss_one (ps_ret (pe_and (pe_cmpR op_eq (pv 0) (pv 1) (nomark _)) (pe_one (pe_cmpR op_eq (pe_callB call_isi (by rfl) T.n_isinstance (by decide +kernel) (pa_cons (pv 0) (pa_cons (pe_bltn (v := .ty "str") (u := .type "str") rfl T.n_str (by decide +kernel) rfl) pa_nil))) (pe_callB call_isi (by rfl) T.n_isinstance (by decide +kernel) (pa_cons (pv 1) (pa_cons (pe_bltn (v := .ty "str") (u := .type "str") rfl T.n_str (by decide +kernel) rfl) pa_nil))) (nomark _)))))) pss_nil) (pss_one (ps_ret (pe_and (pe_callB call_isi (by rfl) T.n_isinstance (by decide +kernel) (pa_cons (pv 0) (pa_cons (pe_bltn (v := .ty "int") (u := .type "int") rfl T.n_int (by decide +kernel) rfl) pa_nil))) (pe_and (pe_cmpR op_eq (pe_callB call_isi (by rfl) T.n_isinstance (by decide +kernel) (pa_cons (pv 0) (pa_cons (pe_bltn (v := .ty "bool") (u := .type "bool") rfl T.n_bool (by decide +kernel) rfl) pa_nil))) (pe_callB call_isi (by rfl) T.n_isinstance (by decide +kernel) (pa_cons (pv 1) (pa_cons (pe_bltn (v := .ty "bool") (u := .type "bool") rfl T.n_bool (by decide +kernel) rfl) pa_nil))) (nomark _)) (pe_one (pe_cmpR op_eq (pv 0) (pv 1) (nomark _))))))))), ?_⟩
  cases hd with
  | non =>
    cases hv
    cases hu
    refine ⟨_, rfl, .non, .ty "dict", _, _, false, rfl, ClsV.ty "dict", .base .non, kit_ty (by decide +kernel), false, rfl, iteF ?_⟩
    refine ⟨_, rfl, by show 2 ≤ sizeLine; decide, fun tp htp => ⟨.non, tp, _, _, _, false, rfl, upd_same, .cons (ClsV.ty "tuple") (.cons (ClsV.ty "list") .nil), .base .non, kitAny_cons (b := false) (kit_ty (by decide +kernel)) (fun _ => kitAny_cons (b := false) (kit_ty (by decide +kernel)) (fun _ => kitAny_nil) (fun z => nomatch z)) (fun z => nomatch z), false, rfl, iteF ?_⟩⟩
    refine ⟨_, rfl, rfl, _, rfl, iteT (iteT ?_)⟩
    refine ⟨_, rfl, _, rfl, rfl, _, rfl, iteT ?_⟩
    exact ⟨_, rfl, .non, .ty "str", _, _, false, rfl, ClsV.ty "str", .base .non, kit_ty (by decide +kernel), _, rfl, .non, .ty "str", _, _, false, rfl, ClsV.ty "str", .base .non, kit_ty (by decide +kernel), rfl, k _ (same_new htp)⟩
  | str z =>
    cases hv
    cases hu
    refine ⟨_, rfl, .str z, .ty "dict", _, _, false, rfl, ClsV.ty "dict", .base (.str z), kit_ty (by decide +kernel), false, rfl, iteF ?_⟩
    refine ⟨_, rfl, by show 2 ≤ sizeLine; decide, fun tp htp => ⟨.str z, tp, _, _, _, false, rfl, upd_same, .cons (ClsV.ty "tuple") (.cons (ClsV.ty "list") .nil), .base (.str z), kitAny_cons (b := false) (kit_ty (by decide +kernel)) (fun _ => kitAny_cons (b := false) (kit_ty (by decide +kernel)) (fun _ => kitAny_nil) (fun z => nomatch z)) (fun z => nomatch z), false, rfl, iteF ?_⟩⟩
    refine ⟨_, rfl, rfl, _, rfl, iteF ?_⟩
    refine ⟨_, rfl, .str z, .ty "str", _, _, true, rfl, ClsV.ty "str", .base (.str z), kit_ty (by decide +kernel), true, rfl, iteT ?_⟩
    refine ⟨_, rfl, _, rfl, rfl, _, rfl, ?_⟩
    rw [decide_eq_true rfl]
    refine iteT ?_
    exact ⟨_, rfl, .str z, .ty "str", _, _, true, rfl, ClsV.ty "str", .base (.str z), kit_ty (by decide +kernel), _, rfl, .str z, .ty "str", _, _, true, rfl, ClsV.ty "str", .base (.str z), kit_ty (by decide +kernel), rfl, k _ (same_new htp)⟩
  | bl z =>
    cases hv
    cases hu
    refine ⟨_, rfl, .bl z, .ty "dict", _, _, false, rfl, ClsV.ty "dict", .base (.bl z), kit_ty (by decide +kernel), false, rfl, iteF ?_⟩
    refine ⟨_, rfl, by show 2 ≤ sizeLine; decide, fun tp htp => ⟨.bl z, tp, _, _, _, false, rfl, upd_same, .cons (ClsV.ty "tuple") (.cons (ClsV.ty "list") .nil), .base (.bl z), kitAny_cons (b := false) (kit_ty (by decide +kernel)) (fun _ => kitAny_cons (b := false) (kit_ty (by decide +kernel)) (fun _ => kitAny_nil) (fun z => nomatch z)) (fun z => nomatch z), false, rfl, iteF ?_⟩⟩
    refine ⟨_, rfl, rfl, _, rfl, iteF ?_⟩
    refine ⟨_, rfl, .bl z, .ty "str", _, _, false, rfl, ClsV.ty "str", .base (.bl z), kit_ty (by decide +kernel), false, rfl, iteF ?_⟩
    refine ⟨_, rfl, .bl z, .ty "int", _, _, true, rfl, ClsV.ty "int", .base (.bl z), kit_ty (by decide +kernel), true, rfl, iteT ?_⟩
    refine ⟨_, rfl, .bl z, .ty "bool", _, _, true, rfl, ClsV.ty "bool", .base (.bl z), kit_ty (by decide +kernel), _, rfl, .bl z, .ty "bool", _, _, true, rfl, ClsV.ty "bool", .base (.bl z), kit_ty (by decide +kernel), rfl, true, rfl, iteT ?_⟩
    refine ⟨_, rfl, _, rfl, rfl, ?_⟩
    rw [decide_eq_true rfl]
    exact k _ (same_new htp)
  | int z =>
    cases hv
    cases hu
    refine ⟨_, rfl, .int z, .ty "dict", _, _, false, rfl, ClsV.ty "dict", .base (.int z), kit_ty (by decide +kernel), false, rfl, iteF ?_⟩
    refine ⟨_, rfl, by show 2 ≤ sizeLine; decide, fun tp htp => ⟨.int z, tp, _, _, _, false, rfl, upd_same, .cons (ClsV.ty "tuple") (.cons (ClsV.ty "list") .nil), .base (.int z), kitAny_cons (b := false) (kit_ty (by decide +kernel)) (fun _ => kitAny_cons (b := false) (kit_ty (by decide +kernel)) (fun _ => kitAny_nil) (fun z => nomatch z)) (fun z => nomatch z), false, rfl, iteF ?_⟩⟩
    refine ⟨_, rfl, rfl, _, rfl, iteF ?_⟩
    refine ⟨_, rfl, .int z, .ty "str", _, _, false, rfl, ClsV.ty "str", .base (.int z), kit_ty (by decide +kernel), false, rfl, iteF ?_⟩
    refine ⟨_, rfl, .int z, .ty "int", _, _, true, rfl, ClsV.ty "int", .base (.int z), kit_ty (by decide +kernel), true, rfl, iteT ?_⟩
    refine ⟨_, rfl, .int z, .ty "bool", _, _, false, rfl, ClsV.ty "bool", .base (.int z), kit_ty (by decide +kernel), _, rfl, .int z, .ty "bool", _, _, false, rfl, ClsV.ty "bool", .base (.int z), kit_ty (by decide +kernel), rfl, true, rfl, iteT ?_⟩
    refine ⟨_, rfl, _, rfl, rfl, ?_⟩
    rw [decide_eq_true rfl]
    exact k _ (same_new htp)
theorem ok_alikeS (n : Nat) (IH : FnR P w K mg base CX0 (n + 1) (a_law_alike K) (spAlike K n)) : FnR P w K mg base CX0 (n + 2) (a_law_alike K) (spAlike K (n + 1)) := by
  have Z := ok_alike0 (P := P) (w := w) (base := base) T
  intro A outer s H us vs Q E hr e0 rv hsp
  obtain ⟨v, u, d, rfl, hv, hu, hd, k⟩ := hsp
  rcases alike_low hd with hd0 | ⟨q, ds, m, en, rfl, hds, hl⟩
  · exact Z A outer s H us _ Q E (hr.mono (by omega)) e0 rv ⟨v, u, d, rfl, hv, hu, hd0, k⟩
  cases en
  obtain ⟨a, xs, rfl, hsa, hda⟩ := dp_seq hv
  obtain ⟨b, ys, rfl, hsb, hdb⟩ := dp_seq hu
  refine (fnR0 (sp := fun vs H Q _ => ∃ (a b : Addr) (xs ys : List V), vs = [.ref a, .ref b] ∧ SqQ K H q a xs ∧ DpAll K H xs ds ∧ SqQ K H q b ys ∧ DpAll K H ys ds ∧ ∀ H', Same H H' → Q (.bl true) H') (d := d_law_alike) T.F_law_alike sc_law_alike rfl (fun _ _ _ _ _ _ us hl => match us, hl with | [_, _], _ => rfl) (fun vs H Q E h => ?_) (fun cdv A outer s H vs Q E hr h => ?_)) A outer s H us _ Q E hr e0 rv ⟨a, b, xs, ys, rfl, hsa, hda, hsb, hdb, k⟩
  · obtain ⟨_, _, _, _, rfl, _⟩ := h
    rfl
  obtain ⟨a, b, xs, ys, rfl, hsa, hda, hsb, hdb, k⟩ := h
  refine ⟨_, pss_cons (ps_if (pt_val (pe_callB call_isi (by rfl) T.n_isinstance (by decide +kernel) (pa_cons (pv 1) (pa_cons (pe_bltn (v := .ty "dict") (u := .type "dict") rfl T.n_dict (by decide +kernel) rfl) pa_nil)))) pss_never pss_nil) (pss_cons (ps_if (pt_val (pe_callB call_isiT (by rfl) T.n_isinstance (by decide +kernel) (pa_cons (pv 1) (pa_cons (pe_tup (pa_cons (pe_bltn (v := .ty "tuple") (u := .type "tuple") rfl T.n_tuple (by decide +kernel) rfl) (pa_cons (pe_bltn (v := .ty "list") (u := .type "list") rfl T.n_list (by decide +kernel) rfl) pa_nil))) pa_nil)))) (pss_cons (ps_if (PW.pt (pw_or (pt_not (pt_val (pe_callB call_isiT (by rfl) T.n_isinstance (by decide +kernel) (pa_cons (pv 0) (pa_cons (pe_tup (pa_cons (pe_bltn (v := .ty "tuple") (u := .type "tuple") rfl T.n_tuple (by decide +kernel) rfl) (pa_cons (pe_bltn (v := .ty "list") (u := .type "list") rfl T.n_list (by decide +kernel) rfl) pa_nil))) pa_nil))))) (pw_or1 (pt_cmpR op_ne (pe_callB call_isi (by rfl) T.n_isinstance (by decide +kernel) (pa_cons (pv 0) (pa_cons (pe_bltn (v := .ty "list") (u := .type "list") rfl T.n_list (by decide +kernel) rfl) pa_nil))) (pe_callB call_isi (by rfl) T.n_isinstance (by decide +kernel) (pa_cons (pv 1) (pa_cons (pe_bltn (v := .ty "list") (u := .type "list") rfl T.n_list (by decide +kernel) rfl) pa_nil))) (nomark _))))) (pss_one (ps_ret pe_bl)) pss_nil) (pss_cons (ps_if (pt_cmpR op_ne (pe_callB call_len_seq (by rfl) T.n_len PySem.boot_len (pa_cons (pv 0) pa_nil)) (pe_callB call_len_seq (by rfl) T.n_len PySem.boot_len (pa_cons (pv 1) pa_nil)) (nomark _)) (pss_one (ps_ret pe_bl)) pss_nil) (pss_one (ps_ret (pe_cmpR (op_eqD hr.units) (pe_lc (own := [("_law_k", 2)]) rfl sc_law_alike.nd (pi_range1 rfl T.n_range (pa_cons (pe_callB call_len_seq (by rfl) T.n_len PySem.boot_len (pa_cons (pv 1) pa_nil)) pa_nil)) (blkOk_by (own := [("_law_k", 2)]) (N := N_law_alike) (sc := defScope s_law_alike) (by decide +kernel)) (fun _ _ _ _ _ => (pg_name (i := 2) sc_law_alike.nd rfl (Or.inl rfl) (.inr rfl))) (fun _ _ _ _ _ => (pts_one (pt_not (pt_val (pe_cR IH hr T.F_law_alike.kp T.g_law_alike pass0 (pa_cons (pe_ix (ix_seqK (K := K) rfl) (pv 0) (pv 2) (fun _ _ => rfl)) (pa_cons (pe_ix (ix_seqK (K := K) rfl) (pv 1) (pv 2) (fun _ _ => rfl)) pa_nil))))))) (fun _ _ _ _ _ => (pv 2))) (pe_lst pa_nil) (nomark _)))))) pss_nil) pss_never), ?_⟩
  have la := dps_len hda
  have lb := dps_len hdb
  refine ⟨_, rfl, .ref b, .ty "dict", _, _, false, rfl, ClsV.ty "dict", hsb.ty, kitD q, false, rfl, iteF ?_⟩
  refine ⟨_, rfl, by show 2 ≤ sizeLine; decide, fun t1 h1 => ⟨.ref b, t1, _, _, _, true, rfl, upd_same, .cons (ClsV.ty "tuple") (.cons (ClsV.ty "list") .nil), (hsb.mono (same_new h1)).ty, isTL q, true, rfl, iteT ?_⟩⟩
  have s1 : Same H (upd H t1 (.tup [.ty "tuple", .ty "list"])) := same_new h1
  generalize upd H t1 (.tup [.ty "tuple", .ty "list"]) = H1 at s1
  refine ⟨_, rfl, by show 2 ≤ sizeLine; decide, fun t2 h2 => ⟨.ref a, t2, _, _, _, true, rfl, upd_same, .cons (ClsV.ty "tuple") (.cons (ClsV.ty "list") .nil), (hsa.mono (s1.trans (same_new h2))).ty, isTL q, true, rfl, iteF ?_⟩⟩
  have s2 : Same H (upd H1 t2 (.tup [.ty "tuple", .ty "list"])) := s1.trans (same_new h2)
  generalize upd H1 t2 (.tup [.ty "tuple", .ty "list"]) = H2 at s2
  refine ⟨_, rfl, .ref a, .ty "list", _, _, q, rfl, ClsV.ty "list", (hsa.mono s2).ty, kitL q, _, rfl, .ref b, .ty "list", _, _, q, rfl, ClsV.ty "list", (hsb.mono s2).ty, kitL q, rfl, _, rfl, ?_⟩
  rw [decide_eq_true rfl]
  refine iteF ?_
  refine ⟨_, rfl, a, _, rfl, (hsa.mono s2).or, _, rfl, b, _, rfl, (hsb.mono s2).or, rfl, _, rfl, ?_⟩
  rw [la, lb, decide_eq_true rfl]
  refine iteF ?_
  -- the items
  refine ⟨_, rfl, b, _, rfl, (hsb.mono s2).or, _, rfl, ?_, ?_, fun D hD => ?_⟩
  · have h62 : (10000 : Int) < 2 ^ 62 := by decide
    rw [lb]
    omega
  · have h62 : (10000 : Int) < 2 ^ 62 := by decide
    rw [lb]
    omega
  refine lc_range (lo := 0) (n := ((ys.length : Nat) : Int).toNat) (fun i H3 => Same H2 H3 ∧ H3 D = some (.lst [])) ⟨same_new hD, upd_same⟩ ?_ ?_
  · rintro i H3 hi ⟨s3, e3⟩
    have hi2 : i < ds.length := by omega
    obtain ⟨v1, d1, ev, _, dv, ed⟩ := dps_at hda hi2
    obtain ⟨v2, d2, eu, hm, du, ed2⟩ := dps_at hdb hi2
    rw [ed] at ed2
    cases ed2
    have s23 := s2.trans s3
    refine ⟨rfl, _, rfl, _, rfl, (hsa.mono s23).ix (at_of (Int.zero_add _) ev) ?_⟩
    refine ⟨_, rfl, _, rfl, (hsb.mono s23).ix (at_of (Int.zero_add _) eu) ?_⟩
    exact ⟨v1, v2, d1, rfl, dp_mono s23 dv, dp_mono s23 du, hds _ hm, fun H4 s4 => ⟨true, rfl, iteF ⟨s3.trans s4, s4 _ _ e3⟩⟩⟩
  rintro H3 ⟨s3, e3⟩
  refine ⟨Nat.zero_le _, fun E2 hE2 => ?_⟩
  exact ⟨.list [], .list [], Dp.lst (SqL.of (upd_old e3 hE2)) .nil, Dp.lst (SqL.of upd_same) .nil, shapedN, shapedN, k _ (s2.trans (s3.trans (same_new hE2)))⟩
theorem ok_law_alike : FnR P w K mg base CX0 5 (a_law_alike K) (spAlike K 4) := ok_alikeS T 3 (ok_alikeS T 2 (ok_alikeS T 1 (ok_alikeS T 0 (ok_alike0 T))))
end
end EB

namespace EB
theorem fl_sub1 {l n x y : Int} (hn : 0 < n) : l * (x + y) / n ≤ l * x / n + l * y / n + 1 := by
  rw [Int.mul_add]
  have h1 := Int.mul_ediv_add_emod (l * x) n
  have h2 := Int.mul_ediv_add_emod (l * y) n
  have h3 := Int.mul_ediv_add_emod (l * x + l * y) n
  have b1 := Int.emod_lt_of_pos (l * x) hn
  have b2 := Int.emod_lt_of_pos (l * y) hn
  have b3 := Int.emod_nonneg (l * x + l * y) (show n ≠ 0 by omega)
  generalize l * x / n = p at *
  generalize l * y / n = q at *
  generalize (l * x + l * y) / n = r at *
  generalize l * x % n = u at *
  generalize l * y % n = v at *
  generalize (l * x + l * y) % n = z at *
  have : n * r < n * (p + q + 2) := by
    rw [Int.mul_add, Int.mul_add]
    omega
  have := Int.lt_of_mul_lt_mul_left this (by omega)
  omega
theorem buys_sub : ∀ {ts : List Tr} (h : ∀ t ∈ ts, t.ok) (x y : Int), buys ts (x + y) ≤ buys ts x + buys ts y + ts.length
  | [], _, _, _ => by
    show (0 : Int) ≤ 0 + 0 + ((0 : Nat) : Int)
    omega
  | t :: ts, h, x, y => by
    have h1 := buys_sub (ts := ts) (fun t m => h t (List.mem_cons_of_mem _ m)) x y
    have h2 := fl_sub1 (l := t.l) (x := x) (y := y) (tr_pos (h t (List.mem_cons_self ..)))
    show t.l * (x + y) / t.n + buys ts (x + y) ≤ (t.l * x / t.n + buys ts x) + (t.l * y / t.n + buys ts y) + ((ts.length + 1 : Nat) : Int)
    push_cast
    omega
theorem T_three {ts : List Tr} (f : Fair ts) : T (cN ts) (per ts - 1) ≤ perB ts + 2 := by
  have C := cf f
  obtain ⟨j, hj, e⟩ := CF.T_at (cN ts) (per ts - 1)
  have hp := per_pos f.g
  rw [e]
  obtain ⟨k, hk⟩ : ∃ k, per ts = j + k := ⟨per ts - j, by omega⟩
  have h1 := buys_sub f.g.2 (j : Int) (k : Int)
  have h2 := C.ten k
  have h3 : cN ts (per ts) = perB ts := by
    have := C.per 0
    rw [Nat.zero_add, C.zero] at this
    omega
  have h4 := f.g.1
  rw [hk] at h3
  have h5 : ((j + k : Nat) : Int) - buys ts ((j + k : Nat) : Int) = perB ts := h3
  have h6 : (k : Int) ≤ 10 * ((k : Int) - buys ts k) := h2
  show (j : Int) - buys ts j ≤ _
  push_cast at h5
  omega
end EB

namespace EB
open PySem PySem.Spec PyProof.Rows L2
/-- what is left of each kind -/
def leftK (ts : List Tr) (d : Nat) : List (Key × V) := ts.foldl (fun kvs t => putK kvs (.inr t.k) (.int (t.l * (d : Nat) % t.n))) []
def KNice (kvs : List (Key × V)) : Prop := (kvs.map (·.1)).Nodup ∧ (∀ p ∈ kvs, ∃ i : Int, p.2 = .int i) ∧ ∀ p ∈ kvs, ∃ z : Str, p.1 = .inr z
theorem KNice.put {kvs : List (Key × V)} (h : KNice kvs) (z : Str) (i : Int) : KNice (putK kvs (.inr z) (.int i)) ∧ (putK kvs (.inr z) (.int i)).length ≤ kvs.length + 1 := by
  obtain ⟨h1, h2, h3⟩ := h
  unfold putK
  by_cases e : (kvs.any fun kv => decide (kv.1 = .inr z)) = true
  · rw [if_pos e]
    refine ⟨⟨?_, ?_, ?_⟩, by rw [List.length_map]; omega⟩
    · rw [List.map_map, show ((fun x : Key × V => x.1) ∘ fun kv => if kv.1 = .inr z then (kv.1, V.int i) else kv) = (fun kv => kv.1) from funext fun kv => by
        show (if kv.1 = .inr z then (kv.1, V.int i) else kv).1 = kv.1
        by_cases q : kv.1 = .inr z
        · rw [if_pos q]
        · rw [if_neg q]]
      exact h1
    · intro p hp
      obtain ⟨kv, m, rfl⟩ := List.mem_map.mp hp
      by_cases q : kv.1 = .inr z
      · rw [if_pos q]
        exact ⟨_, rfl⟩
      · rw [if_neg q]
        exact h2 _ m
    · intro p hp
      obtain ⟨kv, m, rfl⟩ := List.mem_map.mp hp
      by_cases q : kv.1 = .inr z
      · rw [if_pos q]
        exact ⟨z, q⟩
      · rw [if_neg q]
        exact h3 _ m
  · rw [if_neg e]
    refine ⟨⟨?_, ?_, ?_⟩, by rw [List.length_append]; exact Nat.le_refl _⟩
    · rw [List.map_append, List.nodup_append]
      refine ⟨h1, List.nodup_cons.mpr ⟨List.not_mem_nil, List.nodup_nil⟩, fun a ha b hb => ?_⟩
      cases List.mem_singleton.mp hb
      intro y
      subst y
      obtain ⟨p, m, e2⟩ := List.mem_map.mp ha
      exact e (List.any_eq_true.mpr ⟨p, m, decide_eq_true e2⟩)
    · intro p hp
      rcases List.mem_append.mp hp with m | m
      · exact h2 _ m
      · cases List.mem_singleton.mp m
        exact ⟨_, rfl⟩
    · intro p hp
      rcases List.mem_append.mp hp with m | m
      · exact h3 _ m
      · cases List.mem_singleton.mp m
        exact ⟨_, rfl⟩
theorem left_nice : ∀ (ts : List Tr) (d : Nat) (kvs : List (Key × V)), KNice kvs → KNice (ts.foldl (fun kvs t => putK kvs (.inr t.k) (.int (t.l * (d : Nat) % t.n))) kvs) ∧ (ts.foldl (fun kvs t => putK kvs (.inr t.k) (.int (t.l * (d : Nat) % t.n))) kvs).length ≤ kvs.length + ts.length
  | [], d, kvs, h => ⟨h, Nat.le_refl _⟩
  | t :: ts, d, kvs, h => by
    have h1 := h.put t.k (t.l * (d : Nat) % t.n)
    have h2 := left_nice ts d _ h1.1
    refine ⟨h2.1, Nat.le_trans h2.2 ?_⟩
    rw [List.length_cons]
    omega
theorem leftK_nice (ts : List Tr) (d : Nat) : KNice (leftK ts d) ∧ (leftK ts d).length ≤ ts.length := by
  have h := left_nice ts d [] ⟨List.nodup_nil, fun p h => (by cases h), fun p h => (by cases h)⟩
  rw [show ([] : List (Key × V)).length + ts.length = ts.length from Nat.zero_add _] at h
  exact h
theorem KNice.val {kvs : List (Key × V)} (h : KNice kvs) : ∀ p ∈ kvs, valV kvs p.1 = some p.2 ∧ flatB p.2 = true := by
  obtain ⟨h1, h2, h3⟩ := h
  intro p hp
  refine ⟨?_, ?_⟩
  · clear h2 h3
    induction kvs with
    | nil => cases hp
    | cons q r ih =>
      rw [List.map_cons, List.nodup_cons] at h1
      rcases List.mem_cons.mp hp with rfl | m
      · exact valV_pos rfl
      · rw [valV_neg (fun e => h1.1 (e ▸ List.mem_map_of_mem m)), ih h1.2 m]
  · obtain ⟨i, e⟩ := h2 p hp
    rw [e]
    rfl
section
variable {P : Program} {w : World} {K : PySem.W.Frag} {mg : Str → Option Value} {base : Heap} (T : Tx K mg)
include T
def spLeft (K : PySem.W.Frag) : Sp := fun vs H Q _ => ∃ (a : Addr) (ts : List Tr) (n : Nat), vs = [.ref a, .int (n : Nat)] ∧ OfAt K H a ts ∧ Fair ts ∧ n ≤ 1000000000000000000 ∧ ∀ H' p, Same H H' → H' p = some (.dK (leftK ts (D (cN ts) n))) → Q (.ref p) H'
theorem ok_Offer_left_over : FnR P w K mg base CX0 4 (a_Offer_left_over K) (spLeft K) := by
  refine fnR0 (d := d_Offer_left_over) T.F_Offer_left_over sc_Offer_left_over rfl (fun _ _ _ _ _ _ us hl => match us, hl with | [_, _], _ => rfl) (fun vs H Q E h => ?_) (fun cdv A outer s H vs Q E hr h => ?_)
  · obtain ⟨a, ts, n, rfl, _⟩ := h
    rfl
  obtain ⟨a, ts, n, rfl, ho, hf, hn, k⟩ := h
  obtain ⟨dx, t, p, o, f, g, e1, e2, e3, e4, e5, e6⟩ := ho.ex
  refine ⟨_, (pss_cons (ps_expr (pe_cR (ok_check_number T) (hr.mono (by decide)) T.F_check_number.kp T.g_check_number pass0 (pa_cons (pv 1) pa_nil))) (pss_cons (ps_set (i := 2) sc_Offer_left_over.nd rfl (Or.inr rfl) (pe_methR (pv 0) T.k_Offer T.m_Offer_drinks_for (ok_Offer_drinks_for T) (hr.mono (by decide)) pass0 (pa_cons (pv 1) pa_nil))) (pss_one (ps_ret (pe_dc (own := [("kind", 3), ("left", 4), ("needed", 5)]) rfl sc_Offer_left_over.nd (pi_tup (pe_fld (pv 0) rfl)) (blkOk_by (own := [("kind", 3), ("left", 4), ("needed", 5)]) (N := N_Offer_left_over) (sc := defScope s_Offer_left_over) (by decide +kernel)) (fun _ _ _ _ _ => (pg_tupB (n := 3) (pgs_cons (pg_name (i := 3) sc_Offer_left_over.nd rfl (Or.inl rfl) (.inr rfl)) (pgs_cons (pg_name (i := 4) sc_Offer_left_over.nd rfl (Or.inl rfl) (.inr rfl)) (pgs_cons (pg_name (i := 5) sc_Offer_left_over.nd rfl (Or.inl rfl) (.inr rfl)) pgs_nil))))) (fun _ _ _ _ _ => pts_nil) (fun _ _ _ _ _ => (pv 3)) (fun _ _ _ _ _ => (pe_op op_mod (pe_op op_mul (pv 4) (pv 2)) (pv 5)))))))), ?_⟩
  refine ⟨_, rfl, n, rfl, by omega, by omega, ?_⟩
  refine ⟨_, rfl, a, dx, _, rfl, e1, lk_no (by decide +kernel), _, rfl, a, ts, n, rfl, ho, hf, ?_⟩
  obtain ⟨ps, h1, h2, h3⟩ := e2.ex
  have hlen := hf.g.1
  refine ⟨_, rfl, a, _, dx, _, _, rfl, e1, T.k_Offer, T.na_trades, lk_trades, t, rfl, ⟨_, h1⟩, fun W hW => ?_⟩
  refine dc_tup (xs := ps.map V.ref) (fun i H1 => Same H H1 ∧ H1 W = some (.dK (leftK (ts.take i) (D (cN ts) n)))) ⟨same_new hW, upd_same⟩ (fun i H1 _ q => Same.tup q.1 h1) ?_ ?_
  · rintro i x H1 hx ⟨s1, w1⟩
    obtain ⟨p, t, rfl, ep, et, hm, li, hp⟩ := TrAt.at_ h2 h3 hx
    have ht := hf.g.2 _ hm
    refine ⟨p, _, rfl, Same.tup s1 hp, rfl, _, _, rfl, _, _, rfl, _, _, rfl, rfl, rfl, ?_⟩
    have hl := (leftK_nice (ts.take i) (D (cN ts) n)).2
    rw [List.length_take] at hl
    refine ⟨_, rfl, _, rfl, _, rfl, _, _, rfl, rfl, .inl ⟨by have := ht.1; omega, by have := ht.2.1; omega⟩, _, rfl, _, _, rfl, rfl, (show 0 < t.n from by have := ht.2.2.1; omega), ?_⟩
    refine ⟨_, .inr t.k, rfl, w1, small3 (by omega), same_mut s1 hW, ?_⟩
    rw [upd_same, take_at et]
    unfold leftK
    rw [List.foldl_append]
    rfl
  · rintro H1 ⟨s1, w1⟩
    refine k _ _ s1 ?_
    rw [w1, List.length_map, h2, List.take_length]
end
end EB

namespace EB
open PySem PySem.Spec PyProof.Rows L2
def dictK (f : Tr → Int) (ts : List Tr) : List (Key × V) := ts.foldl (fun kvs t => putK kvs (.inr t.k) (.int (f t))) []
def madeK (ts : List Tr) (d : Nat) : List (Key × V) := ts.foldl (fun kvs t => putK kvs (.inr t.k) (.int (t.l * (d : Nat) / t.n))) []
theorem putK_new {kvs : List (Key × V)} {k : Key} {v : V} (h : k ∉ kvs.map (·.1)) : putK kvs k v = kvs ++ [(k, v)] := by
  unfold putK
  rw [if_neg]
  intro z
  obtain ⟨p, hp, e⟩ := List.any_eq_true.mp z
  exact h (List.mem_map.mpr ⟨p, hp, of_decide_eq_true e⟩)
theorem dict_fold (f : Tr → Int) : ∀ (ts : List Tr) (kvs : List (Key × V)), (ts.map Tr.k).Nodup → (∀ t ∈ ts, Sum.inr t.k ∉ kvs.map (·.1)) → ts.foldl (fun kvs t => putK kvs (.inr t.k) (.int (f t))) kvs = kvs ++ ts.map fun t => (Sum.inr t.k, V.int (f t))
  | [], kvs, _, _ => (List.append_nil _).symm
  | t :: ts, kvs, h, hk => by
    rw [List.map_cons, List.nodup_cons] at h
    rw [List.foldl_cons, putK_new (hk t (List.mem_cons_self ..)), dict_fold f ts _ h.2, List.append_assoc]
    · rfl
    · intro u hu z
      rw [List.map_append] at z
      rcases List.mem_append.mp z with z | z
      · exact hk u (List.mem_cons_of_mem _ hu) z
      · have e : (Sum.inr u.k : Key) = Sum.inr t.k := List.mem_singleton.mp z
        exact h.1 (List.mem_map.mpr ⟨u, hu, Sum.inr.inj e⟩)
theorem dict_eq {f : Tr → Int} {ts : List Tr} (h : (ts.map Tr.k).Nodup) : dictK f ts = ts.map fun t => (Sum.inr t.k, V.int (f t)) := by
  unfold dictK
  rw [dict_fold f ts [] h fun t _ z => (nomatch z), List.nil_append]
/-- pairs of kinds and numbers, as data -/
def prD (f : Tr → Int) (ts : List Tr) : PyData := .list (ts.map fun t => .tuple [.str t.k, .int (f t)])
theorem prD_lev {f : Tr → Int} {ts : List Tr} {n : Nat} (h : ts.length ≤ 10000) : Lev (n + 2) (prD f ts) := .lst (fun d hd => by
  obtain ⟨t, _, rfl⟩ := List.mem_map.mp hd
  refine .tup (fun e he => ?_) (by show 2 ≤ 10000; decide)
  rcases List.mem_cons.mp he with rfl | he
  · exact .str _
  · cases List.mem_singleton.mp he
    exact .int _) (by rw [List.length_map]; exact h)
theorem dp_items {K : PySem.W.Frag} {H : Hp} {f : Tr → Int} : ∀ {as : List Addr} {ts : List Tr}, Paired (fun (t : Addr) (q : Key × V) => H t = some (.tup [kV q.1, q.2])) as (ts.map fun t => ((Sum.inr t.k : Key), V.int (f t))) →
    DpAll K H (as.map V.ref) (ts.map fun t => .tuple [.str t.k, .int (f t)])
  | [], [], _ => .nil
  | [], _ :: _, h => nomatch h
  | _ :: _, [], h => nomatch h
  | a :: as, t :: ts, .cons h r => .cons (.tup (SqT.of h) (.cons (.str _) (.cons (.int _) .nil))) (dp_items r)
theorem dp_zip {K : PySem.W.Frag} {H : Hp} {f : Tr → Int} : ∀ {as : List Addr} {ts : List Tr}, as.length = ts.length → (∀ (j : Nat) (a : Addr) (t : Tr), as[j]? = some a → ts[j]? = some t → H a = some (.tup [.str t.k, .int (f t)])) →
    DpAll K H (as.map V.ref) (ts.map fun t => .tuple [.str t.k, .int (f t)])
  | [], [], _, _ => .nil
  | [], _ :: _, h, _ => nomatch h
  | _ :: _, [], h, _ => nomatch h
  | a :: as, t :: ts, h, k => .cons (.tup (SqT.of (k 0 a t rfl rfl)) (.cons (.str _) (.cons (.int _) .nil))) (dp_zip (Nat.succ.inj h) fun j b u e1 e2 => k (j + 1) b u e1 e2)
theorem made_nice : ∀ (ts : List Tr) (d : Nat) (kvs : List (Key × V)), KNice kvs → KNice (ts.foldl (fun kvs t => putK kvs (.inr t.k) (.int (t.l * (d : Nat) / t.n))) kvs) ∧ (ts.foldl (fun kvs t => putK kvs (.inr t.k) (.int (t.l * (d : Nat) / t.n))) kvs).length ≤ kvs.length + ts.length
  | [], d, kvs, h => ⟨h, Nat.le_refl _⟩
  | t :: ts, d, kvs, h => by
    have h1 := h.put t.k (t.l * (d : Nat) / t.n)
    have h2 := made_nice ts d _ h1.1
    refine ⟨h2.1, Nat.le_trans h2.2 ?_⟩
    rw [List.length_cons]
    omega
theorem madeK_nice (ts : List Tr) (d : Nat) : KNice (madeK ts d) ∧ (madeK ts d).length ≤ ts.length := by
  have h := made_nice ts d [] ⟨List.nodup_nil, fun p h => (by cases h), fun p h => (by cases h)⟩
  rw [show ([] : List (Key × V)).length + ts.length = ts.length from Nat.zero_add _] at h
  exact h
section
variable {P : Program} {w : World} {K : PySem.W.Frag} {mg : Str → Option Value} {base : Heap} (T : Tx K mg)
include T
def spMade (K : PySem.W.Frag) : Sp := fun vs H Q _ => ∃ (a : Addr) (ts : List Tr) (n : Nat), vs = [.ref a, .int (n : Nat)] ∧ OfAt K H a ts ∧ Fair ts ∧ n ≤ 1000000000000000000 ∧ ∀ H' p, Same H H' → H' p = some (.dK (madeK ts (D (cN ts) n))) → Q (.ref p) H'
theorem ok_Offer_trades_made : FnR P w K mg base CX0 4 (a_Offer_trades_made K) (spMade K) := by
  refine fnR0 (d := d_Offer_trades_made) T.F_Offer_trades_made sc_Offer_trades_made rfl (fun _ _ _ _ _ _ us hl => match us, hl with | [_, _], _ => rfl) (fun vs H Q E h => ?_) (fun cdv A outer s H vs Q E hr h => ?_)
  · obtain ⟨a, ts, n, rfl, _⟩ := h
    rfl
  obtain ⟨a, ts, n, rfl, ho, hf, hn, k⟩ := h
  obtain ⟨dx, t, p, o, f, g, e1, e2, e3, e4, e5, e6⟩ := ho.ex
  refine ⟨_, (pss_cons (ps_expr (pe_cR (ok_check_number T) (hr.mono (by decide)) T.F_check_number.kp T.g_check_number pass0 (pa_cons (pv 1) pa_nil))) (pss_cons (ps_set (i := 2) sc_Offer_trades_made.nd rfl (Or.inr rfl) (pe_methR (pv 0) T.k_Offer T.m_Offer_drinks_for (ok_Offer_drinks_for T) (hr.mono (by decide)) pass0 (pa_cons (pv 1) pa_nil))) (pss_one (ps_ret (pe_dc (own := [("kind", 3), ("left", 4), ("needed", 5)]) rfl sc_Offer_trades_made.nd (pi_tup (pe_fld (pv 0) rfl)) (blkOk_by (own := [("kind", 3), ("left", 4), ("needed", 5)]) (N := N_Offer_trades_made) (sc := defScope s_Offer_trades_made) (by decide +kernel)) (fun _ _ _ _ _ => (pg_tupB (n := 3) (pgs_cons (pg_name (i := 3) sc_Offer_trades_made.nd rfl (Or.inl rfl) (.inr rfl)) (pgs_cons (pg_name (i := 4) sc_Offer_trades_made.nd rfl (Or.inl rfl) (.inr rfl)) (pgs_cons (pg_name (i := 5) sc_Offer_trades_made.nd rfl (Or.inl rfl) (.inr rfl)) pgs_nil))))) (fun _ _ _ _ _ => pts_nil) (fun _ _ _ _ _ => (pv 3)) (fun _ _ _ _ _ => (pe_op op_fdiv (pe_op op_mul (pv 4) (pv 2)) (pv 5)))))))), ?_⟩
  refine ⟨_, rfl, n, rfl, by omega, by omega, ?_⟩
  refine ⟨_, rfl, a, dx, _, rfl, e1, lk_no (by decide +kernel), _, rfl, a, ts, n, rfl, ho, hf, ?_⟩
  obtain ⟨ps, h1, h2, h3⟩ := e2.ex
  have hlen := hf.g.1
  refine ⟨_, rfl, a, _, dx, _, _, rfl, e1, T.k_Offer, T.na_trades, lk_trades, t, rfl, ⟨_, h1⟩, fun W hW => ?_⟩
  refine dc_tup (xs := ps.map V.ref) (fun i H1 => Same H H1 ∧ H1 W = some (.dK (madeK (ts.take i) (D (cN ts) n)))) ⟨same_new hW, upd_same⟩ (fun i H1 _ q => Same.tup q.1 h1) ?_ ?_
  · rintro i x H1 hx ⟨s1, w1⟩
    obtain ⟨p, t, rfl, ep, et, hm, li, hp⟩ := TrAt.at_ h2 h3 hx
    have ht := hf.g.2 _ hm
    refine ⟨p, _, rfl, Same.tup s1 hp, rfl, _, _, rfl, _, _, rfl, _, _, rfl, rfl, rfl, ?_⟩
    have hl := (madeK_nice (ts.take i) (D (cN ts) n)).2
    rw [List.length_take] at hl
    refine ⟨_, rfl, _, rfl, _, rfl, _, _, rfl, rfl, .inl ⟨by have := ht.1; omega, by have := ht.2.1; omega⟩, _, rfl, _, _, rfl, rfl, ⟨by have := ht.2.2.1; omega, by have := ht.2.2.2; omega⟩, ?_⟩
    refine ⟨_, .inr t.k, rfl, w1, small3 (by omega), same_mut s1 hW, ?_⟩
    rw [upd_same, take_at et]
    unfold madeK
    rw [List.foldl_append]
    rfl
  · rintro H1 ⟨s1, w1⟩
    refine k _ _ s1 ?_
    rw [w1, List.length_map, h2, List.take_length]
end
end EB

namespace EB
open PySem PySem.Spec PyProof.Rows L2
/-- the pieces of each kind that so many drinks leave untraded; the trades that they make -/
def pcF (d : Nat) (t : Tr) : Int := t.l * (d : Nat) % t.n
def mdF (d : Nat) (t : Tr) : Int := t.l * (d : Nat) / t.n
/-- a list on the way from f to g -/
def mixL (f g : Tr → Int) (i : Nat) (ts : List Tr) : List V := ((ts.take i).map fun t => V.int (g t)) ++ (ts.drop i).map fun t => V.int (f t)
theorem mix_zero (f g : Tr → Int) (ts : List Tr) : mixL f g 0 ts = ts.map fun t => V.int (f t) := by
  unfold mixL
  rw [List.take_zero, List.drop_zero]
  rfl
theorem mix_all (f g : Tr → Int) (ts : List Tr) : mixL f g ts.length ts = ts.map fun t => V.int (g t) := by
  unfold mixL
  rw [List.take_length, List.drop_length]
  exact List.append_nil _
theorem mix_len (f g : Tr → Int) (i : Nat) (ts : List Tr) : (mixL f g i ts).length = ts.length := by
  unfold mixL
  rw [List.length_append, List.length_map, List.length_map, List.length_take, List.length_drop]
  omega
theorem mix_at {f g : Tr → Int} {i : Nat} {ts : List Tr} {t : Tr} (h : ts[i]? = some t) : (mixL f g i ts)[i]? = some (.int (f t)) := by
  have hi := lt_of_at h
  unfold mixL
  rw [List.getElem?_append_right (by rw [List.length_map, List.length_take]; omega), List.length_map, List.length_take, Nat.min_eq_left (Nat.le_of_lt hi), Nat.sub_self, List.getElem?_map, List.getElem?_drop, Nat.add_zero, h]
  rfl
theorem mix_set {f g : Tr → Int} {i : Nat} {ts : List Tr} {t : Tr} (h : ts[i]? = some t) : (mixL f g i ts).set i (.int (g t)) = mixL f g (i + 1) ts := by
  have hi := lt_of_at h
  unfold mixL
  have e : ts.drop i = t :: ts.drop (i + 1) := by
    rw [List.drop_eq_getElem_cons hi]
    have : ts[i] = t := by
      rw [List.getElem?_eq_getElem hi] at h
      exact Option.some.inj h
    rw [this]
  rw [e, List.set_append_right _ _ (by rw [List.length_map, List.length_take]; omega), List.length_map, List.length_take, Nat.min_eq_left (Nat.le_of_lt hi), Nat.sub_self, take_at h, List.map_append, List.append_assoc]
  rfl
theorem ixN_nat {n i : Nat} (h : i < n) : ixN n (0 + (i : Int)) = some i := by
  rw [Int.zero_add, ixN_int (by omega) (by omega)]
  rfl
theorem pcF_zero (t : Tr) : pcF 0 t = 0 := by
  unfold pcF
  rw [show ((0 : Nat) : Int) = 0 from rfl, Int.mul_zero, Int.zero_emod]
theorem mdF_zero (t : Tr) : mdF 0 t = 0 := by
  unfold mdF
  rw [show ((0 : Nat) : Int) = 0 from rfl, Int.mul_zero, Int.zero_ediv]
theorem zeros {ts : List Tr} {n : Nat} (h : n = ts.length) {f : Tr → Int} (h0 : ∀ t, f t = 0) : (List.replicate ((n : Nat) : Int).toNat [V.int 0]).flatten = ts.map fun t => V.int (f t) := by
  rw [Int.toNat_natCast, h]
  clear h n
  induction ts with
  | nil => rfl
  | cons t ts ih =>
    rw [List.length_cons, List.replicate_succ, List.flatten_cons, ih, List.map_cons, h0]
    rfl
theorem step_md {l n a k : Int} (hn : 0 < n) : a / n + (a % n + l * k) / n = (a + l * k) / n := by
  have e : a + l * k = (a % n + l * k) + n * (a / n) := by
    have := Int.emod_add_mul_ediv a n
    omega
  rw [e, Int.add_mul_ediv_left _ _ (by omega)]
  omega
theorem step_pc {l n a k : Int} (hn : 0 < n) : (a % n + l * k) - (a % n + l * k) / n * n = (a + l * k) % n := by
  have e : a + l * k = (a % n + l * k) + n * (a / n) := by
    have := Int.emod_add_mul_ediv a n
    omega
  rw [e, Int.add_mul_emod_self_left]
  generalize a % n + l * k = x
  have h1 := Int.emod_add_mul_ediv x n
  have h2 : x / n * n = n * (x / n) := Int.mul_comm _ _
  omega
theorem pc_step {t : Tr} (ht : t.ok) (d k : Nat) : (pcF d t + t.l * (k : Nat)) - (pcF d t + t.l * (k : Nat)) / t.n * t.n = pcF (d + k) t := by
  unfold pcF
  rw [step_pc (by have := ht.2.2.1; omega)]
  push_cast
  rw [Int.mul_add]
theorem md_step {t : Tr} (ht : t.ok) (d k : Nat) : mdF d t + (pcF d t + t.l * (k : Nat)) / t.n = mdF (d + k) t := by
  unfold mdF pcF
  rw [step_md (by have := ht.2.2.1; omega)]
  push_cast
  rw [Int.mul_add]
theorem buys_md (ts : List Tr) (d : Nat) : (ts.map (mdF d)).sum = buys ts d := rfl
theorem dps_snoc {K : PySem.W.Frag} {H : Hp} {v : V} {d : PyData} (h : Dp K H v d) : ∀ {vs : List V} {ds : List PyData}, DpAll K H vs ds → DpAll K H (vs ++ [v]) (ds ++ [d])
  | _, _, .nil => .cons h .nil
  | _, _, .cons a b => .cons a (dps_snoc h b)
theorem hid_mono {H H' : Hp} {x : Addr} (s : Same H H') : Same (hid H x) (hid H' x) := fun b o e => by
  by_cases h : b = x
  · rw [h, hid_x] at e
    cases e
  · rw [hid_ne h] at e ⊢
    exact s b o e
/-- one trade, read off the tuple of the trades -/
theorem TrAt.ix {K : PySem.W.Frag} {H : Hp} {a : Addr} {ts : List Tr} {i : Nat} {t : Tr} (h : TrAt K H a ts) (e : ts[i]? = some t) : ∃ xs p, SqT K H a xs ∧ xs.length = ts.length ∧ atI xs (0 + (i : Int)) = some (.ref p) ∧ SqT K H p t.vs := by
  obtain ⟨ps, h1, h2, h3⟩ := h.ex
  have hi : i < ps.length := by
    rw [h2]
    exact lt_of_at e
  refine ⟨_, ps[i], h1, by rw [List.length_map, h2], at_of (j := i) (Int.zero_add _) ?_, h3 i _ t (List.getElem?_eq_getElem hi) e⟩
  rw [List.getElem?_map, List.getElem?_eq_getElem hi]
  rfl
theorem TrAt.seq {K : PySem.W.Frag} {H : Hp} {a : Addr} {ts : List Tr} (h : TrAt K H a ts) : ∃ xs, SqT K H a xs ∧ xs.length = ts.length := by
  obtain ⟨ps, h1, h2, _⟩ := h.ex
  exact ⟨_, h1, by rw [List.length_map, h2]⟩
end EB

namespace EB
/-- the rounds from so many drunk bottles on, with fuel -/
def rnd (c : Nat → Int) (n : Nat) : Nat → Nat → List Int
  | 0, _ => []
  | m + 1, d => if 0 < (n : Int) - c d then ((n : Int) - c d) :: rnd c n m (d + ((n : Int) - c d).toNat) else []
def roundsL (c : Nat → Int) (n : Nat) : List Int := rnd c n (10 * n + 1) 0
namespace CF
variable {c : Nat → Int} {P B : Nat}
/-- so far every number of drinks costs less than there is -/
theorem below (h : CF c P B) {n d : Nat} (q : ∀ j, j < d → c j < n) : d ≤ D c n := by
  apply Nat.le_of_not_lt
  intro z
  have := q _ z
  rw [h.D_cost] at this
  omega
theorem below_next (h : CF c P B) {n d : Nat} (q : ∀ j, j < d → c j < n) (hp : 0 < (n : Int) - c d) : ∀ j, j < d + ((n : Int) - c d).toNat → c j < n := by
  intro j hj
  rcases Nat.lt_or_ge j d with z | z
  · exact q j z
  · have := h.steps d (j - d)
    rw [show d + (j - d) = j from by omega] at this
    omega
/-- bounds behind which so many rounds remain -/
def bnd : Nat → Nat
  | 0 => 60
  | k + 1 => bnd k * 20 / 19
theorem bnd_ge : ∀ k, 60 ≤ bnd k
  | 0 => Nat.le_refl _
  | k + 1 => by
    have := bnd_ge k
    show 60 ≤ bnd k * 20 / 19
    omega
theorem rnd_len (h : CF c P B) {n : Nat} (hlow : ∀ d r, D c n = d + r → (r : Int) ≤ 10 * ((n : Int) - c d) + 30) :
    ∀ (k m d : Nat), (∀ j, j < d → c j < n) → D c n - d ≤ bnd k → (rnd c n m d).length ≤ 61 + k := by
  have tail : ∀ (m d : Nat), (∀ j, j < d → c j < n) → (rnd c n m d).length ≤ D c n - d + 1 := by
    intro m
    induction m with
    | zero => intro d _; exact Nat.zero_le _
    | succ m ih =>
      intro d q
      show (if 0 < (n : Int) - c d then ((n : Int) - c d) :: rnd c n m (d + ((n : Int) - c d).toNat) else []).length ≤ _
      by_cases z : 0 < (n : Int) - c d
      · rw [if_pos z, List.length_cons]
        have q2 := h.below_next q z
        have := ih _ q2
        have := h.below q2
        omega
      · rw [if_neg z]
        exact Nat.zero_le _
  intro k
  induction k with
  | zero =>
    intro m d q hd
    have := tail m d q
    have : bnd 0 = 60 := rfl
    omega
  | succ k ih =>
    intro m d q hd
    cases m with
    | zero => exact Nat.zero_le _
    | succ m =>
      show (if 0 < (n : Int) - c d then ((n : Int) - c d) :: rnd c n m (d + ((n : Int) - c d).toNat) else []).length ≤ _
      by_cases z : 0 < (n : Int) - c d
      · rw [if_pos z, List.length_cons]
        have q2 := h.below_next q z
        have hb := h.below q
        have hb2 := h.below q2
        have h5 := hlow d (D c n - d) (by omega)
        have h6 := bnd_ge k
        have h7 : bnd (k + 1) = bnd k * 20 / 19 := rfl
        have := ih m _ q2 (by omega)
        omega
      · rw [if_neg z]
        exact Nat.zero_le _
theorem bnd_big : 10000000000000000000 ≤ bnd 900 := by decide +kernel
end CF
theorem slow {ts : List Tr} (f : Fair ts) {n d r : Nat} (e : D (cN ts) n = d + r) : (r : Int) ≤ 10 * ((n : Int) - cN ts d) + 30 := by
  have C := cf f
  have h1 := C.D_cost n
  rw [e] at h1
  have h3 : (r : Int) ≤ 10 * ((r : Int) - buys ts r) := C.ten r
  have h2 := buys_sub f.g.2 (d : Int) (r : Int)
  have h4 := f.g.1
  have h5 : ((d + r : Nat) : Int) - buys ts ((d + r : Nat) : Int) = n := h1
  show (r : Int) ≤ 10 * ((n : Int) - ((d : Int) - buys ts d)) + 30
  push_cast at h5
  omega
theorem rounds_len {ts : List Tr} (f : Fair ts) {n : Nat} (hn : n ≤ 1000000000000000000) {m d : Nat} (q : ∀ j, j < d → cN ts j < n) : (rnd (cN ts) n m d).length ≤ 1000 := by
  have C := cf f
  have h1 := C.D_le_ten n
  have := C.rnd_len (n := n) (fun d r e => slow f e) 900 m d q (Nat.le_trans (by omega) CF.bnd_big)
  omega
end EB

namespace EB
open PySem PySem.Spec PyProof.Rows L2
theorem ints_lay : ∀ ns : List Int, PyData.canLayAll0 (ns.map .int) = true ∧ PyData.depthAll (ns.map .int) ≤ 1
  | [] => ⟨rfl, by simp [PyData.depthAll]⟩
  | n :: ns => by
    have h := ints_lay ns
    rw [List.map_cons]
    refine ⟨by rw [PyData.canLayAll0, h.1, PyData.canLay0]; rfl, ?_⟩
    simp only [PyData.depthAll, PyData.depth]
    omega
theorem ints_shaped (ns : List Int) : SeqAt.shaped (PyData.list (ns.map .int)) = true := by
  have h := ints_lay ns
  unfold SeqAt.shaped
  rw [Bool.and_eq_true, decide_eq_true_eq]
  refine ⟨by rw [PyData.canLay0]; exact h.1, ?_⟩
  rw [PyData.depth]
  omega
theorem ints_eqv (ns : List Int) : PyData.eqv (PyData.list (ns.map .int)) (.list []) = decide (ns = []) := by
  cases ns with
  | nil => rfl
  | cons k ks =>
    rw [decide_eq_false (by simp)]
    simp [PyData.eqv, PyData.eqvAll]
/-- a party in any order: so many drunk, the trades made of each kind, the pieces that lie there -/
structure Pty (ts : List Tr) (n d : Nat) (mk pc : List Int) : Prop where
  lm : mk.length = ts.length
  lp : pc.length = ts.length
  low : ∀ j, j < d → cN ts j < n
  full : 0 ≤ (n : Int) + mk.sum - d
  rel : ∀ (i : Nat) (t : Tr) (m p : Int), ts[i]? = some t → mk[i]? = some m → pc[i]? = some p → p = t.l * (d : Nat) - t.n * m ∧ 0 ≤ p ∧ 0 ≤ m
theorem sum_ptw {ts : List Tr} {f : Tr → Int} : ∀ {mk : List Int}, mk.length = ts.length → (∀ (i : Nat) (t : Tr) (m : Int), ts[i]? = some t → mk[i]? = some m → m ≤ f t) → mk.sum ≤ (ts.map f).sum := by
  induction ts with
  | nil =>
    intro mk h _
    cases mk with
    | nil => exact Int.le_refl _
    | cons _ _ => cases h
  | cons t ts ih =>
    intro mk h k
    cases mk with
    | nil => cases h
    | cons m mk =>
      have h1 := ih (Nat.succ.inj h) fun i u x e1 e2 => k (i + 1) u x e1 e2
      have h2 := k 0 t m rfl rfl
      rw [List.sum_cons, List.map_cons, List.sum_cons]
      omega
theorem sum_set : ∀ {l : List Int} {i : Nat} {v w : Int}, l[i]? = some v → (l.set i w).sum = l.sum - v + w
  | [], _, _, _, h => nomatch h
  | a :: l, 0, v, w, h => by
    cases h
    rw [List.set_cons_zero, List.sum_cons, List.sum_cons]
    omega
  | a :: l, i + 1, v, w, h => by
    have h2 : (l.set i w).sum = l.sum - v + w := sum_set h
    rw [List.set_cons_succ, List.sum_cons, List.sum_cons, h2]
    omega
theorem sum_nn : ∀ {l : List Int}, (∀ x ∈ l, 0 ≤ x) → 0 ≤ l.sum
  | [], _ => Int.le_refl _
  | a :: l, h => by
    have h1 := sum_nn fun x hx => h x (List.mem_cons_of_mem _ hx)
    have h2 := h a (List.mem_cons_self ..)
    rw [List.sum_cons]
    omega
theorem get_of {α β : Type} {xs : List α} {ys : List β} (h : xs.length = ys.length) {i : Nat} {x : α} (e : xs[i]? = some x) : ∃ y, ys[i]? = some y := by
  have hi : i < ys.length := by
    rw [← h]
    exact lt_of_at e
  exact ⟨_, List.getElem?_eq_getElem hi⟩
namespace Pty
variable {ts : List Tr} {n d : Nat} {mk pc : List Int}
theorem start (ts : List Tr) (n : Nat) : Pty ts n 0 (ts.map (mdF 0)) (ts.map (pcF 0)) := by
  refine ⟨List.length_map _, List.length_map _, fun j q => absurd q (Nat.not_lt_zero _), ?_, fun i t m p e1 e2 e3 => ?_⟩
  · have : (ts.map (mdF 0)).sum = 0 := by
      rw [show (ts.map (mdF 0)) = ts.map fun _ => (0 : Int) from List.map_congr_left fun t _ => mdF_zero t]
      clear n
      induction ts with
      | nil => rfl
      | cons t ts ih => rw [List.map_cons, List.sum_cons, ih]; rfl
    rw [this]
    omega
  · rw [List.getElem?_map, e1] at e2 e3
    cases e2
    cases e3
    show pcF 0 t = t.l * ((0 : Nat) : Int) - t.n * mdF 0 t ∧ 0 ≤ pcF 0 t ∧ 0 ≤ mdF 0 t
    rw [pcF_zero, mdF_zero]
    simp
theorem made_le (h : Pty ts n d mk pc) (hg : gds ts) {i : Nat} {t : Tr} {m : Int} (e1 : ts[i]? = some t) (e2 : mk[i]? = some m) : m ≤ mdF d t := by
  obtain ⟨p, e3⟩ := get_of (ys := pc) (by rw [h.lm, h.lp]) e2
  obtain ⟨r1, r2, r3⟩ := h.rel i t m p e1 e2 e3
  have ht := tr_pos (hg.2 t (List.mem_of_getElem? e1))
  unfold mdF
  rw [Int.le_ediv_iff_mul_le ht, Int.mul_comm]
  omega
theorem sum_le (h : Pty ts n d mk pc) (hg : gds ts) : mk.sum ≤ buys ts d := sum_ptw h.lm fun i t m e1 e2 => h.made_le hg e1 e2
theorem low_next (h : Pty ts n d mk pc) (hg : gds ts) (hf : 0 < (n : Int) + mk.sum - d) : ∀ j, j < d + 1 → cN ts j < n := by
  intro j hj
  rcases Nat.lt_or_ge j d with z | z
  · exact h.low j z
  · have : j = d := by omega
    subst this
    have := h.sum_le hg
    show ((j : Nat) : Int) - buys ts j < n
    omega
/-- one bottle more is drunk -/
theorem drink (h : Pty ts n d mk pc) (hg : gds ts) (hf : 0 < (n : Int) + mk.sum - d) {pc2 : List Int} (hl : pc2.length = ts.length) (hp : ∀ (i : Nat) (t : Tr) (p q : Int), ts[i]? = some t → pc[i]? = some p → pc2[i]? = some q → q = p + t.l) : Pty ts n (d + 1) mk pc2 := by
  refine ⟨h.lm, hl, h.low_next hg hf, by omega, fun i t m p e1 e2 e3 => ?_⟩
  obtain ⟨p0, e4⟩ := get_of (ys := pc) h.lp.symm e1
  obtain ⟨r1, r2, r3⟩ := h.rel i t m p0 e1 e2 e4
  have r4 := hp i t p0 p e1 e4 e3
  have ht := (hg.2 t (List.mem_of_getElem? e1)).1
  refine ⟨?_, by omega, r3⟩
  push_cast
  rw [Int.mul_add]
  omega
/-- one trade more is made -/
theorem trade (h : Pty ts n d mk pc) (hg : gds ts) {i : Nat} {t : Tr} {m p : Int} (e1 : ts[i]? = some t) (e2 : mk[i]? = some m) (e3 : pc[i]? = some p) (hp : t.n ≤ p) : Pty ts n d (mk.set i (m + 1)) (pc.set i (p - t.n)) := by
  obtain ⟨r1, r2, r3⟩ := h.rel i t m p e1 e2 e3
  have hm := lt_of_at e2
  have hq := lt_of_at e3
  refine ⟨by rw [List.length_set, h.lm], by rw [List.length_set, h.lp], h.low, ?_, fun j u m' p' f1 f2 f3 => ?_⟩
  · have := h.full
    rw [sum_set e2]
    omega
  · by_cases z : i = j
    · subst z
      rw [List.getElem?_set_self hm] at f2
      rw [List.getElem?_set_self hq] at f3
      rw [e1] at f1
      cases f1
      cases f2
      cases f3
      refine ⟨?_, by omega, by omega⟩
      rw [Int.mul_add]
      omega
    · rw [List.getElem?_set_ne z] at f2 f3
      exact h.rel j u m' p' f1 f2 f3
/-- nothing is possible any more -/
theorem done (h : Pty ts n d mk pc) (hf : Fair ts) (h0 : ¬ 0 < (n : Int) + mk.sum - d) (hp : ∀ (i : Nat) (t : Tr) (p : Int), ts[i]? = some t → pc[i]? = some p → p < t.n) : D (cN ts) n = d ∧ mk = ts.map (mdF d) ∧ pc = ts.map (pcF d) := by
  have each : ∀ (i : Nat) (t : Tr) (m p : Int), ts[i]? = some t → mk[i]? = some m → pc[i]? = some p → m = mdF d t ∧ p = pcF d t := by
    intro i t m p e1 e2 e3
    obtain ⟨r1, r2, r3⟩ := h.rel i t m p e1 e2 e3
    have r4 := hp i t p e1 e3
    have ht := tr_pos (hf.g.2 t (List.mem_of_getElem? e1))
    have e : t.l * (d : Nat) = p + t.n * m := by omega
    unfold mdF pcF
    rw [e, Int.add_mul_ediv_left _ _ (by omega), Int.add_mul_emod_self_left, Int.ediv_eq_zero_of_lt r2 r4, Int.emod_eq_of_lt r2 r4]
    omega
  have em : mk = ts.map (mdF d) := by
    apply List.ext_getElem?
    intro i
    rw [List.getElem?_map]
    cases e : ts[i]? with
    | none =>
      have := List.getElem?_eq_none_iff.mp e
      exact List.getElem?_eq_none (by rw [h.lm]; exact this)
    | some t =>
      obtain ⟨m, e2⟩ := get_of (ys := mk) h.lm.symm e
      obtain ⟨p, e3⟩ := get_of (ys := pc) h.lp.symm e
      rw [e2, (each i t m p e e2 e3).1]
      rfl
  have ep : pc = ts.map (pcF d) := by
    apply List.ext_getElem?
    intro i
    rw [List.getElem?_map]
    cases e : ts[i]? with
    | none =>
      have := List.getElem?_eq_none_iff.mp e
      exact List.getElem?_eq_none (by rw [h.lp]; exact this)
    | some t =>
      obtain ⟨m, e2⟩ := get_of (ys := mk) h.lm.symm e
      obtain ⟨p, e3⟩ := get_of (ys := pc) h.lp.symm e
      rw [e3, (each i t m p e e2 e3).2]
      rfl
  refine ⟨(cf hf).D_eq ⟨?_, h.low⟩, em, ep⟩
  have h1 : mk.sum = buys ts d := by rw [em]; rfl
  show (n : Int) ≤ (d : Int) - buys ts d
  omega
/-- how much is still to come -/
noncomputable def left (ts : List Tr) (n d : Nat) (pc : List Int) : Nat := (40 * ((D (cN ts) n : Int) - d) + pc.sum).toNat
theorem nn (h : Pty ts n d mk pc) : 0 ≤ pc.sum := sum_nn fun x hx => by
  obtain ⟨i, e3⟩ := List.mem_iff_getElem?.mp hx
  obtain ⟨t, e1⟩ := get_of (ys := ts) h.lp e3
  obtain ⟨m, e2⟩ := get_of (ys := mk) h.lm.symm e1
  exact (h.rel i t m x e1 e2 e3).2.1
theorem below (h : Pty ts n d mk pc) (hf : Fair ts) : d ≤ D (cN ts) n := (cf hf).below h.low
end Pty
theorem sum_grow {ts : List Tr} : ∀ {pc pc2 : List Int}, pc.length = ts.length → pc2.length = ts.length → (∀ t ∈ ts, t.ok) → (∀ (i : Nat) (t : Tr) (p q : Int), ts[i]? = some t → pc[i]? = some p → pc2[i]? = some q → q = p + t.l) → pc2.sum ≤ pc.sum + 12 * ts.length := by
  induction ts with
  | nil =>
    intro pc pc2 h1 h2 _ _
    cases List.length_eq_zero_iff.mp h1
    cases List.length_eq_zero_iff.mp h2
    exact Int.le_refl _
  | cons t ts ih =>
    intro pc pc2 h1 h2 ho k
    cases pc with
    | nil => cases h1
    | cons p pc =>
      cases pc2 with
      | nil => cases h2
      | cons q pc2 =>
        have i1 := ih (Nat.succ.inj h1) (Nat.succ.inj h2) (fun u hu => ho u (List.mem_cons_of_mem _ hu)) fun i u x y e1 e2 e3 => k (i + 1) u x y e1 e2 e3
        have i2 := k 0 t p q rfl rfl rfl
        have i3 := (ho t (List.mem_cons_self ..)).2.1
        rw [List.sum_cons, List.sum_cons, List.length_cons]
        push_cast
        omega
theorem iteJ {c : Bool} {p : Prop} {R : Hp → Prop} {H : Hp} (Pv : Hp → Prop) (h : ∀ H3, Pv H3 → R H3) (h1 : c = true → (∀ H3, Pv H3 → R H3) → p) (h2 : ¬ c = true → Pv H) : if c = true then p else R H := by
  by_cases q : c = true
  · rw [if_pos q]
    exact h1 q h
  · rw [if_neg q]
    exact h H (h2 q)
end EB

namespace EB
open PySem PySem.Spec PyProof.Rows L2
/-- the party on its way -/
def WP (h l p M : Addr) (ts : List Tr) (n : Nat) (H0 : Hp) : Nat → L2.St → Hp → Prop := fun m σ H => ∃ (d : Nat) (mk pc : List Int) (Pp : Addr) (x7 x8 x9 : Option V), HS H0 H h l ∧ H M = some (.lst (mk.map V.int)) ∧ H Pp = some (.lst (pc.map V.int)) ∧ M ≠ Pp ∧ H0 Pp = none ∧ Pp ≠ h ∧ Pp ≠ l ∧
  Pty ts n d mk pc ∧ m = Pty.left ts n d pc ∧ σ = [some (.ref h), some (.ref p), some (.int (n : Nat)), some (.int ((n : Int) + mk.sum - d)), some (.int (d : Nat)), some (.ref Pp), some (.ref M), x7, x8, x9]
section
variable {P : Program} {w : World} {K : PySem.W.Frag} {mg : Str → Option Value} {base : Heap} (T : Tx K mg)
include T
def spParty (K : PySem.W.Frag) : Sp := fun vs H Q _ => ∃ (h l p : Addr) (ts : List Tr) (n : Nat) (H0 : Hp), vs = [.ref h, .ref p, .int (n : Nat)] ∧ HS H0 H h l ∧ TrAt K H0 p ts ∧ Fair ts ∧ n ≤ 1000 ∧
  ∀ H' q M Pp, HS H0 H' h l → H' q = some (.tup [.int (D (cN ts) n : Nat), .ref M, .ref Pp]) → H' M = some (.lst (ts.map fun t => V.int (mdF (D (cN ts) n) t))) → H' Pp = some (.lst (ts.map fun t => V.int (pcF (D (cN ts) n) t))) → Q (.ref q) H'
theorem ok_law_party : FnR P w K mg base CX0 2 (a_law_party K) (spParty K) := by
  refine fnR0 (d := d_law_party) T.F_law_party sc_law_party rfl (fun _ _ _ _ _ _ us hl => match us, hl with | [_, _, _], _ => rfl) (fun vs H Q E h => ?_) (fun cdv A outer s H vs Q E hr h => ?_)
  · obtain ⟨h, l, p, ts, n, H0, rfl, _⟩ := h
    rfl
  obtain ⟨h, l, p, ts, n, H0, rfl, hs, hT, hf, hn, k⟩ := h
  refine ⟨_, (pss_cons (ps_par (i := 3) (j := 4) (by rfl) sc_law_party.nd rfl rfl (by decide) rfl rfl (pa_cons (pv 2) (pa_cons pe_int pa_nil)) (by rfl)) (pss_cons (ps_asg (pe_tup (pa_cons (pe_op op_rep (pe_lst (pa_cons pe_int pa_nil)) (pe_callB call_len_seq (by rfl) T.n_len PySem.boot_len (pa_cons (pv 1) pa_nil))) (pa_cons (pe_op op_rep (pe_lst (pa_cons pe_int pa_nil)) (pe_callB call_len_seq (by rfl) T.n_len PySem.boot_len (pa_cons (pv 1) pa_nil))) pa_nil))) (pg_tup rfl (pgs_cons (pg_name (i := 5) sc_law_party.nd rfl (Or.inr rfl)) (pgs_cons (pg_name (i := 6) sc_law_party.nd rfl (Or.inl rfl)) pgs_nil)))) (pss_one (ps_while PassesOwn.never (pt_val pe_bl) (pss_cons (ps_setLc (i := 8) (own := [("_law_k", 7)]) rfl sc_law_party.nd rfl rfl (sw_true rfl rfl rfl (by decide +kernel)) (pi_range1 rfl T.n_range (pa_cons (pe_callB call_len_seq (by rfl) T.n_len PySem.boot_len (pa_cons (pv 1) pa_nil)) pa_nil)) (blkOk_by (own := [("_law_k", 7)]) (N := N_law_party) (sc := defScope s_law_party) (by decide +kernel)) (fun _ _ _ _ _ => (pg_name (i := 7) sc_law_party.nd rfl (Or.inl rfl) (.inr rfl))) (fun _ _ _ _ _ => (pts_one (pt_cmpR op_ge (pe_ix (ix_listK (K := K) rfl) (pv 5) (pv 7) (fun _ _ => rfl)) (pe_ix (ix_tupK (K := K) rfl) (pe_ix (ix_tupK (K := K) rfl) (pv 1) (pv 7) (fun _ _ => rfl)) pe_int (fun _ _ => rfl)) (nomark _)))) (fun _ _ _ _ _ => (pv 7))) (pss_cons (ps_if (pt_cmpR op_gt (pv 3) pe_int (nomark _)) (pss_one (ps_expr (pe_bm PySem.F.plainAttrs_list PySem.F.slot_list_append PySem.F.type_list_append mt_append (pv 8) (pa_cons (pe_callB call_len_seq (by rfl) T.n_len PySem.boot_len (pa_cons (pv 1) pa_nil)) pa_nil)))) pss_nil) (pss_cons (ps_if (pt_cmpR (op_eqD hr.units) (pv 8) (pe_lst pa_nil) (nomark _)) (pss_one (ps_ret (pe_tup (pa_cons (pv 4) (pa_cons (pv 6) (pa_cons (pv 5) pa_nil)))))) pss_nil) (pss_cons (ps_set (i := 7) sc_law_party.nd rfl (Or.inl rfl) (pe_ix ix_list (pv 8) (pe_cR (ok_law_next T) (hr.mono (by decide)) T.F_law_next.kp T.g_law_next pass0 (pa_cons (pv 0) (pa_cons (pe_callB call_len_seq (by rfl) T.n_len PySem.boot_len (pa_cons (pv 8) pa_nil)) pa_nil))) (fun _ _ => rfl))) (pss_one (ps_if (pt_cmpR op_eq (pv 7) (pe_callB call_len_seq (by rfl) T.n_len PySem.boot_len (pa_cons (pv 1) pa_nil)) (nomark _)) (pss_cons (ps_par (i := 3) (j := 4) (by rfl) sc_law_party.nd rfl rfl (by decide) rfl rfl (pa_cons (pe_op op_sub (pv 3) pe_int) (pa_cons (pe_op op_add (pv 4) pe_int) pa_nil)) (by rfl)) (pss_one (ps_set (i := 5) sc_law_party.nd rfl (Or.inr rfl) (pe_lc (own := [("_law_j", 9)]) rfl sc_law_party.nd (pi_range1 rfl T.n_range (pa_cons (pe_callB call_len_seq (by rfl) T.n_len PySem.boot_len (pa_cons (pv 1) pa_nil)) pa_nil)) (blkOk_by (own := [("_law_j", 9)]) (N := N_law_party) (sc := defScope s_law_party) (by decide +kernel)) (fun _ _ _ _ _ => (pg_name (i := 9) sc_law_party.nd rfl (Or.inl rfl) (.inr rfl))) (fun _ _ _ _ _ => pts_nil) (fun _ _ _ _ _ => (pe_op op_add (pe_ix (ix_listK (K := K) rfl) (pv 5) (pv 9) (fun _ _ => rfl)) (pe_ix (ix_tupK (K := K) rfl) (pe_ix (ix_tupK (K := K) rfl) (pv 1) (pv 9) (fun _ _ => rfl)) pe_int (fun _ _ => rfl)))))))) (pss_cons (ps_set (i := 3) sc_law_party.nd rfl (Or.inl rfl) (pe_op op_add (pv 3) pe_int)) (pss_cons (ps_asg (pe_op op_add (pe_ix ix_list (pv 6) (pv 7) (fun _ _ => rfl)) pe_int) (pg_sub (pv 6) (pv 7) set_list)) (pss_one (ps_asg (pe_op op_sub (pe_ix ix_list (pv 5) (pv 7) (fun _ _ => rfl)) (pe_ix ix_tup (pe_ix ix_tup (pv 1) (pv 7) (fun _ _ => rfl)) pe_int (fun _ _ => rfl))) (pg_sub (pv 5) (pv 7) set_list))))))))))))))), ?_⟩
  have hlen3 := hf.g.1
  have hs1 := hs.re
  obtain ⟨tx, htx, ltx⟩ := (hT.mono hs.same).seq
  refine ⟨_, rfl, _, _, rfl, ?_⟩
  refine ⟨by show 1 ≤ sizeLine; decide, fun Z1 hZ1 => ⟨_, rfl, p, _, rfl, .inr (Same.tup (same_new hZ1) htx), Z1, _, _, rfl, rfl, upd_same, by omega, by omega, ?_, fun Pp hPp => ?_⟩⟩
  · show 1 * _ ≤ sizeLine
    exact Nat.le_trans (by omega) (show 3 ≤ sizeLine by decide)
  obtain ⟨nP1, nP⟩ := upd_none hPp
  have sP : Same H (upd (upd H Z1 (.lst [.int 0])) Pp (.lst (List.replicate ((tx.length : Nat) : Int).toNat [V.int 0]).flatten)) := (same_new hZ1).trans (same_new hPp)
  have eP : upd (upd H Z1 (.lst [.int 0])) Pp (.lst (List.replicate ((tx.length : Nat) : Int).toNat [V.int 0]).flatten) Pp = some (.lst ((ts.map (pcF 0)).map V.int)) := by
    rw [upd_same, zeros ltx pcF_zero, List.map_map]
    rfl
  generalize upd (upd H Z1 (.lst [.int 0])) Pp (.lst (List.replicate ((tx.length : Nat) : Int).toNat [V.int 0]).flatten) = HP at sP eP
  refine ⟨by show 1 ≤ sizeLine; decide, fun Z2 hZ2 => ⟨_, rfl, p, _, rfl, .inr (Same.tup (sP.trans (same_new hZ2)) htx), Z2, _, _, rfl, rfl, upd_same, by omega, by omega, ?_, fun M hM => ?_⟩⟩
  · show 1 * _ ≤ sizeLine
    exact Nat.le_trans (by omega) (show 3 ≤ sizeLine by decide)
  obtain ⟨nM1, nM⟩ := upd_none hM
  have sM : Same HP (upd (upd HP Z2 (.lst [.int 0])) M (.lst (List.replicate ((tx.length : Nat) : Int).toNat [V.int 0]).flatten)) := (same_new hZ2).trans (same_new hM)
  have eM : upd (upd HP Z2 (.lst [.int 0])) M (.lst (List.replicate ((tx.length : Nat) : Int).toNat [V.int 0]).flatten) M = some (.lst ((ts.map (mdF 0)).map V.int)) := by
    rw [upd_same, zeros ltx mdF_zero, List.map_map]
    rfl
  generalize upd (upd HP Z2 (.lst [.int 0])) M (.lst (List.replicate ((tx.length : Nat) : Int).toNat [V.int 0]).flatten) = HM at sM eM
  refine ⟨by show 2 ≤ sizeLine; decide, fun q0 hq0 => ⟨q0, _, rfl, SqT.of upd_same, rfl, _, _, rfl, _, _, rfl, rfl, ?_⟩⟩
  have nPM : M ≠ Pp := (ne_of_none eP nM).symm
  have n9P : H Pp = none := nP
  have n9M : H M = none := sP.free nM
  have s9 : Same H (upd HM q0 (.tup [.ref Pp, .ref M])) := (sP.trans sM).trans (same_new hq0)
  have eP0 := upd_old (u := .tup [.ref Pp, .ref M]) (sM _ _ eP) hq0
  have eM0 := upd_old (u := .tup [.ref Pp, .ref M]) eM hq0
  generalize upd HM q0 (.tup [.ref Pp, .ref M]) = HR at s9 eP0 eM0
  have n0M : H0 M = none := hs.same.free n9M
  have nMh := hs.new n9M
  have nPh := hs.new n9P
  have hst := Pty.start ts n
  have e0 : (n : Int) = (n : Int) + (ts.map (mdF 0)).sum - (0 : Nat) := by
    have : (ts.map (mdF 0)).sum = buys ts 0 := rfl
    have h0 : (0 : Int) - buys ts 0 = 0 := (cf hf).zero
    omega
  refine ⟨WP h l p M ts n H0, ⟨_, 0, ts.map (mdF 0), ts.map (pcF 0), Pp, _, _, _, hs.grow s9, eM0, eP0, nPM, hs.same.free n9P, nPh.1, nPh.2, hst, rfl, by rw [← e0]; rfl⟩, ?_⟩
  rintro m σ H1 ⟨d, mk, pc, Pp, x7, x8, x9, hs1, eM1, eP1, nMP, n0P, nPh, nPl, hp, rfl, rfl⟩
  refine ⟨true, rfl, iteT ⟨fun σ' H' => ∃ m', m' < Pty.left ts n d pc ∧ WP h l p M ts n H0 m' σ' H', fun _ _ q => q, ?_⟩⟩
  have hTs := hT.mono hs1.same
  obtain ⟨tz, htz, ltz⟩ := hTs.seq
  have hfull := hp.full
  have hs1r := hs1.re
  -- what can be done
  refine ⟨_, rfl, p, _, rfl, .inr htz, _, rfl, ?_, ?_, fun G hG => ?_⟩
  · omega
  · omega
  refine lc_range (lo := 0) (n := ((tz.length : Nat) : Int).toNat) (fun i H2 => Same H1 H2 ∧ ∃ ks : List Int, H2 G = some (.lst (ks.map V.int)) ∧ ks.length ≤ i ∧ (∀ k ∈ ks, ∃ (j : Nat) (t : Tr) (q : Int), k = (j : Nat) ∧ ts[j]? = some t ∧ pc[j]? = some q ∧ t.n ≤ q) ∧ ∀ (j : Nat) (t : Tr) (q : Int), j < i → ts[j]? = some t → pc[j]? = some q → t.n ≤ q → ks ≠ [])
    ⟨same_new hG, [], upd_same, Nat.le_refl _, fun k q => (nomatch q), fun j t q z => absurd z (Nat.not_lt_zero _)⟩ ?_ ?_
  · rintro i H2 hi ⟨s2, ks, e2, hkl, hka, hkb⟩
    have hi2 : i < ts.length := by omega
    have et : ts[i]? = some ts[i] := List.getElem?_eq_getElem hi2
    obtain ⟨q, eq⟩ := get_of (ys := pc) hp.lp.symm et
    generalize ts[i] = t at et
    obtain ⟨xs1, pt, q1, q2, q3, q4⟩ := (hTs.mono s2).ix et
    have eq2 : (pc.map V.int)[i]? = some (.int q) := by rw [List.getElem?_map, eq]; rfl
    refine ⟨rfl, _, rfl, _, rfl, Pp, _, _, _, rfl, rfl, SqL.of (s2 _ _ eP1), at_of (Int.zero_add _) eq2, ?_⟩
    refine ⟨_, rfl, _, rfl, p, _, _, _, rfl, rfl, q1, q3, pt, _, 2, _, rfl, rfl, q4, rfl, _, _, rfl, rfl, _, rfl, ite2 (fun hd => ?_) (fun hd => ?_)⟩
    · have hd : t.n ≤ q := of_decide_eq_true hd
      refine ⟨_, rfl, _, e2, small3 (by rw [List.length_map]; omega), same_mut s2 hG, ks ++ [(i : Int)], ?_, by rw [List.length_append]; exact Nat.succ_le_succ hkl, fun k hk => ?_, fun j u x _ _ _ _ z => by simp at z⟩
      · rw [upd_same, List.map_append]
        show some (HO.lst (_ ++ [V.int (0 + (i : Int))])) = _
        rw [Int.zero_add]
        rfl
      · rcases List.mem_append.mp hk with hk | hk
        · exact hka k hk
        · cases List.mem_singleton.mp hk
          exact ⟨i, t, q, rfl, et, eq, hd⟩
    · have hd : ¬ t.n ≤ q := fun z => hd (decide_eq_true z)
      refine ⟨s2, ks, e2, by omega, hka, fun j u x hj f1 f2 f3 => ?_⟩
      rcases Nat.lt_or_ge j i with z | z
      · exact hkb j u x z f1 f2 f3
      · have : j = i := by omega
        subst this
        rw [et] at f1
        rw [eq] at f2
        cases f1
        cases f2
        exact absurd f3 hd
  rintro H2 ⟨s2, ks, e2, hkl, hka, hkb⟩
  rw [Int.toNat_natCast, ltz] at hkl hkb
  refine ⟨_, rfl, _, _, rfl, rfl, _, rfl, ?_⟩
  refine iteJ (H := H2) (fun H3 => Same H1 H3 ∧ ∃ ks : List Int, H3 G = some (.lst (ks.map V.int)) ∧ ks.length ≤ 4 ∧ (∀ k ∈ ks, (∃ (j : Nat) (t : Tr) (q : Int), k = (j : Nat) ∧ ts[j]? = some t ∧ pc[j]? = some q ∧ t.n ≤ q) ∨ (k = (ts.length : Nat) ∧ 0 < (n : Int) + mk.sum - d)) ∧
    (ks = [] → ¬ 0 < (n : Int) + mk.sum - d ∧ ∀ (j : Nat) (t : Tr) (q : Int), ts[j]? = some t → pc[j]? = some q → q < t.n)) ?_ (fun hc r => ?_) (fun hc => ?_)
  rotate_left
  · have hc : 0 < (n : Int) + mk.sum - d := of_decide_eq_true hc
    refine ⟨_, rfl, .inl ⟨rfl, _, SqL.of e2⟩, _, rfl, p, _, rfl, .inr (Same.tup s2 htz), G, _, _, rfl, rfl, e2, small3 (by rw [List.length_map]; omega), r _ ⟨same_mut s2 hG, ks ++ [(ts.length : Int)], ?_, by rw [List.length_append]; exact Nat.succ_le_succ (by omega), fun k hk => ?_, fun z => by simp at z⟩⟩
    · rw [upd_same, List.map_append, ltz]
      rfl
    · rcases List.mem_append.mp hk with hk | hk
      · exact .inl (hka k hk)
      · cases List.mem_singleton.mp hk
        exact .inr ⟨rfl, hc⟩
  · have hc : ¬ 0 < (n : Int) + mk.sum - d := fun z => hc (decide_eq_true z)
    refine ⟨s2, ks, e2, by omega, fun k hk => .inl (hka k hk), fun z => ⟨hc, fun j t q f1 f2 => ?_⟩⟩
    apply Int.lt_of_not_ge
    intro f3
    exact hkb j t q (lt_of_at f1) f1 f2 f3 z
  rintro H3 ⟨s3, ks, e3, hkl, hka, hkb⟩
  have hs3 := hs1.grow s3
  have nG := hs1.new hG
  have eM3 := s3 _ _ eM1
  have eP3 := s3 _ _ eP1
  -- is there any
  refine ⟨_, rfl, Nat.zero_le _, fun E3 hE3 => ⟨.list (ks.map .int), .list [], Dp.lst (SqL.of (upd_old e3 hE3)) (dps_ints _), Dp.lst (SqL.of upd_same) .nil, ints_shaped _, shapedN, _, rfl, ite2 (fun hd => ?_) (fun hd => ?_)⟩⟩
  · rw [ints_eqv] at hd
    have hd := of_decide_eq_true hd
    obtain ⟨z1, z2⟩ := hkb hd
    obtain ⟨r1, r2, r3⟩ := hp.done hf z1 z2
    have hs4 := hs3.grow (same_new (u := .lst []) hE3)
    have eM4 := upd_old (u := .lst []) eM3 hE3
    have eP4 := upd_old (u := .lst []) eP3 hE3
    refine ⟨_, rfl, _, rfl, _, rfl, by show 3 ≤ sizeLine; decide, fun q hq => k _ q M Pp (hs4.grow (same_new hq)) ?_ ?_ ?_⟩
    · rw [upd_same, r1]
    · rw [upd_old eM4 hq, r1, r2, List.map_map]
      rfl
    · rw [upd_old eP4 hq, r1, r3, List.map_map]
      rfl
  rw [ints_eqv] at hd
  have hd : ks ≠ [] := fun z => hd (decide_eq_true z)
  have hs4 := hs3.grow (same_new (u := .lst []) hE3)
  have e4 := upd_old (u := .lst []) e3 hE3
  have eM4 := upd_old (u := .lst []) eM3 hE3
  have eP4 := upd_old (u := .lst []) eP3 hE3
  generalize upd H3 E3 (.lst []) = H4 at hs4 e4 eM4 eP4
  have hk0 : 0 < ks.length := List.length_pos_iff.mpr hd
  refine ⟨_, rfl, _, rfl, _, rfl, G, _, rfl, .inl (SqL.of e4), h, l, _, hid2 H4 h l, rfl, ?_, ?_, hs4.re, fun H5 r hs5' r0 r1 => ?_⟩
  · rw [List.length_map]
    omega
  · rw [List.length_map]
    omega
  have e5 := hs5'.same _ _ (HS.keep (H0 := H0) e4 nG.1 nG.2)
  have eM5 := hs5'.same _ _ (HS.keep (H0 := H0) eM4 nMh.1 nMh.2)
  have eP5 := hs5'.same _ _ (HS.keep (H0 := H0) eP4 nPh nPl)
  have hs5 := hs4.down hs5'
  rw [List.length_map] at r1
  obtain ⟨r, rfl⟩ := Int.eq_ofNat_of_zero_le r0
  have hrl : r < ks.length := by omega
  have erk : ks[r]? = some ks[r] := List.getElem?_eq_getElem hrl
  have hkm := hka _ (List.getElem_mem hrl)
  generalize ks[r] = kk at erk hkm
  have erk2 : (ks.map V.int)[r]? = some (.int kk) := by rw [List.getElem?_map, erk]; rfl
  have hTs5 := hT.mono hs5.same
  obtain ⟨t5, ht5, lt5⟩ := hTs5.seq
  refine ⟨G, _, _, _, rfl, rfl, SqL.of e5, at_of rfl erk2, ?_⟩
  refine ⟨_, rfl, _, rfl, p, _, rfl, .inr ht5, rfl, _, rfl, ite2 (fun hd2 => ?_) (fun hd2 => ?_)⟩
  · -- a bottle is drunk
    have hd2 : V.int kk = V.int ((t5.length : Nat) : Int) := of_decide_eq_true hd2
    have hd3 := V.int.inj hd2
    have hf0 : 0 < (n : Int) + mk.sum - d := by
      rcases hkm with ⟨j, t, q, f1, f2, _⟩ | ⟨_, z⟩
      · exfalso
        have := lt_of_at f2
        omega
      · exact z
    refine ⟨_, rfl, _, _, rfl, rfl, _, rfl, _, _, rfl, rfl, _, _, rfl, ?_⟩
    refine ⟨_, rfl, p, _, rfl, .inr ht5, _, rfl, ?_, ?_, fun G2 hG2 => ?_⟩
    · omega
    · omega
    refine lc_range (lo := 0) (n := ((t5.length : Nat) : Int).toNat) (fun i H6 => Same H5 H6 ∧ ∃ pc2 : List Int, H6 G2 = some (.lst (pc2.map V.int)) ∧ pc2.length = i ∧ ∀ (j : Nat) (t : Tr) (x y : Int), ts[j]? = some t → pc[j]? = some x → pc2[j]? = some y → y = x + t.l)
      ⟨same_new hG2, [], upd_same, rfl, fun j t x y _ _ z => (nomatch z)⟩ ?_ ?_
    · rintro i H6 hi ⟨s6, pc2, e6, hl6, hv6⟩
      have hi2 : i < ts.length := by omega
      have et : ts[i]? = some ts[i] := List.getElem?_eq_getElem hi2
      obtain ⟨q, eq⟩ := get_of (ys := pc) hp.lp.symm et
      generalize ts[i] = t at et
      obtain ⟨xs1, pt, q1, q2, q3, q4⟩ := (hTs5.mono s6).ix et
      have eq2 : (pc.map V.int)[i]? = some (.int q) := by rw [List.getElem?_map, eq]; rfl
      refine ⟨rfl, _, rfl, _, rfl, Pp, _, _, _, rfl, rfl, SqL.of (s6 _ _ eP5), at_of (Int.zero_add _) eq2, ?_⟩
      refine ⟨_, rfl, _, rfl, p, _, _, _, rfl, rfl, q1, q3, pt, _, 1, _, rfl, rfl, q4, rfl, _, _, rfl, rfl, ?_⟩
      refine ⟨_, e6, small3 (by rw [List.length_map]; omega), same_mut s6 hG2, pc2 ++ [q + t.l], ?_, by rw [List.length_append, hl6]; rfl, fun j u x y f1 f2 f3 => ?_⟩
      · rw [upd_same, List.map_append]
        rfl
      · rcases Nat.lt_or_ge j i with z | z
        · rw [List.getElem?_append_left (by omega)] at f3
          exact hv6 j u x y f1 f2 f3
        · rw [List.getElem?_append_right (by omega)] at f3
          have : j = i := by
            have := lt_of_at f3
            simp only [List.length_singleton] at this
            omega
          subst this
          rw [hl6, Nat.sub_self] at f3
          rw [et] at f1
          rw [eq] at f2
          cases f1
          cases f2
          cases f3
          rfl
    rintro H6 ⟨s6, pc2, e6, hl6, hv6⟩
    rw [Int.toNat_natCast, lt5] at hl6
    have hp2 := hp.drink hf.g hf0 hl6 hv6
    have nGh := hs5.new hG2
    have hb := hp2.below hf
    have hnn := hp2.nn
    have hgr := sum_grow hp.lp hl6 hf.g.2 hv6
    refine ⟨_, ?_, d + 1, mk, pc2, G2, some (.int kk), some (.ref G), x9, hs5.grow s6, s6 _ _ eM5, e6, ne_of_none eM5 hG2, hs5.same.free hG2, nGh.1, nGh.2, hp2, rfl, ?_⟩
    · have hnn1 := hp.nn
      unfold Pty.left
      omega
    · have q1 : (n : Int) + mk.sum - ((d + 1 : Nat) : Int) = (n : Int) + mk.sum - d - 1 := by omega
      have q2 : ((d + 1 : Nat) : Int) = (d : Int) + 1 := by omega
      rw [q1, q2]
      rfl
  · -- a trade
    have hd2 : ¬ V.int kk = V.int ((t5.length : Nat) : Int) := fun z => hd2 (decide_eq_true z)
    obtain ⟨j, t, q, rfl, et, eq, hq⟩ : ∃ (j : Nat) (t : Tr) (q : Int), kk = (j : Nat) ∧ ts[j]? = some t ∧ pc[j]? = some q ∧ t.n ≤ q := by
      rcases hkm with z | ⟨z, _⟩
      · exact z
      · exact absurd (by rw [z, lt5]) hd2
    obtain ⟨mm, em⟩ := get_of (ys := mk) hp.lm.symm et
    have hp2 := hp.trade hf.g et em eq hq
    obtain ⟨xs1, pt, q1, q2, q3, q4⟩ := hTs5.ix et
    rw [Int.zero_add] at q3
    have em2 : (mk.map V.int)[j]? = some (.int mm) := by rw [List.getElem?_map, em]; rfl
    have eq2 : (pc.map V.int)[j]? = some (.int q) := by rw [List.getElem?_map, eq]; rfl
    have hjm := lt_of_at em
    have hjp := lt_of_at eq
    refine ⟨_, rfl, _, _, rfl, rfl, ?_⟩
    refine ⟨_, rfl, _, rfl, M, _, _, _, rfl, rfl, SqL.of eM5, at_of rfl em2, _, _, rfl, rfl, _, rfl, _, rfl, M, _, _, j, rfl, rfl, eM5, ?_, ?_⟩
    · have := ixN_nat (n := (mk.map V.int).length) (i := j) (by rw [List.length_map]; exact hjm)
      rw [Int.zero_add] at this
      exact this
    have hs6 := hs5.mut (o := .lst ((mk.map V.int).set j (.int (mm + 1)))) n0M nMh.1 nMh.2
    have eP6 := (upd_ne (H := H5) (o := HO.lst ((mk.map V.int).set j (.int (mm + 1)))) nMP.symm).trans eP5
    have eM6 : upd H5 M (.lst ((mk.map V.int).set j (.int (mm + 1)))) M = some (.lst ((mk.set j (mm + 1)).map V.int)) := by
      rw [upd_same, List.map_set]
    generalize upd H5 M (.lst ((mk.map V.int).set j (.int (mm + 1)))) = H6 at hs6 eP6 eM6
    have hTs6 := hT.mono hs6.same
    obtain ⟨xs1, pt, q1, q2, q3, q4⟩ := hTs6.ix et
    rw [Int.zero_add] at q3
    refine ⟨_, rfl, _, rfl, Pp, _, _, _, rfl, rfl, SqL.of eP6, at_of rfl eq2, ?_⟩
    refine ⟨_, rfl, _, rfl, p, _, _, _, rfl, rfl, q1, q3, pt, _, 2, _, rfl, rfl, q4, rfl, _, _, rfl, rfl, _, rfl, _, rfl, Pp, _, _, j, rfl, rfl, eP6, ?_, ?_⟩
    · have := ixN_nat (n := (pc.map V.int).length) (i := j) (by rw [List.length_map]; exact hjp)
      rw [Int.zero_add] at this
      exact this
    have hnn := hp2.nn
    have hb := hp2.below hf
    have hn1 := (hf.g.2 t (List.mem_of_getElem? et)).2.2.1
    refine ⟨_, ?_, d, mk.set j (mm + 1), pc.set j (q - t.n), Pp, some (.int (j : Nat)), some (.ref G), x9, hs6.mut n0P nPh nPl, ?_, ?_, nMP, n0P, nPh, nPl, hp2, rfl, ?_⟩
    · have hnn1 := hp.nn
      have := sum_set (w := q - t.n) eq
      unfold Pty.left
      omega
    · rw [upd_ne nMP]
      exact eM6
    · rw [upd_same, List.map_set]
    · have q1 : (n : Int) + (mk.set j (mm + 1)).sum - (d : Int) = (n : Int) + mk.sum - d + 1 := by
        rw [sum_set em]
        omega
      rw [q1]
      rfl
end
end EB

namespace EB
open PySem PySem.Spec PyProof.Rows L2
theorem OfAt.ins {K : PySem.W.Frag} {H : Hp} {a : Addr} {ts : List Tr} (o : OfAt K H a ts) : ∃ dx fs, H a = some (.ins (He.ga K "Offer") dx fs) ∧ ∀ m : Str, ((m == "_trades") || ((m == "_period") || ((m == "_tops") || ((m == "_firsts") || (m == "_gaps"))))) = false → fs.lookup m = none := by
  obtain ⟨dx, t, p, q, f, g, e1, _⟩ := o.ex
  exact ⟨dx, _, e1, fun m h => lk_no h⟩
section
variable {P : Program} {w : World} {K : PySem.W.Frag} {mg : Str → Option Value} {base : Heap} (T : Tx K mg)
include T
def spLaw (K : PySem.W.Frag) : Sp := fun vs H Q _ => ∃ (a : Addr) (ns : List Int), vs = [.ref a] ∧ SqL K H a (ns.map V.int) ∧ ns.length ≤ 63 ∧ ∀ H', Q (.bl true) H'
theorem ok_law : FnOk P w K mg base CX0 9 (a_law K) T.fd_law ["_law_script"] (spLaw K) := by
  refine fnK0 (d := d_law) T.F_law sc_law (fun vs H Q E h => ?_) (fun cdv A outer s H vs Q E hr h => ?_)
  · obtain ⟨a, ns, rfl, _⟩ := h
    rfl
  obtain ⟨a, ns, rfl, hS, hl, k⟩ := h
  refine ⟨_, (pss_cons (ps_set (i := 1) sc_law.nd rfl (Or.inl rfl) (pe_cR (ok_law_mix T) (hr.mono (by decide)) T.F_law_mix.kp T.g_law_mix pass0 (pa_cons (pv 0) (pa_cons pe_int pa_nil)))) (pss_cons (ps_for PassesOwn.never rfl (pi_range1 rfl T.n_range (pa_cons pe_int pa_nil)) (pg_name (i := 2) sc_law.nd rfl (Or.inl rfl)) (pss_cons (ps_asg (pe_tup (pa_cons (pe_cR (ok_law_trades T) (hr.mono (by decide)) T.F_law_trades.kp T.g_law_trades pass0 (pa_cons (pv 1) (pa_cons pe_int (pa_cons pe_int pa_nil)))) (pa_cons (pe_cR (ok_law_next T) (hr.mono (by decide)) T.F_law_next.kp T.g_law_next pass0 (pa_cons (pv 1) (pa_cons (pe_ix ix_list (pe_lst (pa_cons pe_int (pa_cons pe_int pa_nil))) (pe_cR (ok_law_next T) (hr.mono (by decide)) T.F_law_next.kp T.g_law_next pass0 (pa_cons (pv 1) (pa_cons pe_int pa_nil))) (fun _ _ => rfl)) pa_nil))) pa_nil))) (pg_tup rfl (pgs_cons (pg_name (i := 3) sc_law.nd rfl (Or.inr rfl)) (pgs_cons (pg_name (i := 4) sc_law.nd rfl (Or.inl rfl)) pgs_nil)))) (pss_cons (ps_set (i := 5) sc_law.nd rfl (Or.inl rfl) (pe_cR (ok_law_offer T) (hr.mono (by decide)) T.F_law_offer.kp T.g_law_offer pass0 (pa_cons (pv 3) pa_nil))) (pss_cons (ps_asg (pe_cR (ok_law_party T) (hr.mono (by decide)) T.F_law_party.kp T.g_law_party pass0 (pa_cons (pv 1) (pa_cons (pv 3) (pa_cons (pv 4) pa_nil)))) (pg_tup rfl (pgs_cons (pg_name (i := 6) sc_law.nd rfl (Or.inl rfl)) (pgs_cons (pg_name (i := 7) sc_law.nd rfl (Or.inl rfl)) (pgs_cons (pg_name (i := 8) sc_law.nd rfl (Or.inl rfl)) pgs_nil))))) (pss_cons (ps_if (pt_not (pt_val (pe_cR (ok_law_alike T) (hr.mono (by decide)) T.F_law_alike.kp T.g_law_alike pass0 (pa_cons (StX.pe_callO (pv 5) T.co_Offer (ok_Offer_call T) (hr.mono (by decide)) pass0 (pa_cons (pv 4) pa_nil)) (pa_cons (pv 6) pa_nil))))) (pss_one (ps_ret pe_bl)) pss_nil) (pss_cons (ps_set (i := 9) sc_law.nd rfl (Or.inl rfl) (pe_lst (pa_cons (pe_methR (pv 5) T.k_Offer T.m_Offer_trades_made (ok_Offer_trades_made T) (hr.mono (by decide)) pass0 (pa_cons (pv 4) pa_nil)) (pa_cons (pe_methR (pv 5) T.k_Offer T.m_Offer_left_over (ok_Offer_left_over T) (hr.mono (by decide)) pass0 (pa_cons (pv 4) pa_nil)) pa_nil)))) (pss_cons (ps_setLc (i := 10) (own := [("_law_some", 11)]) rfl sc_law.nd rfl rfl (sw_true rfl rfl rfl (by decide +kernel)) (pi_tup (pe_tup (pa_cons (pv 7) (pa_cons (pv 8) pa_nil)))) (blkOk_by (own := [("_law_some", 11)]) (N := N_law) (sc := defScope s_law) (by decide +kernel)) (fun _ _ _ _ _ => (pg_name (i := 11) sc_law.nd rfl (Or.inl rfl) (.inr rfl))) (fun _ _ _ _ _ => pts_nil) (fun _ _ _ _ _ => (EBZ.pe_listZipK (K := K) rfl rfl (pa_cons (pe_lc (own := [("_law_one", 12)]) rfl sc_law.nd (pi_tupK (K := K) rfl (pv 3)) (blkOk_by (own := [("_law_one", 12)]) (N := N_law) (by kernel_rfl)) (fun _ _ _ _ _ => (pg_name (i := 12) sc_law.nd rfl (Or.inl rfl) (.inr rfl))) (fun _ _ _ _ _ => pts_nil) (fun _ _ _ _ _ => (pe_ix (ix_tupK (K := K) rfl) (pv 12) pe_int (fun _ _ => rfl)))) (pa_cons (pv 11) pa_nil)) (by rfl) T.n_list (by decide +kernel) (by rfl) T.n_zip))) (pss_one (ps_if (pt_not (pt_val (pe_cR (ok_law_alike T) (hr.mono (by decide)) T.F_law_alike.kp T.g_law_alike pass0 (pa_cons (pe_lc (own := [("_law_one", 12)]) rfl sc_law.nd (pi_list (pv 9)) (blkOk_by (own := [("_law_one", 12)]) (N := N_law) (sc := defScope s_law) (by decide +kernel)) (fun _ _ _ _ _ => (pg_name (i := 12) sc_law.nd rfl (Or.inl rfl) (.inr rfl))) (fun _ _ _ _ _ => pts_nil) (fun _ _ _ _ _ => (LiI.pe_listItems rfl (pv 12) (by rfl) T.n_list (by decide +kernel)))) (pa_cons (pv 10) pa_nil))))) (pss_one (ps_ret pe_bl)) pss_nil))))))))) (pss_one (ps_ret pe_bl)))), ?_⟩
  refine ⟨_, rfl, a, ns, 3, rfl, hS, hl, by decide, by decide, fun H1 h l hs1 => ?_⟩
  refine ⟨4, rfl, by decide, by decide, for_range (n := 4) (fun i σ H2 => HS H H2 h l ∧ ∃ x2 x3 x4 x5 x6 x7 x8 x9 x10 x11 x12, σ = [some (.ref a), some (.ref h), x2, x3, x4, x5, x6, x7, x8, x9, x10, x11, x12]) ⟨hs1, _, _, _, _, _, _, _, _, _, _, _, rfl⟩ ?_ ?_⟩
  · rintro i σ H2 hi ⟨hs2, x2, x3, x4, x5, x6, x7, x8, x9, x10, x11, x12, rfl⟩
    refine ⟨_, rfl, h, l, 3, 12, H, rfl, by decide, by decide, by decide, by decide, hs2, fun H3 p ts hs3 tr3 hne dr => ?_⟩
    have hf := dr.fair
    have hnm := dr.nm
    have C := cf hf
    have hb3 := hs3.re
    have trB := hs3.tr tr3
    have sub3 := hs3.sub
    generalize hid2 H3 h l = B0 at hb3 trB sub3
    -- [9, 61]
    refine ⟨_, rfl, by show 2 ≤ sizeLine; decide, fun L hL => ?_⟩
    have nL := hb3.new hL
    have hsA := hb3.grow (same_new (u := .lst [.int 9, .int 61]) hL)
    have eL : upd H3 L (.lst [.int 9, .int 61]) L = some (.lst [.int 9, .int 61]) := upd_same
    generalize upd H3 L (.lst [.int 9, .int 61]) = HA at hsA eL
    refine ⟨_, rfl, h, l, 2, hid2 HA h l, rfl, by decide, by decide, hsA.re, fun H6 r hs6 r0 r1 => ?_⟩
    have eL6 := hs6.same _ _ (HS.keep (H0 := B0) eL nL.1 nL.2)
    obtain ⟨lim, elim, l0, l1⟩ : ∃ lim : Int, atI [V.int 9, V.int 61] r = some (.int lim) ∧ 0 < lim ∧ lim ≤ 61 := by
      rcases (show r = 0 ∨ r = 1 by omega) with rfl | rfl
      · exact ⟨9, rfl, by decide, by decide⟩
      · exact ⟨61, rfl, by decide, by decide⟩
    refine ⟨L, _, _, _, rfl, rfl, SqL.of eL6, elim, ?_⟩
    have hs6' := hsA.down hs6
    refine ⟨h, l, lim, B0, rfl, l0, by omega, hs6', fun H7 m hs7 m0 m1 => ⟨by show 2 ≤ sizeLine; decide, fun q hq => ?_⟩⟩
    obtain ⟨n, rfl⟩ := Int.eq_ofNat_of_zero_le m0
    have hn : n ≤ 60 := by omega
    refine ⟨q, _, rfl, SqT.of upd_same, rfl, _, _, rfl, _, _, rfl, rfl, ?_⟩
    have hs8 := hs7.grow (same_new (u := .tup [.ref p, .int (n : Nat)]) hq)
    generalize upd H7 q (.tup [.ref p, .int (n : Nat)]) = H8 at hs8
    refine ⟨_, rfl, p, ts, rfl, trB.mono hs8.same, hf, hne, hnm, fun H9 x s9 o9 => ?_⟩
    have hs9 := hs8.grow s9
    have hb9 := hs9.re
    have trX := hs9.tr (trB.mono hs9.same)
    have oB : OfAt K (hid2 H9 h l) x ts := HS.of_ hs8 s9 o9
    have sub9 := sub3.trans hs9.sub
    generalize hid2 H9 h l = B at hb9 trX oB sub9
    -- the party
    refine ⟨_, rfl, _, rfl, _, rfl, h, l, p, ts, n, B, rfl, hb9, trX, hf, by omega, fun H' qq M Pp hs' eq' eM' eP' => ?_⟩
    generalize hD : D (cN ts) n = d at eq' eM' eP'
    refine ⟨qq, _, rfl, SqT.of eq', rfl, _, _, rfl, _, _, rfl, _, _, rfl, rfl, ?_⟩
    have s9B := hs'.same
    obtain ⟨dx, fs, oi, on⟩ := oB.ins
    have iB : StX.InsC (cxOf CX0 P w K mg base N_law d_law.ql (defScope d_law.st) (d_law.adr K) cdv A outer s H E).nox H' x (He.ga K "Offer") := .inr ⟨dx, fs, s9B _ _ oi⟩
    refine ⟨_, rfl, x, rfl, _, rfl, iB, x, ts, n, rfl, oB.mono s9B, hf, by omega, ?_⟩
    rw [hD]
    refine ⟨_, rfl, _, _, .int (d : Nat), rfl, .int _, .int _, .int _, fun HF sF => ⟨true, rfl, iteF ?_⟩⟩
    have hlen3 := hf.g.1
    have sFB := s9B.trans sF
    have em : madeK ts (D (cN ts) n) = ts.map fun t => (Sum.inr t.k, V.int (mdF d t)) := by
      rw [hD]
      exact dict_eq (f := mdF d) hnm.1
    have el : leftK ts (D (cN ts) n) = ts.map fun t => (Sum.inr t.k, V.int (pcF d t)) := by
      rw [hD]
      exact dict_eq (f := pcF d) hnm.1
    refine ⟨_, rfl, x, dx, fs, rfl, sFB _ _ oi, on _ (by decide +kernel), _, rfl, x, ts, n, rfl, oB.mono sFB, hf, by omega, fun HI z1 sI eI => ?_⟩
    rw [em] at eI
    have sIB := sFB.trans sI
    refine ⟨_, rfl, x, dx, fs, rfl, sIB _ _ oi, on _ (by decide +kernel), _, rfl, x, ts, n, rfl, oB.mono sIB, hf, by omega, fun HK z2 sK eK => ?_⟩
    rw [el] at eK
    refine ⟨by show 2 ≤ sizeLine; decide, fun tl htl => ?_⟩
    have s9Q : Same H' (upd HK tl (.lst [.ref z1, .ref z2])) := sF.trans (sI.trans (sK.trans (same_new htl)))
    have etl : upd HK tl (.lst [.ref z1, .ref z2]) tl = some (.lst [.ref z1, .ref z2]) := upd_same
    have ez1 := upd_old (u := .lst [.ref z1, .ref z2]) (sK _ _ eI) htl
    have ez2 := upd_old (u := .lst [.ref z1, .ref z2]) eK htl
    generalize upd HK tl (.lst [.ref z1, .ref z2]) = HQ at s9Q etl ez1 ez2
    have eMQ := s9Q _ _ eM'
    have ePQ := s9Q _ _ eP'
    -- what is due of the trades and of the pieces
    refine ⟨_, rfl, _, rfl, by show 2 ≤ sizeLine; decide, fun tq htq => ⟨tq, rfl, ⟨_, SqT.of upd_same⟩, fun G hG => ?_⟩⟩
    have sG : Same HQ (upd HQ tq (.tup [.ref M, .ref Pp])) := same_new htq
    have etq : upd HQ tq (.tup [.ref M, .ref Pp]) tq = some (.tup [.ref M, .ref Pp]) := upd_same
    generalize upd HQ tq (.tup [.ref M, .ref Pp]) = HG at sG etq hG
    refine lc_tup (xs := [.ref M, .ref Pp]) (fun i H1 => Same HG H1 ∧ ∃ zs : List V, H1 G = some (.lst zs) ∧ zs.length = i ∧ DpAll K (hid H1 G) zs (([prD (mdF d) ts, prD (pcF d) ts]).take i)) ⟨same_new hG, [], upd_same, rfl, .nil⟩ (fun i H1 _ q => Same.tup q.1 (SqT.of etq)) ?_ ?_
    · rintro i1 y H1' hy ⟨sg, zs, ez, hzl, hzd⟩
      obtain ⟨hi1, f', U, ef, ey, eU⟩ : i1 < 2 ∧ ∃ (f' : Tr → Int) (U : Addr), ([prD (mdF d) ts, prD (pcF d) ts])[i1]? = some (prD f' ts) ∧ y = .ref U ∧ HQ U = some (.lst (ts.map fun t => V.int (f' t))) := by
        match i1, hy with
        | 0, hy => exact ⟨by omega, mdF d, M, rfl, (Option.some.inj hy).symm, eMQ⟩
        | 1, hy => exact ⟨by omega, pcF d, Pp, rfl, (Option.some.inj hy).symm, ePQ⟩
        | i + 2, hy => exact nomatch hy
      subst ey
      have sF1 := sG.trans sg
      obtain ⟨ps, h1, h2, h3⟩ := (trX.mono (s9B.trans (s9Q.trans sF1))).ex
      refine ⟨rfl, _, rfl, p, rfl, ⟨_, h1⟩, fun G2 hG2 => ?_⟩
      refine lc_tup (xs := ps.map V.ref) (fun j H2 => Same H1' H2 ∧ H2 G2 = some (.lst ((ts.take j).map fun t => V.str t.k))) ⟨same_new hG2, upd_same⟩ (fun j H2 _ q => Same.tup q.1 h1) ?_ ?_
      · rintro j z H2' hz ⟨s2, e2⟩
        obtain ⟨pt, t, rfl, ep, et, hm, li, hp⟩ := TrAt.at_ h2 h3 hz
        refine ⟨rfl, _, rfl, pt, _, 0, _, rfl, rfl, Same.tup s2 hp, rfl, _, e2, small3 ?_, same_mut s2 hG2, ?_⟩
        · rw [List.length_map, List.length_take]
          omega
        · rw [upd_same, take_at et, List.map_append]
          rfl
      rintro H2' ⟨s2, e2⟩
      rw [List.length_map, h2, List.take_length] at e2
      refine ⟨_, rfl, G2, U, _, _, rfl, SqL.of e2, SqL.of (s2 _ _ (sF1 _ _ eU)), by rw [List.length_map, List.length_map], fun H3' z zt s3 nz nzt hz1 hz2 ez3 ezt => ?_⟩
      have eG3 := s3 _ _ (s2 _ _ ez)
      refine ⟨_, eG3, small3 (by omega), same_mut (sg.trans (s2.trans s3)) hG, zs ++ [.ref z], upd_same, by rw [List.length_append, hzl]; rfl, ?_⟩
      have nGz : z ≠ G := (ne_of_none (s2 _ _ ez) nz).symm
      rw [hid_upd, take_at ef]
      refine dps_snoc (.lst (SqL.of (by rw [hid_ne nGz]; exact ez3)) (dp_zip (by rw [hz2, List.length_map]) fun j b u e1 e2' => ?_)) (dps_mono (hid_mono (s2.trans s3)) hzd)
      obtain ⟨x1, y1, q1, q2, q3⟩ := ezt j b e1
      have nb : b ≠ G := (ne_of_none (s2 _ _ ez) (nzt b (List.mem_of_getElem? e1))).symm
      rw [List.getElem?_map, e2'] at q1 q2
      cases q1
      cases q2
      rw [hid_ne nb]
      exact q3
    rintro H1' ⟨sg, zs, ez, hzl, hzd⟩
    have hzd : DpAll K (hid H1' G) zs [prD (mdF d) ts, prD (pcF d) ts] := hzd
    have hzd2 := dps_mono (hid_same (x := G)) hzd
    have s1F := s9Q.trans (sG.trans sg)
    have s1B := s9B.trans s1F
    -- what is told
    have sQ1 := sG.trans sg
    refine ⟨_, rfl, tl, rfl, ⟨_, SqL.of (sQ1 _ _ etl)⟩, fun G3 hG3 => ?_⟩
    have eG3 := (same_new (u := .lst []) hG3) _ _ ez
    refine lc_list (K := K) (a := tl) (xs := [.ref z1, .ref z2]) (fun i H2 => Same H1' H2 ∧ ∃ zs : List V, H2 G3 = some (.lst zs) ∧ zs.length = i ∧ DpAll K (hid H2 G3) zs (([prD (mdF d) ts, prD (pcF d) ts]).take i)) ⟨same_new hG3, [], upd_same, rfl, .nil⟩ (fun i H2 _ q => SqL.of ((sQ1.trans q.1) _ _ etl)) ?_ ?_
    · rintro i1 y H2' hy ⟨s2, zs', ez', hzl', hzd'⟩
      obtain ⟨hi1, f', U, ef, ey, eU⟩ : i1 < 2 ∧ ∃ (f' : Tr → Int) (U : Addr), ([prD (mdF d) ts, prD (pcF d) ts])[i1]? = some (prD f' ts) ∧ y = .ref U ∧ HQ U = some (.dK (ts.map fun t => (Sum.inr t.k, V.int (f' t)))) := by
        match i1, hy with
        | 0, hy => exact ⟨by omega, mdF d, z1, rfl, (Option.some.inj hy).symm, ez1⟩
        | 1, hy => exact ⟨by omega, pcF d, z2, rfl, (Option.some.inj hy).symm, ez2⟩
        | i + 2, hy => exact nomatch hy
      subst ey
      refine ⟨rfl, _, rfl, U, _, rfl, s2 _ _ (sQ1 _ _ eU), fun HJ p1 as1 sJ nJ1 nJ2 nJ3 eJ prJ => ?_⟩
      have eGJ := sJ _ _ ez'
      refine ⟨_, eGJ, small3 (by omega), same_mut (s2.trans sJ) hG3, zs' ++ [.ref p1], upd_same, by rw [List.length_append, hzl']; rfl, ?_⟩
      have nGz : p1 ≠ G3 := (ne_of_none ez' nJ1).symm
      have hlen : as1.length = ts.length := by
        rw [Paired.length prJ, List.length_map]
      rw [hid_upd, take_at ef]
      refine dps_snoc (.lst (SqL.of (by rw [hid_ne nGz]; exact eJ)) (dp_zip hlen fun j b u e1 e2' => ?_)) (dps_mono (hid_mono sJ) hzd')
      obtain ⟨y1, q1, q2⟩ := LiI.paired_get prJ e1
      have nb : b ≠ G3 := (ne_of_none ez' (nJ2 b (List.mem_of_getElem? e1))).symm
      rw [List.getElem?_map, e2'] at q1
      cases q1
      rw [hid_ne nb]
      exact q2
    rintro H2' ⟨s2, zs', ez', hzl', hzd'⟩
    have hzd' : DpAll K (hid H2' G3) zs' [prD (mdF d) ts, prD (pcF d) ts] := hzd'
    refine ⟨_, rfl, .ref G3, .ref G, .list [prD (mdF d) ts, prD (pcF d) ts], rfl, .lst (SqL.of ez') (dps_mono (hid_same (x := G3)) hzd'), .lst (SqL.of (s2 _ _ ez)) (dps_mono s2 hzd2), ?_, fun HZ sZ => ⟨true, rfl, iteF ?_⟩⟩
    · refine .lst (fun e he => ?_) (by show 2 ≤ 10000; decide)
      have := hf.g.1
      rcases List.mem_cons.mp he with rfl | he
      · exact prD_lev (by omega)
      · cases List.mem_singleton.mp he
        exact prD_lev (by omega)
    have z := hs'.grow (s9Q.trans (sQ1.trans (s2.trans sZ)))
    exact ⟨⟨sub9.trans z.same, hs2.nh, hs2.nl, hs2.ne, z.ex⟩, _, _, _, _, _, _, _, _, _, _, _, rfl⟩
  · rintro σ H2 ⟨hs2, x2, x3, x4, x5, x6, x7, x8, x9, x10, x11, x12, rfl⟩
    exact k _
end
end EB

namespace EB
open PySem PySem.Spec PyProof.Rows L2
abbrev R : PySem.W.OpenRow := PySem.W.OpenLaw.row PySem.Challenge.rw_emptiesback_k03_whole_drinks_in_any_orde
abbrev hk : PySem.W.Hook := hook 5 fas moreB dds
def ob (s : PySem.W.SharedT) : Seen := seen fas moreB dds (He.frG (HandSHeadRun.getT s) (cStatics :: He.asD (HandSHeadRun.getT s) 5))
theorem ob_eq (s : PySem.W.SharedT) : ob s = hk.obs s.abs := by
  have e : HandSHeadRun.getT s = s.abs.heap.get? := funext (HandSHeadRun.getT_eq s)
  unfold ob
  rw [e] <;> rfl
def loose0 : List Str := ["_wall", "__name__", "TradeError", "InvalidOffer", "TooGenerous", "UnknownKind", "InvalidNumber", "MAX_NUMBER", "MAX_LABEL_LENGTH", "DRINK", "is_integer", "is_number", "check_number", "is_label", "is_kind", "cost_of", "drinks_of_period", "tops_of", "firsts_of", "gaps_of"]
def loose1 : List Str := ["value_at", "MAX_LEFT", "_is_trade", "_check_trades", "_check_generosity", "Offer", "_slack", "_repetition", "_never_more", "first_difference", "_law_mix", "_law_next", "_law_alike", "_law_trades", "_law_offer", "_law_buys", "_law_party"]
def loose : List Str := loose0 ++ loose1
theorem run (w : World) : HandSHeadRun.RunEqI R (PySem.W.view R.prog [0, 42]) hk ob 4000 loose w := by
  unfold HandSHeadRun.RunEqI
  kernel_rfl
end EB

namespace EB
open PySem PySem.Spec PyProof.Rows L2
theorem facts {P : Program} {w : World} {K : PySem.W.Frag} {h : Heap} {mg : Str → Option Value} {f : Addr} (X : K.In h) (G : h.Ns mainGlobals mg) (hfa : mg ("law" : Str) = some (.ref f)) (c : Says fas moreB dds K) :
    ∃ fd : FuncData, (∀ (s : Shared) (v : Value), BindsTo s fd ⟨[v], []⟩ [("_law_script", v)]) ∧ ∀ base : Heap, K.In base → base.Ns mainGlobals mg → FnOk P w K mg base CX0 9 f fd ["_law_script"] (spLaw K) := by
  obtain ⟨T⟩ := tx_of X G c
  have e := hfa.symm.trans T.g_law
  cases e
  have b := FunD.bindsA (ps := ["_law_script"]) (show FunD K d_law.nm d_law.ql (defArgs d_law.st) (defBody d_law.st) (defScope d_law.st) [] [] (d_law.adr K) T.fd_law from T.F_law) fun _ _ _ _ _ _ us hl => match us, hl with | [_], _ => rfl
  exact ⟨T.fd_law, fun s v => b s [v] rfl, fun base _ _ => ok_law T⟩
end EB
open PySem PySem.W PySem.Calls PyProof.Rows in
theorem PySem.Challenge.cw_emptiesback_k03_whole_drinks_in_any_orde_holds : PySem.Challenge.rw_emptiesback_k03_whole_drinks_in_any_orde.Holds := by
  w_on; o_law
  refine HandSHeadRun.head_imp (r := OpenLaw.row PySem.Challenge.rw_emptiesback_k03_whole_drinks_in_any_orde) (q := view (OpenLaw.row PySem.Challenge.rw_emptiesback_k03_whole_drinks_in_any_orde).prog [0, 42]) (H := EB.hk) (ob := EB.ob) (M := 4000) (loose := EB.loose) (d := HandSHeadRun.topDef (OpenLaw.row PySem.Challenge.rw_emptiesback_k03_whole_drinks_in_any_orde).prog 42) (kwd := [])
    EB.ob_eq EB.run (by kernel_rfl) (by kernel_rfl) (by kernel_rfl) (by rfl) (by first | assumption | decide +kernel) (by decide +kernel) ⟨rfl, rfl, rfl, rfl, rfl, by decide +kernel⟩ ?hw ?hc
  case hw => w_witness2
  case hc =>
    refine L2.walk_ofE (l := PySem.Challenge.rw_emptiesback_k03_whole_drinks_in_any_orde) (n := 63) (k := 9) (x := "_law_script") (CX := L2.CX0) rfl (by decide) (by kernel_rfl) ⟨rfl, by decide, by decide⟩ ?F (fun _ _ _ _ z => z)
    intro w mg fa h Y G hmg0
    obtain ⟨K, KX, c⟩ := Y
    have hmg : mg ("law" : PySem.Str) = some (.ref fa) := by
      have e : (HandSHeadRun.topDef (OpenLaw.row PySem.Challenge.rw_emptiesback_k03_whole_drinks_in_any_orde).prog 42).name = ("law" : PySem.Str) := by kernel_rfl
      rw [← e]
      exact hmg0
    obtain ⟨fd, hb, hF⟩ := EB.facts (P := (PySem.Challenge.rw_emptiesback_k03_whole_drinks_in_any_orde).prog) (w := w) KX G hmg c
    exact ⟨K, fd, EB.spLaw K, KX, hb, fun H a ns hl _ hS => ⟨a, ns, rfl, hS, hl, fun _ => rfl⟩, hF⟩

