import PyProof.Rows.All
import Wide.All
import OpenK.AllK
import Wide.FinOn
import KE.KStateDown
import KE.KMathGC
import HandS.ForMost
import HandS.More
import HandS.WordsExc
import HandS.Defaults
import HandS.Property
import HandS.ClsMeth
import HandS.Star
import HandS.Gcd
import HandS.Wide
import HandS.IsInst
import HandS.Walk
import HandS.Style
import HandS.TupAny
import HandS.DictComp
import HandS.Head0
import HandS.Head1
import HandS.Head2
import HandS.HeadEnd
import HandS.HeadHook1
import HandS.HeadHook2
import HandS.HeadNt
import KE.GoesEnum
import KE.KTupSum
import HandS.NoneIn
import HandS.SlotsOwn
import HandS.GenList
import HandS.Head3
import PySem.Challenge.RW_emptiesback_k15_whole_simple_offers
set_option Elab.async false
set_option linter.all false
set_option maxRecDepth 100000
set_option maxHeartbeats 0
/-! What every law here leans on: calls by positional promises, facts of the head, a heap that only grows. -/
namespace EB
open PySem PySem.Spec PyProof.Rows L2
section
variable {X : Cx} {CX : CXT} {k : Nat} {f C : Addr} {sp : Sp} {E : XK} {x m : Str} {e o : Expr} {es : List Expr} {ta : TE} {t : TA} {p pos apos : Pos}
/-- the promise sp asked of the values of the arguments -/
def tCR (sp : Sp) (E : XK) (t : TA) : TE := fun σ H Q => t σ H fun vs H1 => sp vs H1 Q E
theorem pe_cR (F : FnR X.prog X.w X.K X.mg X.base CX k f sp) (hr : Room k X.A) (hk : PySem.W.keepIn X.K (.ref f) = true) (hm : X.mg x = some (.ref f)) (hx : Passes CX X E) (ha : PA X (e :: es) t) (hg : Gl X x := by rfl)
    (hd : (x == ("__debug__" : Str)) = false := by decide) (he : starEach (e :: es) X.env = (false, eval e X.env) :: starEach es X.env := by rfl) (hp : (backTo pos (starEach es X.env)).any (·.1) = false := by rfl) :
    PE X (.Call (.Name x p) (e :: es) [] pos) (tCR sp E t) := by
  constructor
  intro pins s σ H Q I h
  refine wpAny_Call_Name_kw (ld_glob I hg hm ?_ hd)
  refine PySem.W.callWith_K (h₀ := X.base) I.ok.mod.kin hk (thn (ha.run pos pins s σ H _ I h) fun us s1 ⟨vs, H1, I1, r, q⟩ => ⟨I1.kIn, wpAny_call (run_fnR F hr hx I1 r q)⟩) he hp
/-- a method without arguments -/
def tM0 (C : Addr) (m : Str) (sp : Sp) (E : XK) (ta : TE) : TE := fun σ H Q => ta σ H fun x H1 => ∃ a dx fs, x = .ref a ∧ H1 a = some (.ins C dx fs) ∧ fs.lookup m = none ∧ sp [x] H1 Q E
end
/-- a tuple as the target of a comprehension -/
theorem pg_tupB {X : Cx} {s : Shared} {H : Hp} {scope : Scope} {cenv : Env} {fp : List Addr} {es : List Expr} {k : Nat} {t : TGs} {n : Nat} {pos : Pos} (h : PGs (X.blk s H scope cenv fp) es t) (hc : X.calm = true := by rfl)
    (hn : (assignEach es cenv).length = n := by rfl) (hst : (assignEach es cenv).findIdx? (·.1) = none := by rfl) : PG (X.blk s H scope cenv fp) (.Tuple es k pos) (gTup X.K n t) := pg_tup (X := X.blk s H scope cenv fp) hc h hn hst
/-! ### a heap that only grows -/
theorem same_new {H : Hp} {q : Addr} {u : HO} (h : H q = none) : Same H (upd H q u) := fun b o e => by
  rw [upd_ne (ne_of_none e h)]
  exact e
theorem same_mut {H0 H : Hp} {q : Addr} {u : HO} (s : Same H0 H) (h : H0 q = none) : Same H0 (upd H q u) := fun b o e => by
  rw [upd_ne (ne_of_none e h)]
  exact s b o e
theorem Same.tup {K : PySem.W.Frag} {H H' : Hp} {a : Addr} {xs : List V} (e : Same H H') (h : SqT K H a xs) : SqT K H' a xs := by
  rcases h with (h | ⟨o, h⟩) | h
  · exact .inl (.inl (e _ _ h))
  · exact .inl (.inr ⟨o, e _ _ h⟩)
  · exact .inr h
theorem upd_old {H : Hp} {a q : Addr} {o u : HO} (h : H a = some o) (n : H q = none) : upd H q u a = some o := by
  rw [upd_ne (ne_of_none h n)]
  exact h
/-! ### the head's facts -/
/-- the object of a def -/
def fdAt (K : PySem.W.Frag) (a : Addr) : Option FuncData := match K.lookup a with
  | some o => (match o.data with
    | .func fd => some fd
    | _ => none)
  | none => none
abbrev FS : Type := Str × Str × Arguments × FuncBody × Scope × Addr × List (Str × Addr) × Addr
def fsOf (fd : FuncData) : FS := (fd.name, fd.qualname, fd.params, fd.body, fd.scope, fd.globals, fd.closure, fd.builtins)
/-- one def of the text: where it is found, what it is -/
structure DD where
  adr : PySem.W.Frag → Addr
  nm : Str
  ql : Str
  st : Stmt
  df : List He.Dv := []
def DD.fs (d : DD) : FS := (d.nm, d.ql, defArgs d.st, .stmts (defBody d.st), defScope d.st, mainGlobals, [], builtinsNs)
def DD.obs (K : PySem.W.Frag) (d : DD) : Option FS := (fdAt K (d.adr K)).map fsOf
def DD.ok (K : PySem.W.Frag) (d : DD) : Bool := PySem.W.keepIn K (.ref (d.adr K)) && (match fdAt K (d.adr K) with
  | some fd => PySem.W.codeIn K fd.code d.ql && He.dflB K fd.defaults (d.df.map (He.Dv.v K))
  | none => false)
/-- the def d, its function's data fd -/
abbrev FnP (K : PySem.W.Frag) (d : DD) (fd : FuncData) : Prop := FunD K d.nm d.ql (defArgs d.st) (defBody d.st) (defScope d.st) (d.df.map (He.Dv.v K)) [] (d.adr K) fd
theorem DD.fun {K : PySem.W.Frag} {d : DD} (e : d.obs K = some d.fs) (c : d.ok K = true) : ∃ fd, FnP K d fd := by
  obtain ⟨kp, c2⟩ := Bool.and_eq_true_iff.mp c
  unfold DD.obs at e
  cases q : fdAt K (d.adr K) with
  | none =>
    rw [q] at e
    cases e
  | some fd =>
    rw [q] at e c2
    obtain ⟨c3, c4⟩ := Bool.and_eq_true_iff.mp c2
    unfold fdAt at q
    cases l : K.lookup (d.adr K) with
    | none =>
      rw [l] at q
      cases q
    | some o =>
      rw [l] at q
      obtain ⟨oc, od, dt, osl⟩ := o
      cases dt with
      | func fd' =>
        have ef : fd' = fd := Option.some.inj q
        subst ef
        have e2 : fsOf fd' = d.fs := Option.some.inj e
        obtain ⟨n1, n2, n3, n4, n5, n6, n7, n8, n9, n10, n11, n12, n13, n14, n15⟩ := fd'
        simp only [fsOf, DD.fs, Prod.mk.injEq] at e2
        obtain ⟨h1, h2, h3, h4, h5, h6, h7, h8⟩ := e2
        subst h1 h2 h3 h4 h5 h6 h7 h8
        exact ⟨_, ⟨oc, od, n8, n9, n10, n11, n12, n13, n14, osl, rfl, l, c3, He.dflB_ok c4, .inl rfl⟩, kp⟩
      | _ => cases q
/-- a property's getter -/
def propG (K : PySem.W.Frag) (C p : Addr) : Addr := match PySem.W.recIn K p "property" with
  | some (.ref g :: _) => g
  | _ => 0
def okProp (K : PySem.W.Frag) (x f : Str) : Bool :=
  He.eqO (PySem.W.findIn K (.ref (He.ga K x)) f) (some (some (.ref (He.ma K (He.ga K x) f)))) && (He.eqO (PySem.W.specialIn K (.ref (He.ma K (He.ga K x) f)) "__get__") (some (some (.builtin "property.__get__"))) &&
  (decide (PySem.W.takesIn K (.ref (He.ma K (He.ga K x) f)) = some true) && (match PySem.W.recIn K (He.ma K (He.ga K x) f) "property" with
    | some (.ref g :: _) => decide (g = propG K (He.ga K x) (He.ma K (He.ga K x) f))
    | _ => false)))
theorem okProp_of {K : PySem.W.Frag} {x f : Str} (h : okProp K x f = true) : PropOf K (He.ga K x) f (He.ma K (He.ga K x) f) (propG K (He.ga K x) (He.ma K (He.ga K x) f)) := by
  obtain ⟨h1, h⟩ := Bool.and_eq_true_iff.mp h
  obtain ⟨h2, h⟩ := Bool.and_eq_true_iff.mp h
  obtain ⟨h3, h4⟩ := Bool.and_eq_true_iff.mp h
  refine ⟨He.eqO_ok h1, He.eqO_ok h2, of_decide_eq_true h3, ?_⟩
  split at h4
  · rename_i g rest e
    exact ⟨rest, by rw [e, ← of_decide_eq_true h4]⟩
  · cases h4
def okCallO (K : PySem.W.Frag) (x : Str) : Bool :=
  He.eqO (PySem.W.findIn K (.ref (He.ga K x)) "__call__") (some (some (.ref (He.ma K (He.ga K x) "__call__")))) && (PySem.W.isFn K (.ref (He.ma K (He.ga K x) "__call__")) && PySem.W.fnIn K (He.ma K (He.ga K x) "__call__"))
theorem okCallO_of {K : PySem.W.Frag} {x : Str} (h : okCallO K x = true) : StX.CallO K (He.ga K x) (He.ma K (He.ga K x) "__call__") := by
  obtain ⟨h1, h⟩ := Bool.and_eq_true_iff.mp h
  obtain ⟨h2, h3⟩ := Bool.and_eq_true_iff.mp h
  exact ⟨He.eqO_ok h1, h2, h3⟩
def okBlt (K : PySem.W.Frag) (x : Str) (id : String) : Bool := He.eqO (PySem.W.nsIn K mainGlobals x) (some (some (.builtin id)))
theorem okBlt_of {K : PySem.W.Frag} {h : Heap} {mg : Str → Option Value} {x : Str} {id : String} (X : K.In h) (G : h.Ns mainGlobals mg) (c : okBlt K x id = true) : mg x = some (.builtin id) := PySem.W.mg_of X G (He.eqO_ok c)
/-- all that is looked at behind the top -/
abbrev Seen : Type := Bool × List (Option FS)
def seen (fa : List He.Fa) (more : PySem.W.Frag → Bool) (ds : List DD) (K : PySem.W.Frag) : Seen := ((fa.all fun f => f.ok K) && (more K && ds.all fun d => d.ok K), ds.map fun d => d.obs K)
def want (ds : List DD) : Seen := (true, ds.map fun d => some d.fs)
def Says (fa : List He.Fa) (more : PySem.W.Frag → Bool) (ds : List DD) (K : PySem.W.Frag) : Prop := seen fa more ds K = want ds
def hook (n : Nat) (fa : List He.Fa) (more : PySem.W.Frag → Bool) (ds : List DD) : PySem.W.Hook where
  α := Seen
  obs := fun s => seen fa more ds (He.frG s.heap.get? (cStatics :: He.asD s.heap.get? n))
  val := fun _ => want ds
  says := fun _ h => ∃ K : PySem.W.Frag, K.In h ∧ Says fa more ds K
  of := fun _ _ e => ⟨_, He.frG_in, e⟩
  keeps := fun _ _ _ ⟨K, hK, c⟩ k => ⟨K, PySem.W.Frag.In.keeps hK k, c⟩
section
variable {fa : List He.Fa} {more : PySem.W.Frag → Bool} {ds : List DD} {K : PySem.W.Frag}
theorem Says.bools (c : Says fa more ds K) : (∀ f ∈ fa, f.ok K = true) ∧ more K = true ∧ ∀ d ∈ ds, d.ok K = true := by
  have c1 : ((fa.all fun f => f.ok K) && (more K && ds.all fun d => d.ok K)) = true := congrArg (fun z : Seen => z.1) c
  obtain ⟨c2, c3⟩ := Bool.and_eq_true_iff.mp c1
  obtain ⟨c4, c5⟩ := Bool.and_eq_true_iff.mp c3
  exact ⟨fun f h => List.all_eq_true.mp c2 f h, c4, fun d h => List.all_eq_true.mp c5 d h⟩
theorem Says.fact (c : Says fa more ds K) (i : Nat) {f : He.Fa} (h : fa[i]? = some f := by rfl) : f.ok K = true := c.bools.1 f (List.mem_of_getElem? h)
theorem Says.fn (c : Says fa more ds K) (i : Nat) {d : DD} (h : ds[i]? = some d := by rfl) : ∃ fd, FnP K d fd := by
  have e : ds.map (fun d => d.obs K) = ds.map fun d => some d.fs := congrArg (fun z : Seen => z.2) c
  have e2 : (ds.map fun d => d.obs K)[i]? = (ds.map fun d => some d.fs)[i]? := by rw [e]
  rw [List.getElem?_map, List.getElem?_map, h] at e2
  exact DD.fun (Option.some.inj e2) (c.bools.2.2 d (List.mem_of_getElem? h))
end
end EB
namespace EB
open PySem PySem.Spec PyProof.Rows L2
theorem pe_cI {X : Cx} {x : Str} {i : Int} {pos : Pos} (hm : ∃ t, X.mg x = some (.int i t)) (hg : Gl X x := by rfl) (hd : (x == ("__debug__" : Str)) = false := by decide) : PE X (.Name x pos) (tC (.int i)) := by
  obtain ⟨t, h⟩ := hm
  exact pe_glob hg h ⟨t, rfl⟩ hd
theorem pe_cS {X : Cx} {x z : Str} {pos : Pos} (hm : ∃ t, X.mg x = some (.str z t)) (hg : Gl X x := by rfl) (hd : (x == ("__debug__" : Str)) = false := by decide) : PE X (.Name x pos) (tC (.str z)) := by
  obtain ⟨t, h⟩ := hm
  exact pe_glob hg h ⟨t, rfl⟩ hd
theorem pe_cC {X : Cx} {x : Str} {C : Addr} {pos : Pos} (hm : X.mg x = some (.ref C)) (hg : Gl X x := by rfl) (hd : (x == ("__debug__" : Str)) = false := by decide) : PE X (.Name x pos) (tC (.ref C)) := pe_glob hg hm rfl hd
/-- a constant of a class, read off the class -/
def okRead (K : PySem.W.Frag) (x : Str) : Bool := PySem.W.readsIn K (He.ga K x) (.type "type") && He.eqO (PySem.W.specialIn K (.ref (He.ga K x)) "__getattribute__") (some (some (.builtin "type.__getattribute__")))
theorem okRead_of {K : PySem.W.Frag} {x : Str} (h : okRead K x = true) : ClX.CRead K (He.ga K x) (.type "type") := by
  obtain ⟨h1, h2⟩ := Bool.and_eq_true_iff.mp h
  exact ⟨h1, He.eqO_ok h2⟩
def okCVal (K : PySem.W.Frag) (x f : Str) (v : V) : Bool := match PySem.W.findCls K (.ref (He.ga K x)) (.type "type") f with
  | some (.val u) => He.relB v u
  | _ => false
theorem okCVal_of {K : PySem.W.Frag} {x f : Str} {v : V} (h : okCVal K x f v = true) : ∃ u, ClX.CVal K (He.ga K x) (.type "type") f v u := by
  unfold okCVal at h
  split at h
  · rename_i u e
    exact ⟨u, e, He.relB_ok h⟩
  · cases h
/-! ### the same rules with the written part named: within a comprehension it may not hang on the block -/
section
variable {X : Cx} {K : PySem.W.Frag}
theorem ix_listK (h : X.K = K) : IxR X (rIxL K) := h ▸ ix_list
theorem ix_seqK (h : X.K = K) : IxR X (rIx K) := h ▸ ix_seq
theorem ix_tupK (h : X.K = K) : IxR X (rIxT K) := h ▸ ix_tup
theorem sl_listK (h : X.K = K) : SlR X (rSlL K) := h ▸ sl_list
theorem sl_tupAK (h : X.K = K) : SlR X (rSlA K) := h ▸ sl_tupA
theorem op_catAK (h : X.K = K) : OpR X (binaryOp .Add) (rCatA K) := h ▸ op_catA
theorem op_in_seqK (h : X.K = K) : OpR X (compareOp .In) (rIn K false) := h ▸ op_in_seq
theorem op_notIn_seqK (h : X.K = K) : OpR X (compareOp .NotIn) (rIn K true) := h ▸ op_notIn_seq
def rLenK (K : PySem.W.Frag) : List V → Hp → VK → Prop := fun xs H Q => ∃ p ys, xs = [.ref p] ∧ (SqL K H p ys ∨ SqT K H p ys) ∧ Q (.int ys.length) H
theorem call_len_seqK (h : X.K = K) : CallR X (.builtin "len") (rLenK K) := h ▸ call_len_seq
theorem cr_sumK (hc : X.calm = true) (h : X.K = K) : CallR X (.builtin "sum") (rSum K) := h ▸ cr_sum hc
theorem pi_listK {tg l : Expr} {tl : TE} (h : X.K = K) (hl : PE X l tl) : PI X tg l (iList K tl) := h ▸ pi_list hl
theorem pi_tupK {tg l : Expr} {tl : TE} (h : X.K = K) (hl : PE X l tl) : PI X tg l (iTup K tl) := h ▸ pi_tup hl
theorem pe_fldK {e : Expr} {f : Str} {ta : TE} {pos : Pos} (h : X.K = K) (he : PE X e ta) (hb : attributeBase e f X.env (eval e X.env) = eval e X.env) : PE X (.Attribute e f pos) (tFld K ta f) := h ▸ pe_fld he hb
end
end EB

/-! a classmethod of an own class, and a class called by a local name -/
namespace EB
open PySem PySem.Spec PyProof.Rows L2
def okCMet (K : PySem.W.Frag) (x f : Str) : Bool := He5.wrapB K (He.ga K x) "classmethod" "classmethod.__get__" f && PySem.W.fnIn K (He5.wf K (He.ga K x) "classmethod" f)
theorem okCMet_of {K : PySem.W.Frag} {x f : Str} (h : okCMet K x f = true) : ClX.CMet K (He.ga K x) (.type "type") f (He.ma K (He.ga K x) f) (He5.wf K (He.ga K x) "classmethod" f) := by
  obtain ⟨h1, h2⟩ := Bool.and_eq_true_iff.mp h
  exact He5.cmet_of h1 h2
section
variable {X : Cx} {CX : CXT} {k : Nat} {C f : Addr} {sp : Sp} {E : XK} {x : PySem.Str} {np pos : Pos} {e : Expr} {es : List Expr} {tf : TE} {t : TA}
/-- C(e, ..), C read from a name of any kind -/
def tMakeV (C : Addr) (sp : Sp) (E : XK) (tf : TE) (t : TA) : TE := fun σ H Q => tf σ H fun c H1 => c = .ref C ∧ StX.tMakeR C sp E t σ H1 Q
theorem pe_makeV (M : Mk X.K C f) (F : FnR X.prog X.w X.K X.mg X.base CX k f sp) (hr : Room (k + 1) X.A) (hx : Passes CX X E) (hf : PE X (.Name x np) tf) (ha : PA X (e :: es) t)
    (he : starEach (e :: es) X.env = (false, eval e X.env) :: starEach es X.env := by rfl) (hpl : (backTo pos (starEach es X.env)).any (·.1) = false := by rfl) : PE X (.Call (.Name x np) (e :: es) [] pos) (tMakeV C sp E tf t) := by
  refine ⟨fun pins s σ H Q I h => ?_⟩
  refine wpAny_Call_Name_kw (thn (hf.run pins s σ H _ I h) fun u s1 ⟨c, H1, I1, rc, ec, q1⟩ => ?_)
  subst ec
  obtain rfl : u = Value.ref C := rc
  refine PySem.W.callWith_K (h₀ := X.base) I.ok.mod.kin M.kp (thn (ha.run pos pins s1 σ H1 _ I1 q1) fun us s2 ⟨vs, H2, I2, r, q⟩ => ⟨I2.kIn, ?_⟩) he hpl
  exact StX.run_makeR M F hr hx I2 r q
end
end EB

/-! enumerate over a tuple; lcm. -/
namespace EB
open PySem PySem.Spec PyProof.Rows L2
def rLcm : List V → Hp → VK → Prop := fun vs H Q => ∃ x y : Int, vs = [.int x, .int y] ∧ x.natAbs < 2 ^ 64 ∧ y.natAbs < 2 ^ 64 ∧ Q (.int ((x.natAbs.lcm y.natAbs : Nat) : Int)) H
theorem cr_lcm {X : Cx} : CallR X (.builtin "math.lcm") rLcm := by
  rintro pins s σ H vs us Q I r ⟨x, y, rfl, hx, hy, q⟩
  obtain ⟨t, u, rfl⟩ := Vals.int2 r
  exact PySem.W.mc_lcm hx hy fun _ => ⟨.int _, H, I.tok _, ⟨_, rfl⟩, q⟩
/-- sum of a tuple of ints -/
def rSumT (K : PySem.W.Frag) : List V → Hp → VK → Prop := fun vs H Q => ∃ (a : Addr) (ns : List Int), vs = [V.ref a] ∧ SqT K H a (ns.map V.int) ∧ Q (.int ns.sum) H
theorem cr_sumT {X : Cx} (hc : X.calm = true) : CallR X (.builtin "sum") (rSumT X.K) := by
  rintro pins s σ H vs us Q I r ⟨a, ns, rfl, hs, q⟩
  obtain ⟨its, rv, ht, _⟩ := I.tuple hs
  rw [Vals.ref1 r]
  have hi : IntsAre its ns := rv.ints
  obtain ⟨xs, e⟩ := hi.allInts.items
  have hn : numsOf (intItems xs).toList = ns := by
    rw [← e]
    exact hi.numsOf
  rw [nums_intItems] at hn
  have ht2 : s.heap.IsTuple a (intItems xs) := by
    rw [← e]
    exact ht
  refine PySem.W.ktm_sumG (I.ok.hd hc) ht2 fun h' tk t' hk => ?_
  rw [preSum_eq, List.take_of_length_le (by simp), hn]
  exact ⟨.int _, H, I.kept hk, ⟨_, rfl⟩, q⟩
/-- o.m(), a positional promise -/
theorem pe_methR0 {X : Cx} {CX : CXT} {k : Nat} {C f : Addr} {m : Str} {sp : Sp} {E : XK} {o : Expr} {ta : TE} {apos pos : Pos} {pl : Sem Bool} (he : PE X o ta) (c : Cls X.K C) (hm : Meth X.K C m f) (F : FnR X.prog X.w X.K X.mg X.base CX k f sp) (hr : Room k X.A) (hx : Passes CX X E)
    (ht : eval (.Call (.Attribute o m apos) [] [] pos) X.env = (do
      let v ← eval o X.env
      standAt apos.atName
      let (g, fst) ← holding [v] (getMethod v m pl)
      callWith pos g fst (backTo pos (starEach [] X.env)) (backToKw pos (keywordEach [] X.env))) := by rfl) : PE X (.Call (.Attribute o m apos) [] [] pos) (tM0 C m sp E ta) := by
  constructor
  intro pins s σ H Q I h
  refine PySem.W.methodCall_KW (pl := pl) (thn (he.run pins s σ H _ I h) fun u s1 ⟨x, H1, I1, rx, a, dx, fs, ex, ea, l, q⟩ => ?_) ht
  subst ex
  obtain rfl : u = Value.ref a := rx
  refine getmeth_ok I1 ea c hm l ?_
  exact PySem.W.callWith_K0 (first := [.ref a]) I1.kIn hm.kp (wpAny_call (run_fnR (us := [.ref a]) (vs := [.ref a]) F hr hx I1 (.cons rfl .nil) q))
theorem meets_enumV {v : Value} {o : Obj} {G : Heap → Prop} (B : Begins v o G) :
    Meets (Builtin.«enumerate.__new__» ⟨[.type "enumerate", v], []⟩) (fun _ R s => G s.heap ∧
      R (.ok (.ret (.ref (s.heap.push o).objs.size))) { s with heap := (s.heap.push o).push { cls := .type "enumerate", data := .fields #[.none, .bool false, .ref s.heap.objs.size, rawInt 0, .none, .none] } }) :=
  .of_wp fun prog w A R s h => by
    obtain ⟨hp, g, d, tk, os⟩ := s
    obtain ⟨h1, h⟩ := h
    have hsub := sub_enumerate
    have q1 : ∀ {A' : Around} {E : Value → Shared → Prop} {Q : Value → Shared → Prop}, Q (.ref hp.objs.size) ⟨hp.push o, g, d, tk, os⟩ → wpAny (model prog w) A' (pyIter v) Q E ⟨hp, g, d, tk, os⟩ :=
      fun q => B.iter prog w _ _ ⟨hp, g, d, tk, os⟩ _ h1 q
    wp_walk using q1
    refine wpAny_stack_any fun st => wpAny_pure ?_
    split
    · rename_i c _ _ _ _ _
      cases (c == Value.type "enumerate")
      · wp_walk using q1
        exact ⟨_, rfl, h⟩
      · wp_walk using q1
        exact ⟨_, rfl, h⟩
    · wp_walk using q1
      exact ⟨_, rfl, h⟩
theorem call_enumT {prog : Program} {w : World} {A : Around} {E : Value → Shared → Prop} {s : Shared} {a : Addr} {its : Array Value} {Q : Value → Shared → Prop} (ht : s.heap.IsTuple a its)
    (h : ∀ h', IsEnum h' (s.heap.objs.size + 1) s.heap.objs.size 0 .none → h'.IsTupleIter s.heap.objs.size a 0 → (∀ b o, s.heap.get? b = some o → h'.get? b = some o) → Q (.ref (s.heap.objs.size + 1)) { s with heap := h' }) :
    wpAny (model prog w) A (call (.type "enumerate") [.ref a]) Q E s := by
  refine callType_new F.called_enumerate (by decide) (F.typeCall_enumerate_1 _) (F.newCall_enumerate_1 _) (fun obj => F.args_object_init_2 obj _) F.entry_enumerate_new (meets_enumV (begins_tuple a its)) ⟨ht, ?_⟩
  have hz : (s.heap.push { cls := .type "tuple_iterator", data := .fields #[.ref a, .int 0 0] }).objs.size = s.heap.objs.size + 1 := Heap.size_push ..
  show _ ∧ _
  rw [hz]
  have he : IsEnum ((s.heap.push { cls := .type "tuple_iterator", data := .fields #[.ref a, .int 0 0] }).push { cls := .type "enumerate", data := .fields #[.none, .bool false, .ref s.heap.objs.size, rawInt 0, .none, .none] }) (s.heap.objs.size + 1) s.heap.objs.size 0 .none := by
    have z := Heap.get?_push_size (s.heap.push { cls := .type "tuple_iterator", data := .fields #[.ref a, .int 0 0] }) (o := { cls := .type "enumerate", data := .fields #[.none, .bool false, .ref s.heap.objs.size, rawInt 0, .none, .none] }) rfl
    rw [hz] at z
    exact z
  exact ⟨⟨_, he, rfl⟩, h _ he ⟨_, Heap.get?_push_of_some _ (Heap.get?_push_size _ rfl), rfl, rfl⟩ fun b o x => Heap.get?_push_of_some _ (Heap.get?_push_of_some _ x)⟩
/-- the tuple at a as it stands at each turn, each item in a new pair with its place -/
def ItE (K : PySem.W.Frag) (a : Addr) : It :=
  ⟨fun i H => ∃ (xs : List V) (x : V), SqT K H a xs ∧ xs[i]? = some x, fun i H v H' => ∃ q x, v = .ref q ∧ H q = none ∧ H' = upd H q (.tup [.int (i : Nat), x]) ∧ ∀ xs, SqT K H a xs → xs[i]? = some x,
    fun i H => ∃ xs : List V, SqT K H a xs ∧ xs.length = i⟩
theorem turn_E {P : Program} {w : World} {K : PySem.W.Frag} {elts : List Expr} {kk : Nat} {tpos : Pos} (a e it : Addr) :
    Turn P w K (.Tuple elts kk tpos) (ItE K a) [e, it] e (fun i h => (∃ old, IsEnum h e it ((i : Nat) : Int) old) ∧ h.IsTupleIter it a i ∧ e ≠ it ∧ a ≠ it ∧ a ≠ e) where
  mem := by simp
  obj := fun i h st b hb => by
    obtain ⟨⟨old, he⟩, ⟨o, ho, hc, hd⟩, _⟩ := st
    rcases (show b = e ∨ b = it by simpa using hb) with rfl | rfl
    · exact ⟨_, he, fun v q => nomatch q⟩
    · exact ⟨o, ho, fun v q => by rw [hd] at q; cases q⟩
  keep := fun i h h' st k => by
    obtain ⟨⟨old, he⟩, hi, hne⟩ := st
    exact ⟨⟨old, k e (by simp) _ he⟩, hi.at fun o q => k it (by simp) o q, hne⟩
  item := by
    intro X hP hw hK hc i pins s σ H E I hf st hg
    subst hP hw hK
    obtain ⟨⟨old, he⟩, hit, hne, hai, hae⟩ := st
    obtain ⟨xs, x, hq, hx⟩ := hg
    obtain ⟨its, rv, p, hz⟩ := I.tuple hq
    obtain ⟨u, hu, ru⟩ := rv.get hx
    have hlt : i < its.toArray.size := by
      have z := (List.getElem?_eq_some_iff.mp hu).1
      simpa using z
    have hel : e < s.heap.objs.size := Heap.lt_size he
    have hil : it < s.heap.objs.size := by
      obtain ⟨_, q, _⟩ := hit
      exact Heap.lt_size q
    have p' : s.heap.IsTuple a its.toArray := p
    refine wpAny_pyNext_enum_itemC (Draws.tuple (prog := X.prog) (w := X.w) (show X.A.in1.handled = none from I.ok.hd hc) it a hai its.toArray) he ⟨hit, p'⟩ hlt hne (by simp [hne, Ne.symm hae]) fun u' h' tk hu' ho hs' hT hsz hk => ?_
    have eu : u' = u := by
      have z : its.toArray[i]? = some u' := hu'
      rw [show its.toArray[i]? = some u by simpa using hu] at z
      exact (Option.some.inj z).symm
    subst eu
    refine ⟨_, rfl, wpAny_letOwnedTupleGo_enum (s := { s with heap := h', toks := tk + 1 }) ho fun h'' he' sb => ?_⟩
    have hT2 : h''.get? s.heap.objs.size = some { cls := .type "tuple", data := .seq #[.int i tk, u'] } := (sb.2 _ (Nat.ne_of_gt hel)).trans hT
    have new : ObjOk X.prog X.w (upd H s.heap.objs.size (.tup [.int (i : Nat), x])) h'' s.heap.objs.size (.tup [.int (i : Nat), x]) := by
      refine ⟨?_, [.int i tk, u'], .cons ⟨_, rfl⟩ (.cons ru .nil), ⟨_, hT2, rfl, _, rfl⟩⟩
      show 2 ≤ sizeLine
      decide
    have I1 : Inv X pins σ (upd H s.heap.objs.size (.tup [.int (i : Nat), x])) { s with heap := h'', toks := tk + 1 } := by
      refine I.turnedNew (ch := [e, it]) (fun b ob hb q => ?_) hf (Nat.le_refl _) new
      have b1 : b ≠ e := fun z => hb (by simp [z])
      have b2 : b ≠ it := fun z => hb (by simp [z])
      exact (sb.2 b b1).trans (hk b ob b1 b2 q)
    refine ⟨.ref s.heap.objs.size, _, I1, rfl, ⟨_, x, rfl, I.hok.fresh (Nat.le_refl _), rfl, fun ys hy => ?_⟩, ⟨⟨u', ?_⟩, ?_, hne, hai, hae⟩, fun b hb => ?_⟩
    · rw [I.tuple_inj hy hq]
      exact hx
    · rw [show ((i + 1 : Nat) : Int) = (i : Int) + 1 by omega]
      exact he'
    · exact hs'.1.at fun o q => (sb.2 it (Ne.symm hne)).trans q
    · have hb' : b < s.heap.objs.size := by
        rcases (show b = e ∨ b = it by simpa using hb) with rfl | rfl
        · exact hel
        · exact hil
      rw [upd_ne (Nat.ne_of_lt hb')]
      exact (hf b hb).1
  done := by
    intro X hP hw hK hc i pins s σ H E I hf st hg
    subst hP hw hK
    obtain ⟨⟨old, he⟩, hit, hne, hai, hae⟩ := st
    obtain ⟨xs, hq, hx⟩ := hg
    obtain ⟨its, rv, p, hz⟩ := I.tuple hq
    obtain ⟨f0, f1, f2, f3, f4, f5⟩ := hf it (by simp)
    have hl := rv.length
    have p' : s.heap.IsTuple a its.toArray := p
    have es : its.toArray.size = i := by
      rw [List.size_toArray]
      omega
    refine wpAny_pyNext_enum_endD (Draws.tuple (prog := X.prog) (w := X.w) (show X.A.in1.handled = none from I.ok.hd hc) it a hai its.toArray) he ?_ fun h' eb => ⟨rfl, I.turned (t' := s.toks) (fun b o hb q => eb b o hb q) f0 f1 f3 f4 f5⟩
    rw [es]
    exact ⟨hit, p'⟩
  self := fun A i s Q E st h => by
    obtain ⟨⟨_, he⟩, _⟩ := st
    exact wpAny_pyIter_enum he h
def iEnumT (K : PySem.W.Frag) (ta : TA) : TI := fun σ H R => ta σ H fun vs H1 => ∃ a xs, vs = [.ref a] ∧ SqT K H1 a xs ∧ R (ItE K a) H1
theorem pi_enumT {X : Cx} {e : Expr} {ta : TA} {p pos tpos : Pos} {elts : List Expr} {kk : Nat} (hg : Gl X "enumerate") (hm : X.mg "enumerate" = none) (ha : PA X [e] ta) (hs : starEach [e] X.env = [(false, eval e X.env)] := by rfl) :
    PI X (.Tuple elts kk tpos) (.Call (.Name "enumerate" p) [e] [] pos) (iEnumT X.K ta) := by
  constructor
  intro pins s σ H R I h
  refine Call_ (ld_blt I hg hm boot_enumerate (PyProof.Rows.callWith_type1 (thn (ha.run pos pins s σ H _ I h) fun us s1 ⟨vs, H1, I1, r1, q1⟩ => ?_) hs rfl))
  obtain ⟨a, xs, rfl, hq, q⟩ := q1
  cases r1 with
  | cons r rr =>
    cases rr
    cases r
    obtain ⟨its, rv, p', hz⟩ := I1.tuple hq
    have al : a < s1.heap.objs.size := by
      obtain ⟨_, z, _⟩ := (show s1.heap.IsTuple a its.toArray from p')
      exact Heap.lt_size z
    refine call_enumT (show s1.heap.IsTuple a its.toArray from p') fun h' he hit hk => wpAny_pyIter_enum he ?_
    have I2 : Inv X pins σ H1 { s1 with heap := h' } := I1.kept (t' := s1.toks) hk
    refine ⟨s1.heap.objs.size + 1, [s1.heap.objs.size + 1, s1.heap.objs.size], _, _, H1, rfl, I2, turn_E a (s1.heap.objs.size + 1) s1.heap.objs.size, ⟨⟨.none, he⟩, hit, Nat.succ_ne_self _, Nat.ne_of_lt al, Nat.ne_of_lt (Nat.lt_succ_of_lt al)⟩, fun b hb => ?_, q⟩
    have hle : s1.heap.objs.size ≤ b := by
      rcases (show b = s1.heap.objs.size + 1 ∨ b = s1.heap.objs.size by simpa using hb) with z | z
      · rw [z]
        exact Nat.le_add_right _ _
      · rw [z]
        exact Nat.le_refl _
    exact I1.fpOk hle (I1.hok.fresh hle)
theorem walk_enumT {K : PySem.W.Frag} {a : Addr} {xs : List V} : Walk (ItE K a) xs.length (fun H => SqT K H a xs) (YPair (fun i => some (.int (i : Nat))) (fun i => xs[i]?)) where
  goes := fun i H hi hs => ⟨xs, xs[i], hs, List.getElem?_eq_getElem hi⟩
  stops := fun H hs => ⟨xs, hs, rfl⟩
  yields := fun i H x H' hi hs h => by
    obtain ⟨q, y, e1, e2, e3, e4⟩ := h
    exact ⟨q, .int (i : Nat), y, e1, e2, e3, rfl, e4 xs hs⟩
end EB
namespace EB
open PySem PySem.Spec PyProof.Rows L2
section
variable {X : Cx} {CX : CXT} {k : Nat} {C g : Addr} {sp : Sp} {E : XK}
/-- x in o, o an instance whose class says __contains__ -/
def rInO (C : Addr) (neg : Bool) (sp : Sp) (E : XK) : R2 := fun x y H Q => ∃ a dx fs, y = .ref a ∧ H a = some (.ins C dx fs) ∧ sp [y, x] H (fun z H' => ∃ b, z = .bl b ∧ Q (.bl (if neg then !b else b)) H') E
theorem op_inO (hs : PySem.W.findIn X.K (.ref C) "__contains__" = some (some (.ref g))) (hf : PySem.W.isFn X.K (.ref g) = true) (F : FnR X.prog X.w X.K X.mg X.base CX k g sp) (hr : Room k X.A) (hx : Passes CX X E) : OpR X (compareOp .In) (rInO C false sp E) := by
  rintro pins s σ H x y v u Q I rx ry ⟨a, dx, fs, rfl, ha, q⟩
  cases (show u = Value.ref a from ry)
  obtain ⟨ox, od, J, _⟩ := StX.insC_at I (.inr ⟨dx, fs, ha⟩)
  obtain ⟨m, hF⟩ := I.fr
  refine PySem.W.in_K hF I.ok.mod.kin J hs hf (thn (wpAny_call (run_fnR (us := [.ref a, v]) (vs := [.ref a, x]) F hr hx I (.cons rfl (.cons rx .nil)) q)) fun w' s' hz => ?_)
  obtain ⟨z, H', I', rz, b, rfl, qb⟩ := hz
  exact thn (tru_ok (X := X) pins s' σ H' (.bl b) w' (fun k H'' => k = b ∧ H'' = H') I' rz ⟨b, rfl, rfl, rfl⟩) fun k s'' ⟨H'', I'', e1, e2⟩ => by
    subst e1 e2
    exact ⟨.bl k, H'', I'', rfl, qb⟩
theorem op_notInO (hs : PySem.W.findIn X.K (.ref C) "__contains__" = some (some (.ref g))) (hf : PySem.W.isFn X.K (.ref g) = true) (F : FnR X.prog X.w X.K X.mg X.base CX k g sp) (hr : Room k X.A) (hx : Passes CX X E) : OpR X (compareOp .NotIn) (rInO C true sp E) := by
  rintro pins s σ H x y v u Q I rx ry ⟨a, dx, fs, rfl, ha, q⟩
  cases (show u = Value.ref a from ry)
  obtain ⟨ox, od, J, _⟩ := StX.insC_at I (.inr ⟨dx, fs, ha⟩)
  obtain ⟨m, hF⟩ := I.fr
  refine PySem.W.notIn_K hF I.ok.mod.kin J hs hf (thn (wpAny_call (run_fnR (us := [.ref a, v]) (vs := [.ref a, x]) F hr hx I (.cons rfl (.cons rx .nil)) q)) fun w' s' hz => ?_)
  obtain ⟨z, H', I', rz, b, rfl, qb⟩ := hz
  exact thn (tru_ok (X := X) pins s' σ H' (.bl b) w' (fun k H'' => k = b ∧ H'' = H') I' rz ⟨b, rfl, rfl, rfl⟩) fun k s'' ⟨H'', I'', e1, e2⟩ => by
    subst e1 e2
    exact ⟨.bl (!k), H'', I'', rfl, qb⟩
/-- x op y, both instances; the class of x says op -/
def rCmpO (K : PySem.W.Frag) (C : Addr) (sp : Sp) (E : XK) : R2 := fun x y H Q => ∃ a dx fs b dy gs, x = .ref a ∧ y = .ref b ∧ H a = some (.ins C dx fs) ∧ H b = some (.ins C dy gs) ∧ PySem.W.notFirst K C (.ref C) = true ∧ sp [x, y] H Q E
theorem op_cmpO {op : CmpOp} (hop : ∀ a b, compareOp op a b = richCompare op a b) (hs : PySem.W.findIn X.K (.ref C) (cmpInfo op).2.1 = some (some (.ref g))) (hf : PySem.W.isFn X.K (.ref g) = true) (F : FnR X.prog X.w X.K X.mg X.base CX k g sp)
    (hr : Room k X.A) (hx : Passes CX X E) : OpR X (compareOp op) (rCmpO X.K C sp E) := by
  rintro pins s σ H x y v u Q I rx ry ⟨a, dx, fs, b, dy, gs, rfl, rfl, ha, hb, hn, q⟩
  cases (show v = Value.ref a from rx)
  cases (show u = Value.ref b from ry)
  obtain ⟨_, _, J, _⟩ := StX.insC_at I (.inr ⟨dx, fs, ha⟩)
  obtain ⟨_, _, J', _⟩ := StX.insC_at I (.inr ⟨dy, gs, hb⟩)
  obtain ⟨m, hF⟩ := I.fr
  rw [hop]
  refine PySem.W.cmp_K (op := op) (tb := .ref C) hr.units0 hF I.ok.mod.kin J J'.type hn hs hf (thn (wpAny_call (run_fnR (us := [.ref a, .ref b]) (vs := [.ref a, .ref b]) F hr hx I (.cons rfl (.cons rfl .nil)) q)) fun w' s' hz => ?_)
  obtain ⟨z, H', I', rz, qz⟩ := hz
  exact SlX.cmpback rz ⟨z, H', I', rz, qz⟩
end
end EB
namespace EB
open PySem PySem.Spec PyProof.Rows L2
section
variable {X : Cx} {CX : CXT} {k : Nat} {C g : Addr} {sp : Sp} {E : XK} {fe e : Expr} {es : List Expr} {tf : TE} {t : TA} {pos : Pos}
/-- o(e, ..), o an instance; its reading names no context -/
def tCallI (C : Addr) (sp : Sp) (E : XK) (tf : TE) (t : TA) : TE := fun σ H Q => tf σ H fun y H1 => ∃ a, y = V.ref a ∧ t σ H1 fun vs H2 => (∃ dx fs, H2 a = some (.ins C dx fs)) ∧ sp (V.ref a :: vs) H2 Q E
theorem pe_callI (hf : PE X fe tf) (c : StX.CallO X.K C g) (F : FnR X.prog X.w X.K X.mg X.base CX k g sp) (hr : Room k X.A) (hx : Passes CX X E) (ha : PA X (e :: es) t)
    (ht : eval (.Call fe (e :: es) [] pos) X.env = (do callWith pos (← eval fe X.env) [] (backTo pos (starEach (e :: es) X.env)) (backToKw pos (keywordEach [] X.env))) := by rfl)
    (hs : starEach (e :: es) X.env = (false, eval e X.env) :: starEach es X.env := by rfl) (hp : (backTo pos (starEach es X.env)).any (·.1) = false := by rfl) : PE X (.Call fe (e :: es) [] pos) (tCallI C sp E tf t) := by
  constructor
  intro pins s σ H Q I h
  refine Call_ (thn (hf.run pins s σ H _ I h) fun u s1 ⟨y, H1, I1, ry, a, ey, q⟩ => ?_) ht
  subst ey
  obtain rfl : u = Value.ref a := ry
  refine StX.callO_with (thn (ha.run pos pins s1 σ H1 _ I1 q) fun us s2 ⟨vs, H2, I2, r, hi, q2⟩ => ?_) hs hp
  obtain ⟨ox, od, J, hd⟩ := StX.insC_at I2 (.inr hi)
  exact ⟨⟨C, ox, od, J, hd⟩, StX.run_callO c F hr hx I2 (.inr hi) r q2⟩
end
end EB

namespace EB
/-! ### costs -/
structure CF (c : Nat → Int) (P B : Nat) : Prop where
  zero : c 0 = 0
  step : ∀ d, c (d + 1) ≤ c d + 1
  per : ∀ d, c (d + P) = c d + B
  ppos : 0 < P
  ten : ∀ d : Nat, (d : Int) ≤ 10 * c d
  sub : ∀ x y, c (x + y) ≤ c x + c y
namespace CF
variable {c : Nat → Int} {P B : Nat}
theorem bpos (h : CF c P B) : 0 < B := by
  have h1 := h.ten P
  have h2 := h.per 0
  have h3 := h.zero
  have h4 := h.ppos
  rw [Nat.zero_add, h3] at h2
  omega
theorem nonneg (h : CF c P B) (d : Nat) : 0 ≤ c d := by
  have := h.ten d
  omega
theorem le_self (h : CF c P B) : ∀ d : Nat, c d ≤ d
  | 0 => by rw [h.zero]; exact Int.le_refl _
  | d + 1 => by
    have h1 := h.le_self d
    have h2 := h.step d
    push_cast
    omega
theorem steps (h : CF c P B) (d : Nat) : ∀ k : Nat, c (d + k) ≤ c d + k
  | 0 => by simp
  | k + 1 => by
    have h1 := h.steps d k
    have h2 := h.step (d + k)
    rw [← Nat.add_assoc]
    push_cast
    omega
theorem perm (h : CF c P B) (d : Nat) : ∀ k : Nat, c (d + k * P) = c d + k * B
  | 0 => by simp
  | k + 1 => by
    have h1 := h.perm d k
    have h2 := h.per (d + k * P)
    rw [Nat.succ_mul, ← Nat.add_assoc, h2, h1]
    push_cast
    rw [Int.add_mul]
    omega
end CF
/-- the number of drinks of n bottles -/
def IsD (c : Nat → Int) (n d : Nat) : Prop := (n : Int) ≤ c d ∧ ∀ j, j < d → c j < n
theorem IsD.uniq {c : Nat → Int} {n d e : Nat} (h : IsD c n d) (g : IsD c n e) : d = e := by
  rcases Nat.lt_trichotomy d e with q | q | q
  · have := g.2 d q
    have := h.1
    omega
  · exact q
  · have := h.2 e q
    have := g.1
    omega
theorem least (p : Nat → Prop) [DecidablePred p] : ∀ n, p n → ∃ d, p d ∧ ∀ j, j < d → ¬ p j := by
  intro n
  induction n using Nat.strongRecOn with
  | ind n ih =>
    intro hn
    by_cases q : ∃ j, j < n ∧ p j
    · obtain ⟨j, hj, pj⟩ := q
      exact ih j hj pj
    · exact ⟨n, hn, fun j hj pj => q ⟨j, hj, pj⟩⟩
theorem CF.exD {c : Nat → Int} {P B : Nat} (h : CF c P B) (n : Nat) : ∃ d, IsD c n d := by
  have h1 : (n : Int) ≤ c (10 * n) := by
    have := h.ten (10 * n)
    push_cast at this
    omega
  obtain ⟨d, hd, hj⟩ := least (fun d => (n : Int) ≤ c d) (10 * n) h1
  exact ⟨d, hd, fun j q => by have := hj j q; omega⟩
open Classical in
noncomputable def D (c : Nat → Int) (n : Nat) : Nat := if h : ∃ d, IsD c n d then Classical.choose h else 0
/-- the greatest cost up to d -/
def T (c : Nat → Int) : Nat → Int
  | 0 => c 0
  | d + 1 => if c (d + 1) > T c d then c (d + 1) else T c d
namespace CF
variable {c : Nat → Int} {P B : Nat}
theorem D_is (h : CF c P B) (n : Nat) : IsD c n (D c n) := by
  have e := h.exD n
  unfold D
  rw [dif_pos e]
  exact Classical.choose_spec e
theorem D_eq (h : CF c P B) {n d : Nat} (g : IsD c n d) : D c n = d := (h.D_is n).uniq g
theorem D_cost (h : CF c P B) (n : Nat) : c (D c n) = n := by
  have g := h.D_is n
  cases e : D c n with
  | zero =>
    rw [e] at g
    have g1 := g.1
    rw [h.zero] at g1 ⊢
    omega
  | succ d =>
    rw [e] at g
    have g1 := g.1
    have g2 := g.2 d (Nat.lt_succ_self d)
    have g3 := h.step d
    omega
theorem D_zero (h : CF c P B) : D c 0 = 0 := h.D_eq ⟨by rw [h.zero]; exact Int.le_refl _, fun j q => absurd q (Nat.not_lt_zero j)⟩
theorem D_ge (h : CF c P B) (n : Nat) : n ≤ D c n := by
  have := h.D_cost n
  have := h.le_self (D c n)
  omega
theorem D_le_ten (h : CF c P B) (n : Nat) : D c n ≤ 10 * n := by
  have := h.D_cost n
  have := h.ten (D c n)
  omega
theorem D_lt (h : CF c P B) {n m : Nat} (q : n < m) : D c n < D c m := by
  have h1 := h.D_is n
  have h2 := h.D_cost m
  have h3 := h.D_cost n
  apply Nat.lt_of_not_le
  intro z
  rcases Nat.lt_or_eq_of_le z with z | z
  · have := h1.2 _ z
    omega
  · rw [z] at h2
    omega
theorem D_mono (h : CF c P B) {n m : Nat} (q : n ≤ m) : D c n ≤ D c m := by
  rcases Nat.lt_or_eq_of_le q with q | q
  · exact Nat.le_of_lt (h.D_lt q)
  · rw [q]; exact Nat.le_refl _
theorem D_super (h : CF c P B) (a b : Nat) : D c a + D c b ≤ D c (a + b) := by
  apply Nat.le_of_not_lt
  intro q
  have ca := h.D_cost a
  have cb := h.D_cost b
  have cab := h.D_cost (a + b)
  have ha := h.D_is a
  have hb := h.D_is b
  by_cases z : D c (a + b) < D c a
  · have := ha.2 _ z
    push_cast at cab
    omega
  · cases e : D c a with
    | zero =>
      rw [e] at ca q
      rw [h.zero] at ca
      have : a = 0 := by omega
      rw [this, Nat.zero_add, Nat.zero_add] at q
      exact Nat.lt_irrefl _ q
    | succ x =>
      rw [e] at q z ha
      have hx := ha.2 x (Nat.lt_succ_self x)
      obtain ⟨y, hy⟩ : ∃ y, D c (a + b) = x + y := ⟨D c (a + b) - x, by omega⟩
      have hs := h.sub x y
      rw [hy] at cab q
      push_cast at cab
      rcases Nat.lt_or_ge y (D c b) with w | w
      · have := hb.2 y w
        omega
      · have : y = D c b := by omega
        rw [this, cb] at hs
        rw [this] at cab
        omega
/-! ### the greatest cost -/
theorem T_ge (c : Nat → Int) : ∀ {d j : Nat}, j ≤ d → c j ≤ T c d
  | 0, j, q => by
    have : j = 0 := by omega
    rw [this]
    exact Int.le_refl _
  | d + 1, j, q => by
    unfold T
    rcases Nat.lt_or_eq_of_le q with q | q
    · have := T_ge c (d := d) (j := j) (by omega)
      split <;> omega
    · rw [q]
      split <;> omega
theorem T_at (c : Nat → Int) : ∀ d : Nat, ∃ j, j ≤ d ∧ T c d = c j
  | 0 => ⟨0, Nat.le_refl _, rfl⟩
  | d + 1 => by
    unfold T
    split
    · exact ⟨d + 1, Nat.le_refl _, rfl⟩
    · obtain ⟨j, q, e⟩ := T_at c d
      exact ⟨j, by omega, e⟩
theorem T_mono (c : Nat → Int) {d e : Nat} (q : d ≤ e) : T c d ≤ T c e := by
  obtain ⟨j, hj, ej⟩ := T_at c d
  rw [ej]
  exact T_ge c (by omega)
theorem T_eq (c : Nat → Int) {d : Nat} {t : Int} (h1 : ∃ j, j ≤ d ∧ c j = t) (h2 : ∀ j, j ≤ d → c j ≤ t) : T c d = t := by
  obtain ⟨j, hj, ej⟩ := h1
  obtain ⟨i, hi, ei⟩ := T_at c d
  have := T_ge c hj
  have := h2 i hi
  omega
theorem T_nonneg (h : CF c P B) (d : Nat) : 0 ≤ T c d := by
  have := T_ge c (Nat.zero_le d)
  rw [h.zero] at this
  exact this
theorem T_step (h : CF c P B) (d : Nat) : T c (d + 1) ≤ T c d + 1 := by
  show (if c (d + 1) > T c d then c (d + 1) else T c d) ≤ T c d + 1
  have := T_ge c (Nat.le_refl d)
  have := h.step d
  split <;> omega
/-- n bottles give at most d drinks just if n is at most the greatest cost up to d -/
theorem D_le_iff (h : CF c P B) {n d : Nat} : D c n ≤ d ↔ (n : Int) ≤ T c d := by
  constructor
  · intro q
    have := T_ge c q
    rw [h.D_cost] at this
    exact this
  · intro q
    obtain ⟨j, hj, ej⟩ := T_at c d
    apply Nat.le_of_not_lt
    intro z
    have := (h.D_is n).2 j (by omega)
    omega
theorem T_per (h : CF c P B) {d : Nat} (q : P ≤ d + 1) : T c (d + P) = T c d + B := by
  refine T_eq c ?_ ?_
  · obtain ⟨j, hj, ej⟩ := T_at c d
    exact ⟨j + P, by omega, by rw [h.per, ej]⟩
  · intro j hj
    rcases Nat.lt_or_ge j P with z | z
    · have := T_ge c (d := d) (j := j) (by omega)
      omega
    · obtain ⟨i, rfl⟩ : ∃ i, j = i + P := ⟨j - P, by omega⟩
      rw [h.per]
      have := T_ge c (d := d) (j := i) (by omega)
      omega
theorem T_perk (h : CF c P B) {d : Nat} (q : P ≤ d + 1) : ∀ k : Nat, T c (d + k * P) = T c d + k * B
  | 0 => by simp
  | k + 1 => by
    have h1 := h.T_perk q k
    have h2 := h.T_per (d := d + k * P) (by omega)
    rw [Nat.succ_mul, ← Nat.add_assoc, h2, h1]
    push_cast
    rw [Int.add_mul]
    omega
/-- from T (P - 1) + 1 - B on, drinks repeat -/
theorem D_per (h : CF c P B) {n : Nat} (q : T c (P - 1) < n + B) : D c (n + B) = D c n + P := by
  refine h.D_eq ⟨?_, fun j hj => ?_⟩
  · rw [h.per, h.D_cost]
    push_cast
    exact Int.le_refl _
  · rcases Nat.lt_or_ge j P with z | z
    · have := T_ge c (d := P - 1) (j := j) (by omega)
      push_cast
      omega
    · obtain ⟨i, rfl⟩ : ∃ i, j = i + P := ⟨j - P, by omega⟩
      rw [h.per]
      have := (h.D_is n).2 i (by omega)
      push_cast
      omega
theorem D_perk (h : CF c P B) {n : Nat} (q : T c (P - 1) < n + B) : ∀ k : Nat, D c (n + k * B) = D c n + k * P
  | 0 => by simp
  | k + 1 => by
    have h1 := h.D_perk q k
    have h2 := h.D_per (n := n + k * B) (by push_cast; have : (0:Int) ≤ (k : Int) * B := Int.mul_nonneg (Int.natCast_nonneg _) (Int.natCast_nonneg _); omega)
    rw [Nat.succ_mul, ← Nat.add_assoc, h2, h1, Nat.succ_mul, Nat.add_assoc]
theorem D_per_not (h : CF c P B) {n : Nat} (q : (n : Int) + B ≤ T c (P - 1)) : D c (n + B) < D c n + P := by
  have := (h.D_le_iff (n := n + B) (d := P - 1)).mpr (by push_cast; exact q)
  have := h.ppos
  omega
end CF
end EB

namespace PySem
open Sem (wp)
section
variable {prog : Program} {w : World} {A : Around} {R : GenEnd} {Y : Protocol} {n : Nat} {s₀ : Shared} {fs : List Frame} {s : Shared} {env : Env}
/-- what a loop's code does with an exception -/
def loopEx (env : Env) (x : Value) : Sem Fin := (do noteFrame x env; theTreesLotGoes x : Sem Unit).wrap (fun _ => .raise x) .raise id id
theorem seg_forLoop {target : Expr} {it : Value} {body : List Stmt}
    (h : wpAny (model prog w) (A.over (.forLoop target it body [] env) fs) (pyNext it) (fun r s₁ => match r with
        | none => Seg (model prog w) A R Y n s₀ (.forLoop target it body [] env) (.pure (.again (.block [] env))) fs s₁
        | some v => wpAny (model prog w) (A.over (.forLoop target it body [] env) fs) (letOwnedTupleGo target it v) (fun _ s₂ =>
            wpAny (model prog w) (A.over (.forLoop target it body [] env) fs) (assign target env v) (fun _ s₃ =>
              Seg (model prog w) A R Y n s₀ (.forLoop target it body [] env) ((execs body env).wrap (fun f => match f with
                | .next | .cont => .pure (.again (.forLoop target it body [] env))
                | .brk => .pure (.done .next)
                | .ret v => .pure (.done (.ret v))) (loopEx env) id id) fs s₃)
              (fun x s' => Seg (model prog w) A R Y n s₀ (.forLoop target it body [] env) (loopEx env x) fs s') s₂)
            (fun x s' => Seg (model prog w) A R Y n s₀ (.forLoop target it body [] env) (loopEx env x) fs s') s₁)
      (fun x s' => Seg (model prog w) A R Y n s₀ (.forLoop target it body [] env) (loopEx env x) fs s') s) :
    Seg (model prog w) A R Y n s₀ (.forLoop target it body [] env) ((model prog w).den (.forLoop target it body [] env)) fs s := by
  have ex : ∀ x, ((do noteFrame x env; theTreesLotGoes x : Sem Unit).bind fun _ => (Sem.raise x : Sem Fin)) = loopEx env x := fun x => by rw [Sem.bind_eq_wrap]; rfl
  show Seg _ A R Y n s₀ _ ((forTurn target it body [] env).onRaise (fun x => do noteFrame x env; theTreesLotGoes x)) fs s
  unfold forTurn
  rw [Sem.onRaise_eq_wrap]
  refine seg_at ?_
  show Seg _ A R Y n s₀ _ (Sem.wrap _ _ _ _ ((pyNext it).onRaise (fun _ => standAt { target.pos with line := 0 }) >>= _)) fs s
  rw [Sem.bind_eq_wrap', Sem.wrap_wrap]
  refine seg_wrap (wpAny_onRaise (wpAny_mono h (fun r s₁ h₁ => ?_) fun x s' hx => wpAny_standAt ?_))
  · cases r with
    | none => exact h₁
    | some v =>
      show Seg _ A R Y n s₀ _ (Sem.wrap _ _ _ _ (letOwnedTupleGo target it v >>= _)) fs s₁
      rw [Sem.bind_eq_wrap', Sem.wrap_wrap]
      refine seg_wrap (wpAny_mono h₁ (fun _ s₂ h₂ => ?_) fun x s' hx => ?_)
      · show Seg _ A R Y n s₀ _ (Sem.wrap _ _ _ _ (assign target env v >>= _)) fs s₂
        rw [Sem.bind_eq_wrap', Sem.wrap_wrap]
        refine seg_wrap (wpAny_mono h₂ (fun _ s₃ h₃ => ?_) fun x s' hx => ?_)
        · show Seg _ A R Y n s₀ _ (Sem.wrap _ _ _ _ (execs body env >>= _)) fs s₃
          rw [Sem.bind_eq_wrap', Sem.wrap_wrap]
          rw [Sem.wrap_congr (execs body env) _ _ (K' := fun f => match f with
            | .next | .cont => .pure (.again (.forLoop target it body [] env))
            | .brk => .pure (.done .next)
            | .ret v => .pure (.done (.ret v))) (H' := loopEx env) (fun f => by cases f <;> rfl) (fun e => by exact ex e)]
          exact h₃
        · show Seg _ A R Y n s₀ _ ((do noteFrame x env; theTreesLotGoes x : Sem Unit).bind fun _ => .raise x) fs s'
          rw [ex]
          exact hx
      · show Seg _ A R Y n s₀ _ ((do noteFrame x env; theTreesLotGoes x : Sem Unit).bind fun _ => .raise x) fs s'
        rw [ex]
        exact hx
  · show Seg _ A R Y n s₀ _ ((do noteFrame x env; theTreesLotGoes x : Sem Unit).bind fun _ => .raise x) fs s'
    rw [ex]
    exact hx
end
section
variable {M : Model} {A : Around} {R : GenEnd} {Y : Protocol} {n : Nat} {s₀ : Shared} {c : Code} {fs : List Frame} {s : Shared} {env : Env}
  {K : Flow → Sem Fin} {H : Value → Sem Fin} {gd : Bool → Bool} {lv : List Value → List Value}
theorem seg_For {target iter : Expr} {body : List Stmt} {pos : Pos}
    (h : wpAny M (A.over c fs) (eval iter env) (fun v s₁ => wpAny M (A.over c fs) (pyIter v) (fun it s₂ => ∀ p, Seg M A R Y n s₀ (.forLoop target it body [] env) (M.den (.forLoop target it body [] env))
      (.ret (fun r => ((match r with | .ok f => (.pure f : Sem Flow) | .error e => .raise e).onRaise fun (x : Value) => do
        if (← field x 1) == Value.none then unsupported "frame.own-activation:exception-without-traceback"
        setFlight x env.frame).wrap K H gd lv) none (gd false) (lv []) c p [] :: fs) s₂)
      (fun x s' => Seg M A R Y n s₀ c (H x) fs s') s₁) (fun x s' => Seg M A R Y n s₀ c (H x) fs s') s)
    (hs : ∀ x, foldedSetIterable iter env x = pure x) :
    Seg M A R Y n s₀ c ((exec (.For target iter body [] pos) env).wrap K H gd lv) fs s := by
  rw [exec_For]
  refine seg_at ?_
  show Seg M A R Y n s₀ c (Sem.wrap _ _ _ _ (eval iter env >>= _)) fs s
  rw [Sem.bind_eq_wrap', Sem.wrap_wrap]
  refine seg_wrap (wpAny_mono h (fun v s₁ h₁ => ?_) fun x s' hx => hx)
  show Seg M A R Y n s₀ c (Sem.wrap _ _ _ _ (foldedSetIterable iter env v >>= _)) fs s₁
  rw [hs v]
  refine seg_at ?_
  show Seg M A R Y n s₀ c (Sem.wrap _ _ _ _ (holding [v] (pyIter v) >>= _)) fs s₁
  rw [Sem.bind_eq_wrap', Sem.wrap_wrap]
  refine seg_wrap (wpAny_holding (wpAny_mono h₁ (fun it s₂ h₂ => ?_) fun x s' hx => hx))
  exact seg_call h₂
end
end PySem
namespace L2
open PySem PySem.Spec PyProof.Rows
section
variable {X : Cx} {c : Expr} {a b : List Stmt} {pos : Pos} {tc : TT} {t u : TGn}
def tGIf (tc : TT) (t u : TGn) : TGn := fun D ys σ H => tc σ H fun d H1 => if d = true then t D ys σ H1 else u D ys σ H1
theorem gs_if (hc : PT X c tc) (ha : GSs X a t) (hb : GSs X b u) : GS X (.If c a b pos) (tGIf tc t u) := by
  refine ⟨fun A S ip R n ys s₀ cc fs K J gd lv s σ H D g hn k hI ht => ?_⟩
  rw [exec_If]
  refine seg_at ?_
  show Seg _ _ _ _ _ _ _ (Sem.wrap _ _ _ _ (isTrue c X.env (eval c X.env) >>= fun z => if z = true then execs a X.env else execs b X.env)) _ _
  rw [Sem.bind_eq_wrap', Sem.wrap_wrap]
  obtain ⟨acc, cn, r, I⟩ := hI
  refine seg_wrap ?_
  rw [g.over]
  refine wpAny_mono (hc.run _ s σ H _ I ht) (fun z s' hz => ?_) fun x s' hx => k.exc n s₀ x s' hx
  obtain ⟨H1, I1, q1⟩ := hz
  cases z with
  | true => exact ha.run A S ip R n ys s₀ cc fs K J gd lv s' σ H1 D g hn k ⟨acc, cn, r, I1⟩ q1
  | false => exact hb.run A S ip R n ys s₀ cc fs K J gd lv s' σ H1 D g hn k ⟨acc, cn, r, I1⟩ q1
def tGFor (wi : TI) (g : TG) (tb : TGn) : TGn := fun D ys σ H => wi σ H fun J H2 => ∃ W : Nat → Nat → List V → L2.St → Hp → Prop, (∃ m, W 0 m ys σ H2) ∧ ∀ i m ys σ H, W i m ys σ H →
  (J.stop i H ∧ D.nx ys σ H) ∨ (J.go i H ∧ ∃ N : List V → L2.St → Hp → Prop, (∀ ys' σ' H', N ys' σ' H' → ∃ m', m' < m ∧ W (i + 1) m' ys' σ' H') ∧ ∀ x H', J.yld i H x H' → g x σ H' fun σ2 H2 => tb { D with nx := N, ct := N, bk := D.nx } ys σ2 H2)
theorem gs_for {tg iter : Expr} {body : List Stmt} {wi : TI} {g : TG} {tb : TGn} {pos : Pos} (hp : PassesOwn (model X.prog X.w) X.A X.env X.xe) (hc : X.calm = true) (hi : PI X tg iter wi) (hg : PG X tg g) (hb : GSs X body tb)
    (hs : ∀ x, foldedSetIterable iter X.env x = pure x := by intro _; rfl) : GS X (.For tg iter body [] pos) (tGFor wi g tb) := by
  refine ⟨fun A S ip R n ys s₀ c fs K J gd lv s σ H D gc hn k hI ht => ?_⟩
  obtain ⟨acc, cc, r, I⟩ := hI
  refine seg_For ?_ hs
  rw [gc.over]
  refine wpAny_mono (hi.run _ s σ H _ I ht) (fun v s1 h1 => ?_) fun x s' hx => k.exc n s₀ x s' hx
  refine wpAny_mono h1 (fun itv s2 h2 => ?_) fun x s' hx => k.exc n s₀ x s' hx
  obtain ⟨it, fp, tn, It, H2, rfl, I2, T, st2, f2, W, ⟨m0, w0⟩, turn⟩ := h2
  intro p
  have gl := fun (ip' : List (Addr × Obj)) (hip : ∀ q ∈ ip', q.1 ≠ S) (kk : Result → Sem PySem.Fin) (c' : Code) (hw : c'.weight = 0) (hu : c'.cUnits = 0) => ({ gc_loop (k := kk) (c' := c') (l := lv []) (kp := []) (p := p) gc hw hu with ip := hip } : GC X S ip' A c' (.ret kk none (gd false) (lv []) c p [] :: fs) id)
  have stat : ∀ {acc' : Array Value} {cc' : Nat} {H' : Hp}, (∀ b ∈ fp, H' b = none) → ∀ b ∈ fp, FpOk X ((S, lstObj acc' cc') :: ip) H' b := by
    intro acc' cc' H' hnn b hb
    obtain ⟨_, a1, a2, a3, a4, a5⟩ := f2 b hb
    refine ⟨hnn b hb, a1, a2, a3, a4, fun q hq => ?_⟩
    rcases List.mem_append.mp hq with z | z
    · exact a5 q (List.mem_append_left _ z)
    · rcases List.mem_cons.mp z with rfl | z
      · exact a5 (S, lstObj acc cc) (List.mem_append_right _ (List.mem_cons_self ..))
      · exact a5 q (List.mem_append_right _ (List.mem_cons_of_mem _ z))
  have fpS : ∀ b ∈ fp, b ≠ S := by
    intro b hb
    obtain ⟨_, _, _, _, _, a5⟩ := f2 b hb
    exact fun z => a5 (S, lstObj acc cc) (List.mem_append_right _ (List.mem_cons_self ..)) z.symm
  have loop : ∀ (m n i : Nat) (ys : List V) (s₀ s : Shared) (σ : L2.St) (H : Hp), n + ys.length = sizeLine → W i m ys σ H → GI X S ip ys σ H s → tn i s.heap → (∀ b ∈ fp, H b = none) →
      Seg (model X.prog X.w) A R (GY X S) n s₀ (.forLoop tg (.ref it) body [] X.env) ((model X.prog X.w).den (.forLoop tg (.ref it) body [] X.env))
        (.ret (fun r => ((match r with | .ok f => (.pure f : Sem Flow) | .error e => .raise e).onRaise (cameBack X.env)).wrap K J gd lv) none (gd false) (lv []) c p [] :: fs) s := by
    intro m
    induction m using Nat.strongRecOn with
    | ind m ih =>
      intro n i ys s₀ s σ H hn w hI st fr
      have ee : ∀ (n : Nat) (s₀ : Shared) (x : Value) (s' : Shared), X.xe x s' → Seg (model X.prog X.w) A R (GY X S) n s₀ (.forLoop tg (.ref it) body [] X.env) (loopEx X.env x)
          (.ret (fun r => ((match r with | .ok f => (.pure f : Sem Flow) | .error e => .raise e).onRaise (cameBack X.env)).wrap K J gd lv) none (gd false) (lv []) c p [] :: fs) s' := fun n s₀ x s' hx => by
        refine seg_wrap ?_
        rw [(gl ip gc.ip _ _ rfl rfl).over]
        refine wpAny_bind (wpAny_mono (hp x s' hx) (fun _ s'' hcb => wpAny_theTreesLotGoes ?_) fun y s'' hcb => ?_)
        · exact seg_leaf (.error x) (seg_cameBack gc k hcb)
        · exact seg_leaf (.error y) (seg_cameBack gc k hcb)
      refine seg_forLoop ?_
      rw [(gl ip gc.ip _ _ rfl rfl).over]
      obtain ⟨acc, cc, r, I⟩ := hI
      rcases turn i m ys σ H w with ⟨stop, qn⟩ | ⟨go, N, hN, step⟩
      · refine wpAny_mono (T.done X rfl rfl rfl hc i _ s σ H X.xe I (stat fr) st stop) (fun r' s4 ⟨hr, I4⟩ => ?_) fun x s' hx => ee n s₀ x s' hx
        subst hr
        refine seg_again rfl ?_
        exact seg_leaf (.ok .next) (k.ok n ys s₀ s4 .next hn ⟨σ, H, ⟨acc, cc, r, I4⟩, qn⟩)
      · refine wpAny_mono (T.item X rfl rfl rfl hc i _ s σ H X.xe I (stat fr) st go) (fun r' s4 ⟨u, hr, h4⟩ => ?_) fun x s' hx => ee n s₀ x s' hx
        subst hr
        refine wpAny_mono h4 (fun _ s5 ⟨x, H5, I5, r5, y5, st5, fr5⟩ => ?_) fun x s' hx => ee n s₀ x s' hx
        have I5' := I5.pinned (stat fr5) (T.obj _ _ st5)
        refine wpAny_mono (hg.run _ s5 σ H5 x u _ I5' r5 (step x H5 y5)) (fun _ s6 ⟨σ6, H6, I6, q6⟩ => ?_) fun x s' hx => ee n s₀ x s' hx
        have hip' : ∀ q ∈ ip ++ pinsAt fp s5.heap, q.1 ≠ S := fun q hq => (List.mem_append.mp hq).elim (gc.ip q) fun z => fpS _ (of_pinsAt z).1
        have again : ∀ (n' : Nat) (ys' : List V) (s₀' s7 : Shared), n' + ys'.length = sizeLine → (∃ σ7 H7, GI X S (ip ++ pinsAt fp s5.heap) ys' σ7 H7 s7 ∧ N ys' σ7 H7) → Seg (model X.prog X.w) A R (GY X S) n' s₀' (.forLoop tg (.ref it) body [] X.env) (.pure (.again (.forLoop tg (.ref it) body [] X.env)))
            (.ret (fun r => ((match r with | .ok f => (.pure f : Sem Flow) | .error e => .raise e).onRaise (cameBack X.env)).wrap K J gd lv) none (gd false) (lv []) c p [] :: fs) s7 := by
          rintro n' ys' s₀' s7 hn' ⟨σ7, H7, ⟨acc7, cc7, r7, I7⟩, n7⟩
          obtain ⟨m', hm, w7⟩ := hN ys' σ7 H7 n7
          have pin : ∀ b ∈ fp, ∀ o, s5.heap.get? b = some o → _ := fun b hb o e => I7.pin (b, o) (List.mem_append_right _ (List.mem_cons_of_mem _ (List.mem_append_right _ (mem_pinsAt hb e))))
          refine seg_again rfl (ih m' hm n' (i + 1) ys' s₀' s7 σ7 H7 hn' w7 ⟨acc7, cc7, r7, Inv.unpinned (pins := (S, lstObj acc7 cc7) :: ip) I7⟩ (T.keep _ _ _ st5 fun b hb o e => (pin b hb o e).1) fun b hb => ?_)
          obtain ⟨o, e, d⟩ := T.obj _ _ st5 b hb
          exact (pin b hb o e).2.1
        refine hb.run A S (ip ++ pinsAt fp s5.heap) R n ys s₀ _ _ _ _ id id s6 σ6 H6 { D with nx := N, ct := N, bk := D.nx } (gl _ hip' _ _ rfl rfl) hn ⟨fun n' ys' s₀' s7 f hn' hs => ?_, fun n' s₀' x s7 hx => ee n' s₀' x s7 hx⟩ ⟨acc, cc, r, I6⟩ q6
        cases f with
        | next => exact again n' ys' s₀' s7 hn' hs
        | cont => exact again n' ys' s₀' s7 hn' hs
        | brk =>
          obtain ⟨σ7, H7, ⟨acc7, cc7, r7, I7⟩, q7⟩ := hs
          exact seg_leaf (.ok .next) (k.ok n' ys' s₀' s7 .next hn' ⟨σ7, H7, ⟨acc7, cc7, r7, Inv.unpinned (pins := (S, lstObj acc7 cc7) :: ip) I7⟩, q7⟩)
        | ret v =>
          obtain ⟨x7, σ7, H7, ⟨acc7, cc7, r7, I7⟩, rv, q7⟩ := hs
          exact seg_leaf (.ok (.ret v)) (k.ok n' ys' s₀' s7 (.ret v) hn' ⟨x7, σ7, H7, ⟨acc7, cc7, r7, Inv.unpinned (pins := (S, lstObj acc7 cc7) :: ip) I7⟩, rv, q7⟩)
  exact loop m0 n 0 ys s₀ s2 σ H2 hn w0 ⟨acc, cc, r, I2⟩ st2 fun b hb => (f2 b hb).1
theorem gfor_range {lo : Int} {n : Nat} {g : TG} {tb : TGn} {D : GEnds} {ys : List V} {σ : L2.St} {H : Hp} (Pv : Nat → List V → L2.St → Hp → Prop) (h0 : Pv 0 ys σ H)
    (hs : ∀ i ys σ H, i < n → Pv i ys σ H → g (.int (lo + i)) σ H fun σ2 H2 => tb { D with nx := Pv (i + 1), ct := Pv (i + 1), bk := D.nx } ys σ2 H2) (hd : ∀ ys σ H, Pv n ys σ H → D.nx ys σ H) :
    ∃ W : Nat → Nat → List V → L2.St → Hp → Prop, (∃ m, W 0 m ys σ H) ∧ ∀ i m ys σ H, W i m ys σ H →
      ((Itr lo n).stop i H ∧ D.nx ys σ H) ∨ ((Itr lo n).go i H ∧ ∃ N : List V → L2.St → Hp → Prop, (∀ ys' σ' H', N ys' σ' H' → ∃ m', m' < m ∧ W (i + 1) m' ys' σ' H') ∧ ∀ x H', (Itr lo n).yld i H x H' → g x σ H' fun σ2 H2 => tb { D with nx := N, ct := N, bk := D.nx } ys σ2 H2) := by
  refine ⟨fun i m ys σ H => m = n - i ∧ i ≤ n ∧ Pv i ys σ H, ⟨n, by simp, Nat.zero_le _, h0⟩, ?_⟩
  rintro i m ys σ H ⟨rfl, hi, p⟩
  by_cases hlt : i < n
  · refine .inr ⟨hlt, Pv (i + 1), fun ys' σ' H' p' => ⟨n - (i + 1), by omega, rfl, hlt, p'⟩, fun x H' y => ?_⟩
    obtain ⟨e, y⟩ := y
    subst e y
    exact hs i ys σ _ hlt p
  · have e : i = n := by omega
    subst e
    exact .inl ⟨Nat.le_refl _, hd ys σ H p⟩
end
end L2

/-! t[::-1] of a tuple -/
namespace EBR
open PySem PySem.Spec PyProof.Rows L2
section
variable {prog : Program} {w : World} {A : Around} {E : Value → Shared → Prop} {s : Shared}
theorem applied_rev {sl : Addr} {vl vu vs : Value} {n : Nat} {Q : Int × Int × Nat → Shared → Prop} (hs : s.heap.IsSliceOf sl vl vu vs) (pl : IsPart vl none) (pu : IsPart vu none) (ps : IsPart vs (some (-1)))
    (h : Q ((n : Int) - 1, -1, n) s) : wpAny (model prog w) A (Builtin.Slice.sliceApplied (.ref sl) (pure (n : Int))) Q E s := by
  obtain ⟨os, hos, hcs, hds⟩ := id hs
  unfold Builtin.Slice.sliceApplied Builtin.Slice.sliceFields
  refine wpAny_bind (wpAny_bind (wpAny_field hos hds (x := vl) rfl (wpAny_bind (wpAny_field hos hds (x := vu) rfl (wpAny_bind (wpAny_field hos hds (x := vs) rfl (wpAny_pure ?_)))))))
  refine wpAny_bind (HT.slicePart_ ps ?_)
  show wpAny _ _ (if ((-1 : Int) == 0) = true then _ else _) _ _ s
  rw [if_neg (by decide)]
  refine wpAny_bind (HT.slicePart_ pl (wpAny_bind (HT.slicePart_ pu (wpAny_bind (wpAny_pure ?_)))))
  show wpAny _ _ (match Builtin.Slice.sliceAdjust none none (-1) (n : Int) with | (lo, hi) => pure (lo, (-1 : Int), Builtin.Slice.slicePlaces lo hi (-1))) _ _ s
  have ea : Builtin.Slice.sliceAdjust none none (-1) (n : Int) = ((n : Int) - 1, -1) := rfl
  have ep : Builtin.Slice.slicePlaces ((n : Int) - 1) (-1) (-1) = n := by
    unfold Builtin.Slice.slicePlaces
    rw [if_neg (by decide), Int.neg_neg, Int.ediv_one]
    split <;> omega
  rw [ea]
  show wpAny _ _ (pure ((n : Int) - 1, (-1 : Int), Builtin.Slice.slicePlaces ((n : Int) - 1) (-1) (-1))) _ _ s
  rw [ep]
  exact wpAny_pure h
theorem pick_rev (xs : Array Value) : ((List.range xs.size).filterMap fun (m : Nat) => xs[((xs.size : Int) - 1 + (m : Int) * -1).toNat]?).toArray = xs.toList.reverse.toArray := by
  have h1 := PySem.W.krv_all xs
  have h2 := PySem.W.krv_range xs.size
  have cong : ∀ (l : List Nat), (∀ m ∈ l, m < xs.size) → (l.filterMap fun (m : Nat) => xs[((xs.size : Int) - 1 + (m : Int) * -1).toNat]?) = l.filterMap ((xs[·]?) ∘ fun k => xs.size - 1 - k) := by
    intro l
    induction l with
    | nil => intro _; rfl
    | cons m l ih =>
      intro hl
      have hm := hl m (List.mem_cons_self ..)
      have e0 : ((xs.size : Int) - 1 + (m : Int) * -1).toNat = xs.size - 1 - m := by omega
      rw [List.filterMap_cons, List.filterMap_cons, ih fun k hk => hl k (List.mem_cons_of_mem _ hk)]
      rw [e0]
      rfl
  have e : ((List.range xs.size).filterMap fun (m : Nat) => xs[((xs.size : Int) - 1 + (m : Int) * -1).toNat]?) = ((List.range xs.size).map fun k => xs.size - 1 - k).filterMap (xs[·]?) := by
    rw [List.filterMap_map]
    exact cong _ fun m hm => List.mem_range.mp hm
  rw [e, h2, List.filterMap_reverse, h1]
theorem getItem_rev {t sl : Addr} {items : Array Value} {vl vu vs : Value} {Q : Value → Shared → Prop} (ht : IsTup s.heap t items) (hs : s.heap.IsSliceOf sl vl vu vs) (pl : IsPart vl none) (pu : IsPart vu none) (ps : IsPart vs (some (-1)))
    (h : Q (.ref s.heap.objs.size) { s with heap := s.heap.push { cls := .type "tuple", data := .seq items.toList.reverse.toArray } }) (hsz : items.size ≤ sizeLine) : wpAny (model prog w) A (getItem (.ref t) (.ref sl)) Q E s := by
  have hok : sizeOk (.seq items.toList.reverse.toArray) := by
    show items.toList.reverse.toArray.size ≤ sizeLine
    rw [List.size_toArray, List.length_reverse, Array.length_toList]
    exact hsz
  obtain ⟨os, hos, hcs, hds⟩ := id hs
  have hTs : s.TypeIs (.ref sl) "slice" := ⟨os, hos, hcs⟩
  unfold getItem
  try with_reducible refine wpAny_holding ?_
  first | refine wpAny_bind (wpAny_pure ?_) | skip
  refine wpAny_bind (wpAny_sequenceKey ht.typeIs (by decide) ?_)
  refine wpAny_bind (wpAny_callSpecial?_slot (name := Str.ofString "__getitem__") ht.typeIs PyProof.Rows.slot_tuple_getitem
    (wpAny_call_entry PyProof.Rows.slot_tuple_getitem ht.typeIs entry_tuple_getitem ?_ (args_tuple_getitem _ _)))
  show wpAny _ _ (Builtin.Tuple.tupleItemsOf (.ref t) >>= _) _ _ s
  refine wpAny_bind (tupleItemsOf_ ht ?_)
  refine wpAny_bind (wpAny_typeOf hTs ?_)
  rw [if_pos (by decide)]
  refine wpAny_bind (applied_rev hs pl pu ps ?_)
  have hno : ¬ ((((items.size : Int) - 1) == 0 && (-1 : Int) == 1 && items.size == items.size) = true) := by
    intro q
    rw [Bool.and_eq_true, Bool.and_eq_true] at q
    exact absurd q.1.2 (by decide)
  show wpAny _ _ (if (((items.size : Int) - 1) == 0 && (-1 : Int) == 1 && items.size == items.size) = true then _ else _) _ _ s
  rw [if_neg hno, pick_rev]
  first
    | exact wpAny_bind (m := Builtin.Tuple.tupleExact _) (wpAny_newObj_type (wpAny_pure ⟨_, rfl, wpAny_pure h⟩) hok)
    | exact wpAny_bind (m := Builtin.Tuple.tupleExact _) (wpAny_newObj_type (wpAny_bind (wpAny_pure (wpAny_pure ⟨_, rfl, wpAny_pure h⟩))) hok)
    | exact wpAny_bind (wpAny_bind (m := Builtin.Tuple.tupleExact _) (wpAny_newObj_type (wpAny_pure (wpAny_pure ⟨_, rfl, wpAny_pure h⟩)) hok))
    | exact wpAny_bind (wpAny_bind (m := Builtin.Tuple.tupleExact _) (wpAny_newObj_type (wpAny_pure ⟨_, rfl, wpAny_pure h⟩) hok))
end
end EBR
namespace EB
open PySem PySem.Spec PyProof.Rows L2
def tRevT (K : PySem.W.Frag) (te : TE) : TE := fun σ H Q => te σ H fun x H1 => ∃ a xs, x = .ref a ∧ SqT K H1 a xs ∧ ∀ p, H1 p = none → Q (.ref p) (upd H1 p (.tup xs.reverse))
theorem pe_revT {X : Cx} {e : Expr} {te : TE} {k : Nat} {p1 p2 p3 pos : Pos} (he : PE X e te) : PE X (.Subscript e (.Slice none none (some (.UnaryOp .USub (.Constant (.int 1) k p1) p2)) p3) pos) (tRevT X.K te) := by
  refine ⟨fun pins s σ H Q I h => ?_⟩
  refine Subscript_ (thn (he.run pins s σ H _ I h) fun v s1 ⟨x, H1, I1, r1, q1⟩ => ?_)
  obtain ⟨a, xs, ex, hx, q⟩ := q1
  subst ex
  cases r1
  have hst : PO X (some (.UnaryOp .USub (.Constant (.int 1) k p1) p2)) (tPart (tUn (rU fun i => .int (-i)) (tC (.int 1)))) := po_some (pe_un un_neg pe_int)
  refine wpAny_Slice (thn (po_none.run pins s1 σ H1 (fun o H2 => o = none ∧ H2 = H1) I1 ⟨rfl, rfl⟩) fun vl s2 ⟨l, H2, I2, pl, el, e2⟩ => ?_)
  subst el e2
  refine thn (po_none.run pins s2 σ H2 (fun o H3 => o = none ∧ H3 = H2) I2 ⟨rfl, rfl⟩) fun vu s3 ⟨u, H3, I3, pu, eu, e3⟩ => ?_
  subst eu e3
  refine thn (hst.run pins s3 σ H3 (fun o H4 => o = some (-1) ∧ H4 = H3) I3 ⟨1, rfl, -1, rfl, rfl, rfl⟩) fun vs s4 ⟨o, H4, I4, ps, eo, e4⟩ => ?_
  subst eo e4
  have I5 : Inv X pins σ H4 { s4 with heap := s4.heap.push { cls := .type "slice", data := .fields #[vl, vu, vs] } } := I4.kept (t' := s4.toks) fun b ob q => Heap.get?_push_of_some _ q
  obtain ⟨its, r, ht, hz⟩ := I5.tuple hx
  have hlen := r.length
  show wpAny (model X.prog X.w) X.A (subscriptTail e (.Slice none none (some (.UnaryOp .USub (.Constant (.int 1) k p1) p2)) p3) (.ref a) (.ref s4.heap.objs.size)) (EP X pins σ Q) X.xe { s4 with heap := s4.heap.push { cls := .type "slice", data := .fields #[vl, vu, vs] } }
  refine tail_any (ops := [.ref a, .ref s4.heap.objs.size]) ht.typeIs (PyProof.Rows.slot_tuple_getitem.lookup) ?_ (by with_unfolding_all rfl)
  refine EBR.getItem_rev ht (Heap.IsSliceOf.new _ vl vu vs) pl pu ps ?_ (by rw [List.size_toArray]; omega)
  refine ⟨.ref _, _, I5.laid (t' := s4.toks) (o := .tup xs.reverse) (fun b ob q => Heap.get?_push_of_some _ q) (Nat.le_refl _) ?_, rfl, q _ (I5.hok.fresh (Nat.le_refl _))⟩
  exact ⟨by rw [List.length_reverse]; exact hz, _, r.reverse, IsTup.new _ _⟩
end EB

namespace EB
open PySem PySem.Spec PyProof.Rows L2
def top (i : Nat) : Stmt := PySem.Challenge.pw_emptiesback_k15_whole_simple_offers.main.body.getD i (.Pass ⟨0, 0, 0, 0⟩)
abbrev s_is_integer : Stmt := top 12
abbrev N_is_integer : List Str := ["value"]
theorem sc_is_integer : FnScope N_is_integer ["value"] (defScope s_is_integer) := ⟨rfl, rfl, rfl, by decide +kernel, rfl, by decide +kernel, by decide +kernel⟩
abbrev a_is_integer (K : PySem.W.Frag) : Addr := He.ga K "is_integer"
def d_is_integer : DD := ⟨a_is_integer, "is_integer", "is_integer", s_is_integer, []⟩
abbrev s_is_number : Stmt := top 13
abbrev N_is_number : List Str := ["value", "least", "most"]
theorem sc_is_number : FnScope N_is_number ["value", "least", "most"] (defScope s_is_number) := ⟨rfl, rfl, rfl, by decide +kernel, rfl, by decide +kernel, by decide +kernel⟩
abbrev a_is_number (K : PySem.W.Frag) : Addr := He.ga K "is_number"
def d_is_number : DD := ⟨a_is_number, "is_number", "is_number", s_is_number, []⟩
abbrev s_check_number : Stmt := top 14
abbrev N_check_number : List Str := ["value", "least", "most"]
theorem sc_check_number : FnScope N_check_number ["value", "least", "most"] (defScope s_check_number) := ⟨rfl, rfl, rfl, by decide +kernel, rfl, by decide +kernel, by decide +kernel⟩
abbrev a_check_number (K : PySem.W.Frag) : Addr := He.ga K "check_number"
def d_check_number : DD := ⟨a_check_number, "check_number", "check_number", s_check_number, [.int 0, .int 1000000000000000000]⟩
abbrev s_is_label : Stmt := top 15
abbrev N_is_label : List Str := ["value", "letter"]
theorem sc_is_label : FnScope N_is_label ["value"] (defScope s_is_label) := ⟨rfl, rfl, rfl, by decide +kernel, rfl, by decide +kernel, by decide +kernel⟩
abbrev a_is_label (K : PySem.W.Frag) : Addr := He.ga K "is_label"
def d_is_label : DD := ⟨a_is_label, "is_label", "is_label", s_is_label, []⟩
abbrev s_is_kind : Stmt := top 16
abbrev N_is_kind : List Str := ["value"]
theorem sc_is_kind : FnScope N_is_kind ["value"] (defScope s_is_kind) := ⟨rfl, rfl, rfl, by decide +kernel, rfl, by decide +kernel, by decide +kernel⟩
abbrev a_is_kind (K : PySem.W.Frag) : Addr := He.ga K "is_kind"
def d_is_kind : DD := ⟨a_is_kind, "is_kind", "is_kind", s_is_kind, []⟩
abbrev s_cost_of : Stmt := top 18
abbrev N_cost_of : List Str := ["trades", "drinks", "_", "left", "needed"]
theorem sc_cost_of : FnScope N_cost_of ["trades", "drinks"] (defScope s_cost_of) := ⟨rfl, rfl, rfl, by decide +kernel, rfl, by decide +kernel, by decide +kernel⟩
abbrev a_cost_of (K : PySem.W.Frag) : Addr := He.ga K "cost_of"
def d_cost_of : DD := ⟨a_cost_of, "cost_of", "cost_of", s_cost_of, []⟩
abbrev s_drinks_of_period : Stmt := top 19
abbrev N_drinks_of_period : List Str := ["trades", "drinks", "_", "left", "needed"]
theorem sc_drinks_of_period : FnScope N_drinks_of_period ["trades"] (defScope s_drinks_of_period) := ⟨rfl, rfl, rfl, by decide +kernel, rfl, by decide +kernel, by decide +kernel⟩
abbrev a_drinks_of_period (K : PySem.W.Frag) : Addr := He.ga K "drinks_of_period"
def d_drinks_of_period : DD := ⟨a_drinks_of_period, "drinks_of_period", "drinks_of_period", s_drinks_of_period, []⟩
abbrev s_tops_of : Stmt := top 20
abbrev N_tops_of : List Str := ["costs", "tops", "top", "cost"]
theorem sc_tops_of : FnScope N_tops_of ["costs"] (defScope s_tops_of) := ⟨rfl, rfl, rfl, by decide +kernel, rfl, by decide +kernel, by decide +kernel⟩
abbrev a_tops_of (K : PySem.W.Frag) : Addr := He.ga K "tops_of"
def d_tops_of : DD := ⟨a_tops_of, "tops_of", "tops_of", s_tops_of, []⟩
abbrev s_firsts_of : Stmt := top 21
abbrev N_firsts_of : List Str := ["tops", "firsts", "drinks", "top"]
theorem sc_firsts_of : FnScope N_firsts_of ["tops"] (defScope s_firsts_of) := ⟨rfl, rfl, rfl, by decide +kernel, rfl, by decide +kernel, by decide +kernel⟩
abbrev a_firsts_of (K : PySem.W.Frag) : Addr := He.ga K "firsts_of"
def d_firsts_of : DD := ⟨a_firsts_of, "firsts_of", "firsts_of", s_firsts_of, []⟩
abbrev s_gaps_of : Stmt := top 22
abbrev N_gaps_of : List Str := ["tops", "firsts", "drinks", "top"]
theorem sc_gaps_of : FnScope N_gaps_of ["tops", "firsts"] (defScope s_gaps_of) := ⟨rfl, rfl, rfl, by decide +kernel, rfl, by decide +kernel, by decide +kernel⟩
abbrev a_gaps_of (K : PySem.W.Frag) : Addr := He.ga K "gaps_of"
def d_gaps_of : DD := ⟨a_gaps_of, "gaps_of", "gaps_of", s_gaps_of, []⟩
abbrev s_value_at : Stmt := top 23
abbrev N_value_at : List Str := ["table", "at", "span", "rise", "turns"]
theorem sc_value_at : FnScope N_value_at ["table", "at", "span", "rise"] (defScope s_value_at) := ⟨rfl, rfl, rfl, by decide +kernel, rfl, by decide +kernel, by decide +kernel⟩
abbrev a_value_at (K : PySem.W.Frag) : Addr := He.ga K "value_at"
def d_value_at : DD := ⟨a_value_at, "value_at", "value_at", s_value_at, []⟩
abbrev s_is_trade : Stmt := top 26
abbrev N_is_trade : List Str := ["kind", "left", "needed"]
theorem sc_is_trade : FnScope N_is_trade ["kind", "left", "needed"] (defScope s_is_trade) := ⟨rfl, rfl, rfl, by decide +kernel, rfl, by decide +kernel, by decide +kernel⟩
abbrev a_is_trade (K : PySem.W.Frag) : Addr := He.ga K "_is_trade"
def d_is_trade : DD := ⟨a_is_trade, "_is_trade", "_is_trade", s_is_trade, []⟩
abbrev s_check_trades : Stmt := top 27
abbrev N_check_trades : List Str := ["trades", "kinds", "index", "kind", "left", "needed"]
theorem sc_check_trades : FnScope N_check_trades ["trades"] (defScope s_check_trades) := ⟨rfl, rfl, rfl, by decide +kernel, rfl, by decide +kernel, by decide +kernel⟩
abbrev a_check_trades (K : PySem.W.Frag) : Addr := He.ga K "_check_trades"
def d_check_trades : DD := ⟨a_check_trades, "_check_trades", "_check_trades", s_check_trades, []⟩
abbrev s_check_generosity : Stmt := top 28
abbrev N_check_generosity : List Str := ["trades", "whole", "_", "needed", "parts", "left"]
theorem sc_check_generosity : FnScope N_check_generosity ["trades"] (defScope s_check_generosity) := ⟨rfl, rfl, rfl, by decide +kernel, rfl, by decide +kernel, by decide +kernel⟩
abbrev a_check_generosity (K : PySem.W.Frag) : Addr := He.ga K "_check_generosity"
def d_check_generosity : DD := ⟨a_check_generosity, "_check_generosity", "_check_generosity", s_check_generosity, []⟩
abbrev s_Offer_init : Stmt := inClass (top 29) 2
abbrev N_Offer_init : List Str := ["self", "trades", "drinks", "kind", "left", "needed", "count"]
theorem sc_Offer_init : FnScope N_Offer_init ["self", "trades"] (defScope s_Offer_init) := ⟨rfl, rfl, rfl, by decide +kernel, rfl, by decide +kernel, by decide +kernel⟩
abbrev a_Offer_init (K : PySem.W.Frag) : Addr := He.ma K (He.ga K "Offer") "__init__"
def d_Offer_init : DD := ⟨a_Offer_init, "__init__", "Offer.__init__", s_Offer_init, []⟩
abbrev s_Offer_simple : Stmt := inClass (top 29) 3
abbrev N_Offer_simple : List Str := ["cls", "needed"]
theorem sc_Offer_simple : FnScope N_Offer_simple ["cls", "needed"] (defScope s_Offer_simple) := ⟨rfl, rfl, rfl, by decide +kernel, rfl, by decide +kernel, by decide +kernel⟩
abbrev a_Offer_simple (K : PySem.W.Frag) : Addr := He5.wf K (He.ga K "Offer") "classmethod" "simple"
def d_Offer_simple : DD := ⟨a_Offer_simple, "simple", "Offer.simple", s_Offer_simple, []⟩
abbrev s_Offer_trades : Stmt := inClass (top 29) 4
abbrev N_Offer_trades : List Str := ["self"]
theorem sc_Offer_trades : FnScope N_Offer_trades ["self"] (defScope s_Offer_trades) := ⟨rfl, rfl, rfl, by decide +kernel, rfl, by decide +kernel, by decide +kernel⟩
abbrev a_Offer_trades (K : PySem.W.Frag) : Addr := propG K (He.ga K "Offer") (He.ma K (He.ga K "Offer") "trades")
def d_Offer_trades : DD := ⟨a_Offer_trades, "trades", "Offer.trades", s_Offer_trades, []⟩
abbrev s_Offer_kinds : Stmt := inClass (top 29) 5
abbrev N_Offer_kinds : List Str := ["self", "kind", "_"]
theorem sc_Offer_kinds : FnScope N_Offer_kinds ["self"] (defScope s_Offer_kinds) := ⟨rfl, rfl, rfl, by decide +kernel, rfl, by decide +kernel, by decide +kernel⟩
abbrev a_Offer_kinds (K : PySem.W.Frag) : Addr := propG K (He.ga K "Offer") (He.ma K (He.ga K "Offer") "kinds")
def d_Offer_kinds : DD := ⟨a_Offer_kinds, "kinds", "Offer.kinds", s_Offer_kinds, []⟩
abbrev s_Offer_period : Stmt := inClass (top 29) 6
abbrev N_Offer_period : List Str := ["self"]
theorem sc_Offer_period : FnScope N_Offer_period ["self"] (defScope s_Offer_period) := ⟨rfl, rfl, rfl, by decide +kernel, rfl, by decide +kernel, by decide +kernel⟩
abbrev a_Offer_period (K : PySem.W.Frag) : Addr := propG K (He.ga K "Offer") (He.ma K (He.ga K "Offer") "period")
def d_Offer_period : DD := ⟨a_Offer_period, "period", "Offer.period", s_Offer_period, []⟩
abbrev s_Offer_steady_from : Stmt := inClass (top 29) 7
abbrev N_Offer_steady_from : List Str := ["self", "bottles", "drinks"]
theorem sc_Offer_steady_from : FnScope N_Offer_steady_from ["self"] (defScope s_Offer_steady_from) := ⟨rfl, rfl, rfl, by decide +kernel, rfl, by decide +kernel, by decide +kernel⟩
abbrev a_Offer_steady_from (K : PySem.W.Frag) : Addr := propG K (He.ga K "Offer") (He.ma K (He.ga K "Offer") "steady_from")
def d_Offer_steady_from : DD := ⟨a_Offer_steady_from, "steady_from", "Offer.steady_from", s_Offer_steady_from, []⟩
abbrev s_Offer_drinks_for : Stmt := inClass (top 29) 8
abbrev N_Offer_drinks_for : List Str := ["self", "bottles", "span", "rise"]
theorem sc_Offer_drinks_for : FnScope N_Offer_drinks_for ["self", "bottles"] (defScope s_Offer_drinks_for) := ⟨rfl, rfl, rfl, by decide +kernel, rfl, by decide +kernel, by decide +kernel⟩
abbrev a_Offer_drinks_for (K : PySem.W.Frag) : Addr := He.ma K (He.ga K "Offer") "_drinks_for"
def d_Offer_drinks_for : DD := ⟨a_Offer_drinks_for, "_drinks_for", "Offer._drinks_for", s_Offer_drinks_for, []⟩
abbrev s_Offer_most_within : Stmt := inClass (top 29) 9
abbrev N_Offer_most_within : List Str := ["self", "drinks", "rise", "span"]
theorem sc_Offer_most_within : FnScope N_Offer_most_within ["self", "drinks"] (defScope s_Offer_most_within) := ⟨rfl, rfl, rfl, by decide +kernel, rfl, by decide +kernel, by decide +kernel⟩
abbrev a_Offer_most_within (K : PySem.W.Frag) : Addr := He.ma K (He.ga K "Offer") "_most_within"
def d_Offer_most_within : DD := ⟨a_Offer_most_within, "_most_within", "Offer._most_within", s_Offer_most_within, []⟩
abbrev s_Offer_call : Stmt := inClass (top 29) 10
abbrev N_Offer_call : List Str := ["self", "bottles"]
theorem sc_Offer_call : FnScope N_Offer_call ["self", "bottles"] (defScope s_Offer_call) := ⟨rfl, rfl, rfl, by decide +kernel, rfl, by decide +kernel, by decide +kernel⟩
abbrev a_Offer_call (K : PySem.W.Frag) : Addr := He.ma K (He.ga K "Offer") "__call__"
def d_Offer_call : DD := ⟨a_Offer_call, "__call__", "Offer.__call__", s_Offer_call, []⟩
abbrev s_Offer_rounds : Stmt := inClass (top 29) 13
abbrev N_Offer_rounds : List Str := ["self", "bottles", "drunk", "full"]
theorem sc_Offer_rounds : GScope N_Offer_rounds ["self", "bottles"] (defScope s_Offer_rounds) := ⟨rfl, rfl, rfl, by decide +kernel, rfl, by decide +kernel, by decide +kernel⟩
abbrev a_Offer_rounds (K : PySem.W.Frag) : Addr := He.ma K (He.ga K "Offer") "rounds"
def d_Offer_rounds : DD := ⟨a_Offer_rounds, "rounds", "Offer.rounds", s_Offer_rounds, []⟩
abbrev s_Offer_credit : Stmt := inClass (top 29) 14
abbrev N_Offer_credit : List Str := ["self", "bottles", "period_bottles", "period_drinks", "turns", "rest", "drinks"]
theorem sc_Offer_credit : FnScope N_Offer_credit ["self", "bottles"] (defScope s_Offer_credit) := ⟨rfl, rfl, rfl, by decide +kernel, rfl, by decide +kernel, by decide +kernel⟩
abbrev a_Offer_credit (K : PySem.W.Frag) : Addr := He.ma K (He.ga K "Offer") "credit"
def d_Offer_credit : DD := ⟨a_Offer_credit, "credit", "Offer.credit", s_Offer_credit, []⟩
abbrev s_Offer_count_missing : Stmt := inClass (top 29) 17
abbrev N_Offer_count_missing : List Str := ["self", "last"]
theorem sc_Offer_count_missing : FnScope N_Offer_count_missing ["self", "last"] (defScope s_Offer_count_missing) := ⟨rfl, rfl, rfl, by decide +kernel, rfl, by decide +kernel, by decide +kernel⟩
abbrev a_Offer_count_missing (K : PySem.W.Frag) : Addr := He.ma K (He.ga K "Offer") "count_missing"
def d_Offer_count_missing : DD := ⟨a_Offer_count_missing, "count_missing", "Offer.count_missing", s_Offer_count_missing, []⟩
abbrev s_Offer_nth_missing : Stmt := inClass (top 29) 18
abbrev N_Offer_nth_missing : List Str := ["self", "number", "bottles", "drinks"]
theorem sc_Offer_nth_missing : FnScope N_Offer_nth_missing ["self", "number"] (defScope s_Offer_nth_missing) := ⟨rfl, rfl, rfl, by decide +kernel, rfl, by decide +kernel, by decide +kernel⟩
abbrev a_Offer_nth_missing (K : PySem.W.Frag) : Addr := He.ma K (He.ga K "Offer") "nth_missing"
def d_Offer_nth_missing : DD := ⟨a_Offer_nth_missing, "nth_missing", "Offer.nth_missing", s_Offer_nth_missing, []⟩
abbrev s_Offer_add : Stmt := inClass (top 29) 20
abbrev N_Offer_add : List Str := ["self", "other", "trades"]
theorem sc_Offer_add : FnScope N_Offer_add ["self", "other"] (defScope s_Offer_add) := ⟨rfl, rfl, rfl, by decide +kernel, rfl, by decide +kernel, by decide +kernel⟩
abbrev a_Offer_add (K : PySem.W.Frag) : Addr := He.ma K (He.ga K "Offer") "__add__"
def d_Offer_add : DD := ⟨a_Offer_add, "__add__", "Offer.__add__", s_Offer_add, []⟩
abbrev s_Offer_sub : Stmt := inClass (top 29) 21
abbrev N_Offer_sub : List Str := ["self", "other", "trades", "trade"]
theorem sc_Offer_sub : FnScope N_Offer_sub ["self", "other"] (defScope s_Offer_sub) := ⟨rfl, rfl, rfl, by decide +kernel, rfl, by decide +kernel, by decide +kernel⟩
abbrev a_Offer_sub (K : PySem.W.Frag) : Addr := He.ma K (He.ga K "Offer") "__sub__"
def d_Offer_sub : DD := ⟨a_Offer_sub, "__sub__", "Offer.__sub__", s_Offer_sub, []⟩
abbrev s_Offer_getitem : Stmt := inClass (top 29) 22
abbrev N_Offer_getitem : List Str := ["self", "at", "kind", "left", "needed"]
theorem sc_Offer_getitem : FnScope N_Offer_getitem ["self", "at"] (defScope s_Offer_getitem) := ⟨rfl, rfl, rfl, by decide +kernel, rfl, by decide +kernel, by decide +kernel⟩
abbrev a_Offer_getitem (K : PySem.W.Frag) : Addr := He.ma K (He.ga K "Offer") "__getitem__"
def d_Offer_getitem : DD := ⟨a_Offer_getitem, "__getitem__", "Offer.__getitem__", s_Offer_getitem, []⟩
abbrev s_Offer_iter : Stmt := inClass (top 29) 23
abbrev N_Offer_iter : List Str := ["self"]
theorem sc_Offer_iter : FnScope N_Offer_iter ["self"] (defScope s_Offer_iter) := ⟨rfl, rfl, rfl, by decide +kernel, rfl, by decide +kernel, by decide +kernel⟩
abbrev a_Offer_iter (K : PySem.W.Frag) : Addr := He.ma K (He.ga K "Offer") "__iter__"
def d_Offer_iter : DD := ⟨a_Offer_iter, "__iter__", "Offer.__iter__", s_Offer_iter, []⟩
abbrev s_Offer_bool : Stmt := inClass (top 29) 24
abbrev N_Offer_bool : List Str := ["self", "_", "left"]
theorem sc_Offer_bool : FnScope N_Offer_bool ["self"] (defScope s_Offer_bool) := ⟨rfl, rfl, rfl, by decide +kernel, rfl, by decide +kernel, by decide +kernel⟩
abbrev a_Offer_bool (K : PySem.W.Frag) : Addr := He.ma K (He.ga K "Offer") "__bool__"
def d_Offer_bool : DD := ⟨a_Offer_bool, "__bool__", "Offer.__bool__", s_Offer_bool, []⟩
abbrev s_Offer_contains : Stmt := inClass (top 29) 25
abbrev N_Offer_contains : List Str := ["self", "x"]
theorem sc_Offer_contains : FnScope N_Offer_contains ["self", "x"] (defScope s_Offer_contains) := ⟨rfl, rfl, rfl, by decide +kernel, rfl, by decide +kernel, by decide +kernel⟩
abbrev a_Offer_contains (K : PySem.W.Frag) : Addr := He.ma K (He.ga K "Offer") "__contains__"
def d_Offer_contains : DD := ⟨a_Offer_contains, "__contains__", "Offer.__contains__", s_Offer_contains, []⟩
abbrev s_Offer_le : Stmt := inClass (top 29) 26
abbrev N_Offer_le : List Str := ["self", "other"]
theorem sc_Offer_le : FnScope N_Offer_le ["self", "other"] (defScope s_Offer_le) := ⟨rfl, rfl, rfl, by decide +kernel, rfl, by decide +kernel, by decide +kernel⟩
abbrev a_Offer_le (K : PySem.W.Frag) : Addr := He.ma K (He.ga K "Offer") "__le__"
def d_Offer_le : DD := ⟨a_Offer_le, "__le__", "Offer.__le__", s_Offer_le, []⟩
abbrev s_Offer_lt : Stmt := inClass (top 29) 27
abbrev N_Offer_lt : List Str := ["self", "other"]
theorem sc_Offer_lt : FnScope N_Offer_lt ["self", "other"] (defScope s_Offer_lt) := ⟨rfl, rfl, rfl, by decide +kernel, rfl, by decide +kernel, by decide +kernel⟩
abbrev a_Offer_lt (K : PySem.W.Frag) : Addr := He.ma K (He.ga K "Offer") "__lt__"
def d_Offer_lt : DD := ⟨a_Offer_lt, "__lt__", "Offer.__lt__", s_Offer_lt, []⟩
abbrev s_Offer_ge : Stmt := inClass (top 29) 28
abbrev N_Offer_ge : List Str := ["self", "other"]
theorem sc_Offer_ge : FnScope N_Offer_ge ["self", "other"] (defScope s_Offer_ge) := ⟨rfl, rfl, rfl, by decide +kernel, rfl, by decide +kernel, by decide +kernel⟩
abbrev a_Offer_ge (K : PySem.W.Frag) : Addr := He.ma K (He.ga K "Offer") "__ge__"
def d_Offer_ge : DD := ⟨a_Offer_ge, "__ge__", "Offer.__ge__", s_Offer_ge, []⟩
abbrev s_Offer_gt : Stmt := inClass (top 29) 29
abbrev N_Offer_gt : List Str := ["self", "other"]
theorem sc_Offer_gt : FnScope N_Offer_gt ["self", "other"] (defScope s_Offer_gt) := ⟨rfl, rfl, rfl, by decide +kernel, rfl, by decide +kernel, by decide +kernel⟩
abbrev a_Offer_gt (K : PySem.W.Frag) : Addr := He.ma K (He.ga K "Offer") "__gt__"
def d_Offer_gt : DD := ⟨a_Offer_gt, "__gt__", "Offer.__gt__", s_Offer_gt, []⟩
abbrev s_slack : Stmt := top 30
abbrev N_slack : List Str := ["one", "other", "bottles"]
theorem sc_slack : FnScope N_slack ["one", "other", "bottles"] (defScope s_slack) := ⟨rfl, rfl, rfl, by decide +kernel, rfl, by decide +kernel, by decide +kernel⟩
abbrev a_slack (K : PySem.W.Frag) : Addr := He.ga K "_slack"
def d_slack : DD := ⟨a_slack, "_slack", "_slack", s_slack, []⟩
abbrev s_repetition : Stmt := top 31
abbrev N_repetition : List Str := ["one", "other", "one_bottles", "one_drinks", "other_bottles", "other_drinks", "drinks", "span", "fall"]
theorem sc_repetition : FnScope N_repetition ["one", "other"] (defScope s_repetition) := ⟨rfl, rfl, rfl, by decide +kernel, rfl, by decide +kernel, by decide +kernel⟩
abbrev a_repetition (K : PySem.W.Frag) : Addr := He.ga K "_repetition"
def d_repetition : DD := ⟨a_repetition, "_repetition", "_repetition", s_repetition, []⟩
abbrev s_never_more : Stmt := top 32
abbrev N_never_more : List Str := ["one", "other", "start", "span", "fall", "bottles"]
theorem sc_never_more : FnScope N_never_more ["one", "other"] (defScope s_never_more) := ⟨rfl, rfl, rfl, by decide +kernel, rfl, by decide +kernel, by decide +kernel⟩
abbrev a_never_more (K : PySem.W.Frag) : Addr := He.ga K "_never_more"
def d_never_more : DD := ⟨a_never_more, "_never_more", "_never_more", s_never_more, []⟩
abbrev s_first_difference : Stmt := top 33
abbrev N_first_difference : List Str := ["one", "other", "start", "span", "fall", "bottles"]
theorem sc_first_difference : FnScope N_first_difference ["one", "other"] (defScope s_first_difference) := ⟨rfl, rfl, rfl, by decide +kernel, rfl, by decide +kernel, by decide +kernel⟩
abbrev a_first_difference (K : PySem.W.Frag) : Addr := He.ga K "first_difference"
def d_first_difference : DD := ⟨a_first_difference, "first_difference", "first_difference", s_first_difference, []⟩
abbrev s_better_from : Stmt := top 34
abbrev N_better_from : List Str := ["one", "other", "start", "span", "fall", "last", "bottles", "slack"]
theorem sc_better_from : FnScope N_better_from ["one", "other"] (defScope s_better_from) := ⟨rfl, rfl, rfl, by decide +kernel, rfl, by decide +kernel, by decide +kernel⟩
abbrev a_better_from (K : PySem.W.Frag) : Addr := He.ga K "better_from"
def d_better_from : DD := ⟨a_better_from, "better_from", "better_from", s_better_from, []⟩
abbrev s_law_mix : Stmt := top 36
abbrev N_law_mix : List Str := ["_law_script", "_law_seed", "_law_mixed", "_law_cell"]
theorem sc_law_mix : FnScope N_law_mix ["_law_script", "_law_seed"] (defScope s_law_mix) := ⟨rfl, rfl, rfl, by decide +kernel, rfl, by decide +kernel, by decide +kernel⟩
abbrev a_law_mix (K : PySem.W.Frag) : Addr := He.ga K "_law_mix"
def d_law_mix : DD := ⟨a_law_mix, "_law_mix", "_law_mix", s_law_mix, []⟩
abbrev s_law_next : Stmt := top 37
abbrev N_law_next : List Str := ["_law_h", "_law_limit", "_law_cell"]
theorem sc_law_next : FnScope N_law_next ["_law_h", "_law_limit"] (defScope s_law_next) := ⟨rfl, rfl, rfl, by decide +kernel, rfl, by decide +kernel, by decide +kernel⟩
abbrev a_law_next (K : PySem.W.Frag) : Addr := He.ga K "_law_next"
def d_law_next : DD := ⟨a_law_next, "_law_next", "_law_next", s_law_next, []⟩
abbrev s_law_alike : Stmt := top 38
abbrev N_law_alike : List Str := ["_law_found", "_law_due", "_law_k"]
theorem sc_law_alike : FnScope N_law_alike ["_law_found", "_law_due"] (defScope s_law_alike) := ⟨rfl, rfl, rfl, by decide +kernel, rfl, by decide +kernel, by decide +kernel⟩
abbrev a_law_alike (K : PySem.W.Frag) : Addr := He.ga K "_law_alike"
def d_law_alike : DD := ⟨a_law_alike, "_law_alike", "_law_alike", s_law_alike, []⟩
abbrev s_law_late_right : Stmt := top 39
abbrev N_law_late_right : List Str := ["_law_one", "_law_other", "_law_n"]
theorem sc_law_late_right : FnScope N_law_late_right [] (defScope s_law_late_right) := ⟨rfl, rfl, rfl, by decide +kernel, rfl, by decide +kernel, by decide +kernel⟩
abbrev a_law_late_right (K : PySem.W.Frag) : Addr := He.ga K "_law_late_right"
def d_law_late_right : DD := ⟨a_law_late_right, "_law_late_right", "_law_late_right", s_law_late_right, []⟩
abbrev s_law : Stmt := top 40
abbrev N_law : List Str := ["_law_script", "_law_h", "_law_turn", "_law_needed", "_law_bottles", "_law_offer", "_law_rest", "_law_due", "_law_drinks", "_law_other", "_law_low", "_law_more"]
theorem sc_law : FnScope N_law ["_law_script"] (defScope s_law) := ⟨rfl, rfl, rfl, by decide +kernel, rfl, by decide +kernel, by decide +kernel⟩
abbrev a_law (K : PySem.W.Frag) : Addr := He.ga K "law"
def d_law : DD := ⟨a_law, "law", "law", s_law, []⟩
/-- what the top has left -/
structure Tx (K : PySem.W.Frag) (mg : Str → Option Value) where
  fd_is_integer : FuncData
  F_is_integer : FnP K d_is_integer fd_is_integer
  g_is_integer : mg "is_integer" = some (.ref (a_is_integer K))
  fd_is_number : FuncData
  F_is_number : FnP K d_is_number fd_is_number
  g_is_number : mg "is_number" = some (.ref (a_is_number K))
  fd_check_number : FuncData
  F_check_number : FnP K d_check_number fd_check_number
  g_check_number : mg "check_number" = some (.ref (a_check_number K))
  fd_is_label : FuncData
  F_is_label : FnP K d_is_label fd_is_label
  g_is_label : mg "is_label" = some (.ref (a_is_label K))
  fd_is_kind : FuncData
  F_is_kind : FnP K d_is_kind fd_is_kind
  g_is_kind : mg "is_kind" = some (.ref (a_is_kind K))
  fd_cost_of : FuncData
  F_cost_of : FnP K d_cost_of fd_cost_of
  g_cost_of : mg "cost_of" = some (.ref (a_cost_of K))
  fd_drinks_of_period : FuncData
  F_drinks_of_period : FnP K d_drinks_of_period fd_drinks_of_period
  g_drinks_of_period : mg "drinks_of_period" = some (.ref (a_drinks_of_period K))
  fd_tops_of : FuncData
  F_tops_of : FnP K d_tops_of fd_tops_of
  g_tops_of : mg "tops_of" = some (.ref (a_tops_of K))
  fd_firsts_of : FuncData
  F_firsts_of : FnP K d_firsts_of fd_firsts_of
  g_firsts_of : mg "firsts_of" = some (.ref (a_firsts_of K))
  fd_gaps_of : FuncData
  F_gaps_of : FnP K d_gaps_of fd_gaps_of
  g_gaps_of : mg "gaps_of" = some (.ref (a_gaps_of K))
  fd_value_at : FuncData
  F_value_at : FnP K d_value_at fd_value_at
  g_value_at : mg "value_at" = some (.ref (a_value_at K))
  fd_is_trade : FuncData
  F_is_trade : FnP K d_is_trade fd_is_trade
  g_is_trade : mg "_is_trade" = some (.ref (a_is_trade K))
  fd_check_trades : FuncData
  F_check_trades : FnP K d_check_trades fd_check_trades
  g_check_trades : mg "_check_trades" = some (.ref (a_check_trades K))
  fd_check_generosity : FuncData
  F_check_generosity : FnP K d_check_generosity fd_check_generosity
  g_check_generosity : mg "_check_generosity" = some (.ref (a_check_generosity K))
  fd_Offer_init : FuncData
  F_Offer_init : FnP K d_Offer_init fd_Offer_init
  mk_Offer : Mk K (He.ga K "Offer") (a_Offer_init K)
  fd_Offer_simple : FuncData
  F_Offer_simple : FnP K d_Offer_simple fd_Offer_simple
  cm_Offer_simple : ClX.CMet K (He.ga K "Offer") (.type "type") "simple" (He.ma K (He.ga K "Offer") "simple") (a_Offer_simple K)
  fd_Offer_trades : FuncData
  F_Offer_trades : FnP K d_Offer_trades fd_Offer_trades
  p_Offer_trades : PropOf K (He.ga K "Offer") "trades" (He.ma K (He.ga K "Offer") "trades") (a_Offer_trades K)
  fd_Offer_kinds : FuncData
  F_Offer_kinds : FnP K d_Offer_kinds fd_Offer_kinds
  p_Offer_kinds : PropOf K (He.ga K "Offer") "kinds" (He.ma K (He.ga K "Offer") "kinds") (a_Offer_kinds K)
  fd_Offer_period : FuncData
  F_Offer_period : FnP K d_Offer_period fd_Offer_period
  p_Offer_period : PropOf K (He.ga K "Offer") "period" (He.ma K (He.ga K "Offer") "period") (a_Offer_period K)
  fd_Offer_steady_from : FuncData
  F_Offer_steady_from : FnP K d_Offer_steady_from fd_Offer_steady_from
  p_Offer_steady_from : PropOf K (He.ga K "Offer") "steady_from" (He.ma K (He.ga K "Offer") "steady_from") (a_Offer_steady_from K)
  fd_Offer_drinks_for : FuncData
  F_Offer_drinks_for : FnP K d_Offer_drinks_for fd_Offer_drinks_for
  m_Offer_drinks_for : Meth K (He.ga K "Offer") "_drinks_for" (a_Offer_drinks_for K)
  fd_Offer_most_within : FuncData
  F_Offer_most_within : FnP K d_Offer_most_within fd_Offer_most_within
  m_Offer_most_within : Meth K (He.ga K "Offer") "_most_within" (a_Offer_most_within K)
  fd_Offer_call : FuncData
  F_Offer_call : FnP K d_Offer_call fd_Offer_call
  co_Offer : StX.CallO K (He.ga K "Offer") (a_Offer_call K)
  fd_Offer_rounds : FuncData
  F_Offer_rounds : FnP K d_Offer_rounds fd_Offer_rounds
  m_Offer_rounds : Meth K (He.ga K "Offer") "rounds" (a_Offer_rounds K)
  fd_Offer_credit : FuncData
  F_Offer_credit : FnP K d_Offer_credit fd_Offer_credit
  m_Offer_credit : Meth K (He.ga K "Offer") "credit" (a_Offer_credit K)
  fd_Offer_count_missing : FuncData
  F_Offer_count_missing : FnP K d_Offer_count_missing fd_Offer_count_missing
  m_Offer_count_missing : Meth K (He.ga K "Offer") "count_missing" (a_Offer_count_missing K)
  fd_Offer_nth_missing : FuncData
  F_Offer_nth_missing : FnP K d_Offer_nth_missing fd_Offer_nth_missing
  m_Offer_nth_missing : Meth K (He.ga K "Offer") "nth_missing" (a_Offer_nth_missing K)
  fd_Offer_add : FuncData
  F_Offer_add : FnP K d_Offer_add fd_Offer_add
  m_Offer_add : Meth K (He.ga K "Offer") "__add__" (a_Offer_add K)
  fd_Offer_sub : FuncData
  F_Offer_sub : FnP K d_Offer_sub fd_Offer_sub
  m_Offer_sub : Meth K (He.ga K "Offer") "__sub__" (a_Offer_sub K)
  fd_Offer_getitem : FuncData
  F_Offer_getitem : FnP K d_Offer_getitem fd_Offer_getitem
  m_Offer_getitem : Meth K (He.ga K "Offer") "__getitem__" (a_Offer_getitem K)
  fd_Offer_iter : FuncData
  F_Offer_iter : FnP K d_Offer_iter fd_Offer_iter
  m_Offer_iter : Meth K (He.ga K "Offer") "__iter__" (a_Offer_iter K)
  fd_Offer_bool : FuncData
  F_Offer_bool : FnP K d_Offer_bool fd_Offer_bool
  m_Offer_bool : Meth K (He.ga K "Offer") "__bool__" (a_Offer_bool K)
  fd_Offer_contains : FuncData
  F_Offer_contains : FnP K d_Offer_contains fd_Offer_contains
  m_Offer_contains : Meth K (He.ga K "Offer") "__contains__" (a_Offer_contains K)
  fd_Offer_le : FuncData
  F_Offer_le : FnP K d_Offer_le fd_Offer_le
  m_Offer_le : Meth K (He.ga K "Offer") "__le__" (a_Offer_le K)
  fd_Offer_lt : FuncData
  F_Offer_lt : FnP K d_Offer_lt fd_Offer_lt
  m_Offer_lt : Meth K (He.ga K "Offer") "__lt__" (a_Offer_lt K)
  fd_Offer_ge : FuncData
  F_Offer_ge : FnP K d_Offer_ge fd_Offer_ge
  m_Offer_ge : Meth K (He.ga K "Offer") "__ge__" (a_Offer_ge K)
  fd_Offer_gt : FuncData
  F_Offer_gt : FnP K d_Offer_gt fd_Offer_gt
  m_Offer_gt : Meth K (He.ga K "Offer") "__gt__" (a_Offer_gt K)
  fd_slack : FuncData
  F_slack : FnP K d_slack fd_slack
  g_slack : mg "_slack" = some (.ref (a_slack K))
  fd_repetition : FuncData
  F_repetition : FnP K d_repetition fd_repetition
  g_repetition : mg "_repetition" = some (.ref (a_repetition K))
  fd_never_more : FuncData
  F_never_more : FnP K d_never_more fd_never_more
  g_never_more : mg "_never_more" = some (.ref (a_never_more K))
  fd_first_difference : FuncData
  F_first_difference : FnP K d_first_difference fd_first_difference
  g_first_difference : mg "first_difference" = some (.ref (a_first_difference K))
  fd_better_from : FuncData
  F_better_from : FnP K d_better_from fd_better_from
  g_better_from : mg "better_from" = some (.ref (a_better_from K))
  fd_law_mix : FuncData
  F_law_mix : FnP K d_law_mix fd_law_mix
  g_law_mix : mg "_law_mix" = some (.ref (a_law_mix K))
  fd_law_next : FuncData
  F_law_next : FnP K d_law_next fd_law_next
  g_law_next : mg "_law_next" = some (.ref (a_law_next K))
  fd_law_alike : FuncData
  F_law_alike : FnP K d_law_alike fd_law_alike
  g_law_alike : mg "_law_alike" = some (.ref (a_law_alike K))
  fd_law_late_right : FuncData
  F_law_late_right : FnP K d_law_late_right fd_law_late_right
  g_law_late_right : mg "_law_late_right" = some (.ref (a_law_late_right K))
  fd_law : FuncData
  F_law : FnP K d_law fd_law
  g_law : mg "law" = some (.ref (a_law K))
  g_Offer : mg "Offer" = some (.ref (He.ga K "Offer"))
  k_Offer : Cls K (He.ga K "Offer")
  r_Offer : ClX.CRead K (He.ga K "Offer") (.type "type")
  na_trades : NoAttr K (He.ga K "Offer") "_trades"
  na_period : NoAttr K (He.ga K "Offer") "_period"
  na_tops : NoAttr K (He.ga K "Offer") "_tops"
  na_firsts : NoAttr K (He.ga K "Offer") "_firsts"
  na_gaps : NoAttr K (He.ga K "Offer") "_gaps"
  v_Offer_MAX_TRADES : ∃ u, ClX.CVal K (He.ga K "Offer") (.type "type") "MAX_TRADES" (.int 3) u
  v_Offer_MAX_NEEDED : ∃ u, ClX.CVal K (He.ga K "Offer") (.type "type") "MAX_NEEDED" (.int 12) u
  c_MAX_NUMBER : ∃ t, mg "MAX_NUMBER" = some (.int (1000000000000000000) t)
  c_MAX_LABEL_LENGTH : ∃ t, mg "MAX_LABEL_LENGTH" = some (.int (8) t)
  c_DRINK : ∃ t, mg "DRINK" = some (.str "drink" t)
  c_MAX_LEFT : ∃ t, mg "MAX_LEFT" = some (.int (12) t)
  n_len : mg "len" = none
  n_sum : mg "sum" = none
  n_max : mg "max" = none
  n_min : mg "min" = none
  n_all : mg "all" = none
  n_any : mg "any" = none
  n_isinstance : mg "isinstance" = none
  n_range : mg "range" = none
  n_enumerate : mg "enumerate" = none
  n_zip : mg "zip" = none
  n_list : mg "list" = none
  n_tuple : mg "tuple" = none
  n_int : mg "int" = none
  n_bool : mg "bool" = none
  n_str : mg "str" = none
  n_dict : mg "dict" = none
  n_divmod : mg "divmod" = none
  b_gcd : mg "gcd" = some (.builtin "math.gcd")
  b_lcm : mg "lcm" = some (.builtin "math.lcm")
def fas : List He.Fa := [.glo "is_integer",
  .glo "is_number",
  .glo "check_number",
  .glo "is_label",
  .glo "is_kind",
  .glo "cost_of",
  .glo "drinks_of_period",
  .glo "tops_of",
  .glo "firsts_of",
  .glo "gaps_of",
  .glo "value_at",
  .glo "_is_trade",
  .glo "_check_trades",
  .glo "_check_generosity",
  .mkr "Offer",
  .meth "Offer" "_drinks_for",
  .meth "Offer" "_most_within",
  .meth "Offer" "rounds",
  .meth "Offer" "credit",
  .meth "Offer" "count_missing",
  .meth "Offer" "nth_missing",
  .meth "Offer" "__add__",
  .meth "Offer" "__sub__",
  .meth "Offer" "__getitem__",
  .meth "Offer" "__iter__",
  .meth "Offer" "__bool__",
  .meth "Offer" "__contains__",
  .meth "Offer" "__le__",
  .meth "Offer" "__lt__",
  .meth "Offer" "__ge__",
  .meth "Offer" "__gt__",
  .glo "_slack",
  .glo "_repetition",
  .glo "_never_more",
  .glo "first_difference",
  .glo "better_from",
  .glo "_law_mix",
  .glo "_law_next",
  .glo "_law_alike",
  .glo "_law_late_right",
  .glo "law",
  .glo "Offer",
  .cls "Offer",
  .noat "Offer" "_trades",
  .noat "Offer" "_period",
  .noat "Offer" "_tops",
  .noat "Offer" "_firsts",
  .noat "Offer" "_gaps",
  .int "MAX_NUMBER" (1000000000000000000),
  .int "MAX_LABEL_LENGTH" (8),
  .str "DRINK" "drink",
  .int "MAX_LEFT" (12),
  .free "len",
  .free "sum",
  .free "max",
  .free "min",
  .free "all",
  .free "any",
  .free "isinstance",
  .free "range",
  .free "enumerate",
  .free "zip",
  .free "list",
  .free "tuple",
  .free "int",
  .free "bool",
  .free "str",
  .free "dict",
  .free "divmod"]
def mores : List (PySem.W.Frag → Bool) := [fun K => okCMet K "Offer" "simple",
  fun K => okProp K "Offer" "trades",
  fun K => okProp K "Offer" "kinds",
  fun K => okProp K "Offer" "period",
  fun K => okProp K "Offer" "steady_from",
  fun K => okCallO K "Offer",
  fun K => okRead K "Offer",
  fun K => okCVal K "Offer" "MAX_TRADES" (.int 3),
  fun K => okCVal K "Offer" "MAX_NEEDED" (.int 12),
  fun K => okBlt K "gcd" "math.gcd",
  fun K => okBlt K "lcm" "math.lcm"]
def moreB (K : PySem.W.Frag) : Bool := mores.all fun f => f K
def dds : List DD := [d_is_integer, d_is_number, d_check_number, d_is_label, d_is_kind, d_cost_of, d_drinks_of_period, d_tops_of, d_firsts_of, d_gaps_of, d_value_at, d_is_trade, d_check_trades, d_check_generosity, d_Offer_init, d_Offer_simple, d_Offer_trades, d_Offer_kinds, d_Offer_period, d_Offer_steady_from, d_Offer_drinks_for, d_Offer_most_within, d_Offer_call, d_Offer_rounds, d_Offer_credit, d_Offer_count_missing, d_Offer_nth_missing, d_Offer_add, d_Offer_sub, d_Offer_getitem, d_Offer_iter, d_Offer_bool, d_Offer_contains, d_Offer_le, d_Offer_lt, d_Offer_ge, d_Offer_gt, d_slack, d_repetition, d_never_more, d_first_difference, d_better_from, d_law_mix, d_law_next, d_law_alike, d_law_late_right, d_law]
theorem more_at {K : PySem.W.Frag} (h : moreB K = true) (i : Nat) {f : PySem.W.Frag → Bool} (e : mores[i]? = some f := by rfl) : f K = true := List.all_eq_true.mp h f (List.mem_of_getElem? e)
theorem tx_of {K : PySem.W.Frag} {h : Heap} {mg : Str → Option Value} (X : K.In h) (G : h.Ns mainGlobals mg) (c : Says fas moreB dds K) : Nonempty (Tx K mg) := by
  obtain ⟨fd_is_integer, F_is_integer⟩ := c.fn 0 (d := d_is_integer) rfl
  obtain ⟨fd_is_number, F_is_number⟩ := c.fn 1 (d := d_is_number) rfl
  obtain ⟨fd_check_number, F_check_number⟩ := c.fn 2 (d := d_check_number) rfl
  obtain ⟨fd_is_label, F_is_label⟩ := c.fn 3 (d := d_is_label) rfl
  obtain ⟨fd_is_kind, F_is_kind⟩ := c.fn 4 (d := d_is_kind) rfl
  obtain ⟨fd_cost_of, F_cost_of⟩ := c.fn 5 (d := d_cost_of) rfl
  obtain ⟨fd_drinks_of_period, F_drinks_of_period⟩ := c.fn 6 (d := d_drinks_of_period) rfl
  obtain ⟨fd_tops_of, F_tops_of⟩ := c.fn 7 (d := d_tops_of) rfl
  obtain ⟨fd_firsts_of, F_firsts_of⟩ := c.fn 8 (d := d_firsts_of) rfl
  obtain ⟨fd_gaps_of, F_gaps_of⟩ := c.fn 9 (d := d_gaps_of) rfl
  obtain ⟨fd_value_at, F_value_at⟩ := c.fn 10 (d := d_value_at) rfl
  obtain ⟨fd_is_trade, F_is_trade⟩ := c.fn 11 (d := d_is_trade) rfl
  obtain ⟨fd_check_trades, F_check_trades⟩ := c.fn 12 (d := d_check_trades) rfl
  obtain ⟨fd_check_generosity, F_check_generosity⟩ := c.fn 13 (d := d_check_generosity) rfl
  obtain ⟨fd_Offer_init, F_Offer_init⟩ := c.fn 14 (d := d_Offer_init) rfl
  obtain ⟨fd_Offer_simple, F_Offer_simple⟩ := c.fn 15 (d := d_Offer_simple) rfl
  obtain ⟨fd_Offer_trades, F_Offer_trades⟩ := c.fn 16 (d := d_Offer_trades) rfl
  obtain ⟨fd_Offer_kinds, F_Offer_kinds⟩ := c.fn 17 (d := d_Offer_kinds) rfl
  obtain ⟨fd_Offer_period, F_Offer_period⟩ := c.fn 18 (d := d_Offer_period) rfl
  obtain ⟨fd_Offer_steady_from, F_Offer_steady_from⟩ := c.fn 19 (d := d_Offer_steady_from) rfl
  obtain ⟨fd_Offer_drinks_for, F_Offer_drinks_for⟩ := c.fn 20 (d := d_Offer_drinks_for) rfl
  obtain ⟨fd_Offer_most_within, F_Offer_most_within⟩ := c.fn 21 (d := d_Offer_most_within) rfl
  obtain ⟨fd_Offer_call, F_Offer_call⟩ := c.fn 22 (d := d_Offer_call) rfl
  obtain ⟨fd_Offer_rounds, F_Offer_rounds⟩ := c.fn 23 (d := d_Offer_rounds) rfl
  obtain ⟨fd_Offer_credit, F_Offer_credit⟩ := c.fn 24 (d := d_Offer_credit) rfl
  obtain ⟨fd_Offer_count_missing, F_Offer_count_missing⟩ := c.fn 25 (d := d_Offer_count_missing) rfl
  obtain ⟨fd_Offer_nth_missing, F_Offer_nth_missing⟩ := c.fn 26 (d := d_Offer_nth_missing) rfl
  obtain ⟨fd_Offer_add, F_Offer_add⟩ := c.fn 27 (d := d_Offer_add) rfl
  obtain ⟨fd_Offer_sub, F_Offer_sub⟩ := c.fn 28 (d := d_Offer_sub) rfl
  obtain ⟨fd_Offer_getitem, F_Offer_getitem⟩ := c.fn 29 (d := d_Offer_getitem) rfl
  obtain ⟨fd_Offer_iter, F_Offer_iter⟩ := c.fn 30 (d := d_Offer_iter) rfl
  obtain ⟨fd_Offer_bool, F_Offer_bool⟩ := c.fn 31 (d := d_Offer_bool) rfl
  obtain ⟨fd_Offer_contains, F_Offer_contains⟩ := c.fn 32 (d := d_Offer_contains) rfl
  obtain ⟨fd_Offer_le, F_Offer_le⟩ := c.fn 33 (d := d_Offer_le) rfl
  obtain ⟨fd_Offer_lt, F_Offer_lt⟩ := c.fn 34 (d := d_Offer_lt) rfl
  obtain ⟨fd_Offer_ge, F_Offer_ge⟩ := c.fn 35 (d := d_Offer_ge) rfl
  obtain ⟨fd_Offer_gt, F_Offer_gt⟩ := c.fn 36 (d := d_Offer_gt) rfl
  obtain ⟨fd_slack, F_slack⟩ := c.fn 37 (d := d_slack) rfl
  obtain ⟨fd_repetition, F_repetition⟩ := c.fn 38 (d := d_repetition) rfl
  obtain ⟨fd_never_more, F_never_more⟩ := c.fn 39 (d := d_never_more) rfl
  obtain ⟨fd_first_difference, F_first_difference⟩ := c.fn 40 (d := d_first_difference) rfl
  obtain ⟨fd_better_from, F_better_from⟩ := c.fn 41 (d := d_better_from) rfl
  obtain ⟨fd_law_mix, F_law_mix⟩ := c.fn 42 (d := d_law_mix) rfl
  obtain ⟨fd_law_next, F_law_next⟩ := c.fn 43 (d := d_law_next) rfl
  obtain ⟨fd_law_alike, F_law_alike⟩ := c.fn 44 (d := d_law_alike) rfl
  obtain ⟨fd_law_late_right, F_law_late_right⟩ := c.fn 45 (d := d_law_late_right) rfl
  obtain ⟨fd_law, F_law⟩ := c.fn 46 (d := d_law) rfl
  have cm := c.bools.2.1
  exact ⟨⟨fd_is_integer,
    F_is_integer,
    He.glo_ok X G (c.fact 0 (f := .glo "is_integer") rfl),
    fd_is_number,
    F_is_number,
    He.glo_ok X G (c.fact 1 (f := .glo "is_number") rfl),
    fd_check_number,
    F_check_number,
    He.glo_ok X G (c.fact 2 (f := .glo "check_number") rfl),
    fd_is_label,
    F_is_label,
    He.glo_ok X G (c.fact 3 (f := .glo "is_label") rfl),
    fd_is_kind,
    F_is_kind,
    He.glo_ok X G (c.fact 4 (f := .glo "is_kind") rfl),
    fd_cost_of,
    F_cost_of,
    He.glo_ok X G (c.fact 5 (f := .glo "cost_of") rfl),
    fd_drinks_of_period,
    F_drinks_of_period,
    He.glo_ok X G (c.fact 6 (f := .glo "drinks_of_period") rfl),
    fd_tops_of,
    F_tops_of,
    He.glo_ok X G (c.fact 7 (f := .glo "tops_of") rfl),
    fd_firsts_of,
    F_firsts_of,
    He.glo_ok X G (c.fact 8 (f := .glo "firsts_of") rfl),
    fd_gaps_of,
    F_gaps_of,
    He.glo_ok X G (c.fact 9 (f := .glo "gaps_of") rfl),
    fd_value_at,
    F_value_at,
    He.glo_ok X G (c.fact 10 (f := .glo "value_at") rfl),
    fd_is_trade,
    F_is_trade,
    He.glo_ok X G (c.fact 11 (f := .glo "_is_trade") rfl),
    fd_check_trades,
    F_check_trades,
    He.glo_ok X G (c.fact 12 (f := .glo "_check_trades") rfl),
    fd_check_generosity,
    F_check_generosity,
    He.glo_ok X G (c.fact 13 (f := .glo "_check_generosity") rfl),
    fd_Offer_init,
    F_Offer_init,
    He.mkr_ok (c.fact 14 (f := .mkr "Offer") rfl),
    fd_Offer_simple,
    F_Offer_simple,
    okCMet_of (more_at cm 0 (f := fun K => okCMet K "Offer" "simple") rfl),
    fd_Offer_trades,
    F_Offer_trades,
    okProp_of (more_at cm 1 (f := fun K => okProp K "Offer" "trades") rfl),
    fd_Offer_kinds,
    F_Offer_kinds,
    okProp_of (more_at cm 2 (f := fun K => okProp K "Offer" "kinds") rfl),
    fd_Offer_period,
    F_Offer_period,
    okProp_of (more_at cm 3 (f := fun K => okProp K "Offer" "period") rfl),
    fd_Offer_steady_from,
    F_Offer_steady_from,
    okProp_of (more_at cm 4 (f := fun K => okProp K "Offer" "steady_from") rfl),
    fd_Offer_drinks_for,
    F_Offer_drinks_for,
    He.meth_ok (c.fact 15 (f := .meth "Offer" "_drinks_for") rfl),
    fd_Offer_most_within,
    F_Offer_most_within,
    He.meth_ok (c.fact 16 (f := .meth "Offer" "_most_within") rfl),
    fd_Offer_call,
    F_Offer_call,
    okCallO_of (more_at cm 5 (f := fun K => okCallO K "Offer") rfl),
    fd_Offer_rounds,
    F_Offer_rounds,
    He.meth_ok (c.fact 17 (f := .meth "Offer" "rounds") rfl),
    fd_Offer_credit,
    F_Offer_credit,
    He.meth_ok (c.fact 18 (f := .meth "Offer" "credit") rfl),
    fd_Offer_count_missing,
    F_Offer_count_missing,
    He.meth_ok (c.fact 19 (f := .meth "Offer" "count_missing") rfl),
    fd_Offer_nth_missing,
    F_Offer_nth_missing,
    He.meth_ok (c.fact 20 (f := .meth "Offer" "nth_missing") rfl),
    fd_Offer_add,
    F_Offer_add,
    He.meth_ok (c.fact 21 (f := .meth "Offer" "__add__") rfl),
    fd_Offer_sub,
    F_Offer_sub,
    He.meth_ok (c.fact 22 (f := .meth "Offer" "__sub__") rfl),
    fd_Offer_getitem,
    F_Offer_getitem,
    He.meth_ok (c.fact 23 (f := .meth "Offer" "__getitem__") rfl),
    fd_Offer_iter,
    F_Offer_iter,
    He.meth_ok (c.fact 24 (f := .meth "Offer" "__iter__") rfl),
    fd_Offer_bool,
    F_Offer_bool,
    He.meth_ok (c.fact 25 (f := .meth "Offer" "__bool__") rfl),
    fd_Offer_contains,
    F_Offer_contains,
    He.meth_ok (c.fact 26 (f := .meth "Offer" "__contains__") rfl),
    fd_Offer_le,
    F_Offer_le,
    He.meth_ok (c.fact 27 (f := .meth "Offer" "__le__") rfl),
    fd_Offer_lt,
    F_Offer_lt,
    He.meth_ok (c.fact 28 (f := .meth "Offer" "__lt__") rfl),
    fd_Offer_ge,
    F_Offer_ge,
    He.meth_ok (c.fact 29 (f := .meth "Offer" "__ge__") rfl),
    fd_Offer_gt,
    F_Offer_gt,
    He.meth_ok (c.fact 30 (f := .meth "Offer" "__gt__") rfl),
    fd_slack,
    F_slack,
    He.glo_ok X G (c.fact 31 (f := .glo "_slack") rfl),
    fd_repetition,
    F_repetition,
    He.glo_ok X G (c.fact 32 (f := .glo "_repetition") rfl),
    fd_never_more,
    F_never_more,
    He.glo_ok X G (c.fact 33 (f := .glo "_never_more") rfl),
    fd_first_difference,
    F_first_difference,
    He.glo_ok X G (c.fact 34 (f := .glo "first_difference") rfl),
    fd_better_from,
    F_better_from,
    He.glo_ok X G (c.fact 35 (f := .glo "better_from") rfl),
    fd_law_mix,
    F_law_mix,
    He.glo_ok X G (c.fact 36 (f := .glo "_law_mix") rfl),
    fd_law_next,
    F_law_next,
    He.glo_ok X G (c.fact 37 (f := .glo "_law_next") rfl),
    fd_law_alike,
    F_law_alike,
    He.glo_ok X G (c.fact 38 (f := .glo "_law_alike") rfl),
    fd_law_late_right,
    F_law_late_right,
    He.glo_ok X G (c.fact 39 (f := .glo "_law_late_right") rfl),
    fd_law,
    F_law,
    He.glo_ok X G (c.fact 40 (f := .glo "law") rfl),
    He.glo_ok X G (c.fact 41 (f := .glo "Offer") rfl),
    He.cls_ok (c.fact 42 (f := .cls "Offer") rfl),
    okRead_of (more_at cm 6 (f := fun K => okRead K "Offer") rfl),
    He.noat_ok (c.fact 43 (f := .noat "Offer" "_trades") rfl),
    He.noat_ok (c.fact 44 (f := .noat "Offer" "_period") rfl),
    He.noat_ok (c.fact 45 (f := .noat "Offer" "_tops") rfl),
    He.noat_ok (c.fact 46 (f := .noat "Offer" "_firsts") rfl),
    He.noat_ok (c.fact 47 (f := .noat "Offer" "_gaps") rfl),
    okCVal_of (more_at cm 7 (f := fun K => okCVal K "Offer" "MAX_TRADES" (.int 3)) rfl),
    okCVal_of (more_at cm 8 (f := fun K => okCVal K "Offer" "MAX_NEEDED" (.int 12)) rfl),
    He.int_ok X G (c.fact 48 (f := .int "MAX_NUMBER" (1000000000000000000)) rfl),
    He.int_ok X G (c.fact 49 (f := .int "MAX_LABEL_LENGTH" (8)) rfl),
    He.str_ok X G (c.fact 50 (f := .str "DRINK" "drink") rfl),
    He.int_ok X G (c.fact 51 (f := .int "MAX_LEFT" (12)) rfl),
    He.free_ok X G (c.fact 52 (f := .free "len") rfl),
    He.free_ok X G (c.fact 53 (f := .free "sum") rfl),
    He.free_ok X G (c.fact 54 (f := .free "max") rfl),
    He.free_ok X G (c.fact 55 (f := .free "min") rfl),
    He.free_ok X G (c.fact 56 (f := .free "all") rfl),
    He.free_ok X G (c.fact 57 (f := .free "any") rfl),
    He.free_ok X G (c.fact 58 (f := .free "isinstance") rfl),
    He.free_ok X G (c.fact 59 (f := .free "range") rfl),
    He.free_ok X G (c.fact 60 (f := .free "enumerate") rfl),
    He.free_ok X G (c.fact 61 (f := .free "zip") rfl),
    He.free_ok X G (c.fact 62 (f := .free "list") rfl),
    He.free_ok X G (c.fact 63 (f := .free "tuple") rfl),
    He.free_ok X G (c.fact 64 (f := .free "int") rfl),
    He.free_ok X G (c.fact 65 (f := .free "bool") rfl),
    He.free_ok X G (c.fact 66 (f := .free "str") rfl),
    He.free_ok X G (c.fact 67 (f := .free "dict") rfl),
    He.free_ok X G (c.fact 68 (f := .free "divmod") rfl),
    okBlt_of X G (more_at cm 9 (f := fun K => okBlt K "gcd" "math.gcd") rfl),
    okBlt_of X G (more_at cm 10 (f := fun K => okBlt K "lcm" "math.lcm") rfl)⟩⟩
end EB

namespace EB
open PySem PySem.Spec PyProof.Rows L2
/-! ### data -/
/-- one trade -/
structure Tr where
  k : Str
  l : Int
  n : Int
def Tr.vs (t : Tr) : List V := [.str t.k, .int t.l, .int t.n]
def Tr.ok (t : Tr) : Prop := 0 ≤ t.l ∧ t.l ≤ 12 ∧ 1 ≤ t.n ∧ t.n ≤ 12
structure TrAt (K : PySem.W.Frag) (H : Hp) (a : Addr) (ts : List Tr) : Prop where
  ex : ∃ ps : List Addr, SqT K H a (ps.map V.ref) ∧ ps.length = ts.length ∧ ∀ (i : Nat) (p : Addr) (t : Tr), ps[i]? = some p → ts[i]? = some t → SqT K H p t.vs
theorem TrAt.mono {K : PySem.W.Frag} {H H' : Hp} {a : Addr} {ts : List Tr} (s : Same H H') (h : TrAt K H a ts) : TrAt K H' a ts := by
  obtain ⟨ps, h1, h2, h3⟩ := h.ex
  exact ⟨ps, Same.tup s h1, h2, fun i p t a b => Same.tup s (h3 i p t a b)⟩
theorem TrAt.at_ {K : PySem.W.Frag} {H : Hp} {ts : List Tr} {ps : List Addr} {i : Nat} {x : V} (h2 : ps.length = ts.length) (h3 : ∀ (i : Nat) (p : Addr) (t : Tr), ps[i]? = some p → ts[i]? = some t → SqT K H p t.vs)
    (hx : (ps.map V.ref)[i]? = some x) : ∃ (p : Addr) (t : Tr), x = .ref p ∧ ps[i]? = some p ∧ ts[i]? = some t ∧ t ∈ ts ∧ i < ts.length ∧ SqT K H p t.vs := by
  rw [List.getElem?_map] at hx
  cases ep : ps[i]? with
  | none =>
    rw [ep] at hx
    cases hx
  | some p =>
    rw [ep] at hx
    cases hx
    have li : i < ts.length := by
      rw [← h2]
      exact (List.getElem?_eq_some_iff.mp ep).1
    have et : ts[i]? = some ts[i] := List.getElem?_eq_getElem li
    exact ⟨p, ts[i], rfl, rfl, et, List.getElem_mem li, li, h3 i p _ ep et⟩
def buys (ts : List Tr) (d : Int) : Int := (ts.map fun t => t.l * d / t.n).sum
def cost (ts : List Tr) (d : Int) : Int := d - buys ts d
def gds (ts : List Tr) : Prop := ts.length ≤ 3 ∧ ∀ t ∈ ts, t.ok
theorem small3 {n : Nat} (h : n ≤ 100000) : n < sizeLine := Nat.lt_of_le_of_lt h (by decide)
theorem int_at {ns : List Int} {i : Nat} {x : V} (h : (ns.map V.int)[i]? = some x) : ∃ c, ns[i]? = some c ∧ x = .int c := by
  rw [List.getElem?_map] at h
  cases e : ns[i]? with
  | none =>
    rw [e] at h
    cases h
  | some c =>
    rw [e] at h
    exact ⟨c, rfl, (Option.some.inj h).symm⟩
theorem lt_of_at {α : Type} {l : List α} {i : Nat} {x : α} (h : l[i]? = some x) : i < l.length := (List.getElem?_eq_some_iff.mp h).1
theorem take_at {α : Type} {l : List α} {i : Nat} {x : α} (h : l[i]? = some x) : l.take (i + 1) = l.take i ++ [x] := by
  rw [List.take_add_one, h]
  rfl
section
variable {P : Program} {w : World} {K : PySem.W.Frag} {mg : Str → Option Value} {base : Heap}
/-- a def that lets nothing out -/
theorem fnK0 {d : DD} {fd : FuncData} {N ps : List Str} {k : Nat} {sp : Sp} (F : FnP K d fd) (S : FnScope N ps (defScope d.st)) (len : ∀ vs H Q E, sp vs H Q E → vs.length = ps.length)
    (hbody : ∀ (cdv : Value) (A : Around) (outer : List Env) (s : Shared) (H : Hp) (vs : List V) (Q : VK) (E : XK), Room k (A.deeper (envOfC d.ql (defScope d.st) s.heap.objs.size (d.adr K) cdv)) → sp vs H Q E →
      ∃ t, PSs (cxOf CX0 P w K mg base N d.ql (defScope d.st) (d.adr K) cdv A outer s H E).nox (defBody d.st) t ∧ t { nx := fun _ H' => Q .non H', rt := Q } (start N vs) H) :
    FnOk P w K mg base CX0 (k + 1) (d.adr K) fd ps sp := FunD.ok F S len fun cdv A outer s H vs Q E hr h => by
  obtain ⟨t, h1, h2⟩ := hbody cdv A outer s H vs Q E hr h
  exact ⟨t, h1.nox, h2⟩
/-- .. without defaults -/
theorem fnR0 {d : DD} {fd : FuncData} {N ps : List Str} {k : Nat} {sp : Sp} (F : FnP K d fd) (S : FnScope N ps (defScope d.st)) (e : d.df = [])
    (b : ∀ (kV doc pm : Value) (an : Option Addr) (cdv ct : Value) (us : List Value), us.length = ps.length → bindArgs (PySem.W.fnOf d.nm d.ql (defArgs d.st) (defBody d.st) (defScope d.st) .none kV doc pm an cdv ct) ⟨us, []⟩ = pure (ps.zip us))
    (len : ∀ vs H Q E, sp vs H Q E → vs.length = ps.length)
    (hbody : ∀ (cdv : Value) (A : Around) (outer : List Env) (s : Shared) (H : Hp) (vs : List V) (Q : VK) (E : XK), Room k (A.deeper (envOfC d.ql (defScope d.st) s.heap.objs.size (d.adr K) cdv)) → sp vs H Q E →
      ∃ t, PSs (cxOf CX0 P w K mg base N d.ql (defScope d.st) (d.adr K) cdv A outer s H E).nox (defBody d.st) t ∧ t { nx := fun _ H' => Q .non H', rt := Q } (start N vs) H) :
    FnR P w K mg base CX0 (k + 1) (d.adr K) sp := by
  have F1 : FnOk P w K mg base CX0 (k + 1) (d.adr K) fd ps sp := FunD.ok F S len fun cdv A outer s H vs Q E hr h => by
    obtain ⟨t, h1, h2⟩ := hbody cdv A outer s H vs Q E hr h
    exact ⟨t, h1.nox, h2⟩
  have F2 : FunD K d.nm d.ql (defArgs d.st) (defBody d.st) (defScope d.st) [] [] (d.adr K) fd := by
    have z : FnP K d fd := F
    unfold FnP at z
    rw [e] at z
    exact z
  refine (F1.raw (F2.bindsN b) .nil).imp fun vs H Q E h => ?_
  rw [List.append_nil]
  exact h
end
def perS (d : Nat) (t : Tr) : Nat := d.lcm (t.n / ((t.l.natAbs.gcd t.n.natAbs : Nat) : Int)).natAbs
def per (ts : List Tr) : Nat := ts.foldl perS 1
theorem gcd_pos' {t : Tr} (ht : t.ok) : 0 < ((t.l.natAbs.gcd t.n.natAbs : Nat) : Int) ∧ ((t.l.natAbs.gcd t.n.natAbs : Nat) : Int) ≤ 12 := by
  obtain ⟨_, _, h3, h4⟩ := ht
  have h5 : 0 < t.n.natAbs := by omega
  have h6 : 0 < t.l.natAbs.gcd t.n.natAbs := Nat.gcd_pos_of_pos_right _ h5
  have h7 : t.l.natAbs.gcd t.n.natAbs ≤ t.n.natAbs := Nat.gcd_le_right _ h5
  omega
theorem quo_le {t : Tr} (ht : t.ok) : (t.n / ((t.l.natAbs.gcd t.n.natAbs : Nat) : Int)).natAbs ≤ 12 := by
  have h1 := gcd_pos' ht
  have h2 := ht.2.2.1
  have h3 := ht.2.2.2
  have h4 : 0 ≤ t.n / ((t.l.natAbs.gcd t.n.natAbs : Nat) : Int) := Int.ediv_nonneg (by omega) (by omega)
  have h5 : t.n / ((t.l.natAbs.gcd t.n.natAbs : Nat) : Int) ≤ t.n := Int.ediv_le_self _ (by omega)
  omega
theorem per_le : ∀ (ts : List Tr) (d : Nat), (∀ t ∈ ts, t.ok) → ts.foldl perS d ≤ d * 12 ^ ts.length
  | [], d, _ => by simp
  | t :: ts, d, h => by
    have h1 := per_le ts (perS d t) fun u hu => h u (List.mem_cons_of_mem _ hu)
    have h2 : perS d t ≤ d * 12 := Nat.le_trans (PySem.W.mc_lcm_le _ _) (Nat.mul_le_mul_left _ (quo_le (h t (List.mem_cons_self ..))))
    have h3 : perS d t * 12 ^ ts.length ≤ d * 12 * 12 ^ ts.length := Nat.mul_le_mul_right _ h2
    rw [List.foldl_cons, List.length_cons, Nat.pow_succ]
    rw [Nat.mul_assoc, Nat.mul_comm 12] at h3
    omega
theorem per_most {ts : List Tr} (h : gds ts) (i : Nat) : (ts.take i).foldl perS 1 ≤ 1728 := by
  have h1 := per_le (ts.take i) 1 fun t ht => h.2 t (List.mem_of_mem_take ht)
  have h2 : (ts.take i).length ≤ 3 := by
    rw [List.length_take]
    have := h.1
    omega
  have h3 : 12 ^ (ts.take i).length ≤ 12 ^ 3 := Nat.pow_le_pow_right (by omega) h2
  omega
section
variable {P : Program} {w : World} {K : PySem.W.Frag} {mg : Str → Option Value} {base : Heap} (T : Tx K mg)
include T
/-! ### patterns -/
def spCost (K : PySem.W.Frag) : Sp := fun vs H Q _ => ∃ (a : Addr) (ts : List Tr) (d : Int), vs = [.ref a, .int d] ∧ TrAt K H a ts ∧ gds ts ∧ ∀ H', Same H H' → Q (.int (cost ts d)) H'
theorem ok_cost_of : FnR P w K mg base CX0 1 (a_cost_of K) (spCost K) := by
  refine fnR0 (d := d_cost_of) T.F_cost_of sc_cost_of rfl (fun _ _ _ _ _ _ us hl => match us, hl with | [_, _], _ => rfl) (fun vs H Q E h => ?_) (fun cdv A outer s H vs Q E hr h => ?_)
  · obtain ⟨a, ts, d, rfl, _⟩ := h
    rfl
  obtain ⟨a, ts, d, rfl, hT, ⟨hlen, hok⟩, k⟩ := h
  obtain ⟨ps, h1, h2, h3⟩ := hT.ex
  refine ⟨_, (pss_one (ps_ret (pe_op op_sub (pv 1) (pe_callB (cr_sum rfl) (by rfl) T.n_sum (by decide +kernel) (pa_cons (pe_lc (own := [("_", 2), ("left", 3), ("needed", 4)]) rfl sc_cost_of.nd (pi_tup (pv 0)) (blkOk_by (own := [("_", 2), ("left", 3), ("needed", 4)]) (N := N_cost_of) (sc := defScope s_cost_of) (by decide +kernel)) (fun _ _ _ _ _ => (pg_tupB (n := 3) (pgs_cons (pg_name (i := 2) sc_cost_of.nd rfl (Or.inl rfl) (.inr rfl)) (pgs_cons (pg_name (i := 3) sc_cost_of.nd rfl (Or.inl rfl) (.inr rfl)) (pgs_cons (pg_name (i := 4) sc_cost_of.nd rfl (Or.inl rfl) (.inr rfl)) pgs_nil))))) (fun _ _ _ _ _ => pts_nil) (fun _ _ _ _ _ => (pe_op op_fdiv (pe_op op_mul (pv 3) (pv 1)) (pv 4)))) pa_nil))))), ?_⟩
  refine ⟨_, rfl, _, rfl, a, rfl, ⟨_, h1⟩, fun D hD => ?_⟩
  refine lc_tup (xs := ps.map V.ref) (fun i H1 => Same H H1 ∧ H D = none ∧ H1 D = some (.lst ((ts.take i).map fun t => V.int (t.l * d / t.n)))) ⟨same_new hD, hD, upd_same⟩ (fun i H1 _ q => Same.tup q.1 h1) ?_ ?_
  · rintro i x H1 hx ⟨s1, n1, e1⟩
    obtain ⟨p, t, rfl, ep, et, hm, li, hp⟩ := TrAt.at_ h2 h3 hx
    have ht := hok _ hm
    refine ⟨p, _, rfl, Same.tup s1 hp, rfl, _, _, rfl, _, _, rfl, _, _, rfl, rfl, rfl, ?_⟩
    refine ⟨_, rfl, _, rfl, _, _, rfl, rfl, .inl ⟨by have := ht.1; omega, by have := ht.2.1; omega⟩, _, rfl, _, _, rfl, rfl, ⟨by have := ht.2.2.1; omega, by have := ht.2.2.2; omega⟩, ?_⟩
    refine ⟨_, e1, small3 ?_, same_mut s1 n1, n1, ?_⟩
    · rw [List.length_map, List.length_take]
      omega
    · rw [upd_same, take_at et, List.map_append]
      rfl
  · rintro H1 ⟨s1, n1, e1⟩
    refine ⟨D, ts.map fun t => t.l * d / t.n, rfl, SqL.of ?_, ?_⟩
    · rw [e1, List.length_map, h2, List.take_length, List.map_map]
      rfl
    · exact ⟨_, _, rfl, rfl, k _ s1⟩
def spPer (K : PySem.W.Frag) : Sp := fun vs H Q _ => ∃ (a : Addr) (ts : List Tr), vs = [.ref a] ∧ TrAt K H a ts ∧ gds ts ∧ ∀ H', Same H H' → Q (.int (per ts : Nat)) H'
theorem ok_drinks_of_period : FnR P w K mg base CX0 1 (a_drinks_of_period K) (spPer K) := by
  refine fnR0 (d := d_drinks_of_period) T.F_drinks_of_period sc_drinks_of_period rfl (fun _ _ _ _ _ _ us hl => match us, hl with | [_], _ => rfl) (fun vs H Q E h => ?_) (fun cdv A outer s H vs Q E hr h => ?_)
  · obtain ⟨a, ts, rfl, _⟩ := h
    rfl
  obtain ⟨a, ts, rfl, hT, hg, k⟩ := h
  obtain ⟨ps, h1, h2, h3⟩ := hT.ex
  refine ⟨_, (pss_cons (ps_set (i := 1) sc_drinks_of_period.nd rfl (Or.inl rfl) pe_int) (pss_cons (ps_for PassesOwn.never rfl (pi_tup (pv 0)) (pg_tup rfl (pgs_cons (pg_name (i := 2) sc_drinks_of_period.nd rfl (Or.inl rfl)) (pgs_cons (pg_name (i := 3) sc_drinks_of_period.nd rfl (Or.inl rfl)) (pgs_cons (pg_name (i := 4) sc_drinks_of_period.nd rfl (Or.inl rfl)) pgs_nil)))) (pss_one (ps_set (i := 1) sc_drinks_of_period.nd rfl (Or.inl rfl) (pe_callBfun cr_lcm (by rfl) T.b_lcm (pa_cons (pv 1) (pa_cons (pe_op op_fdiv (pv 4) (pe_callBfun cr_gcd (by rfl) T.b_gcd (pa_cons (pv 3) (pa_cons (pv 4) pa_nil)))) pa_nil)))))) (pss_one (ps_ret (pv 1))))), ?_⟩
  refine ⟨_, rfl, a, rfl, ⟨_, h1⟩, for_tup (xs := ps.map V.ref) (fun i σ H1 => H1 = H ∧ ∃ x2 x3 x4, σ = [some (.ref a), some (.int (((ts.take i).foldl perS 1 : Nat) : Int)), x2, x3, x4]) ⟨rfl, _, _, _, rfl⟩ (fun i σ H1 _ q => by rw [q.1]; exact h1) ?_ ?_⟩
  · rintro i x σ H1 hx ⟨rfl, x2, x3, x4, rfl⟩
    obtain ⟨p, t, rfl, ep, et, hm, li, hp⟩ := TrAt.at_ h2 h3 hx
    have ht := hg.2 _ hm
    have hq := gcd_pos' ht
    refine ⟨p, _, rfl, hp, rfl, _, _, rfl, _, _, rfl, _, _, rfl, rfl, ?_⟩
    refine ⟨_, rfl, _, rfl, _, rfl, _, rfl, _, _, rfl, _, _, rfl, rfl, ⟨hq.1, by omega⟩, _, _, rfl, ?_, ?_, rfl, some (.str t.k), some (.int t.l), some (.int t.n), ?_⟩
    · have := per_most hg i
      exact Nat.lt_of_le_of_lt (by omega : _ ≤ 1728) (by decide)
    · exact Nat.lt_of_le_of_lt (quo_le ht) (by decide)
    · rw [take_at et, List.foldl_append]
      rfl
  · rintro σ H1 ⟨rfl, x2, x3, x4, rfl⟩
    refine ⟨_, rfl, ?_⟩
    have e : (ts.take (ps.map V.ref).length).foldl perS 1 = per ts := by
      rw [List.length_map, h2, List.take_length]
      rfl
    rw [e]
    exact k _ (Same.refl _)
end
end EB

namespace EB
open PySem PySem.Spec PyProof.Rows L2
/-! ### tables -/
def topsF : Int → List Int → List Int
  | _, [] => []
  | m, c :: cs => (if m < c then c else m) :: topsF (if m < c then c else m) cs
def topsM (m : Int) (cs : List Int) : Int := cs.foldl (fun m c => if m < c then c else m) m
theorem topsF_length : ∀ (m : Int) (cs : List Int), (topsF m cs).length = cs.length
  | _, [] => rfl
  | m, c :: cs => by
    show (topsF _ cs).length + 1 = _
    rw [topsF_length]
    rfl
theorem topsF_snoc : ∀ (m : Int) (cs : List Int) (c : Int), topsF m (cs ++ [c]) = topsF m cs ++ [topsM m (cs ++ [c])]
  | m, [], c => rfl
  | m, x :: cs, c => by
    show _ :: topsF _ (cs ++ [c]) = _ :: (topsF _ cs ++ _)
    rw [topsF_snoc]
    rfl
theorem topsM_snoc (m : Int) (cs : List Int) (c : Int) : topsM m (cs ++ [c]) = if topsM m cs < c then c else topsM m cs := by
  unfold topsM
  rw [List.foldl_append]
  rfl
/-- the first place of each value that a table reaches: what is there, what is still to be gone through from place i on -/
def firstsF : Nat → List Int → List Int → List Int
  | _, acc, [] => acc
  | i, acc, t :: ts => firstsF (i + 1) (if t = (acc.length : Int) then acc ++ [(i : Int)] else acc) ts
theorem firstsF_snoc : ∀ (i : Nat) (acc ts : List Int) (t : Int), firstsF i acc (ts ++ [t]) = if t = ((firstsF i acc ts).length : Int) then firstsF i acc ts ++ [((i + ts.length : Nat) : Int)] else firstsF i acc ts
  | i, acc, [], t => rfl
  | i, acc, x :: ts, t => by
    show firstsF (i + 1) _ (ts ++ [t]) = _
    rw [firstsF_snoc]
    have e : i + 1 + ts.length = i + (x :: ts).length := by
      rw [List.length_cons]
      omega
    rw [e]
    rfl
theorem firstsF_length : ∀ (i : Nat) (acc ts : List Int), (firstsF i acc ts).length ≤ acc.length + ts.length
  | _, acc, [] => Nat.le_refl _
  | i, acc, t :: ts => by
    have h := firstsF_length (i + 1) (if t = (acc.length : Int) then acc ++ [(i : Int)] else acc) ts
    have h2 : (if t = (acc.length : Int) then acc ++ [(i : Int)] else acc).length ≤ acc.length + 1 := by
      split
      · rw [List.length_append, List.length_singleton]
        exact Nat.le_refl _
      · exact Nat.le_succ _
    rw [List.length_cons]
    show (firstsF (i + 1) (if t = (acc.length : Int) then acc ++ [(i : Int)] else acc) ts).length ≤ _
    omega
def valueAt (xs : List Int) (at_ span rise : Int) : Int :=
  if at_ < xs.length then xs.getD at_.toNat 0 else xs.getD (at_ - ((at_ - xs.length) / span + 1) * span).toNat 0 + ((at_ - xs.length) / span + 1) * rise
theorem getD_at {xs : List Int} {i : Int} (h0 : 0 ≤ i) (h1 : i < xs.length) : atI (xs.map V.int) i = some (.int (xs.getD i.toNat 0)) := by
  have hi : i.toNat < xs.length := by omega
  refine at_of (j := i.toNat) (by omega) ?_
  rw [List.getElem?_map, List.getElem?_eq_getElem hi, List.getD_eq_getElem?_getD, List.getElem?_eq_getElem hi]
  rfl
/-- the places at which a table of first places does not lead back -/
def gapsF (fs : List Int) : Nat → List Int → List Int
  | _, [] => []
  | i, t :: ts => (if fs.getD t.toNat 0 = (i : Int) then [] else [(i : Int)]) ++ gapsF fs (i + 1) ts
theorem gapsF_snoc (fs : List Int) : ∀ (i : Nat) (ts : List Int) (t : Int), gapsF fs i (ts ++ [t]) = gapsF fs i ts ++ (if fs.getD t.toNat 0 = ((i + ts.length : Nat) : Int) then [] else [((i + ts.length : Nat) : Int)])
  | i, [], t => by
    show (if _ then _ else _) ++ [] = [] ++ _
    rw [List.append_nil, List.nil_append]
    rfl
  | i, x :: ts, t => by
    show _ ++ gapsF fs (i + 1) (ts ++ [t]) = _ ++ gapsF fs (i + 1) ts ++ _
    rw [gapsF_snoc, List.append_assoc]
    have e : i + 1 + ts.length = i + (x :: ts).length := by
      rw [List.length_cons]
      omega
    rw [e]
theorem gapsF_length (fs : List Int) : ∀ (i : Nat) (ts : List Int), (gapsF fs i ts).length ≤ ts.length
  | _, [] => Nat.le_refl _
  | i, t :: ts => by
    show ((if _ then _ else _) ++ gapsF fs (i + 1) ts).length ≤ ts.length + 1
    have := gapsF_length fs (i + 1) ts
    rw [List.length_append]
    split
    · simp only [List.length_nil]
      omega
    · simp only [List.length_singleton]
      omega
section
variable {P : Program} {w : World} {K : PySem.W.Frag} {mg : Str → Option Value} {base : Heap} (T : Tx K mg)
include T
def spTops (K : PySem.W.Frag) : Sp := fun vs H Q _ => ∃ (a : Addr) (cs : List Int), vs = [.ref a] ∧ SqL K H a (cs.map V.int) ∧ cs.length ≤ 10000 ∧ ∀ H' p, Same H H' → H p = none → H' p = some (.lst ((topsF 0 cs).map V.int)) → Q (.ref p) H'
theorem ok_tops_of : FnR P w K mg base CX0 1 (a_tops_of K) (spTops K) := by
  refine fnR0 (d := d_tops_of) T.F_tops_of sc_tops_of rfl (fun _ _ _ _ _ _ us hl => match us, hl with | [_], _ => rfl) (fun vs H Q E h => ?_) (fun cdv A outer s H vs Q E hr h => ?_)
  · obtain ⟨a, cs, rfl, _⟩ := h
    rfl
  obtain ⟨a, cs, rfl, hS, hl, k⟩ := h
  refine ⟨_, (pss_cons (ps_set (i := 1) sc_tops_of.nd rfl (Or.inl rfl) (pe_lst pa_nil)) (pss_cons (ps_set (i := 2) sc_tops_of.nd rfl (Or.inl rfl) pe_int) (pss_cons (ps_for PassesOwn.never rfl (pi_list (pv 0)) (pg_name (i := 3) sc_tops_of.nd rfl (Or.inl rfl)) (pss_cons (ps_if (pt_cmpR op_gt (pv 3) (pv 2) (nomark _)) (pss_one (ps_set (i := 2) sc_tops_of.nd rfl (Or.inl rfl) (pv 3))) pss_nil) (pss_one (ps_expr (pe_bm PySem.F.plainAttrs_list PySem.F.slot_list_append PySem.F.type_list_append mt_append (pv 1) (pa_cons (pv 2) pa_nil)))))) (pss_one (ps_ret (pv 1)))))), ?_⟩
  refine ⟨Nat.zero_le _, fun p hp => ?_⟩
  refine ⟨_, rfl, a, rfl, ⟨_, (same_new hp).seq hS⟩, for_list (K := K) (a := a) (xs := cs.map V.int) (fun i σ H1 => Same H H1 ∧ H1 p = some (.lst ((topsF 0 (cs.take i)).map V.int)) ∧ ∃ x, σ = [some (.ref a), some (.ref p), some (.int (topsM 0 (cs.take i))), x])
    ⟨same_new hp, upd_same, _, rfl⟩ (fun i σ H1 _ q => q.1.seq hS) ?_ ?_⟩
  · rintro i x σ H1 hx ⟨s1, e1, x3, rfl⟩
    obtain ⟨c, ec, rfl⟩ := int_at hx
    have hi := lt_of_at ec
    have e2 : topsM 0 (cs.take (i + 1)) = if topsM 0 (cs.take i) < c then c else topsM 0 (cs.take i) := by rw [take_at ec, topsM_snoc]
    have e3 : topsF 0 (cs.take (i + 1)) = topsF 0 (cs.take i) ++ [topsM 0 (cs.take (i + 1))] := by rw [take_at ec, topsF_snoc]
    have hz : ((topsF 0 (cs.take i)).map V.int).length < sizeLine := small3 (by rw [List.length_map, topsF_length, List.length_take]; omega)
    refine ⟨_, rfl, _, rfl, _, _, rfl, rfl, _, rfl, ite2 (fun hd => ?_) (fun hd => ?_)⟩
    · have hd : topsM 0 (cs.take i) < c := of_decide_eq_true hd
      rw [if_pos hd] at e2
      refine ⟨_, rfl, ?_⟩
      refine ⟨_, rfl, .inl ⟨rfl, _, SqL.of e1⟩, _, rfl, p, _, _, rfl, rfl, e1, hz, same_mut s1 hp, ?_, some (.int c), ?_⟩
      · rw [upd_same, e3, e2, List.map_append]
        rfl
      · rw [e2]
        rfl
    · have hd : ¬ topsM 0 (cs.take i) < c := fun z => hd (decide_eq_true z)
      rw [if_neg hd] at e2
      refine ⟨_, rfl, .inl ⟨rfl, _, SqL.of e1⟩, _, rfl, p, _, _, rfl, rfl, e1, hz, same_mut s1 hp, ?_, some (.int c), ?_⟩
      · rw [upd_same, e3, e2, List.map_append]
        rfl
      · rw [e2]
        rfl
  · rintro σ H1 ⟨s1, e1, x, rfl⟩
    refine ⟨_, rfl, k _ _ s1 hp ?_⟩
    rw [e1, List.length_map, List.take_length]
def spFirsts (K : PySem.W.Frag) : Sp := fun vs H Q _ => ∃ (a : Addr) (ts : List Int), vs = [.ref a] ∧ SqL K H a (ts.map V.int) ∧ ts.length ≤ 10000 ∧ ∀ H' p, Same H H' → H p = none → H' p = some (.lst ((firstsF 0 [] ts).map V.int)) → Q (.ref p) H'
theorem ok_firsts_of : FnR P w K mg base CX0 1 (a_firsts_of K) (spFirsts K) := by
  refine fnR0 (d := d_firsts_of) T.F_firsts_of sc_firsts_of rfl (fun _ _ _ _ _ _ us hl => match us, hl with | [_], _ => rfl) (fun vs H Q E h => ?_) (fun cdv A outer s H vs Q E hr h => ?_)
  · obtain ⟨a, cs, rfl, _⟩ := h
    rfl
  obtain ⟨a, ts, rfl, hS, hl, k⟩ := h
  refine ⟨_, (pss_cons (ps_set (i := 1) sc_firsts_of.nd rfl (Or.inl rfl) (pe_lst pa_nil)) (pss_cons (ps_for PassesOwn.never rfl (pi_enum (by rfl) T.n_enumerate (pa_cons (pv 0) pa_nil)) (pg_tup rfl (pgs_cons (pg_name (i := 2) sc_firsts_of.nd rfl (Or.inl rfl)) (pgs_cons (pg_name (i := 3) sc_firsts_of.nd rfl (Or.inl rfl)) pgs_nil))) (pss_one (ps_if (pt_cmpR op_eq (pv 3) (pe_callB call_len_seq (by rfl) T.n_len PySem.boot_len (pa_cons (pv 1) pa_nil)) (nomark _)) (pss_one (ps_expr (pe_bm PySem.F.plainAttrs_list PySem.F.slot_list_append PySem.F.type_list_append mt_append (pv 1) (pa_cons (pv 2) pa_nil)))) pss_nil))) (pss_one (ps_ret (pv 1))))), ?_⟩
  refine ⟨Nat.zero_le _, fun p hp => ?_⟩
  refine ⟨_, rfl, a, _, rfl, (same_new hp).seq hS, for_it (walk_enum (K := K) (a := a) (xs := ts.map V.int)) (fun i σ H1 => Same H H1 ∧ H1 p = some (.lst ((firstsF 0 [] (ts.take i)).map V.int)) ∧ ∃ x y, σ = [some (.ref a), some (.ref p), x, y])
    ⟨same_new hp, upd_same, _, _, rfl⟩ (fun i σ H1 _ q => q.1.seq hS) ?_ ?_⟩
  · rintro i x σ H1 H2 hi ⟨s1, e1, x2, x3, rfl⟩ ⟨q, u, v, rfl, nq, rfl, eu, ev⟩
    cases eu
    obtain ⟨c, ec, rfl⟩ := int_at ev
    have li := lt_of_at ec
    have hz : (firstsF 0 [] (ts.take i)).length ≤ 10000 := by
      have := firstsF_length 0 [] (ts.take i)
      rw [List.length_take] at this
      simp only [List.length_nil] at this
      omega
    have e3 := firstsF_snoc 0 [] (ts.take i) c
    rw [← take_at ec, List.length_take, Nat.min_eq_left (Nat.le_of_lt li), Nat.zero_add] at e3
    have e1' := upd_old (u := .tup [.int (i : Nat), .int c]) e1 nq
    refine ⟨q, _, rfl, SqT.of upd_same, rfl, _, _, rfl, _, _, rfl, rfl, ?_⟩
    refine ⟨_, rfl, _, rfl, p, _, rfl, .inl (SqL.of e1'), rfl, _, rfl, ?_⟩
    refine ite2 (fun hd => ?_) (fun hd => ?_)
    · have hd2 : c = ((firstsF 0 [] (ts.take i)).length : Int) := by
        have z := of_decide_eq_true hd
        rw [List.length_map] at z
        exact V.int.inj z
      rw [if_pos hd2] at e3
      refine ⟨_, rfl, .inl ⟨rfl, _, SqL.of e1'⟩, _, rfl, p, _, _, rfl, rfl, e1', small3 (by rw [List.length_map]; omega), same_mut (s1.trans (same_new nq)) hp, ?_, _, _, rfl⟩
      rw [upd_same, e3, List.map_append]
      rfl
    · have hd2 : ¬ c = ((firstsF 0 [] (ts.take i)).length : Int) := fun z => hd (decide_eq_true (by rw [List.length_map, z]))
      rw [if_neg hd2] at e3
      exact ⟨s1.trans (same_new nq), by rw [e1', e3], _, _, rfl⟩
  · rintro σ H1 ⟨s1, e1, x, y, rfl⟩
    refine ⟨_, rfl, k _ _ s1 hp ?_⟩
    rw [e1, List.length_map, List.take_length]
def spValue (K : PySem.W.Frag) : Sp := fun vs H Q _ => ∃ (a : Addr) (xs : List Int) (i span rise : Int), vs = [.ref a, .int i, .int span, .int rise] ∧ SqL K H a (xs.map V.int) ∧ 0 ≤ i ∧ 0 < span ∧ span < 10000 ∧ -(10000) < rise ∧ rise < 10000 ∧ span ≤ xs.length ∧
  Q (.int (valueAt xs i span rise)) H
theorem ok_value_at : FnR P w K mg base CX0 1 (a_value_at K) (spValue K) := by
  refine fnR0 (d := d_value_at) T.F_value_at sc_value_at rfl (fun _ _ _ _ _ _ us hl => match us, hl with | [_, _, _, _], _ => rfl) (fun vs H Q E h => ?_) (fun cdv A outer s H vs Q E hr h => ?_)
  · obtain ⟨a, xs, i, span, rise, rfl, _⟩ := h
    rfl
  obtain ⟨a, xs, i, span, rise, rfl, hS, h0, h1, h2, h3, h4, h5, k⟩ := h
  refine ⟨_, (pss_cons (ps_if (pt_cmpR op_lt (pv 1) (pe_callB call_len_seq (by rfl) T.n_len PySem.boot_len (pa_cons (pv 0) pa_nil)) (nomark _)) (pss_one (ps_ret (pe_ix ix_list (pv 0) (pv 1) (fun _ _ => rfl)))) pss_nil) (pss_cons (ps_set (i := 4) sc_value_at.nd rfl (Or.inl rfl) (pe_op op_add (pe_op op_fdiv (pe_op op_sub (pv 1) (pe_callB call_len_seq (by rfl) T.n_len PySem.boot_len (pa_cons (pv 0) pa_nil))) (pv 2)) pe_int)) (pss_one (ps_ret (pe_op op_add (pe_ix ix_list (pv 0) (pe_op op_sub (pv 1) (pe_op op_mul (pv 4) (pv 2))) (fun _ _ => rfl)) (pe_op op_mul (pv 4) (pv 3))))))), ?_⟩
  refine ⟨_, rfl, _, rfl, a, _, rfl, .inl hS, _, _, rfl, rfl, _, rfl, ite2 (fun hd => ?_) (fun hd => ?_)⟩
  · have hd : i < (xs.length : Int) := by
      have z := of_decide_eq_true hd
      rw [List.length_map] at z
      exact z
    refine ⟨_, rfl, _, rfl, a, _, _, _, rfl, rfl, hS, getD_at h0 hd, ?_⟩
    unfold valueAt at k
    rw [if_pos hd] at k
    exact k
  · have hd : ¬ i < (xs.length : Int) := fun z => hd (decide_eq_true (by rw [List.length_map]; exact z))
    unfold valueAt at k
    rw [if_neg hd] at k
    refine ⟨_, rfl, _, rfl, a, _, rfl, .inl hS, _, _, rfl, rfl, _, rfl, _, _, rfl, rfl, ⟨h1, by omega⟩, _, _, rfl, rfl, ?_⟩
    have em : i % span = i - i / span * span := by
      have := Int.emod_add_mul_ediv i span
      rw [Int.mul_comm] at this
      omega
    have f1 : (i - xs.length) / span * span ≤ i - xs.length := by
      have := Int.emod_add_mul_ediv (i - xs.length) span
      have := Int.emod_nonneg (i - xs.length) (show span ≠ 0 by omega)
      rw [Int.mul_comm]
      omega
    have f2 : i - xs.length < (i - xs.length) / span * span + span := by
      have := Int.emod_add_mul_ediv (i - xs.length) span
      have := Int.emod_lt_of_pos (i - xs.length) h1
      rw [Int.mul_comm]
      omega
    have f3 : ((i - xs.length) / span + 1) * span = (i - xs.length) / span * span + span := by rw [Int.add_mul, Int.one_mul]
    refine ⟨_, rfl, _, rfl, _, rfl, _, rfl, _, _, rfl, rfl, .inr ⟨by omega, by omega⟩, _, _, rfl, rfl, a, _, _, .int (xs.getD (i - ((i - (xs.length : Int)) / span + 1) * span).toNat 0), rfl, rfl, hS, ?_, ?_⟩
    · show atI (xs.map V.int) (i - ((i - ((xs.map V.int).length : Int)) / span + 1) * span) = _
      rw [List.length_map]
      refine getD_at ?_ ?_
      · omega
      · omega
    · refine ⟨_, rfl, _, rfl, _, _, rfl, rfl, .inr ⟨by omega, by omega⟩, _, _, rfl, rfl, ?_⟩
      rw [List.length_map]
      exact k
def spGaps (K : PySem.W.Frag) : Sp := fun vs H Q _ => ∃ (a b : Addr) (ts fs : List Int), vs = [.ref a, .ref b] ∧ SqL K H a (ts.map V.int) ∧ SqL K H b (fs.map V.int) ∧ ts.length ≤ 10000 ∧ (∀ t ∈ ts, 0 ≤ t ∧ t < fs.length) ∧
  ∀ H' p, Same H H' → H p = none → H' p = some (.lst ((gapsF fs 0 ts).map V.int)) → Q (.ref p) H'
theorem ok_gaps_of : FnR P w K mg base CX0 1 (a_gaps_of K) (spGaps K) := by
  refine fnR0 (d := d_gaps_of) T.F_gaps_of sc_gaps_of rfl (fun _ _ _ _ _ _ us hl => match us, hl with | [_, _], _ => rfl) (fun vs H Q E h => ?_) (fun cdv A outer s H vs Q E hr h => ?_)
  · obtain ⟨a, b, ts, fs, rfl, _⟩ := h
    rfl
  obtain ⟨a, b, ts, fs, rfl, hS, hF, hl, hb, k⟩ := h
  refine ⟨_, (pss_one (ps_ret (pe_lc (own := [("drinks", 2), ("top", 3)]) rfl sc_gaps_of.nd (pi_enum (by rfl) T.n_enumerate (pa_cons (pv 0) pa_nil)) (blkOk_by (own := [("drinks", 2), ("top", 3)]) (N := N_gaps_of) (sc := defScope s_gaps_of) (by decide +kernel)) (fun _ _ _ _ _ => (pg_tupB (n := 2) (pgs_cons (pg_name (i := 2) sc_gaps_of.nd rfl (Or.inl rfl) (.inr rfl)) (pgs_cons (pg_name (i := 3) sc_gaps_of.nd rfl (Or.inl rfl) (.inr rfl)) pgs_nil)))) (fun _ _ _ _ _ => (pts_one (pt_cmpR op_ne (pe_ix (ix_listK (K := K) rfl) (pv 1) (pv 3) (fun _ _ => rfl)) (pv 2) (nomark _)))) (fun _ _ _ _ _ => (pv 2))))), ?_⟩
  refine ⟨_, rfl, a, _, rfl, hS, fun D hD => ?_⟩
  refine lc_it (walk_enum (K := K) (a := a) (xs := ts.map V.int)) (fun i H1 => Same H H1 ∧ H1 D = some (.lst ((gapsF fs 0 (ts.take i)).map V.int))) ⟨same_new hD, upd_same⟩ (fun i H1 _ q => q.1.seq hS) ?_ ?_
  · rintro i x H1 H2 hi ⟨s1, e1⟩ ⟨q, u, v, rfl, nq, rfl, eu, ev⟩
    cases eu
    obtain ⟨c, ec, rfl⟩ := int_at ev
    have li := lt_of_at ec
    have hc := hb c (List.mem_of_getElem? ec)
    have e1' := upd_old (u := .tup [.int (i : Nat), .int c]) e1 nq
    have e3 := gapsF_snoc fs 0 (ts.take i) c
    rw [← take_at ec, List.length_take, Nat.min_eq_left (Nat.le_of_lt li), Nat.zero_add] at e3
    have hz : (gapsF fs 0 (ts.take i)).length ≤ 10000 := by
      have := gapsF_length fs 0 (ts.take i)
      rw [List.length_take] at this
      omega
    refine ⟨q, _, rfl, SqT.of upd_same, rfl, _, _, rfl, _, _, rfl, rfl, rfl, ?_⟩
    refine ⟨_, rfl, _, rfl, b, _, _, _, rfl, rfl, (s1.trans (same_new nq)).seq hF, getD_at hc.1 hc.2, _, rfl, rfl, _, rfl, ?_⟩
    refine ite2 (fun hd => ?_) (fun hd => ?_)
    · have hd2 : ¬ fs.getD c.toNat 0 = (i : Int) := fun z => by
        rw [z, decide_eq_true rfl] at hd
        cases hd
      rw [if_neg hd2] at e3
      refine ⟨_, rfl, _, e1', small3 (by rw [List.length_map]; omega), same_mut (s1.trans (same_new nq)) hD, ?_⟩
      rw [upd_same, e3, List.map_append]
      rfl
    · have hd2 : fs.getD c.toNat 0 = (i : Int) := by
        apply Classical.byContradiction
        intro z
        apply hd
        rw [decide_eq_false (fun y => z (V.int.inj y))]
        rfl
      rw [if_pos hd2, List.append_nil] at e3
      exact ⟨s1.trans (same_new nq), by rw [e1', e3]⟩
  · rintro H1 ⟨s1, e1⟩
    refine k _ _ s1 hD ?_
    rw [e1, List.length_map, List.take_length]
end
end EB

namespace EB
open PySem PySem.Spec PyProof.Rows L2
/-! ### checks -/
def signOk (c : Nat) : Bool := if (!decide ((⟨#[c]⟩ : Str).cps.toList < ("a" : Str).cps.toList)) = true then (!decide (("z" : Str).cps.toList < (⟨#[c]⟩ : Str).cps.toList)) else false
def labelOk (z : Str) : Bool := if (!(if decide ((1 : Int) ≤ z.length) = true then decide ((z.length : Int) ≤ 8) else false)) = true then false else (z.cps.toList.map signOk).all id
def kindOk (z : Str) : Bool := if labelOk z = true then !decide (z = "drink") else false
def numOk (i lo hi : Int) : Bool := if decide (lo ≤ i) = true then decide (i ≤ hi) else false
def trOk (t : Tr) : Bool := if kindOk t.k = true then (if numOk t.l 0 12 = true then numOk t.n 1 12 else false) else false
theorem numOk_iff {i lo hi : Int} : numOk i lo hi = true ↔ lo ≤ i ∧ i ≤ hi := by
  unfold numOk
  by_cases h : lo ≤ i
  · rw [decide_eq_true h, if_pos rfl]
    exact ⟨fun z => ⟨h, of_decide_eq_true z⟩, fun z => decide_eq_true z.2⟩
  · rw [decide_eq_false h, if_neg Bool.false_ne_true]
    exact ⟨fun z => absurd z Bool.false_ne_true, fun z => absurd z.1 h⟩
theorem trOk_of {t : Tr} (h : t.ok) (k : kindOk t.k = true) : trOk t = true := by
  unfold trOk
  rw [if_pos k, if_pos (numOk_iff.mpr ⟨h.1, h.2.1⟩)]
  exact numOk_iff.mpr ⟨h.2.2.1, h.2.2.2⟩
section
variable {P : Program} {w : World} {K : PySem.W.Frag} {mg : Str → Option Value} {base : Heap} (T : Tx K mg)
include T
def spIsInt : Sp := fun vs H Q _ => ∃ i : Int, vs = [.int i] ∧ Q (.bl true) H
theorem ok_is_integer : FnR P w K mg base CX0 1 (a_is_integer K) spIsInt := by
  refine fnR0 (d := d_is_integer) T.F_is_integer sc_is_integer rfl (fun _ _ _ _ _ _ us hl => match us, hl with | [_], _ => rfl) (fun vs H Q E h => ?_) (fun cdv A outer s H vs Q E hr h => ?_)
  · obtain ⟨i, rfl, _⟩ := h
    rfl
  obtain ⟨i, rfl, k⟩ := h
  refine ⟨_, (pss_one (ps_ret (pe_and (pe_callB call_isi (by rfl) T.n_isinstance (by decide +kernel) (pa_cons (pv 0) (pa_cons (pe_bltn (v := .ty "int") (u := .type "int") rfl T.n_int (by decide +kernel) rfl) pa_nil))) (pe_one (pe_not (pe_callB call_isi (by rfl) T.n_isinstance (by decide +kernel) (pa_cons (pv 0) (pa_cons (pe_bltn (v := .ty "bool") (u := .type "bool") rfl T.n_bool (by decide +kernel) rfl) pa_nil)))))))), ?_⟩
  refine ⟨_, rfl, .int i, .ty "int", _, _, true, rfl, ClsV.ty "int", .base (.int i), kit_ty (by decide +kernel), true, rfl, iteT ?_⟩
  exact ⟨_, rfl, .int i, .ty "bool", _, _, false, rfl, ClsV.ty "bool", .base (.int i), kit_ty (by decide +kernel), false, rfl, k⟩
def spIsNum : Sp := fun vs H Q _ => ∃ i lo hi : Int, vs = [.int i, .int lo, .int hi] ∧ Q (.bl (numOk i lo hi)) H
theorem ok_is_number : FnR P w K mg base CX0 2 (a_is_number K) spIsNum := by
  refine fnR0 (d := d_is_number) T.F_is_number sc_is_number rfl (fun _ _ _ _ _ _ us hl => match us, hl with | [_, _, _], _ => rfl) (fun vs H Q E h => ?_) (fun cdv A outer s H vs Q E hr h => ?_)
  · obtain ⟨i, lo, hi, rfl, _⟩ := h
    rfl
  obtain ⟨i, lo, hi, rfl, k⟩ := h
  refine ⟨_, (pss_one (ps_ret (pe_and (pe_cR (ok_is_integer T) (hr.mono (by decide)) T.F_is_integer.kp T.g_is_integer pass0 (pa_cons (pv 0) pa_nil)) (pe_one (pe_chain op_le op_le (pv 1) (pv 0) (pv 2)))))), ?_⟩
  refine ⟨_, rfl, i, rfl, true, rfl, iteT ?_⟩
  refine ⟨_, rfl, _, rfl, _, _, rfl, rfl, _, rfl, ?_⟩
  unfold numOk at k
  refine ite2 (fun hd => ?_) (fun hd => ?_)
  · rw [if_pos hd] at k
    exact ⟨_, rfl, _, _, rfl, rfl, k⟩
  · rw [if_neg hd] at k
    exact k
def spIsLabel : Sp := fun vs H Q _ => ∃ z : Str, vs = [.str z] ∧ z.length ≤ 1000 ∧ ∀ H', Same H H' → Q (.bl (labelOk z)) H'
theorem ok_is_label : FnR P w K mg base CX0 1 (a_is_label K) spIsLabel := by
  refine fnR0 (d := d_is_label) T.F_is_label sc_is_label rfl (fun _ _ _ _ _ _ us hl => match us, hl with | [_], _ => rfl) (fun vs H Q E h => ?_) (fun cdv A outer s H vs Q E hr h => ?_)
  · obtain ⟨z, rfl, _⟩ := h
    rfl
  obtain ⟨z, rfl, hz, k⟩ := h
  have hz2 : z.length ≤ sizeLine := Nat.le_trans hz (by decide)
  refine ⟨_, (pss_cons (ps_if (PW.pt (pw_or (pt_not (pt_val (pe_callB call_isi (by rfl) T.n_isinstance (by decide +kernel) (pa_cons (pv 0) (pa_cons (pe_bltn (v := .ty "str") (u := .type "str") rfl T.n_str (by decide +kernel) rfl) pa_nil))))) (pw_or1 (pt_not (pt_chain op_le op_le pe_int (pe_callB call_len_str (by rfl) T.n_len PySem.boot_len (pa_cons (pv 0) pa_nil)) (pe_cI T.c_MAX_LABEL_LENGTH)))))) (pss_one (ps_ret pe_bl)) pss_nil) (pss_one (ps_ret (pe_callB (cr_all rfl) (by rfl) T.n_all (by decide +kernel) (pa_cons (pe_lc (own := [("letter", 1)]) rfl sc_is_label.nd (pi_str (pv 0)) (blkOk_by (own := [("letter", 1)]) (N := N_is_label) (sc := defScope s_is_label) (by decide +kernel)) (fun _ _ _ _ _ => (pg_name (i := 1) sc_is_label.nd rfl (Or.inl rfl) (.inr rfl))) (fun _ _ _ _ _ => pts_nil) (fun _ _ _ _ _ => (pe_chain op_le_str op_le_str pe_str (pv 1) pe_str))) pa_nil))))), ?_⟩
  refine ⟨_, rfl, .str z, .ty "str", _, _, true, rfl, ClsV.ty "str", .base (.str z), kit_ty (by decide +kernel), true, rfl, ?_⟩
  show (if false = true then _ else _)
  refine iteF ?_
  have hlast : ∀ (c : Bool), (if decide ((1 : Int) ≤ z.length) = true then decide ((z.length : Int) ≤ 8) else false) = c → labelOk z = if (!c) = true then false else (z.cps.toList.map signOk).all id := by
    rintro c rfl
    rfl
  refine ⟨_, rfl, z, rfl, hz2, _, _, rfl, rfl, _, rfl, ?_⟩
  refine ite2 (fun h1 => ?_) (fun h1 => ?_)
  · rw [if_pos h1] at hlast
    refine ⟨_, _, rfl, rfl, _, rfl, ?_⟩
    by_cases h2 : (z.length : Int) ≤ 8
    · rw [decide_eq_true h2]
      rw [hlast true (decide_eq_true h2)] at k
      refine iteF ?_
      refine ⟨_, rfl, z, rfl, fun D hD => ?_⟩
      refine lc_it (walk_str (z := z)) (fun i H1 => Same H H1 ∧ H1 D = some (.lst ((z.cps.toList.take i).map fun c => V.bl (signOk c)))) ⟨same_new hD, upd_same⟩ (fun _ _ _ _ => True.intro) ?_ ?_
      · rintro i x H1 H2 hi ⟨s1, e1⟩ ⟨rfl, c, ec, rfl⟩
        have ec2 : z.cps.toList[i]? = some c := by
          rw [Array.getElem?_toList]
          exact ec
        have hz3 : ((z.cps.toList.take i).map fun c => V.bl (signOk c)).length < sizeLine := by
          rw [List.length_map, List.length_take]
          refine small3 ?_
          have h3 : i < z.cps.size := hi
          have h4 : z.cps.size = z.length := rfl
          omega
        refine ⟨rfl, _, rfl, _, _, rfl, rfl, _, rfl, ?_⟩
        have hs : signOk c = if (!decide ((⟨#[c]⟩ : Str).cps.toList < ("a" : Str).cps.toList)) = true then (!decide (("z" : Str).cps.toList < (⟨#[c]⟩ : Str).cps.toList)) else false := rfl
        refine ite2 (fun h5 => ?_) (fun h5 => ?_)
        · rw [if_pos h5] at hs
          refine ⟨_, _, rfl, rfl, _, e1, hz3, same_mut s1 hD, ?_⟩
          rw [upd_same, take_at ec2, List.map_append, ← hs]
          rfl
        · rw [if_neg h5] at hs
          refine ⟨_, e1, hz3, same_mut s1 hD, ?_⟩
          rw [upd_same, take_at ec2, List.map_append, ← hs]
          rfl
      · rintro H1 ⟨s1, e1⟩
        refine ⟨D, z.cps.toList.map signOk, rfl, SqL.of ?_, k _ s1⟩
        rw [e1, ← Array.length_toList, List.take_length, List.map_map]
        rfl
    · rw [decide_eq_false h2]
      rw [hlast false (decide_eq_false h2)] at k
      exact iteT (k _ (Same.refl _))
  · rw [if_neg h1] at hlast
    rw [hlast false rfl] at k
    exact ⟨false, rfl, iteT (k _ (Same.refl _))⟩
def spIsKind : Sp := fun vs H Q _ => ∃ z : Str, vs = [.str z] ∧ z.length ≤ 1000 ∧ ∀ H', Same H H' → Q (.bl (kindOk z)) H'
theorem ok_is_kind : FnR P w K mg base CX0 2 (a_is_kind K) spIsKind := by
  refine fnR0 (d := d_is_kind) T.F_is_kind sc_is_kind rfl (fun _ _ _ _ _ _ us hl => match us, hl with | [_], _ => rfl) (fun vs H Q E h => ?_) (fun cdv A outer s H vs Q E hr h => ?_)
  · obtain ⟨z, rfl, _⟩ := h
    rfl
  obtain ⟨z, rfl, hz, k⟩ := h
  refine ⟨_, (pss_one (ps_ret (pe_and (pe_cR (ok_is_label T) (hr.mono (by decide)) T.F_is_label.kp T.g_is_label pass0 (pa_cons (pv 0) pa_nil)) (pe_one (pe_cmpR op_ne (pv 0) (pe_cS T.c_DRINK) (nomark _)))))), ?_⟩
  refine ⟨_, rfl, z, rfl, hz, fun H1 s1 => ⟨_, rfl, ?_⟩⟩
  unfold kindOk at k
  refine ite2 (fun h1 => ?_) (fun h1 => ?_)
  · rw [if_pos h1] at k
    refine ⟨_, rfl, rfl, ?_⟩
    have e : decide (V.str z = V.str "drink") = decide (z = "drink") := decide_eq_decide.mpr ⟨V.str.inj, fun y => by rw [y]⟩
    show Q (V.bl !decide (V.str z = V.str "drink")) H1
    rw [e]
    exact k _ s1
  · rw [if_neg h1] at k
    exact k _ s1
def spIsTrade : Sp := fun vs H Q _ => ∃ t : Tr, vs = t.vs ∧ t.k.length ≤ 1000 ∧ ∀ H', Same H H' → Q (.bl (trOk t)) H'
theorem ok_is_trade : FnR P w K mg base CX0 3 (a_is_trade K) spIsTrade := by
  refine fnR0 (d := d_is_trade) T.F_is_trade sc_is_trade rfl (fun _ _ _ _ _ _ us hl => match us, hl with | [_, _, _], _ => rfl) (fun vs H Q E h => ?_) (fun cdv A outer s H vs Q E hr h => ?_)
  · obtain ⟨t, rfl, _⟩ := h
    rfl
  obtain ⟨t, rfl, hz, k⟩ := h
  obtain ⟨uE, hE⟩ := T.v_Offer_MAX_NEEDED
  refine ⟨_, (pss_one (ps_ret (pe_and (pe_cR (ok_is_kind T) (hr.mono (by decide)) T.F_is_kind.kp T.g_is_kind pass0 (pa_cons (pv 0) pa_nil)) (pe_and (pe_cR (ok_is_number T) (hr.mono (by decide)) T.F_is_number.kp T.g_is_number pass0 (pa_cons (pv 1) (pa_cons pe_int (pa_cons (pe_cI T.c_MAX_LEFT) pa_nil)))) (pe_one (pe_cR (ok_is_number T) (hr.mono (by decide)) T.F_is_number.kp T.g_is_number pass0 (pa_cons (pv 2) (pa_cons pe_int (pa_cons (ClX.pe_cval (pe_cC T.g_Offer)) pa_nil))))))))), ?_⟩
  refine ⟨_, rfl, t.k, rfl, hz, fun H1 s1 => ⟨_, rfl, ?_⟩⟩
  unfold trOk at k
  refine ite2 (fun h1 => ?_) (fun h1 => ?_)
  · rw [if_pos h1] at k
    refine ⟨_, rfl, t.l, 0, 12, rfl, _, rfl, ite2 (fun h2 => ?_) (fun h2 => ?_)⟩
    · rw [if_pos h2] at k
      exact ⟨_, rfl, He.ga K "Offer", _, _, _, rfl, T.r_Offer, hE, t.n, 1, 12, rfl, k _ s1⟩
    · rw [if_neg h2] at k
      exact k _ s1
  · rw [if_neg h1] at k
    exact k _ s1
end
end EB

namespace EB
open PySem PySem.Spec PyProof.Rows L2
/-! ### the mathematics of offers -/
abbrev cN (ts : List Tr) : Nat → Int := fun d => cost ts (d : Int)
def worth (ts : List Tr) : Int := (ts.map fun t => 27720 / t.n * t.l).sum
/-- a good offer: at most three trades in range, together not too generous -/
structure Fair (ts : List Tr) : Prop where
  g : gds ts
  w : 10 * worth ts ≤ 9 * 27720
theorem dvd_big {n : Int} (h1 : 1 ≤ n) (h2 : n ≤ 12) : n ∣ 27720 := by
  have h : n = 1 ∨ n = 2 ∨ n = 3 ∨ n = 4 ∨ n = 5 ∨ n = 6 ∨ n = 7 ∨ n = 8 ∨ n = 9 ∨ n = 10 ∨ n = 11 ∨ n = 12 := by omega
  rcases h with rfl | rfl | rfl | rfl | rfl | rfl | rfl | rfl | rfl | rfl | rfl | rfl <;> decide
theorem sum_map_le {α : Type} {f g : α → Int} : ∀ {l : List α}, (∀ x ∈ l, f x ≤ g x) → (l.map f).sum ≤ (l.map g).sum
  | [], _ => Int.le_refl _
  | a :: l, h => by
    have h1 := h a (List.mem_cons_self ..)
    have h2 := sum_map_le (l := l) fun x hx => h x (List.mem_cons_of_mem _ hx)
    rw [List.map_cons, List.map_cons, List.sum_cons, List.sum_cons]
    omega
theorem sum_map_eq {α : Type} {f g : α → Int} : ∀ {l : List α}, (∀ x ∈ l, f x = g x) → (l.map f).sum = (l.map g).sum
  | [], _ => rfl
  | a :: l, h => by
    rw [List.map_cons, List.map_cons, List.sum_cons, List.sum_cons, h a (List.mem_cons_self ..), sum_map_eq (l := l) fun x hx => h x (List.mem_cons_of_mem _ hx)]
theorem sum_map_add {α : Type} {f g : α → Int} : ∀ {l : List α}, (l.map fun x => f x + g x).sum = (l.map f).sum + (l.map g).sum
  | [] => rfl
  | a :: l => by
    rw [List.map_cons, List.map_cons, List.map_cons, List.sum_cons, List.sum_cons, List.sum_cons, sum_map_add (l := l)]
    omega
theorem sum_map_mul {α : Type} {f : α → Int} {k : Int} : ∀ {l : List α}, (l.map fun x => f x * k).sum = (l.map f).sum * k
  | [] => by simp
  | a :: l => by
    rw [List.map_cons, List.map_cons, List.sum_cons, List.sum_cons, sum_map_mul (l := l), Int.add_mul]
theorem fl_mono {l n x y : Int} (hl : 0 ≤ l) (hn : 0 < n) (h : x ≤ y) : l * x / n ≤ l * y / n := Int.ediv_le_ediv hn (Int.mul_le_mul_of_nonneg_left h hl)
theorem fl_super {l n x y : Int} (hn : 0 < n) : l * x / n + l * y / n ≤ l * (x + y) / n := by
  rw [Int.mul_add]
  have h1 := Int.ediv_mul_le (l * x) (Int.ne_of_gt hn)
  have h2 := Int.ediv_mul_le (l * y) (Int.ne_of_gt hn)
  refine Int.le_ediv_of_mul_le hn ?_
  rw [Int.add_mul]
  omega
theorem tr_pos {t : Tr} (h : t.ok) : 0 < t.n := by
  have := h.2.2.1
  omega
/-! periods -/
theorem quo_dvd {t : Tr} (h : t.ok) {d : Nat} : (t.n / ((t.l.natAbs.gcd t.n.natAbs : Nat) : Int)).natAbs ∣ d ↔ t.n ∣ t.l * (d : Int) := by
  obtain ⟨l, hl⟩ := Int.eq_ofNat_of_zero_le h.1
  obtain ⟨n, hn⟩ := Int.eq_ofNat_of_zero_le (Int.le_of_lt (tr_pos h))
  have hp := tr_pos h
  rw [hl, hn]
  rw [hn] at hp
  have hp2 : 0 < n := by omega
  simp only [Int.natAbs_natCast]
  have hg : 0 < l.gcd n := Nat.gcd_pos_of_pos_right _ hp2
  rw [← Int.natCast_ediv, Int.natAbs_natCast]
  have e1 : ((n : Int) ∣ (l : Int) * (d : Int)) ↔ n ∣ l * d := by
    rw [← Int.natCast_mul]
    exact Int.natCast_dvd_natCast
  rw [e1]
  have hn2 : n = n / l.gcd n * l.gcd n := (Nat.div_mul_cancel (Nat.gcd_dvd_right l n)).symm
  have hl2 : l = l / l.gcd n * l.gcd n := (Nat.div_mul_cancel (Nat.gcd_dvd_left l n)).symm
  have co : Nat.Coprime (n / l.gcd n) (l / l.gcd n) := (Nat.coprime_div_gcd_div_gcd hg).symm
  constructor
  · rintro ⟨k, rfl⟩
    refine ⟨l / l.gcd n * k, ?_⟩
    have : l * (n / l.gcd n * k) = (l / l.gcd n * l.gcd n) * (n / l.gcd n * k) := by rw [← hl2]
    rw [this]
    have : n * (l / l.gcd n * k) = (n / l.gcd n * l.gcd n) * (l / l.gcd n * k) := by rw [← hn2]
    rw [this]
    simp only [Nat.mul_comm, Nat.mul_left_comm, Nat.mul_assoc]
  · rintro ⟨k, hk⟩
    refine co.dvd_of_dvd_mul_left (⟨k, ?_⟩ : n / l.gcd n ∣ l / l.gcd n * d)
    refine Nat.eq_of_mul_eq_mul_right hg ?_
    have e2 : l / l.gcd n * d * l.gcd n = l / l.gcd n * l.gcd n * d := by simp only [Nat.mul_comm, Nat.mul_left_comm]
    have e3 : n / l.gcd n * k * l.gcd n = n / l.gcd n * l.gcd n * k := by simp only [Nat.mul_comm, Nat.mul_left_comm]
    rw [e2, e3, ← hl2, ← hn2]
    exact hk
theorem perF_dvd : ∀ (ts : List Tr) (p d : Nat), (∀ t ∈ ts, t.ok) → (ts.foldl perS p ∣ d ↔ p ∣ d ∧ ∀ t ∈ ts, t.n ∣ t.l * (d : Int))
  | [], p, d, _ => by simp
  | t :: ts, p, d, h => by
    rw [List.foldl_cons, perF_dvd ts (perS p t) d fun u hu => h u (List.mem_cons_of_mem _ hu)]
    have e : perS p t ∣ d ↔ p ∣ d ∧ t.n ∣ t.l * (d : Int) := by
      unfold perS
      rw [Nat.lcm_dvd_iff, quo_dvd (h t (List.mem_cons_self ..))]
    rw [e]
    constructor
    · rintro ⟨⟨a, b⟩, c⟩
      refine ⟨a, fun u hu => ?_⟩
      rcases List.mem_cons.mp hu with rfl | hu
      · exact b
      · exact c u hu
    · rintro ⟨a, b⟩
      exact ⟨⟨a, b t (List.mem_cons_self ..)⟩, fun u hu => b u (List.mem_cons_of_mem _ hu)⟩
/-- the period divides just the numbers of drinks that leave whole trades -/
theorem per_dvd {ts : List Tr} (h : gds ts) {d : Nat} : per ts ∣ d ↔ ∀ t ∈ ts, t.n ∣ t.l * (d : Int) := by
  unfold per
  rw [perF_dvd ts 1 d h.2]
  exact ⟨fun z => z.2, fun z => ⟨Nat.one_dvd d, z⟩⟩
theorem perF_pos : ∀ (ts : List Tr) (p : Nat), 0 < p → (∀ t ∈ ts, t.ok) → 0 < ts.foldl perS p
  | [], p, hp, _ => hp
  | t :: ts, p, hp, h => by
    rw [List.foldl_cons]
    refine perF_pos ts _ ?_ fun u hu => h u (List.mem_cons_of_mem _ hu)
    have ht := h t (List.mem_cons_self ..)
    refine Nat.lcm_pos hp ?_
    have h1 := gcd_pos' ht
    have hn := tr_pos ht
    have h3 : ((t.l.natAbs.gcd t.n.natAbs : Nat) : Int) ≤ t.n := by
      have := Nat.gcd_le_right t.l.natAbs (show 0 < t.n.natAbs by omega)
      omega
    have h4 : 0 < t.n / ((t.l.natAbs.gcd t.n.natAbs : Nat) : Int) := Int.ediv_pos_of_pos_of_dvd hn (by omega) (by
      have : t.l.natAbs.gcd t.n.natAbs ∣ t.n.natAbs := Nat.gcd_dvd_right _ _
      exact Int.dvd_natAbs.mp (Int.natCast_dvd_natCast.mpr this))
    omega
theorem per_pos {ts : List Tr} (h : gds ts) : 0 < per ts := perF_pos ts 1 (by omega) h.2
/-! costs -/
theorem ten_buys {ts : List Tr} (f : Fair ts) (d : Nat) : 10 * buys ts d ≤ 9 * (d : Int) := by
  have h1 : buys ts d * 27720 ≤ worth ts * d := by
    unfold buys worth
    rw [← sum_map_mul, ← sum_map_mul]
    refine sum_map_le fun t ht => ?_
    have hn := tr_pos (f.g.2 t ht)
    obtain ⟨q, hq⟩ := dvd_big (f.g.2 t ht).2.2.1 (f.g.2 t ht).2.2.2
    have e1 : 27720 / t.n = q := by
      rw [hq]
      exact Int.mul_ediv_cancel_left _ (Int.ne_of_gt hn)
    have hq0 : 0 ≤ q := by
      rw [← e1]
      exact Int.ediv_nonneg (by omega) (by omega)
    rw [e1, hq]
    have h2 := Int.ediv_mul_le (t.l * (d : Int)) (Int.ne_of_gt hn)
    have h3 := Int.mul_le_mul_of_nonneg_right h2 hq0
    have e2 : t.l * (d : Int) / t.n * (t.n * q) = t.l * (d : Int) / t.n * t.n * q := by rw [Int.mul_assoc]
    have e3 : q * t.l * (d : Int) = t.l * (d : Int) * q := by rw [Int.mul_assoc, Int.mul_comm]
    rw [e2, e3]
    exact h3
  have h2 : worth ts * d ≤ 24948 * (d : Int) := Int.mul_le_mul_of_nonneg_right (by have := f.w; omega) (by omega)
  omega
theorem buys_nonneg {ts : List Tr} (f : gds ts) (d : Nat) : 0 ≤ buys ts d := by
  have h : ((ts.map fun _ => (0 : Int))).sum ≤ buys ts d := sum_map_le fun t ht => Int.ediv_nonneg (Int.mul_nonneg (f.2 t ht).1 (by omega)) (Int.le_of_lt (tr_pos (f.2 t ht)))
  have e : ((ts.map fun _ => (0 : Int))).sum = 0 := by
    have : ∀ l : List Tr, ((l.map fun _ => (0 : Int))).sum = 0 := by
      intro l
      induction l with
      | nil => rfl
      | cons a l ih => rw [List.map_cons, List.sum_cons, ih]; rfl
    exact this ts
  omega
/-- the bottles of a period -/
def perB (ts : List Tr) : Nat := (cN ts (per ts)).toNat
theorem cf {ts : List Tr} (f : Fair ts) : CF (cN ts) (per ts) (perB ts) where
  zero := by
    show (0 : Int) - buys ts 0 = 0
    have : buys ts 0 = 0 := by
      unfold buys
      have e : (ts.map fun t => t.l * 0 / t.n).sum = ((ts.map fun _ => (0 : Int) * 0)).sum := sum_map_eq fun t _ => by rw [Int.mul_zero, Int.zero_ediv]; rfl
      rw [e, sum_map_mul, Int.mul_zero]
    omega
  step := fun d => by
    show ((d + 1 : Nat) : Int) - buys ts ((d + 1 : Nat) : Int) ≤ (d : Int) - buys ts d + 1
    have h : buys ts d ≤ buys ts ((d + 1 : Nat) : Int) := sum_map_le fun t ht => fl_mono (f.g.2 t ht).1 (tr_pos (f.g.2 t ht)) (by omega)
    omega
  per := fun d => by
    have e : buys ts ((d + per ts : Nat) : Int) = buys ts d + buys ts (per ts) := by
      unfold buys
      rw [← sum_map_add]
      refine sum_map_eq fun t ht => ?_
      have hd := (per_dvd f.g (d := per ts)).mp (Nat.dvd_refl _) t ht
      rw [Int.natCast_add, Int.mul_add]
      exact Int.add_ediv_of_dvd_right hd
    have h10 := ten_buys f (per ts)
    have hB : ((perB ts : Nat) : Int) = (per ts : Int) - buys ts (per ts) := by
      unfold perB cN cost
      omega
    show ((d + per ts : Nat) : Int) - buys ts ((d + per ts : Nat) : Int) = (d : Int) - buys ts d + (perB ts : Int)
    rw [e, hB]
    omega
  ppos := per_pos f.g
  ten := fun d => by
    have := ten_buys f d
    show (d : Int) ≤ 10 * ((d : Int) - buys ts d)
    omega
  sub := fun x y => by
    have e : buys ts x + buys ts y ≤ buys ts ((x + y : Nat) : Int) := by
      unfold buys
      rw [← sum_map_add]
      refine sum_map_le fun t ht => ?_
      rw [Int.natCast_add]
      exact fl_super (tr_pos (f.g.2 t ht))
    show ((x + y : Nat) : Int) - buys ts ((x + y : Nat) : Int) ≤ (x : Int) - buys ts x + ((y : Int) - buys ts y)
    omega
theorem perB_eq {ts : List Tr} (f : Fair ts) : ((perB ts : Nat) : Int) = cost ts (per ts) := by
  have h := (cf f).nonneg (per ts)
  unfold perB
  exact Int.toNat_of_nonneg h
theorem perB_le {ts : List Tr} (f : Fair ts) : perB ts ≤ per ts := by
  have h : cost ts (per ts) ≤ (per ts : Int) := (cf f).le_self (per ts)
  have e := perB_eq f
  omega
/-! tables -/
theorem tops_eq {c : Nat → Int} (h0 : c 0 = 0) : ∀ n : Nat, topsF 0 ((List.range (n + 1)).map c) = (List.range (n + 1)).map (T c) ∧ topsM 0 ((List.range (n + 1)).map c) = T c n
  | 0 => by
    constructor
    · show [if (0 : Int) < c 0 then c 0 else 0] = [c 0]
      rw [h0]
      rfl
    · show (if (0 : Int) < c 0 then c 0 else 0) = c 0
      rw [h0]
      rfl
  | n + 1 => by
    obtain ⟨h1, h2⟩ := tops_eq h0 n
    have e : topsM 0 ((List.range (n + 1 + 1)).map c) = T c (n + 1) := by
      rw [List.range_succ, List.map_append, List.map_singleton, topsM_snoc, h2]
      rfl
    refine ⟨?_, e⟩
    rw [List.range_succ, List.map_append, List.map_append, List.map_singleton, List.map_singleton, topsF_snoc, h1, ← e]
    rw [List.range_succ (n := n + 1), List.map_append, List.map_singleton]
theorem firsts_eq {c : Nat → Int} {P B : Nat} (h : CF c P B) : ∀ n : Nat, firstsF 0 [] ((List.range (n + 1)).map (T c)) = (List.range ((T c n).toNat + 1)).map fun k => ((D c k : Nat) : Int)
  | 0 => by
    have e : T c 0 = 0 := h.zero
    show (if T c 0 = ((([] : List Int)).length : Int) then [] ++ [((0 : Nat) : Int)] else []) = _
    rw [e]
    show [((0 : Nat) : Int)] = [((D c 0 : Nat) : Int)]
    rw [h.D_zero]
  | n + 1 => by
    have ih := firsts_eq h n
    have hs := h.T_step n
    have hm := CF.T_mono c (Nat.le_add_right n 1)
    have hn := h.T_nonneg n
    rw [List.range_succ, List.map_append, List.map_singleton, firstsF_snoc, ih]
    simp only [List.length_map, List.length_range, Nat.zero_add]
    by_cases q : T c (n + 1) = (((T c n).toNat + 1 : Nat) : Int)
    · rw [if_pos q]
      have e1 : (T c (n + 1)).toNat = (T c n).toNat + 1 := by omega
      rw [e1, List.range_succ (n := (T c n).toNat + 1), List.map_append, List.map_singleton]
      have e2 : D c ((T c n).toNat + 1) = n + 1 := by
        refine h.D_eq ⟨?_, fun j hj => ?_⟩
        · obtain ⟨j, hj, ej⟩ := CF.T_at c (n + 1)
          rcases Nat.lt_or_eq_of_le hj with z | z
          · have := CF.T_ge c (d := n) (j := j) (by omega)
            omega
          · rw [z] at ej
            omega
        · have := CF.T_ge c (d := n) (j := j) (by omega)
          push_cast
          omega
      rw [e2]
    · rw [if_neg q]
      have e1 : (T c (n + 1)).toNat = (T c n).toNat := by
        push_cast at q
        omega
      rw [e1]
theorem getD_map {f : Nat → Int} {n i : Nat} (h : i < n) : ((List.range n).map f).getD i 0 = f i := by
  rw [List.getD_eq_getElem?_getD, List.getElem?_map, List.getElem?_range h]
  rfl
/-- behind its end the table of the greatest costs goes on as it is said -/
theorem value_tops {c : Nat → Int} {P B : Nat} (h : CF c P B) (d : Nat) : valueAt ((List.range (2 * P)).map (T c)) d P B = T c d := by
  have hp := h.ppos
  unfold valueAt
  simp only [List.length_map, List.length_range]
  by_cases q : (d : Int) < ((2 * P : Nat) : Int)
  · rw [if_pos q, Int.toNat_natCast, getD_map (by omega)]
  · rw [if_neg q]
    obtain ⟨e, he⟩ : ∃ e, d = 2 * P + e := ⟨d - 2 * P, by omega⟩
    have e1 : (d : Int) - ((2 * P : Nat) : Int) = (e : Int) := by omega
    rw [e1, ← Int.natCast_ediv]
    have h1 := Nat.div_add_mod e P
    have h2 := Nat.mod_lt e hp
    have h3 : (e / P + 1) * P = P * (e / P) + P := by rw [Nat.add_mul, Nat.one_mul, Nat.mul_comm]
    have e2 : (d : Int) - (((e / P : Nat) : Int) + 1) * (P : Int) = ((P + e % P : Nat) : Int) := by
      have : (((e / P : Nat) : Int) + 1) * (P : Int) = (((e / P + 1) * P : Nat) : Int) := by push_cast; rfl
      rw [this]
      omega
    rw [e2, Int.toNat_natCast, getD_map (by omega)]
    have e3 : d = P + e % P + (e / P + 1) * P := by omega
    have h5 := h.T_perk (d := P + e % P) (by omega) (e / P + 1)
    rw [← e3] at h5
    rw [h5]
    push_cast
    rfl
theorem value_firsts {c : Nat → Int} {P B : Nat} (h : CF c P B) (n : Nat) : valueAt ((List.range ((T c (2 * P - 1)).toNat + 1)).map fun k => ((D c k : Nat) : Int)) n B P = ((D c n : Nat) : Int) := by
  have hp := h.ppos
  have hb := h.bpos
  have ht : T c (2 * P - 1) = T c (P - 1) + B := by
    have := h.T_per (d := P - 1) (by omega)
    rw [show P - 1 + P = 2 * P - 1 by omega] at this
    exact this
  have h0 := h.T_nonneg (P - 1)
  generalize hL : (T c (2 * P - 1)).toNat + 1 = L
  unfold valueAt
  simp only [List.length_map, List.length_range]
  by_cases q : (n : Int) < (L : Int)
  · rw [if_pos q, Int.toNat_natCast, getD_map (by omega)]
  · rw [if_neg q]
    obtain ⟨e, he⟩ : ∃ e, n = L + e := ⟨n - L, by omega⟩
    have e1 : (n : Int) - (L : Int) = (e : Int) := by omega
    rw [e1, ← Int.natCast_ediv]
    have h1 := Nat.div_add_mod e B
    have h2 := Nat.mod_lt e hb
    have h3 : (e / B + 1) * B = B * (e / B) + B := by rw [Nat.add_mul, Nat.one_mul, Nat.mul_comm]
    obtain ⟨g, hg⟩ : ∃ g, L = B + g := ⟨L - B, by omega⟩
    have e2 : (n : Int) - (((e / B : Nat) : Int) + 1) * (B : Int) = ((g + e % B : Nat) : Int) := by
      have : (((e / B : Nat) : Int) + 1) * (B : Int) = (((e / B + 1) * B : Nat) : Int) := by push_cast; rfl
      rw [this]
      omega
    rw [e2, Int.toNat_natCast, getD_map (by omega)]
    have e3 : n = g + e % B + (e / B + 1) * B := by omega
    have h5 := h.D_perk (n := g + e % B) (by omega) (e / B + 1)
    rw [← e3] at h5
    rw [h5]
    push_cast
    rfl
end EB

namespace EB
open PySem PySem.Spec PyProof.Rows L2
/-! ### what an offer is -/
def nmOk (ts : List Tr) : Prop := (ts.map Tr.k).Nodup ∧ ∀ t ∈ ts, kindOk t.k = true ∧ t.k.length ≤ 1000
def wholeS (d : Nat) (t : Tr) : Nat := d.lcm t.n.natAbs
def wholeF (ts : List Tr) : Nat := ts.foldl wholeS 1
theorem wholeF_le : ∀ (ts : List Tr) (d : Nat), (∀ t ∈ ts, t.ok) → ts.foldl wholeS d ≤ d * 12 ^ ts.length
  | [], d, _ => by simp
  | t :: ts, d, h => by
    have h1 := wholeF_le ts (wholeS d t) fun u hu => h u (List.mem_cons_of_mem _ hu)
    have ht := h t (List.mem_cons_self ..)
    have h2 : wholeS d t ≤ d * 12 := Nat.le_trans (PySem.W.mc_lcm_le _ _) (Nat.mul_le_mul_left _ (by have := ht.2.2.1; have := ht.2.2.2; omega))
    have h3 : wholeS d t * 12 ^ ts.length ≤ d * 12 * 12 ^ ts.length := Nat.mul_le_mul_right _ h2
    rw [List.foldl_cons, List.length_cons, Nat.pow_succ]
    rw [Nat.mul_assoc, Nat.mul_comm 12] at h3
    omega
theorem wholeF_most {ts : List Tr} (h : gds ts) (i : Nat) : (ts.take i).foldl wholeS 1 ≤ 1728 := by
  have h1 := wholeF_le (ts.take i) 1 fun t ht => h.2 t (List.mem_of_mem_take ht)
  have h2 : (ts.take i).length ≤ 3 := by
    rw [List.length_take]
    have := h.1
    omega
  have h3 : 12 ^ (ts.take i).length ≤ 12 ^ 3 := Nat.pow_le_pow_right (by omega) h2
  omega
theorem wholeF_dvd : ∀ (ts : List Tr) (d m : Nat), (ts.foldl wholeS d ∣ m ↔ d ∣ m ∧ ∀ t ∈ ts, t.n.natAbs ∣ m)
  | [], d, m => by simp
  | t :: ts, d, m => by
    rw [List.foldl_cons, wholeF_dvd ts (wholeS d t) m]
    unfold wholeS
    rw [Nat.lcm_dvd_iff]
    constructor
    · rintro ⟨⟨a, b⟩, c⟩
      refine ⟨a, fun u hu => ?_⟩
      rcases List.mem_cons.mp hu with rfl | hu
      · exact b
      · exact c u hu
    · rintro ⟨a, b⟩
      exact ⟨⟨a, b t (List.mem_cons_self ..)⟩, fun u hu => b u (List.mem_cons_of_mem _ hu)⟩
def parts (ts : List Tr) : Int := (ts.map fun t => (wholeF ts : Int) / t.n * t.l).sum
theorem parts_fair {ts : List Tr} (g : gds ts) : 10 * parts ts ≤ 9 * (wholeF ts : Int) ↔ 10 * worth ts ≤ 9 * 27720 := by
  have hd : wholeF ts ∣ 27720 := by
    refine (wholeF_dvd ts 1 27720).mpr ⟨Nat.one_dvd _, fun t ht => ?_⟩
    have := dvd_big (g.2 t ht).2.2.1 (g.2 t ht).2.2.2
    exact Int.natAbs_dvd_natAbs.mpr this
  obtain ⟨k, hk⟩ := hd
  have hk0 : 0 < k := by
    rcases Nat.eq_zero_or_pos k with z | z
    · rw [z] at hk
      omega
    · exact z
  have hw : worth ts = parts ts * k := by
    unfold worth parts
    rw [← sum_map_mul]
    refine sum_map_eq fun t ht => ?_
    have hn := tr_pos (g.2 t ht)
    have h1 : t.n.natAbs ∣ wholeF ts := ((wholeF_dvd ts 1 (wholeF ts)).mp (Nat.dvd_refl _)).2 t ht
    obtain ⟨q, hq⟩ := h1
    have hq2 : (wholeF ts : Int) = t.n * (q : Int) := by
      rw [hq]
      push_cast
      rw [Int.natAbs_of_nonneg (Int.le_of_lt hn)]
    have e1 : (wholeF ts : Int) / t.n = q := by
      rw [hq2]
      exact Int.mul_ediv_cancel_left _ (Int.ne_of_gt hn)
    have e2 : (27720 : Int) / t.n = (q : Int) * k := by
      have : (27720 : Int) = t.n * ((q : Int) * k) := by
        have z : (27720 : Int) = ((wholeF ts * k : Nat) : Int) := by rw [← hk]; rfl
        rw [z]
        push_cast
        rw [hq2, Int.mul_assoc]
      rw [this]
      exact Int.mul_ediv_cancel_left _ (Int.ne_of_gt hn)
    rw [e1, e2, Int.mul_assoc, Int.mul_assoc, Int.mul_comm (k : Int)]
  have hz : (27720 : Int) = (wholeF ts : Int) * k := by
    have z : (27720 : Int) = ((wholeF ts * k : Nat) : Int) := by rw [← hk]; rfl
    rw [z]
    push_cast
    rfl
  have hk1 : (0 : Int) < k := by omega
  rw [hw, hz]
  constructor
  · intro h
    have := Int.mul_le_mul_of_nonneg_right h (Int.le_of_lt hk1)
    rw [Int.mul_assoc, Int.mul_assoc] at this
    exact this
  · intro h
    refine Int.le_of_mul_le_mul_right ?_ hk1
    rw [Int.mul_assoc, Int.mul_assoc]
    exact h
/-- the tables of an offer -/
abbrev topsL (ts : List Tr) : List Int := (List.range (2 * per ts)).map (T (cN ts))
noncomputable abbrev firstsL (ts : List Tr) : List Int := (List.range ((T (cN ts) (2 * per ts - 1)).toNat + 1)).map fun k => ((D (cN ts) k : Nat) : Int)
noncomputable abbrev gapsL (ts : List Tr) : List Int := gapsF (firstsL ts) 0 (topsL ts)
def ofs (t p o f g : Addr) : List (Str × V) := [("_trades", .ref t), ("_period", .ref p), ("_tops", .ref o), ("_firsts", .ref f), ("_gaps", .ref g)]
/-- at a an offer of these trades -/
structure OfAt (K : PySem.W.Frag) (H : Hp) (a : Addr) (ts : List Tr) : Prop where
  ex : ∃ dx t p o f g, H a = some (.ins (He.ga K "Offer") dx (ofs t p o f g)) ∧ TrAt K H t ts ∧ SqT K H p [.int (perB ts : Nat), .int (per ts : Nat)] ∧ SqL K H o ((topsL ts).map V.int) ∧ SqL K H f ((firstsL ts).map V.int) ∧ SqL K H g ((gapsL ts).map V.int)
theorem OfAt.mono {K : PySem.W.Frag} {H H' : Hp} {a : Addr} {ts : List Tr} (s : Same H H') (h : OfAt K H a ts) : OfAt K H' a ts := by
  obtain ⟨dx, t, p, o, f, g, h1, h2, h3, h4, h5, h6⟩ := h.ex
  exact ⟨dx, t, p, o, f, g, s _ _ h1, h2.mono s, Same.tup s h3, s.seq h4, s.seq h5, s.seq h6⟩
section
variable {P : Program} {w : World} {K : PySem.W.Frag} {mg : Str → Option Value} {base : Heap} (T' : Tx K mg)
theorem inV_str {z : Str} {l : List Str} (h : z ∉ l) : inV (.str z) (l.map V.str) = false := by
  unfold inV
  rw [List.any_eq_false]
  intro y hy
  obtain ⟨x, hx, rfl⟩ := List.mem_map.mp hy
  show ¬ ((x == z) = true)
  intro e
  exact h (eq_of_beq e ▸ hx)
theorem flat_str (l : List Str) : (l.map V.str).all flatV = true := by
  rw [List.all_eq_true]
  intro y hy
  obtain ⟨x, hx, rfl⟩ := List.mem_map.mp hy
  rfl
end
section
variable {P : Program} {w : World} {K : PySem.W.Frag} {mg : Str → Option Value} {base : Heap} (T : Tx K mg)
include T
def spChkTr (K : PySem.W.Frag) : Sp := fun vs H Q _ => ∃ (a : Addr) (ts : List Tr), vs = [.ref a] ∧ TrAt K H a ts ∧ gds ts ∧ ts ≠ [] ∧ nmOk ts ∧ ∀ H', Same H H' → Q .non H'
theorem ok_check_trades : FnR P w K mg base CX0 4 (a_check_trades K) (spChkTr K) := by
  refine fnR0 (d := d_check_trades) T.F_check_trades sc_check_trades rfl (fun _ _ _ _ _ _ us hl => match us, hl with | [_], _ => rfl) (fun vs H Q E h => ?_) (fun cdv A outer s H vs Q E hr h => ?_)
  · obtain ⟨a, ts, rfl, _⟩ := h
    rfl
  obtain ⟨a, ts, rfl, hT, hg, hne, hnm, k⟩ := h
  obtain ⟨ps, h1, h2, h3⟩ := hT.ex
  obtain ⟨uE, hE⟩ := T.v_Offer_MAX_TRADES
  refine ⟨_, (pss_cons (ps_if (pt_not (pt_truth (pv 0) (by intro _; rfl))) (pss_one ps_never) pss_nil) (pss_cons (ps_set (i := 1) sc_check_trades.nd rfl (Or.inl rfl) (pe_lst pa_nil)) (pss_one (ps_for PassesOwn.never rfl (pi_enumT (by rfl) T.n_enumerate (pa_cons (pv 0) pa_nil)) (pg_tup rfl (pgs_cons (pg_name (i := 2) sc_check_trades.nd rfl (Or.inl rfl)) (pgs_cons (pg_tup rfl (pgs_cons (pg_name (i := 3) sc_check_trades.nd rfl (Or.inl rfl)) (pgs_cons (pg_name (i := 4) sc_check_trades.nd rfl (Or.inl rfl)) (pgs_cons (pg_name (i := 5) sc_check_trades.nd rfl (Or.inl rfl)) pgs_nil)))) pgs_nil))) (pss_cons (ps_if (PW.pt (pw_or (pt_cmpR op_eq (pv 2) (ClX.pe_cval (pe_cC T.g_Offer)) (nomark _)) (pw_or (pt_cmpR op_in_seq (pv 3) (pv 1) rfl) (pw_or1 (pt_not (pt_val (pe_cR (ok_is_trade T) (hr.mono (by decide)) T.F_is_trade.kp T.g_is_trade pass0 (pa_cons (pv 3) (pa_cons (pv 4) (pa_cons (pv 5) pa_nil)))))))))) (pss_one ps_never) pss_nil) (pss_one (ps_expr (pe_bm PySem.F.plainAttrs_list PySem.F.slot_list_append PySem.F.type_list_append mt_append (pv 1) (pa_cons (pv 3) pa_nil))))))))), ?_⟩
  have hps : (ps.map V.ref).isEmpty = false := by
    cases ps with
    | nil =>
      cases ts with
      | nil => exact absurd rfl hne
      | cons _ _ => cases h2
    | cons _ _ => rfl
  refine ⟨_, rfl, true, .inr (.inl ⟨_, h1, by rw [hps]; rfl⟩), iteF ?_⟩
  refine ⟨Nat.zero_le _, fun p hp => ?_⟩
  refine ⟨_, rfl, a, _, rfl, Same.tup (same_new hp) h1, for_it (walk_enumT (K := K) (a := a) (xs := ps.map V.ref)) (fun i σ H1 => Same H H1 ∧ H1 p = some (.lst (((ts.take i).map Tr.k).map V.str)) ∧ ∃ x2 x3 x4 x5, σ = [some (.ref a), some (.ref p), x2, x3, x4, x5])
    ⟨same_new hp, upd_same, _, _, _, _, rfl⟩ (fun i σ H1 _ q => Same.tup q.1 h1) ?_ ?_⟩
  · rintro i x σ H1 H2 hi ⟨s1, e1, x2, x3, x4, x5, rfl⟩ ⟨q, u, v, rfl, nq, rfl, eu, ev⟩
    cases eu
    obtain ⟨pt, t, rfl, ep, et, hm, li, hpt⟩ := TrAt.at_ h2 h3 ev
    have s2 : Same H (upd H1 q (.tup [.int (i : Nat), .ref pt])) := s1.trans (same_new nq)
    have e2 := upd_old (u := .tup [.int (i : Nat), .ref pt]) e1 nq
    have ht := hg.2 _ hm
    have hk := hnm.2 _ hm
    refine ⟨q, _, rfl, SqT.of upd_same, rfl, _, _, rfl, _, _, rfl, ⟨pt, _, rfl, Same.tup s2 hpt, rfl, _, _, rfl, _, _, rfl, _, _, rfl, rfl, rfl, ?_⟩⟩
    refine ⟨_, rfl, He.ga K "Offer", _, _, _, rfl, T.r_Offer, hE, rfl, _, rfl, ite2 (fun hd => ?_) (fun _ => ?_)⟩
    · have hd := V.int.inj (of_decide_eq_true hd)
      have := hg.1
      omega
    have hnotin : t.k ∉ (ts.take i).map Tr.k := by
      intro hin
      have hnd : ((ts.take (i + 1)).map Tr.k).Nodup := (hnm.1.sublist ((List.take_sublist _ _).map _))
      rw [take_at et, List.map_append, List.nodup_append] at hnd
      exact hnd.2.2 _ hin _ (List.mem_singleton.mpr rfl) rfl
    refine ⟨_, rfl, _, rfl, p, _, rfl, .inl (SqL.of e2), rfl, flat_str _, _, rfl, ite2 (fun hd => ?_) (fun _ => ?_)⟩
    · rw [if_neg Bool.false_ne_true, inV_str hnotin] at hd
      cases hd
    refine ⟨_, rfl, _, rfl, _, rfl, t, rfl, hk.2, fun H3 s3 => ⟨_, rfl, ?_⟩⟩
    rw [trOk_of ht hk.1]
    refine iteF ?_
    have e3 := s3 _ _ e2
    refine ⟨_, rfl, .inl ⟨rfl, _, SqL.of e3⟩, _, rfl, p, _, _, rfl, rfl, e3, small3 ?_, same_mut (s2.trans s3) hp, ?_, _, _, _, _, rfl⟩
    · rw [List.length_map, List.length_map, List.length_take]
      have := hg.1
      omega
    · rw [upd_same, take_at et, List.map_append, List.map_append]
      rfl
  · rintro σ H1 ⟨s1, e1, x2, x3, x4, x5, rfl⟩
    exact k _ s1
def spChkGen (K : PySem.W.Frag) : Sp := fun vs H Q _ => ∃ (a : Addr) (ts : List Tr), vs = [.ref a] ∧ TrAt K H a ts ∧ Fair ts ∧ ∀ H', Same H H' → Q .non H'
theorem ok_check_generosity : FnR P w K mg base CX0 1 (a_check_generosity K) (spChkGen K) := by
  refine fnR0 (d := d_check_generosity) T.F_check_generosity sc_check_generosity rfl (fun _ _ _ _ _ _ us hl => match us, hl with | [_], _ => rfl) (fun vs H Q E h => ?_) (fun cdv A outer s H vs Q E hr h => ?_)
  · obtain ⟨a, ts, rfl, _⟩ := h
    rfl
  obtain ⟨a, ts, rfl, hT, hf, k⟩ := h
  obtain ⟨ps, h1, h2, h3⟩ := hT.ex
  refine ⟨_, (pss_cons (ps_set (i := 1) sc_check_generosity.nd rfl (Or.inr rfl) pe_int) (pss_cons (ps_for PassesOwn.never rfl (pi_tup (pv 0)) (pg_tup rfl (pgs_cons (pg_name (i := 2) sc_check_generosity.nd rfl (Or.inl rfl)) (pgs_cons (pg_name (i := 2) sc_check_generosity.nd rfl (Or.inl rfl)) (pgs_cons (pg_name (i := 3) sc_check_generosity.nd rfl (Or.inl rfl)) pgs_nil)))) (pss_one (ps_set (i := 1) sc_check_generosity.nd rfl (Or.inr rfl) (pe_callBfun cr_lcm (by rfl) T.b_lcm (pa_cons (pv 1) (pa_cons (pv 3) pa_nil)))))) (pss_cons (ps_set (i := 4) sc_check_generosity.nd rfl (Or.inl rfl) (pe_callB (cr_sum rfl) (by rfl) T.n_sum (by decide +kernel) (pa_cons (pe_lc (own := [("_", 2), ("left", 5), ("needed", 3)]) rfl sc_check_generosity.nd (pi_tup (pv 0)) (blkOk_by (own := [("_", 2), ("left", 5), ("needed", 3)]) (N := N_check_generosity) (sc := defScope s_check_generosity) (by decide +kernel)) (fun _ _ _ _ _ => (pg_tupB (n := 3) (pgs_cons (pg_name (i := 2) sc_check_generosity.nd rfl (Or.inl rfl) (.inr rfl)) (pgs_cons (pg_name (i := 5) sc_check_generosity.nd rfl (Or.inl rfl) (.inr rfl)) (pgs_cons (pg_name (i := 3) sc_check_generosity.nd rfl (Or.inl rfl) (.inr rfl)) pgs_nil))))) (fun _ _ _ _ _ => pts_nil) (fun _ _ _ _ _ => (pe_op op_mul (pe_op op_fdiv (pv 1) (pv 3)) (pv 5)))) pa_nil))) (pss_one (ps_if (pt_cmpR op_gt (pe_op op_mul pe_int (pv 4)) (pe_op op_mul pe_int (pv 1)) (nomark _)) (pss_one ps_never) pss_nil))))), ?_⟩
  refine ⟨_, rfl, a, rfl, ⟨_, h1⟩, for_tup (xs := ps.map V.ref) (fun i σ H1 => H1 = H ∧ ∃ x2 x3 x4 x5, σ = [some (.ref a), some (.int (((ts.take i).foldl wholeS 1 : Nat) : Int)), x2, x3, x4, x5]) ⟨rfl, _, _, _, _, rfl⟩ (fun i σ H1 _ q => by rw [q.1]; exact h1) ?_ ?_⟩
  · rintro i x σ H1 hx ⟨rfl, x2, x3, x4, x5, rfl⟩
    obtain ⟨p, t, rfl, ep, et, hm, li, hp⟩ := TrAt.at_ h2 h3 hx
    have ht := hf.g.2 _ hm
    refine ⟨p, _, rfl, hp, rfl, _, _, rfl, _, _, rfl, _, _, rfl, rfl, ?_⟩
    refine ⟨_, rfl, _, rfl, _, _, rfl, ?_, ?_, rfl, some (.int t.l), some (.int t.n), x4, x5, ?_⟩
    · have := wholeF_most hf.g i
      exact Nat.lt_of_le_of_lt (by omega : _ ≤ 1728) (by decide)
    · have := ht.2.2.1
      have := ht.2.2.2
      exact Nat.lt_of_le_of_lt (by omega : _ ≤ 12) (by decide)
    · rw [take_at et, List.foldl_append]
      rfl
  · rintro σ H1 ⟨rfl, x2, x3, x4, x5, rfl⟩
    have ew : (ts.take (ps.map V.ref).length).foldl wholeS 1 = wholeF ts := by
      rw [List.length_map, h2, List.take_length]
      rfl
    rw [ew]
    have hw : wholeF ts ≤ 1728 := by
      have := wholeF_most hf.g ts.length
      rw [List.take_length] at this
      exact this
    refine ⟨_, rfl, a, rfl, ⟨_, h1⟩, fun D hD => ?_⟩
    refine lc_tup (xs := ps.map V.ref) (fun i H2 => Same H1 H2 ∧ H1 D = none ∧ H2 D = some (.lst ((ts.take i).map fun t => V.int ((wholeF ts : Int) / t.n * t.l)))) ⟨same_new hD, hD, upd_same⟩ (fun i H2 _ q => Same.tup q.1 h1) ?_ ?_
    · rintro i x H2 hx ⟨s1, n1, e1⟩
      obtain ⟨p, t, rfl, ep, et, hm, li, hp⟩ := TrAt.at_ h2 h3 hx
      have ht := hf.g.2 _ hm
      refine ⟨p, _, rfl, Same.tup s1 hp, rfl, _, _, rfl, _, _, rfl, _, _, rfl, rfl, rfl, ?_⟩
      refine ⟨_, rfl, _, rfl, _, _, rfl, rfl, ⟨by have := ht.2.2.1; omega, by have := ht.2.2.2; omega⟩, _, rfl, _, _, rfl, rfl, .inr ⟨by have := ht.1; omega, by have := ht.2.1; omega⟩, ?_⟩
      refine ⟨_, e1, small3 ?_, same_mut s1 n1, n1, ?_⟩
      · rw [List.length_map, List.length_take]
        have := hf.g.1
        omega
      · rw [upd_same, take_at et, List.map_append]
        rfl
    · rintro H2 ⟨s1, n1, e1⟩
      refine ⟨D, ts.map fun t => (wholeF ts : Int) / t.n * t.l, rfl, SqL.of ?_, ?_⟩
      · rw [e1, List.length_map, h2, List.take_length, List.map_map]
        rfl
      · refine ⟨_, rfl, _, _, rfl, rfl, .inl ⟨by decide, by decide⟩, _, rfl, _, _, rfl, rfl, .inl ⟨by decide, by decide⟩, _, _, rfl, rfl, _, rfl, ite2 (fun hd => ?_) (fun _ => k _ s1)⟩
        have hd : 9 * (wholeF ts : Int) < 10 * parts ts := of_decide_eq_true hd
        have := (parts_fair hf.g).mpr hf.w
        omega
end
end EB

namespace EB
open PySem PySem.Spec PyProof.Rows L2
/-! ### a heap with one object left out -/
def hid (H : Hp) (x : Addr) : Hp := fun b => if b = x then none else H b
theorem hid_x {H : Hp} {x : Addr} : hid H x x = none := if_pos rfl
theorem hid_ne {H : Hp} {x b : Addr} (h : b ≠ x) : hid H x b = H b := if_neg h
theorem hid_same {H : Hp} {x : Addr} : Same (hid H x) H := fun b o e => by
  by_cases h : b = x
  · rw [h, hid_x] at e
    cases e
  · rw [hid_ne h] at e
    exact e
theorem same_hid {H0 H : Hp} {x : Addr} (s : Same H0 H) (h : H0 x = none) : Same H0 (hid H x) := fun b o e => by
  rw [hid_ne (ne_of_none e h)]
  exact s b o e
theorem hid_old {H : Hp} {x b : Addr} {o u : HO} (h : H b = some o) (hx : H x = some u) (d : o ≠ u) : hid H x b = some o := by
  rw [hid_ne (ne_of h hx d)]
  exact h
theorem hid_upd {H : Hp} {x : Addr} {o : HO} : hid (upd H x o) x = hid H x := funext fun b => by
  by_cases h : b = x
  · rw [h, hid_x, hid_x]
  · rw [hid_ne h, hid_ne h, upd_ne h]
theorem putF_ne {f g : Str} {v x : V} {r : List (Str × V)} (h : ¬ g = f) : putF f v ((g, x) :: r) = (g, x) :: putF f v r := by
  show (if g = f then _ else _) = _
  rw [if_neg h]
theorem put1 {a : V} : putF "_trades" a [] = ([("_trades", a)] : List (Str × V)) := rfl
theorem put2 {a b : V} : putF "_period" b ([("_trades", a)] : List (Str × V)) = ([("_trades", a), ("_period", b)] : List (Str × V)) := by
  rw [putF_ne (by decide +kernel)]
  rfl
theorem put3 {a b c : V} : putF "_tops" c ([("_trades", a), ("_period", b)] : List (Str × V)) = ([("_trades", a), ("_period", b), ("_tops", c)] : List (Str × V)) := by
  rw [putF_ne (by decide +kernel), putF_ne (by decide +kernel)]
  rfl
theorem put4 {a b c d : V} : putF "_firsts" d ([("_trades", a), ("_period", b), ("_tops", c)] : List (Str × V)) = ([("_trades", a), ("_period", b), ("_tops", c), ("_firsts", d)] : List (Str × V)) := by
  rw [putF_ne (by decide +kernel), putF_ne (by decide +kernel), putF_ne (by decide +kernel)]
  rfl
theorem put5 {a b c d e : V} : putF "_gaps" e ([("_trades", a), ("_period", b), ("_tops", c), ("_firsts", d)] : List (Str × V)) = ([("_trades", a), ("_period", b), ("_tops", c), ("_firsts", d), ("_gaps", e)] : List (Str × V)) := by
  rw [putF_ne (by decide +kernel), putF_ne (by decide +kernel), putF_ne (by decide +kernel), putF_ne (by decide +kernel)]
  rfl
theorem lkN {k g : Str} {v : V} {r : List (Str × V)} (h : (k == g) = false) : ((g, v) :: r).lookup k = r.lookup k := by rw [List.lookup_cons, h]
theorem lkY {k : Str} {v : V} {r : List (Str × V)} : ((k, v) :: r).lookup k = some v := by rw [List.lookup_cons, beq_self_eq_true]
theorem lk_tops {a b c : V} {r : List (Str × V)} : (("_trades", a) :: ("_period", b) :: ("_tops", c) :: r : List (Str × V)).lookup ("_tops" : Str) = some c := by
  rw [lkN (by decide +kernel), lkN (by decide +kernel), lkY]
theorem lk_firsts {a b c d : V} {r : List (Str × V)} : (("_trades", a) :: ("_period", b) :: ("_tops", c) :: ("_firsts", d) :: r : List (Str × V)).lookup ("_firsts" : Str) = some d := by
  rw [lkN (by decide +kernel), lkN (by decide +kernel), lkN (by decide +kernel), lkY]
theorem lk_gaps {a b c d e : V} {r : List (Str × V)} : (("_trades", a) :: ("_period", b) :: ("_tops", c) :: ("_firsts", d) :: ("_gaps", e) :: r : List (Str × V)).lookup ("_gaps" : Str) = some e := by
  rw [lkN (by decide +kernel), lkN (by decide +kernel), lkN (by decide +kernel), lkN (by decide +kernel), lkY]
theorem lk_period {a b : V} {r : List (Str × V)} : (("_trades", a) :: ("_period", b) :: r : List (Str × V)).lookup ("_period" : Str) = some b := by
  rw [lkN (by decide +kernel), lkY]
theorem lk_trades {a : V} {r : List (Str × V)} : (("_trades", a) :: r : List (Str × V)).lookup ("_trades" : Str) = some a := lkY
theorem lk_no {t p o f g : Addr} {m : Str} (h : ((m == "_trades") || ((m == "_period") || ((m == "_tops") || ((m == "_firsts") || (m == "_gaps"))))) = false) : (ofs t p o f g).lookup m = none := by
  obtain ⟨h1, h⟩ := Bool.or_eq_false_iff.mp h
  obtain ⟨h2, h⟩ := Bool.or_eq_false_iff.mp h
  obtain ⟨h3, h⟩ := Bool.or_eq_false_iff.mp h
  obtain ⟨h4, h5⟩ := Bool.or_eq_false_iff.mp h
  unfold ofs
  rw [lkN h1, lkN h2, lkN h3, lkN h4, lkN h5]
  rfl
theorem per_le' {ts : List Tr} (g : gds ts) : per ts ≤ 1728 := by
  have := per_most g ts.length
  rw [List.take_length] at this
  exact this
theorem tops_in {ts : List Tr} (f : Fair ts) : ∀ t ∈ topsL ts, 0 ≤ t ∧ t < (firstsL ts).length := by
  intro t ht
  obtain ⟨d, hd, rfl⟩ := List.mem_map.mp ht
  have h1 := List.mem_range.mp hd
  have h2 := (cf f).T_nonneg d
  have h3 := CF.T_mono (cN ts) (show d ≤ 2 * per ts - 1 by omega)
  refine ⟨h2, ?_⟩
  rw [List.length_map, List.length_range]
  omega
/-- an offer at a whose tables were not there ahead of it -/
structure OfNew (K : PySem.W.Frag) (H0 H : Hp) (a : Addr) (ts : List Tr) : Prop where
  ex : ∃ dx t p o f g, H a = some (.ins (He.ga K "Offer") dx (ofs t p o f g)) ∧ TrAt K H t ts ∧ SqT K H p [.int (perB ts : Nat), .int (per ts : Nat)] ∧ SqL K H o ((topsL ts).map V.int) ∧ SqL K H f ((firstsL ts).map V.int) ∧ SqL K H g ((gapsL ts).map V.int) ∧
    H0 o = none ∧ H0 f = none ∧ H0 g = none
section
variable {P : Program} {w : World} {K : PySem.W.Frag} {mg : Str → Option Value} {base : Heap}
/-- a def whose last parameter takes what is left over -/
theorem fnRS {d : DD} {fd : FuncData} {N ps : List Str} {pv : Str} {k : Nat} {sp : Sp} (F : FnP K d fd) (S : FnScope N (ps ++ [pv]) (defScope d.st)) (e : d.df = [])
    (b : ∀ (kV doc pm : Value) (an : Option Addr) (cdv ct : Value) (us rest : List Value), us.length = ps.length → bindArgs (PySem.W.fnOf d.nm d.ql (defArgs d.st) (defBody d.st) (defScope d.st) .none kV doc pm an cdv ct) ⟨us ++ rest, []⟩ = (newTuple rest >>= fun t => pure (ps.zip us ++ [(pv, t)])))
    (hbody : ∀ (cdv : Value) (A : Around) (outer : List Env) (s : Shared) (H : Hp) (vs : List V) (Q : VK) (E : XK), Room k (A.deeper (envOfC d.ql (defScope d.st) s.heap.objs.size (d.adr K) cdv)) → sp vs H Q E →
      ∃ t, PSs (cxOf CX0 P w K mg base N d.ql (defScope d.st) (d.adr K) cdv A outer s H E).nox (defBody d.st) t ∧ t { nx := fun _ H' => Q .non H', rt := Q } (start N vs) H) :
    FnR P w K mg base CX0 (k + 1) (d.adr K) (fun vs H Q E => ∃ ws rest, vs = ws ++ rest ∧ ws.length = ps.length ∧ rest.length ≤ sizeLine ∧ ∀ p, H p = none → sp (ws ++ [V.ref p]) (upd H p (.tup rest)) Q E) := by
  have z : FnP K d fd := F
  unfold FnP at z
  rw [e] at z
  obtain ⟨oc, od, dV, kV, doc, pm, an, cdv, ct, osl, rfl, lk, hcd, hD, hK⟩ := z.ex
  have hdV : dV = .none := by
    rcases hD with ⟨_, h⟩ | ⟨h, _⟩
    · exact h
    · exact absurd rfl h
  subst hdV
  exact StX.fn_star lk hcd S StX.cxUp_none (fun us rest hl => b kV doc pm an cdv ct us rest hl) fun A outer s H vs Q E hr h => by
    obtain ⟨t, h1, h2⟩ := hbody cdv A outer s H vs Q E hr h
    exact ⟨t, h1.nox, h2⟩
/-- a def called with its first values, the others filled up by its defaults -/
theorem fnRD {d : DD} {fd : FuncData} {N ps : List Str} {k : Nat} {sp : Sp} (F : FnP K d fd) (S : FnScope N ps (defScope d.st)) (n j : Nat) (hd : d.df.map (He.Dv.v K) ≠ []) (hn : n + ((d.df.map (He.Dv.v K)).length - j) = ps.length)
    (b : ∀ (Tt : Addr) (kV doc pm : Value) (an : Option Addr) (cdv ct : Value) (us its : List Value), us.length = n → its.length = (d.df.map (He.Dv.v K)).length →
      ∃ k, bindArgs (PySem.W.fnOf d.nm d.ql (defArgs d.st) (defBody d.st) (defScope d.st) (.ref Tt) kV doc pm an cdv ct) ⟨us, []⟩ = seqItems? (.ref Tt) >>= k ∧ k (some its.toArray) = pure (ps.zip (us ++ its.drop j)))
    (len : ∀ vs H Q E, sp vs H Q E → vs.length = ps.length)
    (hbody : ∀ (cdv : Value) (A : Around) (outer : List Env) (s : Shared) (H : Hp) (vs : List V) (Q : VK) (E : XK), Room k (A.deeper (envOfC d.ql (defScope d.st) s.heap.objs.size (d.adr K) cdv)) → sp vs H Q E →
      ∃ t, PSs (cxOf CX0 P w K mg base N d.ql (defScope d.st) (d.adr K) cdv A outer s H E).nox (defBody d.st) t ∧ t { nx := fun _ H' => Q .non H', rt := Q } (start N vs) H) :
    FnR P w K mg base CX0 (k + 1) (d.adr K) (fun vs H Q E => sp (vs ++ (d.df.map (He.Dv.v K)).drop j) H Q E) := by
  have F1 : FnOk P w K mg base CX0 (k + 1) (d.adr K) fd ps sp := FunD.ok F S len fun cdv A outer s H vs Q E hr h => by
    obtain ⟨t, h1, h2⟩ := hbody cdv A outer s H vs Q E hr h
    exact ⟨t, h1.nox, h2⟩
  obtain ⟨ds, h1, h2⟩ := FunD.binds1 F n j hd hn b
  exact F1.raw h2 h1
end
section
variable {P : Program} {w : World} {K : PySem.W.Frag} {mg : Str → Option Value} {base : Heap} (T : Tx K mg)
include T
def spChkNum : Sp := fun vs H Q _ => ∃ i lo hi : Int, vs = [.int i, .int lo, .int hi] ∧ lo ≤ i ∧ i ≤ hi ∧ Q .non H
def spChkNum1 : Sp := fun vs H Q _ => ∃ i : Int, vs = [.int i] ∧ 0 ≤ i ∧ i ≤ 1000000000000000000 ∧ Q .non H
theorem ok_check_number : FnR P w K mg base CX0 3 (a_check_number K) spChkNum1 := by
  refine (fnRD (d := d_check_number) (sp := spChkNum) (k := 2) (ps := ["value", "least", "most"]) T.F_check_number sc_check_number 1 0 (fun z => nomatch z) rfl (fun _ _ _ _ _ _ _ us its hl hi => match us, its, hl, hi with | [_], [_, _], _, _ => ⟨_, rfl, rfl⟩) (fun vs H Q E h => ?_) (fun cdv A outer s H vs Q E hr h => ?_)).imp fun vs H Q E h => ?_
  · obtain ⟨i, lo, hi, rfl, _⟩ := h
    rfl
  · obtain ⟨i, lo, hi, rfl, h1, h2, k⟩ := h
    refine ⟨_, (pss_one (ps_if (pt_not (pt_val (pe_cR (ok_is_number T) (hr.mono (by decide)) T.F_is_number.kp T.g_is_number pass0 (pa_cons (pv 0) (pa_cons (pv 1) (pa_cons (pv 2) pa_nil)))))) (pss_one ps_never) pss_nil)), ?_⟩
    refine ⟨_, rfl, _, rfl, _, rfl, i, lo, hi, rfl, _, rfl, ?_⟩
    rw [numOk_iff.mpr ⟨h1, h2⟩]
    exact iteF k
  · obtain ⟨i, rfl, h1, h2, k⟩ := h
    exact ⟨i, 0, 1000000000000000000, rfl, h1, h2, k⟩
def spInit (K : PySem.W.Frag) : Sp := fun vs H Q _ => ∃ (x p : Addr) (H0 : Hp) (dx : Addr) (ts : List Tr), vs = [.ref x, .ref p] ∧ Same H0 H ∧ H0 x = none ∧ H x = some (.ins (He.ga K "Offer") dx []) ∧ TrAt K H0 p ts ∧ Fair ts ∧ ts ≠ [] ∧ nmOk ts ∧
  ∀ H', Same H0 H' → OfNew K H0 H' x ts → Q .non H'
theorem ok_Offer_init : FnR P w K mg base CX0 5 (a_Offer_init K) (fun vs H Q E => ∃ ws rest, vs = ws ++ rest ∧ ws.length = 1 ∧ rest.length ≤ sizeLine ∧ ∀ p, H p = none → spInit K (ws ++ [V.ref p]) (upd H p (.tup rest)) Q E) := by
  refine fnRS (d := d_Offer_init) (ps := ["self"]) T.F_Offer_init sc_Offer_init rfl (fun kV doc pm an cdv ct => StX.bind_star1 (B := fun us => bindArgs (PySem.W.fnOf d_Offer_init.nm d_Offer_init.ql (defArgs d_Offer_init.st) (defBody d_Offer_init.st) (defScope d_Offer_init.st) .none kV doc pm an cdv ct) ⟨us, []⟩) (fun _ => rfl) (fun _ _ _ => rfl)) (fun cdv A outer s H vs Q E hr h => ?_)
  obtain ⟨x, p, H0, dx, ts, rfl, s0, n0, hx, hT0, hf, hne, hnm, k⟩ := h
  refine ⟨_, (pss_cons (ps_expr (pe_cR (ok_check_trades T) (hr.mono (by decide)) T.F_check_trades.kp T.g_check_trades pass0 (pa_cons (pv 1) pa_nil))) (pss_cons (ps_expr (pe_cR (ok_check_generosity T) (hr.mono (by decide)) T.F_check_generosity.kp T.g_check_generosity pass0 (pa_cons (pv 1) pa_nil))) (pss_cons (ps_fld (pv 0) (pe_callTy call_tuple_of (by rfl) T.n_tuple (by decide +kernel) (pa_cons (pe_lc (own := [("kind", 3), ("left", 4), ("needed", 5)]) rfl sc_Offer_init.nd (pi_tup (pv 1)) (blkOk_by (own := [("kind", 3), ("left", 4), ("needed", 5)]) (N := N_Offer_init) (sc := defScope s_Offer_init) (by decide +kernel)) (fun _ _ _ _ _ => (pg_tupB (n := 3) (pgs_cons (pg_name (i := 3) sc_Offer_init.nd rfl (Or.inl rfl) (.inr rfl)) (pgs_cons (pg_name (i := 4) sc_Offer_init.nd rfl (Or.inl rfl) (.inr rfl)) (pgs_cons (pg_name (i := 5) sc_Offer_init.nd rfl (Or.inl rfl) (.inr rfl)) pgs_nil))))) (fun _ _ _ _ _ => pts_nil) (fun _ _ _ _ _ => (pe_tup (pa_cons (pv 3) (pa_cons (pv 4) (pa_cons (pv 5) pa_nil)))))) pa_nil)) rfl) (pss_cons (ps_set (i := 2) sc_Offer_init.nd rfl (Or.inl rfl) (pe_cR (ok_drinks_of_period T) (hr.mono (by decide)) T.F_drinks_of_period.kp T.g_drinks_of_period pass0 (pa_cons (pv 1) pa_nil))) (pss_cons (ps_fld (pv 0) (pe_tup (pa_cons (pe_cR (ok_cost_of T) (hr.mono (by decide)) T.F_cost_of.kp T.g_cost_of pass0 (pa_cons (pv 1) (pa_cons (pv 2) pa_nil))) (pa_cons (pv 2) pa_nil))) rfl) (pss_cons (ps_fld (pv 0) (pe_cR (ok_tops_of T) (hr.mono (by decide)) T.F_tops_of.kp T.g_tops_of pass0 (pa_cons (pe_lc (own := [("count", 6)]) rfl sc_Offer_init.nd (pi_range1 rfl T.n_range (pa_cons (pe_op op_mul pe_int (pv 2)) pa_nil)) (blkOk_by (own := [("count", 6)]) (N := N_Offer_init) (sc := defScope s_Offer_init) (by decide +kernel)) (fun _ _ _ _ _ => (pg_name (i := 6) sc_Offer_init.nd rfl (Or.inl rfl) (.inr rfl))) (fun _ _ _ _ _ => pts_nil) (fun _ _ _ _ _ => (pe_cR (ok_cost_of T) (hr.mono (by decide)) T.F_cost_of.kp T.g_cost_of pass0 (pa_cons (pv 1) (pa_cons (pv 6) pa_nil))))) pa_nil)) rfl) (pss_cons (ps_fld (pv 0) (pe_cR (ok_firsts_of T) (hr.mono (by decide)) T.F_firsts_of.kp T.g_firsts_of pass0 (pa_cons (pe_fld (pv 0) rfl) pa_nil)) rfl) (pss_one (ps_fld (pv 0) (pe_cR (ok_gaps_of T) (hr.mono (by decide)) T.F_gaps_of.kp T.g_gaps_of pass0 (pa_cons (pe_fld (pv 0) rfl) (pa_cons (pe_fld (pv 0) rfl) pa_nil))) rfl))))))))), ?_⟩
  -- the checks
  refine ⟨_, rfl, p, ts, rfl, hT0.mono s0, hf.g, hne, hnm, fun H1 s1 => ?_⟩
  refine ⟨_, rfl, p, ts, rfl, hT0.mono (s0.trans s1), hf, fun H2 s2 => ?_⟩
  have s02 : Same H0 H2 := s0.trans (s1.trans s2)
  have hx2 : H2 x = some (.ins (He.ga K "Offer") dx []) := s2 _ _ (s1 _ _ hx)
  obtain ⟨ps, h1, h2, h3⟩ := (hT0.mono s02).ex
  -- the trades
  refine ⟨_, rfl, p, rfl, ⟨_, h1⟩, fun D hD => ?_⟩
  refine lc_tup (xs := ps.map V.ref) (fun i H3 => Same H2 H3 ∧ ∃ qs : List Addr, qs.length = i ∧ H3 D = some (.lst (qs.map V.ref)) ∧ ∀ (j : Nat) (q : Addr) (t : Tr), qs[j]? = some q → ts[j]? = some t → H3 q = some (.tup t.vs))
    ⟨same_new hD, [], rfl, upd_same, fun j q t hq => by cases hq⟩ (fun i H3 _ q => Same.tup q.1 h1) ?_ ?_
  · rintro i y H3 hy ⟨s3, qs, hq1, e3, hq2⟩
    obtain ⟨pt, t, rfl, ep, et, hm, li, hpt⟩ := TrAt.at_ h2 h3 hy
    refine ⟨pt, _, rfl, Same.tup s3 hpt, rfl, _, _, rfl, _, _, rfl, _, _, rfl, rfl, rfl, ?_⟩
    refine ⟨_, rfl, _, rfl, _, rfl, by show 3 ≤ sizeLine; decide, fun q nq => ?_⟩
    have nD : D ≠ q := ne_of_none e3 nq
    refine ⟨_, upd_old e3 nq, small3 (by rw [List.length_map, hq1]; have := hf.g.1; omega), same_mut (s3.trans (same_new nq)) hD, qs ++ [q], by rw [List.length_append, hq1]; rfl, by rw [upd_same, List.map_append]; rfl, fun j q' t' hj ht' => ?_⟩
    rcases Nat.lt_or_ge j qs.length with z | z
    · rw [List.getElem?_append_left z] at hj
      have e4 := upd_old (u := .tup t.vs) (hq2 j q' t' hj ht') nq
      rw [upd_ne (ne_of (upd_old (u := .tup t.vs) (hq2 j q' t' hj ht') nq) (upd_old (u := .tup t.vs) e3 nq) (by intro z; cases z))]
      exact e4
    · rw [List.getElem?_append_right z] at hj
      have ej : j = qs.length := by
        have := lt_of_at hj
        simp only [List.length_singleton] at this
        omega
      rw [ej, Nat.sub_self] at hj
      have eq : q = q' := Option.some.inj hj
      subst eq
      rw [ej, hq1, et] at ht'
      have ett : t = t' := Option.some.inj ht'
      subst ett
      rw [upd_ne nD.symm]
      exact upd_same
  rintro H3 ⟨s3, qs, hq1, e3, hq2⟩
  rw [List.length_map] at hq1
  refine ⟨D, _, rfl, .inl ⟨SqL.of e3, fun l hl => ?_⟩⟩
  have hx3 : H3 x = some (.ins (He.ga K "Offer") dx []) := s3 _ _ hx2
  have hx4 := upd_old (u := .tup (qs.map V.ref)) hx3 hl
  have s04 : Same H0 (upd H3 l (.tup (qs.map V.ref))) := s02.trans (s3.trans (same_new hl))
  refine ⟨_, rfl, x, _, dx, [], rfl, hx4, T.k_Offer, T.na_trades, by show 0 < 1000; decide, ?_⟩
  -- the period
  generalize hH4 : upd H3 l (.tup (qs.map V.ref)) = H4 at hx4 s04
  have e4 : H4 l = some (.tup (qs.map V.ref)) := by rw [← hH4]; exact upd_same
  have q4 : ∀ (j : Nat) (q : Addr) (t : Tr), qs[j]? = some q → ts[j]? = some t → H4 q = some (.tup t.vs) := fun j q t a b => by
    rw [← hH4]
    exact upd_old (hq2 j q t a b) hl
  -- B4: all but the offer itself
  have sB4 : Same H0 (hid H4 x) := same_hid s04 n0
  have tB4 : TrAt K (hid H4 x) l ts := by
    refine ⟨qs, SqT.of (hid_old e4 hx4 (by intro z; cases z)), by rw [hq1, h2], fun j q t a b => SqT.of (hid_old (q4 j q t a b) hx4 (by intro z; cases z))⟩
  have pB4 : TrAt K (hid H4 x) p ts := hT0.mono sB4
  generalize hB4 : hid H4 x = B4 at sB4 tB4 pB4
  have nB4 : B4 x = none := by rw [← hB4]; exact hid_x
  rw [put1]
  have sb5 : Same B4 (upd H4 x (.ins (He.ga K "Offer") dx [("_trades", .ref l)])) := by
    rw [← hB4]
    exact same_mut hid_same hid_x
  generalize hH5 : upd H4 x (.ins (He.ga K "Offer") dx [("_trades", .ref l)]) = H5 at sb5
  have hx5 : H5 x = some (.ins (He.ga K "Offer") dx [("_trades", .ref l)]) := by rw [← hH5]; exact upd_same
  refine ⟨_, rfl, p, ts, rfl, pB4.mono sb5, hf.g, fun H6 s6 => ?_⟩
  refine ⟨_, rfl, _, rfl, p, ts, _, rfl, pB4.mono (sb5.trans s6), hf.g, fun H7 s7 => ⟨_, rfl, by show 2 ≤ sizeLine; decide, fun pp hpp => ?_⟩⟩
  have hx8 := upd_old (u := .tup [.int (cost ts (per ts : Nat)), .int (per ts : Nat)]) (s7 _ _ (s6 _ _ hx5)) hpp
  have sb8 : Same B4 (upd H7 pp (.tup [.int (cost ts (per ts : Nat)), .int (per ts : Nat)])) := sb5.trans (s6.trans (s7.trans (same_new hpp)))
  refine ⟨_, rfl, x, _, dx, _, rfl, hx8, T.k_Offer, T.na_period, by show 1 < 1000; decide, ?_⟩
  rw [put2]
  generalize hH8 : upd H7 pp (.tup [.int (cost ts (per ts : Nat)), .int (per ts : Nat)]) = H8 at hx8 sb8
  have e8 : H8 pp = some (.tup [.int (perB ts : Nat), .int (per ts : Nat)]) := by rw [← hH8, upd_same, perB_eq hf]
  have sB8 : Same B4 (hid H8 x) := same_hid sb8 nB4
  have eB8 : hid H8 x pp = some (.tup [.int (perB ts : Nat), .int (per ts : Nat)]) := hid_old e8 hx8 (by intro z; cases z)
  generalize hB8 : hid H8 x = B8 at sB8 eB8
  have nB8 : B8 x = none := by rw [← hB8]; exact hid_x
  have sb9 : Same B8 (upd H8 x (.ins (He.ga K "Offer") dx [("_trades", .ref l), ("_period", .ref pp)])) := by
    rw [← hB8]
    exact same_mut hid_same hid_x
  generalize hH9 : upd H8 x (.ins (He.ga K "Offer") dx [("_trades", .ref l), ("_period", .ref pp)]) = H9 at sb9
  have hx9 : H9 x = some (.ins (He.ga K "Offer") dx [("_trades", .ref l), ("_period", .ref pp)]) := by rw [← hH9]; exact upd_same
  have hp := per_le' hf.g
  have pB8 : TrAt K B8 p ts := pB4.mono sB8
  -- the tops
  refine ⟨_, rfl, _, _, rfl, rfl, .inl ⟨by decide, by decide⟩, _, rfl, ?_, ?_, fun D2 hD2 => ?_⟩
  · omega
  · omega
  refine lc_range (lo := 0) (n := (2 * (per ts : Int)).toNat) (fun i H10 => Same H9 H10 ∧ H10 D2 = some (.lst (((List.range i).map (cN ts)).map V.int))) ⟨same_new hD2, upd_same⟩ ?_ ?_
  · rintro i H10 hi ⟨s10, e10⟩
    refine ⟨rfl, _, rfl, _, rfl, p, ts, _, rfl, pB8.mono (sb9.trans s10), hf.g, fun H11 s11 => ⟨_, s11 _ _ e10, small3 ?_, same_mut (s10.trans s11) hD2, ?_⟩⟩
    · rw [List.length_map, List.length_map, List.length_range]
      omega
    · rw [upd_same, List.range_succ, List.map_append, List.map_append]
      show _ = some (HO.lst (_ ++ [V.int (cost ts (i : Int))]))
      rw [Int.zero_add]
  rintro H10 ⟨s10, e10⟩
  have en : (2 * (per ts : Int)).toNat = 2 * per ts := by omega
  rw [en] at e10
  obtain ⟨m, hm⟩ : ∃ m, 2 * per ts = m + 1 := ⟨2 * per ts - 1, by have := per_pos hf.g; omega⟩
  have etops : topsF 0 ((List.range (2 * per ts)).map (cN ts)) = topsL ts := by
    unfold topsL
    rw [hm]
    exact (tops_eq (cf hf).zero m).1
  refine ⟨D2, _, rfl, SqL.of e10, by rw [List.length_map, List.length_range]; omega, fun H11 o s11 no e11 => ?_⟩
  rw [etops] at e11
  have hx11 : H11 x = some (.ins (He.ga K "Offer") dx [("_trades", .ref l), ("_period", .ref pp)]) := s11 _ _ (s10 _ _ hx9)
  have sb11 : Same B8 H11 := sb9.trans (s10.trans s11)
  refine ⟨_, rfl, x, _, dx, _, rfl, hx11, T.k_Offer, T.na_tops, by show 2 < 1000; decide, ?_⟩
  rw [put3]
  have sB11 : Same B8 (hid H11 x) := same_hid sb11 nB8
  have eB11 : hid H11 x o = some (.lst ((topsL ts).map V.int)) := hid_old e11 hx11 (by intro z; cases z)
  generalize hB11 : hid H11 x = B11 at sB11 eB11
  have nB11 : B11 x = none := by rw [← hB11]; exact hid_x
  have sb12 : Same B11 (upd H11 x (.ins (He.ga K "Offer") dx [("_trades", .ref l), ("_period", .ref pp), ("_tops", .ref o)])) := by
    rw [← hB11]
    exact same_mut hid_same hid_x
  generalize hH12 : upd H11 x (.ins (He.ga K "Offer") dx [("_trades", .ref l), ("_period", .ref pp), ("_tops", .ref o)]) = H12 at sb12
  have hx12 : H12 x = some (.ins (He.ga K "Offer") dx [("_trades", .ref l), ("_period", .ref pp), ("_tops", .ref o)]) := by rw [← hH12]; exact upd_same
  -- the firsts
  have efirsts : firstsF 0 [] (topsL ts) = firstsL ts := by
    show firstsF 0 [] ((List.range (2 * per ts)).map (EB.T (cN ts))) = (List.range ((EB.T (cN ts) (2 * per ts - 1)).toNat + 1)).map _
    rw [hm]
    exact firsts_eq (cf hf) m
  have ltop : (topsL ts).length ≤ 10000 := by
    rw [List.length_map, List.length_range]
    omega
  refine ⟨_, rfl, x, _, dx, _, _, rfl, hx12, T.k_Offer, T.na_tops, lk_tops, o, topsL ts, rfl, SqL.of (sb12 _ _ eB11), ltop, fun H13 f s13 nf e13 => ?_⟩
  rw [efirsts] at e13
  have hx13 := s13 _ _ hx12
  refine ⟨_, rfl, x, _, dx, _, rfl, hx13, T.k_Offer, T.na_firsts, by show 3 < 1000; decide, ?_⟩
  rw [put4]
  have sB13 : Same B11 (hid H13 x) := same_hid (sb12.trans s13) nB11
  have eB13 : hid H13 x f = some (.lst ((firstsL ts).map V.int)) := hid_old e13 hx13 (by intro z; cases z)
  generalize hB13 : hid H13 x = B13 at sB13 eB13
  have nB13 : B13 x = none := by rw [← hB13]; exact hid_x
  have sb14 : Same B13 (upd H13 x (.ins (He.ga K "Offer") dx [("_trades", .ref l), ("_period", .ref pp), ("_tops", .ref o), ("_firsts", .ref f)])) := by
    rw [← hB13]
    exact same_mut hid_same hid_x
  generalize hH14 : upd H13 x (.ins (He.ga K "Offer") dx [("_trades", .ref l), ("_period", .ref pp), ("_tops", .ref o), ("_firsts", .ref f)]) = H14 at sb14
  have hx14 : H14 x = some (.ins (He.ga K "Offer") dx [("_trades", .ref l), ("_period", .ref pp), ("_tops", .ref o), ("_firsts", .ref f)]) := by rw [← hH14]; exact upd_same
  -- the gaps
  refine ⟨_, rfl, x, _, dx, _, _, rfl, hx14, T.k_Offer, T.na_tops, lk_tops, _, rfl, x, _, dx, _, _, rfl, hx14, T.k_Offer, T.na_firsts, lk_firsts, o, f, topsL ts, firstsL ts, rfl, SqL.of (sb14 _ _ (sB13 _ _ eB11)), SqL.of (sb14 _ _ eB13), ltop, tops_in hf, fun H15 g s15 ng e15 => ?_⟩
  have hx15 := s15 _ _ hx14
  refine ⟨_, rfl, x, _, dx, _, rfl, hx15, T.k_Offer, T.na_gaps, by show 4 < 1000; decide, ?_⟩
  rw [put5]
  have s16 : Same B13 (upd H15 x (.ins (He.ga K "Offer") dx (ofs l pp o f g))) := same_mut (sb14.trans s15) nB13
  have s017 : Same H0 B13 := sB4.trans (sB8.trans (sB11.trans sB13))
  refine k _ (s017.trans s16) ⟨dx, l, pp, o, f, g, upd_same, tB4.mono (sB8.trans (sB11.trans (sB13.trans s16))), SqT.of (s16 _ _ (sB13 _ _ (sB11 _ _ eB8))), SqL.of (s16 _ _ (sB13 _ _ eB11)), SqL.of (s16 _ _ eB13), SqL.of ?_, Same.free (sB4.trans (sB8.trans (sb9.trans s10))) no, Same.free (sB4.trans (sB8.trans (sB11.trans sb12))) nf, Same.free (s017.trans sb14) ng⟩
  rw [upd_ne (ne_of e15 hx15 (by intro z; cases z))]
  exact e15
end
end EB

namespace EB
open PySem PySem.Spec PyProof.Rows L2
/-! ### the source of draws: a list at h, its cells at l -/
def hid2 (H : Hp) (h l : Addr) : Hp := fun b => if b = h ∨ b = l then none else H b
theorem hid2_h {H : Hp} {h l : Addr} : hid2 H h l h = none := if_pos (.inl rfl)
theorem hid2_l {H : Hp} {h l : Addr} : hid2 H h l l = none := if_pos (.inr rfl)
theorem hid2_ne {H : Hp} {h l b : Addr} (h1 : b ≠ h) (h2 : b ≠ l) : hid2 H h l b = H b := if_neg fun z => z.elim h1 h2
theorem hid2_same {H : Hp} {h l : Addr} : Same (hid2 H h l) H := fun b o e => by
  by_cases q : b = h ∨ b = l
  · unfold hid2 at e
    rw [if_pos q] at e
    cases e
  · unfold hid2 at e
    rw [if_neg q] at e
    exact e
theorem same_hid2 {H0 H : Hp} {h l : Addr} (s : Same H0 H) (n1 : H0 h = none) (n2 : H0 l = none) : Same H0 (hid2 H h l) := fun b o e => by
  rw [hid2_ne (ne_of_none e n1) (ne_of_none e n2)]
  exact s b o e
/-- the state of the draws; H0 knows nothing of it -/
structure HS (H0 H : Hp) (h l : Addr) : Prop where
  same : Same H0 H
  nh : H0 h = none
  nl : H0 l = none
  ne : h ≠ l
  ex : ∃ (m i : Int) (ns : List Int), H h = some (.lst [.int m, .ref l, .int i]) ∧ H l = some (.lst (ns.map V.int)) ∧ 0 ≤ m ∧ m < 2147483647 ∧ 0 ≤ i ∧ ns.length ≤ 63
theorem HS.grow {H0 H H' : Hp} {h l : Addr} (x : HS H0 H h l) (s : Same H H') : HS H0 H' h l := by
  obtain ⟨m, i, ns, e1, e2, r⟩ := x.ex
  exact ⟨x.same.trans s, x.nh, x.nl, x.ne, m, i, ns, s _ _ e1, s _ _ e2, r⟩
theorem HS.re {H0 H : Hp} {h l : Addr} (x : HS H0 H h l) : HS (hid2 H h l) H h l := ⟨hid2_same, hid2_h, hid2_l, x.ne, x.ex⟩
theorem HS.sub {H0 H : Hp} {h l : Addr} (x : HS H0 H h l) : Same H0 (hid2 H h l) := same_hid2 x.same x.nh x.nl
theorem HS.tup {K : PySem.W.Frag} {H0 H : Hp} {h l a : Addr} {xs : List V} (x : HS H0 H h l) (t : SqT K H a xs) : SqT K (hid2 H h l) a xs := by
  obtain ⟨m, i, ns, e1, e2, _⟩ := x.ex
  rcases t with (t | ⟨o, t⟩) | t
  · exact .inl (.inl (by rw [hid2_ne (ne_of t e1 (by intro z; cases z)) (ne_of t e2 (by intro z; cases z))]; exact t))
  · exact .inl (.inr ⟨o, by rw [hid2_ne (ne_of t e1 (by intro z; cases z)) (ne_of t e2 (by intro z; cases z))]; exact t⟩)
  · exact .inr t
theorem HS.tr {K : PySem.W.Frag} {H0 H : Hp} {h l a : Addr} {ts : List Tr} (x : HS H0 H h l) (t : TrAt K H a ts) : TrAt K (hid2 H h l) a ts := by
  obtain ⟨ps, h1, h2, h3⟩ := t.ex
  exact ⟨ps, x.tup h1, h2, fun i p t a b => x.tup (h3 i p t a b)⟩
theorem HS.lst {K : PySem.W.Frag} {H0 H : Hp} {h l a : Addr} {xs : List V} (x : HS H0 H h l) (t : SqL K H a xs) (n1 : a ≠ h) (n2 : a ≠ l) : SqL K (hid2 H h l) a xs := by
  rcases t with (t | ⟨o, t⟩) | t
  · exact .inl (.inl (by rw [hid2_ne n1 n2]; exact t))
  · exact .inl (.inr ⟨o, by rw [hid2_ne n1 n2]; exact t⟩)
  · exact .inr t
theorem HS.of_ {K : PySem.W.Frag} {H0 H H1 : Hp} {h l a : Addr} {ts : List Tr} (x : HS H0 H h l) (s : Same H H1) (t : OfNew K H H1 a ts) : OfAt K (hid2 H1 h l) a ts := by
  obtain ⟨dx, t, p, o, f, g, h1, h2, h3, h4, h5, h6, n1, n2, n3⟩ := t.ex
  have y := x.grow s
  obtain ⟨m, i, ns, e1, e2, _⟩ := x.ex
  have q : ∀ b, H b = none → b ≠ h ∧ b ≠ l := fun b n => ⟨(ne_of_none e1 n).symm, (ne_of_none e2 n).symm⟩
  refine ⟨dx, t, p, o, f, g, ?_, y.tr h2, y.tup h3, y.lst h4 (q o n1).1 (q o n1).2, y.lst h5 (q f n2).1 (q f n2).2, y.lst h6 (q g n3).1 (q g n3).2⟩
  rw [hid2_ne (ne_of h1 (s _ _ e1) (by intro z; cases z)) (ne_of h1 (s _ _ e2) (by intro z; cases z))]
  exact h1
theorem ixN_int {n : Nat} {i : Int} (h0 : 0 ≤ i) (h1 : i < n) : ixN n i = some i.toNat := by
  unfold ixN
  rw [if_pos h0, if_pos h1]
section
variable {P : Program} {w : World} {K : PySem.W.Frag} {mg : Str → Option Value} {base : Heap} (T : Tx K mg)
include T
def spMix (K : PySem.W.Frag) : Sp := fun vs H Q _ => ∃ (a : Addr) (ns : List Int) (seed : Int), vs = [.ref a, .int seed] ∧ SqL K H a (ns.map V.int) ∧ ns.length ≤ 63 ∧ 0 ≤ seed ∧ seed < 2147483647 ∧ ∀ H' h l, HS H H' h l → Q (.ref h) H'
theorem ok_law_mix : FnR P w K mg base CX0 1 (a_law_mix K) (spMix K) := by
  refine fnR0 (d := d_law_mix) T.F_law_mix sc_law_mix rfl (fun _ _ _ _ _ _ us hl => match us, hl with | [_, _], _ => rfl) (fun vs H Q E h => ?_) (fun cdv A outer s H vs Q E hr h => ?_)
  · obtain ⟨a, ns, seed, rfl, _⟩ := h
    rfl
  obtain ⟨a, ns, seed, rfl, hS, hl, h0, h1, k⟩ := h
  refine ⟨_, (pss_cons (ps_set (i := 2) sc_law_mix.nd rfl (Or.inl rfl) (pv 1)) (pss_cons (ps_for PassesOwn.never rfl (pi_list (pv 0)) (pg_name (i := 3) sc_law_mix.nd rfl (Or.inl rfl)) (pss_one (ps_set (i := 2) sc_law_mix.nd rfl (Or.inl rfl) (pe_op op_mod (pe_op op_add (pe_op op_add (pe_op op_mul (pv 2) pe_int) (pe_op op_mod (pv 3) pe_int)) pe_int) pe_int)))) (pss_one (ps_ret (pe_lst (pa_cons (pv 2) (pa_cons (pe_callTy call_list_of (by rfl) T.n_list (by decide +kernel) (pa_cons (pv 0) pa_nil)) (pa_cons pe_int pa_nil)))))))), ?_⟩
  refine ⟨_, rfl, _, rfl, a, rfl, ⟨_, hS⟩, for_list (K := K) (a := a) (xs := ns.map V.int) (fun i σ H1 => H1 = H ∧ ∃ (m : Int) (x : Option V), 0 ≤ m ∧ m < 2147483647 ∧ σ = [some (.ref a), some (.int seed), some (.int m), x]) ⟨rfl, seed, none, h0, h1, rfl⟩ (fun i σ H1 _ q => by rw [q.1]; exact hS) ?_ ?_⟩
  · rintro i x σ H1 hx ⟨rfl, m, x3, m0, m1, rfl⟩
    obtain ⟨c, ec, rfl⟩ := int_at hx
    refine ⟨_, rfl, _, _, rfl, rfl, .inr ⟨by decide, by decide⟩, _, rfl, _, _, rfl, rfl, by show (0 : Int) < 2147483629; decide, _, _, rfl, rfl, _, _, rfl, rfl, _, _, rfl, rfl, by show (0 : Int) < 2147483647; decide, rfl, _, some (.int c), ?_, ?_, rfl⟩
    · exact Int.emod_nonneg _ (by decide)
    · exact Int.emod_lt_of_pos _ (by decide)
  · rintro σ H1 ⟨rfl, m, x3, m0, m1, rfl⟩
    refine ⟨_, rfl, _, rfl, a, _, rfl, .inl hS, fun l hl1 => ⟨by show 3 ≤ sizeLine; decide, fun h hh => ?_⟩⟩
    have nh : h ≠ l := fun z => by
      rw [z, upd_same] at hh
      cases hh
    have hh2 : H1 h = none := by
      rw [upd_ne nh] at hh
      exact hh
    refine k _ h l ⟨(same_new hl1).trans (same_new hh), hh2, hl1, nh, m, 0, ns, upd_same, ?_, m0, m1, Int.le_refl _, hl⟩
    rw [upd_ne nh.symm]
    exact upd_same
def spNext : Sp := fun vs H Q _ => ∃ (h l : Addr) (lim : Int) (H0 : Hp), vs = [.ref h, .int lim] ∧ 0 < lim ∧ lim ≤ 2000000000000000000 ∧ HS H0 H h l ∧ ∀ H' r, HS H0 H' h l → 0 ≤ r → r < lim → Q (.int r) H'
theorem ok_law_next : FnR P w K mg base CX0 1 (a_law_next K) spNext := by
  refine fnR0 (d := d_law_next) T.F_law_next sc_law_next rfl (fun _ _ _ _ _ _ us hl => match us, hl with | [_, _], _ => rfl) (fun vs H Q E h => ?_) (fun cdv A outer s H vs Q E hr h => ?_)
  · obtain ⟨h, l, lim, H0, rfl, _⟩ := h
    rfl
  obtain ⟨h, l, lim, H0, rfl, l0, l1, hs, k⟩ := h
  obtain ⟨s0, nh, nl, hne, m, i, ns, eh, el, m0, m1, i0, hl⟩ := hs
  refine ⟨_, (pss_cons (ps_set (i := 2) sc_law_next.nd rfl (Or.inl rfl) (pe_ix ix_list (pe_op op_cat (pe_ix ix_list (pv 0) pe_int (fun _ _ => rfl)) (pe_lst (pa_cons pe_int pa_nil))) (pe_op op_mod (pe_ix ix_list (pv 0) pe_int (fun _ _ => rfl)) (pe_callB (call_max2 rfl) (by rfl) T.n_max (by decide +kernel) (pa_cons pe_int (pa_cons (pe_callB call_len_seq (by rfl) T.n_len PySem.boot_len (pa_cons (pe_ix ix_list (pv 0) pe_int (fun _ _ => rfl)) pa_nil)) pa_nil)))) (fun _ _ => rfl))) (pss_cons (ps_if (pt_cmpR op_ge (pv 2) (pe_op op_pow pe_int pe_int) (nomark _)) (pss_cons (ps_asg (pe_op op_fdivW (pv 2) (pv 1)) (pg_sub (pe_ix ix_list (pv 0) pe_int (fun _ _ => rfl)) (pe_op op_mod (pe_ix ix_list (pv 0) pe_int (fun _ _ => rfl)) (pe_callB call_len_seq (by rfl) T.n_len PySem.boot_len (pa_cons (pe_ix ix_list (pv 0) pe_int (fun _ _ => rfl)) pa_nil))) set_list)) (pss_one (ps_ret (pe_op op_mod (pv 2) (pv 1))))) pss_nil) (pss_cons (ps_asg (pe_op op_mod (pe_op op_add (pe_op op_add (pe_op op_mul (pe_ix ix_list (pv 0) pe_int (fun _ _ => rfl)) pe_int) (pe_op op_mul (pv 2) pe_int)) pe_int) pe_int) (pg_sub (pv 0) pe_int set_list)) (pss_cons (ps_asg (pe_op op_add (pe_ix ix_list (pv 0) pe_int (fun _ _ => rfl)) pe_int) (pg_sub (pv 0) pe_int set_list)) (pss_one (ps_ret (pe_op op_mod (pe_op op_fdiv (pe_ix ix_list (pv 0) pe_int (fun _ _ => rfl)) pe_int) (pv 1)))))))), ?_⟩
  refine ⟨_, rfl, h, _, 1, _, rfl, rfl, SqL.of eh, rfl, by show 1 ≤ sizeLine; decide, fun z hz => ?_⟩
  refine ⟨l, z, _, _, rfl, rfl, upd_old el hz, upd_same, by rw [List.length_map]; exact Nat.le_trans (Nat.succ_le_succ hl) (by decide), fun y hy => ?_⟩
  have eh2 := upd_old (u := .lst (ns.map V.int ++ [.int 0])) (upd_old (u := .lst [.int 0]) eh hz) hy
  have el2 := upd_old (u := .lst (ns.map V.int ++ [.int 0])) (upd_old (u := .lst [.int 0]) el hz) hy
  have s2 : Same H (upd (upd H z (.lst [.int 0])) y (.lst (ns.map V.int ++ [.int 0]))) := (same_new hz).trans (same_new hy)
  have ey : (upd (upd H z (.lst [.int 0])) y (.lst (ns.map V.int ++ [.int 0]))) y = some (.lst (ns.map V.int ++ [.int 0])) := upd_same
  generalize upd (upd H z (.lst [.int 0])) y (.lst (ns.map V.int ++ [.int 0])) = H2 at eh2 el2 s2 ey
  refine ⟨_, rfl, h, _, 2, _, rfl, rfl, SqL.of eh2, rfl, _, rfl, h, _, 1, _, rfl, rfl, SqL.of eh2, rfl, l, _, rfl, .inl (SqL.of el2), 1, _, rfl, ?_⟩
  have hlen : ((ns.map V.int).length : Int) = (ns.length : Int) := by rw [List.length_map]
  rw [hlen]
  have hj : 0 < (if (ns.length : Int) > 1 then (ns.length : Int) else 1) := by split <;> omega
  have hjm : (if (ns.length : Int) > 1 then (ns.length : Int) else 1) ≤ ns.length + 1 := by split <;> omega
  have hj2 : ns ≠ [] → (if (ns.length : Int) > 1 then (ns.length : Int) else 1) = ns.length := fun hn => by
    have : 0 < ns.length := List.length_pos_iff.mpr hn
    split <;> omega
  generalize (if (ns.length : Int) > 1 then (ns.length : Int) else 1) = j at hj hjm hj2
  refine ⟨_, _, rfl, rfl, hj, ?_⟩
  have r0 := Int.emod_nonneg i (Int.ne_of_gt hj)
  have r1 := Int.emod_lt_of_pos i hj
  -- the cell that is read
  obtain ⟨c, hc, hc2⟩ : ∃ c : Int, (ns.map V.int ++ [V.int 0])[(i % j).toNat]? = some (.int c) ∧ (0 < c → ns ≠ []) := by
    by_cases hn : ns = []
    · subst hn
      have : (i % j).toNat = 0 := by
        simp only [List.length_nil] at hjm
        omega
      rw [this]
      exact ⟨0, rfl, fun z => absurd z (by decide)⟩
    · have ej := hj2 hn
      have lt : (i % j).toNat < ns.length := by omega
      refine ⟨ns[(i % j).toNat], ?_, fun _ => hn⟩
      rw [List.getElem?_append_left (by rw [List.length_map]; exact lt), List.getElem?_map, List.getElem?_eq_getElem lt]
      rfl
  refine ⟨y, _, _, .int c, rfl, rfl, SqL.of ey, at_of (j := (i % j).toNat) (by omega) hc, ?_⟩
  refine ⟨_, rfl, _, _, rfl, rfl, ⟨by decide, by decide, by decide⟩, _, _, rfl, rfl, _, rfl, ite2 (fun hd => ?_) (fun hd => ?_)⟩
  · -- a great cell: a digit of it
    have hd : (10 : Int) ^ (18 : Int).toNat ≤ c := of_decide_eq_true hd
    have hc0 : 0 < c := Int.lt_of_lt_of_le (by decide) hd
    have hn := hc2 hc0
    have ej := hj2 hn
    have hp : 0 < ns.length := List.length_pos_iff.mpr hn
    refine ⟨_, rfl, _, rfl, _, _, rfl, rfl, wide_div l0 (b := 64) ?_ (by decide) (by decide), ?_⟩
    · have : lim.natAbs ≤ 2000000000000000000 := by omega
      exact Nat.lt_of_le_of_lt this (by decide)
    refine ⟨_, rfl, h, _, 1, _, rfl, rfl, SqL.of eh2, rfl, _, rfl, h, _, 2, _, rfl, rfl, SqL.of eh2, rfl, _, rfl, h, _, 1, _, rfl, rfl, SqL.of eh2, rfl, l, _, rfl, .inl (SqL.of el2), _, _, rfl, rfl, ?_, ?_⟩
    · show (0 : Int) < ((ns.map V.int).length : Int)
      rw [hlen]
      omega
    rw [hlen]
    have q0 := Int.emod_nonneg i (show (ns.length : Int) ≠ 0 by omega)
    have q1 := Int.emod_lt_of_pos i (show (0 : Int) < ns.length by omega)
    refine ⟨l, _, _, _, rfl, rfl, el2, ixN_int q0 (by rw [List.length_map]; exact q1), ?_⟩
    refine ⟨_, rfl, _, rfl, _, _, rfl, rfl, l0, ?_⟩
    refine k _ _ ⟨same_mut (s0.trans s2) nl, nh, nl, hne, m, i, ns.set (i % (ns.length : Int)).toNat (c / lim), ?_, ?_, m0, m1, i0, by rw [List.length_set]; exact hl⟩ (Int.emod_nonneg _ (Int.ne_of_gt l0)) (Int.emod_lt_of_pos _ l0)
    · rw [upd_ne hne]
      exact eh2
    · rw [upd_same, List.map_set]
  · -- mixed with the cell
    refine ⟨_, rfl, h, _, 0, _, rfl, rfl, SqL.of eh2, rfl, _, _, rfl, rfl, .inr ⟨by decide, by decide⟩, _, rfl, _, _, rfl, rfl, .inr ⟨by decide, by decide⟩, _, _, rfl, rfl, _, _, rfl, rfl, _, _, rfl, rfl, by show (0 : Int) < 2147483647; decide, ?_⟩
    refine ⟨_, rfl, h, _, 0, 0, rfl, rfl, eh2, rfl, ?_⟩
    have b0 : 0 ≤ (m * 48271 + c * 69621 + 11) % 2147483647 := Int.emod_nonneg _ (by decide)
    have b1 : (m * 48271 + c * 69621 + 11) % 2147483647 < 2147483647 := Int.emod_lt_of_pos _ (by decide)
    have e3 : upd H2 h (.lst ([V.int m, .ref l, .int i].set 0 (.int ((m * 48271 + c * 69621 + 11) % 2147483647)))) h = some (.lst [V.int ((m * 48271 + c * 69621 + 11) % 2147483647), .ref l, .int i]) := upd_same
    refine ⟨_, rfl, h, _, 2, _, rfl, rfl, SqL.of e3, rfl, _, _, rfl, rfl, _, rfl, h, _, 2, 2, rfl, rfl, e3, rfl, ?_⟩
    rw [upd_upd]
    have e4 : upd H2 h (.lst ([V.int ((m * 48271 + c * 69621 + 11) % 2147483647), .ref l, .int i].set 2 (.int (i + 1)))) h = some (.lst [V.int ((m * 48271 + c * 69621 + 11) % 2147483647), .ref l, .int (i + 1)]) := upd_same
    refine ⟨_, rfl, h, _, 0, _, rfl, rfl, SqL.of e4, rfl, _, _, rfl, rfl, ⟨by decide, by decide⟩, _, rfl, _, _, rfl, rfl, l0, ?_⟩
    refine k _ _ ⟨same_mut (s0.trans s2) nh, nh, nl, hne, (m * 48271 + c * 69621 + 11) % 2147483647, i + 1, ns, e4, ?_, b0, b1, by omega, hl⟩ (Int.emod_nonneg _ (Int.ne_of_gt l0)) (Int.emod_lt_of_pos _ l0)
    rw [upd_ne hne.symm]
    exact el2
end
end EB

namespace EB
open PySem PySem.Spec PyProof.Rows L2
theorem HS.keep {H0 H : Hp} {h l b : Addr} {o : HO} (e : H b = some o) (n1 : b ≠ h) (n2 : b ≠ l) : hid2 H h l b = some o := by
  rw [hid2_ne n1 n2]
  exact e
theorem HS.new {H0 H : Hp} {h l b : Addr} (x : HS H0 H h l) (n : H b = none) : b ≠ h ∧ b ≠ l := by
  obtain ⟨m, i, ns, e1, e2, _⟩ := x.ex
  exact ⟨(ne_of_none e1 n).symm, (ne_of_none e2 n).symm⟩
theorem HS.mut {H0 H : Hp} {h l b : Addr} {o : HO} (x : HS H0 H h l) (n : H0 b = none) (n1 : b ≠ h) (n2 : b ≠ l) : HS H0 (upd H b o) h l := by
  obtain ⟨m, i, ns, e1, e2, r⟩ := x.ex
  exact ⟨same_mut x.same n, x.nh, x.nl, x.ne, m, i, ns, by rw [upd_ne n1.symm]; exact e1, by rw [upd_ne n2.symm]; exact e2, r⟩
theorem HS.down {H0 H H' : Hp} {h l : Addr} (x : HS H0 H h l) (y : HS (hid2 H h l) H' h l) : HS H0 H' h l := ⟨x.sub.trans y.same, x.nh, x.nl, x.ne, y.ex⟩
def kinds3 : List Str := ["empty", "cap", "label"]
/-- trades as the law draws them -/
structure Drawn (ts : List Tr) (most largest : Int) : Prop where
  ks : ts.map Tr.k = kinds3.take ts.length
  len : (ts.length : Int) ≤ most
  len3 : ts.length ≤ 3
  each : ∀ t ∈ ts, t.ok ∧ t.n ≤ largest ∧ t.l ≤ t.n
  w : 10 * worth ts ≤ 9 * 27720
theorem Drawn.fair {ts : List Tr} {a b : Int} (d : Drawn ts a b) : Fair ts := ⟨⟨d.len3, fun t ht => (d.each t ht).1⟩, d.w⟩
theorem Drawn.nm {ts : List Tr} {a b : Int} (d : Drawn ts a b) : nmOk ts := by
  have hk : ∀ k ∈ kinds3, kindOk k = true ∧ k.length ≤ 1000 := by decide +kernel
  have hn : kinds3.Nodup := by decide +kernel
  refine ⟨by rw [d.ks]; exact hn.sublist (List.take_sublist _ _), fun t ht => ?_⟩
  have : t.k ∈ ts.map Tr.k := List.mem_map.mpr ⟨t, ht, rfl⟩
  rw [d.ks] at this
  exact hk _ (List.mem_of_mem_take this)
theorem worth_snoc (ts : List Tr) (t : Tr) : worth (ts ++ [t]) = worth ts + 27720 / t.n * t.l := by
  unfold worth
  rw [List.map_append, List.sum_append]
  simp
/-- new tuples, one for each trade -/
def NewTr (H : Hp) (qs : List Addr) (ts : List Tr) : Prop := qs.length = ts.length ∧ ∀ (j : Nat) (q : Addr) (t : Tr), qs[j]? = some q → ts[j]? = some t → H q = some (.tup t.vs)
theorem NewTr.at_ {K : PySem.W.Frag} {H : Hp} {qs : List Addr} {ts : List Tr} {p : Addr} (n : NewTr H qs ts) (h : SqT K H p (qs.map V.ref)) : TrAt K H p ts := ⟨qs, h, n.1, fun i q t a b => SqT.of (n.2 i q t a b)⟩
theorem NewTr.mono {H H' : Hp} {qs : List Addr} {ts : List Tr} (n : NewTr H qs ts) (h : ∀ q xs, H q = some (.tup xs) → H' q = some (.tup xs)) : NewTr H' qs ts := ⟨n.1, fun j q t a b => h _ _ (n.2 j q t a b)⟩
theorem NewTr.snoc {H : Hp} {qs : List Addr} {ts : List Tr} {q : Addr} {t : Tr} (n : NewTr H qs ts) (h : H q = some (.tup t.vs)) : NewTr H (qs ++ [q]) (ts ++ [t]) := by
  refine ⟨by rw [List.length_append, List.length_append, n.1]; rfl, fun j q' t' hj ht' => ?_⟩
  rcases Nat.lt_or_ge j qs.length with z | z
  · rw [List.getElem?_append_left z] at hj
    rw [List.getElem?_append_left (by rw [← n.1]; exact z)] at ht'
    exact n.2 j q' t' hj ht'
  · rw [List.getElem?_append_right z] at hj
    rw [List.getElem?_append_right (by rw [← n.1]; exact z)] at ht'
    have ej : j - qs.length = 0 := by
      have := lt_of_at hj
      simp only [List.length_singleton] at this
      omega
    rw [ej] at hj
    rw [← n.1, ej] at ht'
    cases Option.some.inj hj
    cases Option.some.inj ht'
    exact h
theorem HS.keepT {H : Hp} {h l q : Addr} {xs : List V} {H0 : Hp} (x : HS H0 H h l) (e : H q = some (.tup xs)) : hid2 H h l q = some (.tup xs) := by
  obtain ⟨m, i, ns, e1, e2, _⟩ := x.ex
  exact HS.keep (H0 := H0) e (ne_of e e1 (by intro z; cases z)) (ne_of e e2 (by intro z; cases z))
section
variable {P : Program} {w : World} {K : PySem.W.Frag} {mg : Str → Option Value} {base : Heap} (T : Tx K mg)
include T
end
end EB

namespace EB
open PySem PySem.Spec PyProof.Rows L2
theorem upd_none {H : Hp} {a b : Addr} {o : HO} (h : upd H a o b = none) : b ≠ a ∧ H b = none := by
  have n : b ≠ a := fun z => by
    rw [z, upd_same] at h
    cases h
  rw [upd_ne n] at h
  exact ⟨n, h⟩
/-- what a new offer asks, its trades handed on one by one -/
theorem make_ok {K : PySem.W.Frag} {H : Hp} {ts : List Tr} {ps : List Addr} {Q : VK} {E : XK} {x dx : Addr} (h2 : ps.length = ts.length) (h3 : ∀ (i : Nat) (p : Addr) (t : Tr), ps[i]? = some p → ts[i]? = some t → SqT K H p t.vs)
    (hf : Fair ts) (hne : ts ≠ []) (hnm : nmOk ts) (nx : H x = none) (nd : H dx = none) (ned : dx ≠ x) (k : ∀ H', Same H H' → OfNew K H H' x ts → Q (.ref x) H') :
    ∃ ws rest, (V.ref x :: ps.map V.ref) = ws ++ rest ∧ ws.length = 1 ∧ rest.length ≤ sizeLine ∧ ∀ p, (upd (upd H dx (.own x)) x (.ins (He.ga K "Offer") dx [])) p = none →
      spInit K (ws ++ [V.ref p]) (upd (upd (upd H dx (.own x)) x (.ins (He.ga K "Offer") dx [])) p (.tup rest)) (fun v H2 => v = .non ∧ Q (.ref x) H2) E := by
  refine ⟨[.ref x], ps.map V.ref, rfl, rfl, ?_, fun p hp => ?_⟩
  · rw [List.length_map, h2]
    exact Nat.le_trans hf.g.1 (by decide)
  obtain ⟨npx, hp1⟩ := upd_none hp
  obtain ⟨npd, hp2⟩ := upd_none hp1
  have sH : Same H (upd H p (.tup (ps.map V.ref))) := same_new hp2
  refine ⟨x, p, upd H p (.tup (ps.map V.ref)), dx, ts, rfl, fun b o e => ?_, by rw [upd_ne npx.symm]; exact nx, by rw [upd_ne npx.symm]; exact upd_same, ⟨ps, SqT.of upd_same, h2, fun i q t a b => Same.tup sH (h3 i q t a b)⟩, hf, hne, hnm, fun H' s' o' => ⟨rfl, ?_⟩⟩
  · by_cases z : b = p
    · rw [z, upd_same] at e
      rw [z, upd_same]
      exact e
    · rw [upd_ne z] at e
      rw [upd_ne z, upd_ne (ne_of_none e nx), upd_ne (ne_of_none e nd)]
      exact e
  · obtain ⟨d, t, q, o, f, g, e1, e2, e3, e4, e5, e6, n1, n2, n3⟩ := o'.ex
    exact k _ (sH.trans s') ⟨d, t, q, o, f, g, e1, e2, e3, e4, e5, e6, (upd_none n1).2, (upd_none n2).2, (upd_none n3).2⟩
section
variable {P : Program} {w : World} {K : PySem.W.Frag} {mg : Str → Option Value} {base : Heap} (T : Tx K mg)
include T
/-! ### an offer's methods -/
def spDF (K : PySem.W.Frag) : Sp := fun vs H Q _ => ∃ (a : Addr) (ts : List Tr) (n : Nat), vs = [.ref a, .int (n : Nat)] ∧ OfAt K H a ts ∧ Fair ts ∧ Q (.int (D (cN ts) n : Nat)) H
theorem ok_Offer_drinks_for : FnR P w K mg base CX0 2 (a_Offer_drinks_for K) (spDF K) := by
  refine fnR0 (d := d_Offer_drinks_for) T.F_Offer_drinks_for sc_Offer_drinks_for rfl (fun _ _ _ _ _ _ us hl => match us, hl with | [_, _], _ => rfl) (fun vs H Q E h => ?_) (fun cdv A outer s H vs Q E hr h => ?_)
  · obtain ⟨a, ts, n, rfl, _⟩ := h
    rfl
  obtain ⟨a, ts, n, rfl, ho, hf, k⟩ := h
  obtain ⟨dx, t, p, o, f, g, e1, e2, e3, e4, e5, e6⟩ := ho.ex
  refine ⟨_, (pss_cons (ps_asg (pe_fld (pv 0) rfl) (pg_tup rfl (pgs_cons (pg_name (i := 2) sc_Offer_drinks_for.nd rfl (Or.inl rfl)) (pgs_cons (pg_name (i := 3) sc_Offer_drinks_for.nd rfl (Or.inl rfl)) pgs_nil)))) (pss_one (ps_ret (pe_cR (ok_value_at T) (hr.mono (by decide)) T.F_value_at.kp T.g_value_at pass0 (pa_cons (pe_fld (pv 0) rfl) (pa_cons (pv 1) (pa_cons (pv 2) (pa_cons (pv 3) pa_nil)))))))), ?_⟩
  refine ⟨_, rfl, a, _, dx, _, _, rfl, e1, T.k_Offer, T.na_period, lk_period, p, _, rfl, e3, rfl, _, _, rfl, _, _, rfl, rfl, ?_⟩
  refine ⟨_, rfl, a, _, dx, _, _, rfl, e1, T.k_Offer, T.na_firsts, lk_firsts, _, rfl, _, rfl, _, rfl, f, firstsL ts, n, perB ts, per ts, rfl, e5, by omega, ?_, ?_, ?_, ?_, ?_, ?_⟩
  all_goals have hp := per_le' hf.g
  all_goals have hb := (cf hf).bpos
  all_goals have hB := perB_le hf
  · omega
  · omega
  · omega
  · omega
  · have ht := (cf hf).T_per (d := per ts - 1) (by have := per_pos hf.g; omega)
    have h0 := (cf hf).T_nonneg (per ts - 1)
    have e : per ts - 1 + per ts = 2 * per ts - 1 := by have := per_pos hf.g; omega
    rw [e] at ht
    rw [List.length_map, List.length_range]
    omega
  · rw [value_firsts (cf hf)]
    exact k
def spCall (K : PySem.W.Frag) : Sp := fun vs H Q _ => ∃ (a : Addr) (ts : List Tr) (n : Nat), vs = [.ref a, .int (n : Nat)] ∧ OfAt K H a ts ∧ Fair ts ∧ n ≤ 1000000000000000000 ∧ Q (.int (D (cN ts) n : Nat)) H
theorem ok_Offer_call : FnR P w K mg base CX0 4 (a_Offer_call K) (spCall K) := by
  refine fnR0 (d := d_Offer_call) T.F_Offer_call sc_Offer_call rfl (fun _ _ _ _ _ _ us hl => match us, hl with | [_, _], _ => rfl) (fun vs H Q E h => ?_) (fun cdv A outer s H vs Q E hr h => ?_)
  · obtain ⟨a, ts, n, rfl, _⟩ := h
    rfl
  obtain ⟨a, ts, n, rfl, ho, hf, hn, k⟩ := h
  obtain ⟨dx, t, p, o, f, g, e1, e2, e3, e4, e5, e6⟩ := ho.ex
  refine ⟨_, (pss_cons (ps_expr (pe_cR (ok_check_number T) (hr.mono (by decide)) T.F_check_number.kp T.g_check_number pass0 (pa_cons (pv 1) pa_nil))) (pss_one (ps_ret (pe_methR (pv 0) T.k_Offer T.m_Offer_drinks_for (ok_Offer_drinks_for T) (hr.mono (by decide)) pass0 (pa_cons (pv 1) pa_nil))))), ?_⟩
  refine ⟨_, rfl, n, rfl, by omega, by omega, ?_⟩
  exact ⟨_, rfl, a, dx, _, rfl, e1, lk_no (by decide +kernel), _, rfl, a, ts, n, rfl, ho, hf, k⟩
end
end EB

namespace EB
open PySem PySem.Spec PyProof.Rows L2
/-! ### data of some depth -/
inductive Lev : Nat → PyData → Prop
  | non {n : Nat} : Lev n .none
  | bl {n : Nat} (b : Bool) : Lev n (.bool b)
  | int {n : Nat} (i : Int) : Lev n (.int i)
  | str {n : Nat} (z : Str) : Lev n (.str z)
  | lst {n : Nat} {ds : List PyData} (h : ∀ d ∈ ds, Lev n d) (hl : ds.length ≤ 10000) : Lev (n + 1) (.list ds)
  | tup {n : Nat} {ds : List PyData} (h : ∀ d ∈ ds, Lev n d) (hl : ds.length ≤ 10000) : Lev (n + 1) (.tuple ds)
mutual
theorem dp_mono {K : PySem.W.Frag} {H H' : Hp} (s : Same H H') : ∀ {v : V} {d : PyData}, Dp K H v d → Dp K H' v d
  | _, _, .non => .non
  | _, _, .bl b => .bl b
  | _, _, .int i => .int i
  | _, _, .str z => .str z
  | _, _, .lst h a => .lst (s.seq h) (dps_mono s a)
  | _, _, .tup h a => .tup (Same.tup s h) (dps_mono s a)
theorem dps_mono {K : PySem.W.Frag} {H H' : Hp} (s : Same H H') : ∀ {vs : List V} {ds : List PyData}, DpAll K H vs ds → DpAll K H' vs ds
  | _, _, .nil => .nil
  | _, _, .cons a b => .cons (dp_mono s a) (dps_mono s b)
end
theorem dps_len {K : PySem.W.Frag} {H : Hp} : ∀ {vs : List V} {ds : List PyData}, DpAll K H vs ds → vs.length = ds.length
  | _, _, .nil => rfl
  | _, _, .cons _ b => congrArg Nat.succ (dps_len b)
theorem dps_at {K : PySem.W.Frag} {H : Hp} : ∀ {vs : List V} {ds : List PyData} {i : Nat}, DpAll K H vs ds → i < ds.length → ∃ v d, vs[i]? = some v ∧ d ∈ ds ∧ Dp K H v d ∧ ds[i]? = some d
  | _, _, 0, .cons a b, _ => ⟨_, _, rfl, List.mem_cons_self .., a, rfl⟩
  | _, _, i + 1, .cons a b, h => by
    obtain ⟨v, d, e1, e2, e3, e4⟩ := dps_at (i := i) b (Nat.lt_of_succ_lt_succ h)
    exact ⟨v, d, e1, List.mem_cons_of_mem _ e2, e3, e4⟩
theorem dps_ints {K : PySem.W.Frag} {H : Hp} : ∀ (ns : List Int), DpAll K H (ns.map V.int) (ns.map PyData.int)
  | [] => .nil
  | n :: ns => .cons (.int n) (dps_ints ns)
theorem tyL {K : PySem.W.Frag} {H : Hp} {a : Addr} {xs : List V} (h : SqL K H a xs) : TyX K H (.ref a) (.type "list") := by
  rcases h with (h | ⟨o, h⟩) | ⟨o, its, n, h1, h2, _⟩
  · exact .base (.lst h)
  · exact .base (.frz h)
  · exact .kList h1 h2
theorem tyT {K : PySem.W.Frag} {H : Hp} {a : Addr} {xs : List V} (h : SqT K H a xs) : TyX K H (.ref a) (.type "tuple") := by
  rcases h with (h | ⟨o, h⟩) | ⟨o, its, n, h1, h2, _⟩
  · exact .base (.tup h)
  · exact .fTuple h
  · exact .kTuple h1 h2
theorem isTL {K : PySem.W.Frag} (q : Bool) : PySem.W.kitAny K (.type (if q then "list" else "tuple")) [.type "tuple", .type "list"] = some true := by
  cases q with
  | true => exact kitAny_cons (b := false) (kit_ty (by decide +kernel)) (fun _ => kitAny_cons (b := true) (kit_ty (by decide +kernel)) (fun z => nomatch z) (fun _ => rfl)) (fun z => nomatch z)
  | false => exact kitAny_cons (b := true) (kit_ty (by decide +kernel)) (fun z => nomatch z) (fun _ => rfl)
/-- a list (q) or a tuple -/
def SqQ (K : PySem.W.Frag) (H : Hp) (q : Bool) (a : Addr) (xs : List V) : Prop := if q = true then SqL K H a xs else SqT K H a xs
theorem SqQ.ty {K : PySem.W.Frag} {H : Hp} {q : Bool} {a : Addr} {xs : List V} (h : SqQ K H q a xs) : TyX K H (.ref a) (.type (if q then "list" else "tuple")) := by
  cases q with
  | true => exact tyL h
  | false => exact tyT h
theorem SqQ.or {K : PySem.W.Frag} {H : Hp} {q : Bool} {a : Addr} {xs : List V} (h : SqQ K H q a xs) : SqL K H a xs ∨ SqT K H a xs := by
  cases q with
  | true => exact .inl h
  | false => exact .inr h
theorem SqQ.mono {K : PySem.W.Frag} {H H' : Hp} {q : Bool} {a : Addr} {xs : List V} (s : Same H H') (h : SqQ K H q a xs) : SqQ K H' q a xs := by
  cases q with
  | true => exact s.seq h
  | false => exact Same.tup s h
theorem SqQ.ix {K : PySem.W.Frag} {H : Hp} {q : Bool} {a : Addr} {xs : List V} {i : Int} {v : V} {Q : VK} (h : SqQ K H q a xs) (e : atI xs i = some v) (k : Q v H) : rIx K (.ref a) (.int i) H Q := by
  cases q with
  | true => exact .inl ⟨a, xs, i, v, rfl, rfl, h, e, k⟩
  | false => exact .inr (.inl ⟨a, xs, i, v, rfl, rfl, h, e, k⟩)
theorem kitD (q : Bool) {K : PySem.W.Frag} : PySem.W.kitOne K (.type (if q then "list" else "tuple")) (.type "dict") = some false := by
  cases q with
  | true => exact kit_ty (by decide +kernel)
  | false => exact kit_ty (by decide +kernel)
theorem kitL (q : Bool) {K : PySem.W.Frag} : PySem.W.kitOne K (.type (if q then "list" else "tuple")) (.type "list") = some q := by
  cases q with
  | true => exact kit_ty (by decide +kernel)
  | false => exact kit_ty (by decide +kernel)
theorem shapedN : SeqAt.shaped (PyData.list []) = true := by decide +kernel
theorem alike_low {n : Nat} {d : PyData} (h : Lev n d) : Lev 0 d ∨ ∃ (q : Bool) (ds : List PyData) (m : Nat), n = m + 1 ∧ d = (if q then .list ds else .tuple ds) ∧ (∀ e ∈ ds, Lev m e) ∧ ds.length ≤ 10000 := by
  cases h with
  | non => exact .inl .non
  | bl b => exact .inl (.bl b)
  | int i => exact .inl (.int i)
  | str z => exact .inl (.str z)
  | lst h hl => exact .inr ⟨true, _, _, rfl, rfl, h, hl⟩
  | tup h hl => exact .inr ⟨false, _, _, rfl, rfl, h, hl⟩
theorem dp_seq {K : PySem.W.Frag} {H : Hp} {v : V} {q : Bool} {ds : List PyData} (h : Dp K H v (if q then .list ds else .tuple ds)) : ∃ a xs, v = .ref a ∧ SqQ K H q a xs ∧ DpAll K H xs ds := by
  cases q with
  | true =>
    cases h with
    | lst h a => exact ⟨_, _, rfl, h, a⟩
  | false =>
    cases h with
    | tup h a => exact ⟨_, _, rfl, h, a⟩
section
variable {P : Program} {w : World} {K : PySem.W.Frag} {mg : Str → Option Value} {base : Heap} (T : Tx K mg)
include T
def spAlike (K : PySem.W.Frag) (n : Nat) : Sp := fun vs H Q _ => ∃ (v u : V) (d : PyData), vs = [v, u] ∧ Dp K H v d ∧ Dp K H u d ∧ Lev n d ∧ ∀ H', Same H H' → Q (.bl true) H'
theorem ok_alike0 : FnR P w K mg base CX0 1 (a_law_alike K) (spAlike K 0) := by
  refine fnR0 (d := d_law_alike) T.F_law_alike sc_law_alike rfl (fun _ _ _ _ _ _ us hl => match us, hl with | [_, _], _ => rfl) (fun vs H Q E h => ?_) (fun cdv A outer s H vs Q E hr h => ?_)
  · obtain ⟨i, j, _, rfl, _⟩ := h
    rfl
  obtain ⟨v, u, d, rfl, hv, hu, hd, k⟩ := h
  refine ⟨_, pss_cons (ps_if (pt_val (pe_callB call_isi (by rfl) T.n_isinstance (by decide +kernel) (pa_cons (pv 1) (pa_cons (pe_bltn (v := .ty "dict") (u := .type "dict") rfl T.n_dict (by decide +kernel) rfl) pa_nil)))) pss_never pss_nil) (pss_cons (ps_if (pt_val (pe_callB call_isiT (by rfl) T.n_isinstance (by decide +kernel) (pa_cons (pv 1) (pa_cons (pe_tup (pa_cons (pe_bltn (v := .ty "tuple") (u := .type "tuple") rfl T.n_tuple (by decide +kernel) rfl) (pa_cons (pe_bltn (v := .ty "list") (u := .type "list") rfl T.n_list (by decide +kernel) rfl) pa_nil))) pa_nil)))) pss_never pss_nil) (pss_cons (ps_if (PW.pt (pw_or (pt_cmpR op_isN (pv 1) pe_non (nomark _)) (pw_or1 (pt_val (pe_callB call_isi (by rfl) T.n_isinstance (by decide +kernel) (pa_cons (pv 1) (pa_cons (pe_bltn (v := .ty "str") (u := .type "str") rfl T.n_str (by decide +kernel) rfl) pa_nil))))))) (pss_one (ps_ret (pe_and (pe_cmpR op_eq (pv 0) (pv 1) (nomark _)) (pe_one (pe_cmpR op_eq (pe_callB call_isi (by rfl) T.n_isinstance (by decide +kernel) (pa_cons (pv 0) (pa_cons (pe_bltn (v := .ty "str") (u := .type "str") rfl T.n_str (by decide +kernel) rfl) pa_nil))) (pe_callB call_isi (by rfl) T.n_isinstance (by decide +kernel) (pa_cons (pv 1) (pa_cons (pe_bltn (v := .ty "str") (u := .type "str") rfl T.n_str (by decide +kernel) rfl) pa_nil))) (nomark _)))))) pss_nil) (pss_one (ps_ret (pe_and (pe_callB call_isi (by rfl) T.n_isinstance (by decide +kernel) (pa_cons (pv 0) (pa_cons (pe_bltn (v := .ty "int") (u := .type "int") rfl T.n_int (by decide +kernel) rfl) pa_nil))) (pe_and (pe_cmpR op_eq (pe_callB call_isi (by rfl) T.n_isinstance (by decide +kernel) (pa_cons (pv 0) (pa_cons (pe_bltn (v := .ty "bool") (u := .type "bool") rfl T.n_bool (by decide +kernel) rfl) pa_nil))) (pe_callB call_isi (by rfl) T.n_isinstance (by decide +kernel) (pa_cons (pv 1) (pa_cons (pe_bltn (v := .ty "bool") (u := .type "bool") rfl T.n_bool (by decide +kernel) rfl) pa_nil))) (nomark _)) (pe_one (pe_cmpR op_eq (pv 0) (pv 1) (nomark _))))))))), ?_⟩
  cases hd with
  | non =>
    cases hv
    cases hu
    refine ⟨_, rfl, .non, .ty "dict", _, _, false, rfl, ClsV.ty "dict", .base .non, kit_ty (by decide +kernel), false, rfl, iteF ?_⟩
    refine ⟨_, rfl, by show 2 ≤ sizeLine; decide, fun tp htp => ⟨.non, tp, _, _, _, false, rfl, upd_same, .cons (ClsV.ty "tuple") (.cons (ClsV.ty "list") .nil), .base .non, kitAny_cons (b := false) (kit_ty (by decide +kernel)) (fun _ => kitAny_cons (b := false) (kit_ty (by decide +kernel)) (fun _ => kitAny_nil) (fun z => nomatch z)) (fun z => nomatch z), false, rfl, iteF ?_⟩⟩
    refine ⟨_, rfl, rfl, _, rfl, iteT (iteT ?_)⟩
    refine ⟨_, rfl, _, rfl, rfl, _, rfl, iteT ?_⟩
    exact ⟨_, rfl, .non, .ty "str", _, _, false, rfl, ClsV.ty "str", .base .non, kit_ty (by decide +kernel), _, rfl, .non, .ty "str", _, _, false, rfl, ClsV.ty "str", .base .non, kit_ty (by decide +kernel), rfl, k _ (same_new htp)⟩
  | str z =>
    cases hv
    cases hu
    refine ⟨_, rfl, .str z, .ty "dict", _, _, false, rfl, ClsV.ty "dict", .base (.str z), kit_ty (by decide +kernel), false, rfl, iteF ?_⟩
    refine ⟨_, rfl, by show 2 ≤ sizeLine; decide, fun tp htp => ⟨.str z, tp, _, _, _, false, rfl, upd_same, .cons (ClsV.ty "tuple") (.cons (ClsV.ty "list") .nil), .base (.str z), kitAny_cons (b := false) (kit_ty (by decide +kernel)) (fun _ => kitAny_cons (b := false) (kit_ty (by decide +kernel)) (fun _ => kitAny_nil) (fun z => nomatch z)) (fun z => nomatch z), false, rfl, iteF ?_⟩⟩
    refine ⟨_, rfl, rfl, _, rfl, iteF ?_⟩
    refine ⟨_, rfl, .str z, .ty "str", _, _, true, rfl, ClsV.ty "str", .base (.str z), kit_ty (by decide +kernel), true, rfl, iteT ?_⟩
    refine ⟨_, rfl, _, rfl, rfl, _, rfl, ?_⟩
    rw [decide_eq_true rfl]
    refine iteT ?_
    exact ⟨_, rfl, .str z, .ty "str", _, _, true, rfl, ClsV.ty "str", .base (.str z), kit_ty (by decide +kernel), _, rfl, .str z, .ty "str", _, _, true, rfl, ClsV.ty "str", .base (.str z), kit_ty (by decide +kernel), rfl, k _ (same_new htp)⟩
  | bl z =>
    cases hv
    cases hu
    refine ⟨_, rfl, .bl z, .ty "dict", _, _, false, rfl, ClsV.ty "dict", .base (.bl z), kit_ty (by decide +kernel), false, rfl, iteF ?_⟩
    refine ⟨_, rfl, by show 2 ≤ sizeLine; decide, fun tp htp => ⟨.bl z, tp, _, _, _, false, rfl, upd_same, .cons (ClsV.ty "tuple") (.cons (ClsV.ty "list") .nil), .base (.bl z), kitAny_cons (b := false) (kit_ty (by decide +kernel)) (fun _ => kitAny_cons (b := false) (kit_ty (by decide +kernel)) (fun _ => kitAny_nil) (fun z => nomatch z)) (fun z => nomatch z), false, rfl, iteF ?_⟩⟩
    refine ⟨_, rfl, rfl, _, rfl, iteF ?_⟩
    refine ⟨_, rfl, .bl z, .ty "str", _, _, false, rfl, ClsV.ty "str", .base (.bl z), kit_ty (by decide +kernel), false, rfl, iteF ?_⟩
    refine ⟨_, rfl, .bl z, .ty "int", _, _, true, rfl, ClsV.ty "int", .base (.bl z), kit_ty (by decide +kernel), true, rfl, iteT ?_⟩
    refine ⟨_, rfl, .bl z, .ty "bool", _, _, true, rfl, ClsV.ty "bool", .base (.bl z), kit_ty (by decide +kernel), _, rfl, .bl z, .ty "bool", _, _, true, rfl, ClsV.ty "bool", .base (.bl z), kit_ty (by decide +kernel), rfl, true, rfl, iteT ?_⟩
    refine ⟨_, rfl, _, rfl, rfl, ?_⟩
    rw [decide_eq_true rfl]
    exact k _ (same_new htp)
  | int z =>
    cases hv
    cases hu
    refine ⟨_, rfl, .int z, .ty "dict", _, _, false, rfl, ClsV.ty "dict", .base (.int z), kit_ty (by decide +kernel), false, rfl, iteF ?_⟩
    refine ⟨_, rfl, by show 2 ≤ sizeLine; decide, fun tp htp => ⟨.int z, tp, _, _, _, false, rfl, upd_same, .cons (ClsV.ty "tuple") (.cons (ClsV.ty "list") .nil), .base (.int z), kitAny_cons (b := false) (kit_ty (by decide +kernel)) (fun _ => kitAny_cons (b := false) (kit_ty (by decide +kernel)) (fun _ => kitAny_nil) (fun z => nomatch z)) (fun z => nomatch z), false, rfl, iteF ?_⟩⟩
    refine ⟨_, rfl, rfl, _, rfl, iteF ?_⟩
    refine ⟨_, rfl, .int z, .ty "str", _, _, false, rfl, ClsV.ty "str", .base (.int z), kit_ty (by decide +kernel), false, rfl, iteF ?_⟩
    refine ⟨_, rfl, .int z, .ty "int", _, _, true, rfl, ClsV.ty "int", .base (.int z), kit_ty (by decide +kernel), true, rfl, iteT ?_⟩
    refine ⟨_, rfl, .int z, .ty "bool", _, _, false, rfl, ClsV.ty "bool", .base (.int z), kit_ty (by decide +kernel), _, rfl, .int z, .ty "bool", _, _, false, rfl, ClsV.ty "bool", .base (.int z), kit_ty (by decide +kernel), rfl, true, rfl, iteT ?_⟩
    refine ⟨_, rfl, _, rfl, rfl, ?_⟩
    rw [decide_eq_true rfl]
    exact k _ (same_new htp)
theorem ok_alikeS (n : Nat) (IH : FnR P w K mg base CX0 (n + 1) (a_law_alike K) (spAlike K n)) : FnR P w K mg base CX0 (n + 2) (a_law_alike K) (spAlike K (n + 1)) := by
  have Z := ok_alike0 (P := P) (w := w) (base := base) T
  intro A outer s H us vs Q E hr e0 rv hsp
  obtain ⟨v, u, d, rfl, hv, hu, hd, k⟩ := hsp
  rcases alike_low hd with hd0 | ⟨q, ds, m, en, rfl, hds, hl⟩
  · exact Z A outer s H us _ Q E (hr.mono (by omega)) e0 rv ⟨v, u, d, rfl, hv, hu, hd0, k⟩
  cases en
  obtain ⟨a, xs, rfl, hsa, hda⟩ := dp_seq hv
  obtain ⟨b, ys, rfl, hsb, hdb⟩ := dp_seq hu
  refine (fnR0 (sp := fun vs H Q _ => ∃ (a b : Addr) (xs ys : List V), vs = [.ref a, .ref b] ∧ SqQ K H q a xs ∧ DpAll K H xs ds ∧ SqQ K H q b ys ∧ DpAll K H ys ds ∧ ∀ H', Same H H' → Q (.bl true) H') (d := d_law_alike) T.F_law_alike sc_law_alike rfl (fun _ _ _ _ _ _ us hl => match us, hl with | [_, _], _ => rfl) (fun vs H Q E h => ?_) (fun cdv A outer s H vs Q E hr h => ?_)) A outer s H us _ Q E hr e0 rv ⟨a, b, xs, ys, rfl, hsa, hda, hsb, hdb, k⟩
  · obtain ⟨_, _, _, _, rfl, _⟩ := h
    rfl
  obtain ⟨a, b, xs, ys, rfl, hsa, hda, hsb, hdb, k⟩ := h
  refine ⟨_, pss_cons (ps_if (pt_val (pe_callB call_isi (by rfl) T.n_isinstance (by decide +kernel) (pa_cons (pv 1) (pa_cons (pe_bltn (v := .ty "dict") (u := .type "dict") rfl T.n_dict (by decide +kernel) rfl) pa_nil)))) pss_never pss_nil) (pss_cons (ps_if (pt_val (pe_callB call_isiT (by rfl) T.n_isinstance (by decide +kernel) (pa_cons (pv 1) (pa_cons (pe_tup (pa_cons (pe_bltn (v := .ty "tuple") (u := .type "tuple") rfl T.n_tuple (by decide +kernel) rfl) (pa_cons (pe_bltn (v := .ty "list") (u := .type "list") rfl T.n_list (by decide +kernel) rfl) pa_nil))) pa_nil)))) (pss_cons (ps_if (PW.pt (pw_or (pt_not (pt_val (pe_callB call_isiT (by rfl) T.n_isinstance (by decide +kernel) (pa_cons (pv 0) (pa_cons (pe_tup (pa_cons (pe_bltn (v := .ty "tuple") (u := .type "tuple") rfl T.n_tuple (by decide +kernel) rfl) (pa_cons (pe_bltn (v := .ty "list") (u := .type "list") rfl T.n_list (by decide +kernel) rfl) pa_nil))) pa_nil))))) (pw_or1 (pt_cmpR op_ne (pe_callB call_isi (by rfl) T.n_isinstance (by decide +kernel) (pa_cons (pv 0) (pa_cons (pe_bltn (v := .ty "list") (u := .type "list") rfl T.n_list (by decide +kernel) rfl) pa_nil))) (pe_callB call_isi (by rfl) T.n_isinstance (by decide +kernel) (pa_cons (pv 1) (pa_cons (pe_bltn (v := .ty "list") (u := .type "list") rfl T.n_list (by decide +kernel) rfl) pa_nil))) (nomark _))))) (pss_one (ps_ret pe_bl)) pss_nil) (pss_cons (ps_if (pt_cmpR op_ne (pe_callB call_len_seq (by rfl) T.n_len PySem.boot_len (pa_cons (pv 0) pa_nil)) (pe_callB call_len_seq (by rfl) T.n_len PySem.boot_len (pa_cons (pv 1) pa_nil)) (nomark _)) (pss_one (ps_ret pe_bl)) pss_nil) (pss_one (ps_ret (pe_cmpR (op_eqD hr.units) (pe_lc (own := [("_law_k", 2)]) rfl sc_law_alike.nd (pi_range1 rfl T.n_range (pa_cons (pe_callB call_len_seq (by rfl) T.n_len PySem.boot_len (pa_cons (pv 1) pa_nil)) pa_nil)) (blkOk_by (own := [("_law_k", 2)]) (N := N_law_alike) (sc := defScope s_law_alike) (by decide +kernel)) (fun _ _ _ _ _ => (pg_name (i := 2) sc_law_alike.nd rfl (Or.inl rfl) (.inr rfl))) (fun _ _ _ _ _ => (pts_one (pt_not (pt_val (pe_cR IH hr T.F_law_alike.kp T.g_law_alike pass0 (pa_cons (pe_ix (ix_seqK (K := K) rfl) (pv 0) (pv 2) (fun _ _ => rfl)) (pa_cons (pe_ix (ix_seqK (K := K) rfl) (pv 1) (pv 2) (fun _ _ => rfl)) pa_nil))))))) (fun _ _ _ _ _ => (pv 2))) (pe_lst pa_nil) (nomark _)))))) pss_nil) pss_never), ?_⟩
  have la := dps_len hda
  have lb := dps_len hdb
  refine ⟨_, rfl, .ref b, .ty "dict", _, _, false, rfl, ClsV.ty "dict", hsb.ty, kitD q, false, rfl, iteF ?_⟩
  refine ⟨_, rfl, by show 2 ≤ sizeLine; decide, fun t1 h1 => ⟨.ref b, t1, _, _, _, true, rfl, upd_same, .cons (ClsV.ty "tuple") (.cons (ClsV.ty "list") .nil), (hsb.mono (same_new h1)).ty, isTL q, true, rfl, iteT ?_⟩⟩
  have s1 : Same H (upd H t1 (.tup [.ty "tuple", .ty "list"])) := same_new h1
  generalize upd H t1 (.tup [.ty "tuple", .ty "list"]) = H1 at s1
  refine ⟨_, rfl, by show 2 ≤ sizeLine; decide, fun t2 h2 => ⟨.ref a, t2, _, _, _, true, rfl, upd_same, .cons (ClsV.ty "tuple") (.cons (ClsV.ty "list") .nil), (hsa.mono (s1.trans (same_new h2))).ty, isTL q, true, rfl, iteF ?_⟩⟩
  have s2 : Same H (upd H1 t2 (.tup [.ty "tuple", .ty "list"])) := s1.trans (same_new h2)
  generalize upd H1 t2 (.tup [.ty "tuple", .ty "list"]) = H2 at s2
  refine ⟨_, rfl, .ref a, .ty "list", _, _, q, rfl, ClsV.ty "list", (hsa.mono s2).ty, kitL q, _, rfl, .ref b, .ty "list", _, _, q, rfl, ClsV.ty "list", (hsb.mono s2).ty, kitL q, rfl, _, rfl, ?_⟩
  rw [decide_eq_true rfl]
  refine iteF ?_
  refine ⟨_, rfl, a, _, rfl, (hsa.mono s2).or, _, rfl, b, _, rfl, (hsb.mono s2).or, rfl, _, rfl, ?_⟩
  rw [la, lb, decide_eq_true rfl]
  refine iteF ?_
  -- the items
  refine ⟨_, rfl, b, _, rfl, (hsb.mono s2).or, _, rfl, ?_, ?_, fun D hD => ?_⟩
  · have h62 : (10000 : Int) < 2 ^ 62 := by decide
    rw [lb]
    omega
  · have h62 : (10000 : Int) < 2 ^ 62 := by decide
    rw [lb]
    omega
  refine lc_range (lo := 0) (n := ((ys.length : Nat) : Int).toNat) (fun i H3 => Same H2 H3 ∧ H3 D = some (.lst [])) ⟨same_new hD, upd_same⟩ ?_ ?_
  · rintro i H3 hi ⟨s3, e3⟩
    have hi2 : i < ds.length := by omega
    obtain ⟨v1, d1, ev, _, dv, ed⟩ := dps_at hda hi2
    obtain ⟨v2, d2, eu, hm, du, ed2⟩ := dps_at hdb hi2
    rw [ed] at ed2
    cases ed2
    have s23 := s2.trans s3
    refine ⟨rfl, _, rfl, _, rfl, (hsa.mono s23).ix (at_of (Int.zero_add _) ev) ?_⟩
    refine ⟨_, rfl, _, rfl, (hsb.mono s23).ix (at_of (Int.zero_add _) eu) ?_⟩
    exact ⟨v1, v2, d1, rfl, dp_mono s23 dv, dp_mono s23 du, hds _ hm, fun H4 s4 => ⟨true, rfl, iteF ⟨s3.trans s4, s4 _ _ e3⟩⟩⟩
  rintro H3 ⟨s3, e3⟩
  refine ⟨Nat.zero_le _, fun E2 hE2 => ?_⟩
  exact ⟨.list [], .list [], Dp.lst (SqL.of (upd_old e3 hE2)) .nil, Dp.lst (SqL.of upd_same) .nil, shapedN, shapedN, k _ (s2.trans (s3.trans (same_new hE2)))⟩
theorem ok_law_alike : FnR P w K mg base CX0 5 (a_law_alike K) (spAlike K 4) := ok_alikeS T 3 (ok_alikeS T 2 (ok_alikeS T 1 (ok_alikeS T 0 (ok_alike0 T))))
end
end EB

namespace EB
/-! ### two offers -/
noncomputable def slk (c1 c2 : Nat → Int) (n : Nat) : Int := T c1 (D c2 n) - n
def spanN (P1 P2 B2 : Nat) : Nat := Nat.lcm P1 P2 / P2 * B2
def fallI (P1 B1 P2 B2 : Nat) : Int := (spanN P1 P2 B2 : Nat) - (Nat.lcm P1 P2 / P1 * B1 : Nat)
namespace CF
variable {c1 c2 : Nat → Int} {P1 B1 P2 B2 : Nat}
theorem slk_iff (h1 : CF c1 P1 B1) (n : Nat) : 0 ≤ slk c1 c2 n ↔ D c1 n ≤ D c2 n := by
  unfold slk
  rw [h1.D_le_iff]
  omega
theorem T_le {c : Nat → Int} {P B : Nat} (h : CF c P B) (d : Nat) : T c d ≤ d := by
  obtain ⟨j, hj, e⟩ := CF.T_at c d
  have := h.le_self j
  omega
theorem lcm_a (h1 : CF c1 P1 B1) : Nat.lcm P1 P2 / P1 * P1 = Nat.lcm P1 P2 := Nat.div_mul_cancel (Nat.dvd_lcm_left ..)
theorem lcm_b (h1 : CF c1 P1 B1) : Nat.lcm P1 P2 / P2 * P2 = Nat.lcm P1 P2 := Nat.div_mul_cancel (Nat.dvd_lcm_right ..)
theorem span_pos (h1 : CF c1 P1 B1) (h2 : CF c2 P2 B2) : 0 < spanN P1 P2 B2 := by
  have h3 := Nat.lcm_pos h1.ppos h2.ppos
  have h4 := h1.lcm_b (P2 := P2)
  unfold spanN
  apply Nat.mul_pos _ h2.bpos
  rcases Nat.eq_zero_or_pos (Nat.lcm P1 P2 / P2) with z | z
  · rw [z, Nat.zero_mul] at h4
    omega
  · exact z
theorem span_le (h1 : CF c1 P1 B1) (hb : B2 ≤ P2) : spanN P1 P2 B2 ≤ P1 * P2 := by
  have h4 := h1.lcm_b (P2 := P2)
  have h5 : Nat.lcm P1 P2 ≤ P1 * P2 := Nat.div_le_self _ _
  have h6 := Nat.mul_le_mul_left (Nat.lcm P1 P2 / P2) hb
  unfold spanN
  omega
/-- drinks of the second one repeat by the span -/
theorem D_span2 (h1 : CF c1 P1 B1) (h2 : CF c2 P2 B2) {n : Nat} (hn : P2 ≤ n) : D c2 (n + spanN P1 P2 B2) = D c2 n + Nat.lcm P1 P2 := by
  have h3 := h2.T_le (P2 - 1)
  have h4 := h2.D_perk (n := n) (by have := h2.ppos; omega) (Nat.lcm P1 P2 / P2)
  rw [h1.lcm_b] at h4
  exact h4
/-- drinks of the first one repeat by its span -/
theorem D_span1 (h1 : CF c1 P1 B1) (h2 : CF c2 P2 B2) {n : Nat} (hn : P1 ≤ n) : D c1 (n + Nat.lcm P1 P2 / P1 * B1) = D c1 n + Nat.lcm P1 P2 := by
  have h3 := h1.T_le (P1 - 1)
  have h4 := h1.D_perk (n := n) (by have := h1.ppos; omega) (Nat.lcm P1 P2 / P1)
  rw [h1.lcm_a] at h4
  exact h4
theorem slk_per (h1 : CF c1 P1 B1) (h2 : CF c2 P2 B2) {n : Nat} (hn : P1 + P2 ≤ n) : slk c1 c2 (n + spanN P1 P2 B2) = slk c1 c2 n - fallI P1 B1 P2 B2 := by
  have h3 := h1.D_span2 h2 (n := n) (by omega)
  have h4 := h2.D_ge n
  have h5 := h1.T_perk (d := D c2 n) (by omega) (Nat.lcm P1 P2 / P1)
  rw [h1.lcm_a] at h5
  unfold slk fallI
  rw [h3, h5]
  push_cast
  omega
theorem slk_perk (h1 : CF c1 P1 B1) (h2 : CF c2 P2 B2) {n : Nat} (hn : P1 + P2 ≤ n) : ∀ k : Nat, slk c1 c2 (n + k * spanN P1 P2 B2) = slk c1 c2 n - k * fallI P1 B1 P2 B2
  | 0 => by simp
  | k + 1 => by
    have h3 := slk_perk h1 h2 hn k
    have h4 := h1.slk_per h2 (n := n + k * spanN P1 P2 B2) (by omega)
    rw [Nat.succ_mul, ← Nat.add_assoc, h4, h3]
    push_cast
    rw [Int.add_mul]
    omega
/-- every number is one of the first, or one of those of one span after the start and some spans more -/
theorem reduce {S W : Nat} (hW : 0 < W) (n : Nat) : n < S + W ∨ ∃ m k : Nat, S ≤ m ∧ m < S + W ∧ n = m + k * W := by
  rcases Nat.lt_or_ge n (S + W) with h | h
  · exact .inl h
  · refine .inr ⟨S + (n - S) % W, (n - S) / W, by omega, by have := Nat.mod_lt (n - S) hW; omega, ?_⟩
    have := Nat.mod_add_div (n - S) W
    rw [Nat.mul_comm] at this
    omega
theorem never (h1 : CF c1 P1 B1) (h2 : CF c2 P2 B2) : (∀ n, D c1 n ≤ D c2 n) ↔ ¬ 0 < fallI P1 B1 P2 B2 ∧ ∀ n, n < P1 + P2 + spanN P1 P2 B2 → 0 ≤ slk c1 c2 n := by
  constructor
  · intro h
    refine ⟨fun z => ?_, fun n _ => (h1.slk_iff n).mpr (h n)⟩
    have h3 := h1.slk_perk h2 (n := P1 + P2) (Nat.le_refl _) ((slk c1 c2 (P1 + P2)).toNat + 1)
    have h4 := (h1.slk_iff (c2 := c2) (P1 + P2 + ((slk c1 c2 (P1 + P2)).toNat + 1) * spanN P1 P2 B2)).mpr (h _)
    have h5 := (h1.slk_iff (c2 := c2) (P1 + P2)).mpr (h _)
    rw [h3] at h4
    generalize slk c1 c2 (P1 + P2) = u at h4 h5
    have h6 : ((u.toNat + 1 : Nat) : Int) * 1 ≤ ((u.toNat + 1 : Nat) : Int) * fallI P1 B1 P2 B2 := Int.mul_le_mul_of_nonneg_left (by omega) (by omega)
    omega
  · rintro ⟨hf, h⟩ n
    apply (h1.slk_iff n).mp
    rcases reduce (S := P1 + P2) (h1.span_pos h2) n with z | ⟨m, k, hm, hm2, rfl⟩
    · exact h n z
    · rw [h1.slk_perk h2 hm]
      have h3 := h m hm2
      have h6 : (k : Int) * fallI P1 B1 P2 B2 ≤ (k : Int) * 0 := Int.mul_le_mul_of_nonneg_left (by omega) (by omega)
      omega
theorem D_inj {c : Nat → Int} {P B : Nat} (h : CF c P B) {n m : Nat} (e : D c n = D c m) : n = m := by
  rcases Nat.lt_trichotomy n m with z | z | z
  · have := h.D_lt z
    omega
  · exact z
  · have := h.D_lt z
    omega
theorem same (h1 : CF c1 P1 B1) (h2 : CF c2 P2 B2) (h : ∀ n, n < P1 + P2 + spanN P1 P2 B2 → D c1 n = D c2 n) (n : Nat) : D c1 n = D c2 n := by
  have p1 := h1.ppos
  have p2 := h2.ppos
  have key : Nat.lcm P1 P2 / P1 * B1 = spanN P1 P2 B2 := by
    have e1 := h1.D_span2 h2 (n := max P1 P2) (by omega)
    have e2 := h1.D_span1 h2 (n := max P1 P2) (by omega)
    have e3 := h (max P1 P2) (by omega)
    have e4 := h (max P1 P2 + spanN P1 P2 B2) (by omega)
    have := h1.D_inj (show D c1 (max P1 P2 + Nat.lcm P1 P2 / P1 * B1) = D c1 (max P1 P2 + spanN P1 P2 B2) by omega)
    omega
  have per : ∀ k m : Nat, P1 + P2 ≤ m → D c1 m = D c2 m → D c1 (m + k * spanN P1 P2 B2) = D c2 (m + k * spanN P1 P2 B2) := by
    intro k
    induction k with
    | zero =>
      intro m hm e
      rw [Nat.zero_mul, Nat.add_zero]
      exact e
    | succ k ih =>
      intro m hm e
      have e1 := h1.D_span2 h2 (n := m + k * spanN P1 P2 B2) (by omega)
      have e2 := h1.D_span1 h2 (n := m + k * spanN P1 P2 B2) (by omega)
      have e3 := ih m hm e
      rw [key] at e2
      rw [Nat.succ_mul, ← Nat.add_assoc]
      omega
  rcases reduce (S := P1 + P2) (h1.span_pos h2) n with z | ⟨m, k, hm, hm2, rfl⟩
  · exact h n z
  · exact per k m hm (h m hm2)
end CF
end EB

namespace EB
open PySem PySem.Spec PyProof.Rows L2
section
variable {P : Program} {w : World} {K : PySem.W.Frag} {mg : Str → Option Value} {base : Heap} (T : Tx K mg)
include T
def spMost (K : PySem.W.Frag) : Sp := fun vs H Q _ => ∃ (a : Addr) (ts : List Tr) (d : Nat), vs = [.ref a, .int (d : Nat)] ∧ OfAt K H a ts ∧ Fair ts ∧ Q (.int (EB.T (cN ts) d)) H
theorem ok_Offer_most_within : FnR P w K mg base CX0 2 (a_Offer_most_within K) (spMost K) := by
  refine fnR0 (d := d_Offer_most_within) T.F_Offer_most_within sc_Offer_most_within rfl (fun _ _ _ _ _ _ us hl => match us, hl with | [_, _], _ => rfl) (fun vs H Q E h => ?_) (fun cdv A outer s H vs Q E hr h => ?_)
  · obtain ⟨a, ts, n, rfl, _⟩ := h
    rfl
  obtain ⟨a, ts, n, rfl, ho, hf, k⟩ := h
  obtain ⟨dx, t, p, o, f, g, e1, e2, e3, e4, e5, e6⟩ := ho.ex
  refine ⟨_, (pss_cons (ps_asg (pe_fld (pv 0) rfl) (pg_tup rfl (pgs_cons (pg_name (i := 2) sc_Offer_most_within.nd rfl (Or.inl rfl)) (pgs_cons (pg_name (i := 3) sc_Offer_most_within.nd rfl (Or.inl rfl)) pgs_nil)))) (pss_one (ps_ret (pe_cR (ok_value_at T) (hr.mono (by decide)) T.F_value_at.kp T.g_value_at pass0 (pa_cons (pe_fld (pv 0) rfl) (pa_cons (pv 1) (pa_cons (pv 3) (pa_cons (pv 2) pa_nil)))))))), ?_⟩
  refine ⟨_, rfl, a, _, dx, _, _, rfl, e1, T.k_Offer, T.na_period, lk_period, p, _, rfl, e3, rfl, _, _, rfl, _, _, rfl, rfl, ?_⟩
  refine ⟨_, rfl, a, _, dx, _, _, rfl, e1, T.k_Offer, T.na_tops, lk_tops, _, rfl, _, rfl, _, rfl, o, topsL ts, n, per ts, perB ts, rfl, e4, by omega, ?_, ?_, ?_, ?_, ?_, ?_⟩
  all_goals have hp := per_le' hf.g
  all_goals have hb := (cf hf).bpos
  all_goals have hB := perB_le hf
  all_goals have hP := per_pos hf.g
  · omega
  · omega
  · omega
  · omega
  · rw [List.length_map, List.length_range]
    omega
  · rw [value_tops (cf hf)]
    exact k
end
end EB

namespace EB
open PySem PySem.Spec PyProof.Rows L2
section
variable {P : Program} {w : World} {K : PySem.W.Frag} {mg : Str → Option Value} {base : Heap} (T : Tx K mg)
theorem bnd0 {d : DD} {fd : FuncData} {N ps : List Str} (F : FnP K d fd) (S : FnScope N ps (defScope d.st)) (e : d.df = [])
    (b : ∀ (kV doc pm : Value) (an : Option Addr) (cdv ct : Value) (us : List Value), us.length = ps.length → bindArgs (PySem.W.fnOf d.nm d.ql (defArgs d.st) (defBody d.st) (defScope d.st) .none kV doc pm an cdv ct) ⟨us, []⟩ = pure (ps.zip us)) : Binds K fd ps [] := by
  have F2 : FunD K d.nm d.ql (defArgs d.st) (defBody d.st) (defScope d.st) [] [] (d.adr K) fd := by
    have z : FnP K d fd := F
    unfold FnP at z
    rw [e] at z
    exact z
  exact F2.bindsN b
include T
theorem b_Offer_period : Binds K T.fd_Offer_period ["self"] [] := bnd0 T.F_Offer_period sc_Offer_period rfl (fun _ _ _ _ _ _ us hl => match us, hl with | [_], _ => rfl)
def spPeriod (K : PySem.W.Frag) : Sp := fun vs H Q _ => ∃ (a : Addr) (ts : List Tr), vs = [.ref a] ∧ OfAt K H a ts ∧ ∀ p, SqT K H p [.int (perB ts : Nat), .int (per ts : Nat)] → Q (.ref p) H
theorem ok_Offer_period : FnOk P w K mg base CX0 1 (a_Offer_period K) T.fd_Offer_period ["self"] (spPeriod K) := by
  refine fnK0 (d := d_Offer_period) T.F_Offer_period sc_Offer_period (fun vs H Q E h => ?_) (fun cdv A outer s H vs Q E hr h => ?_)
  · obtain ⟨a, ts, rfl, _⟩ := h
    rfl
  obtain ⟨a, ts, rfl, ho, k⟩ := h
  obtain ⟨dx, t, p, o, f, g, e1, e2, e3, e4, e5, e6⟩ := ho.ex
  refine ⟨_, (pss_one (ps_ret (pe_fld (pv 0) rfl))), ?_⟩
  exact ⟨_, rfl, a, _, dx, _, _, rfl, e1, T.k_Offer, T.na_period, lk_period, k _ e3⟩
end
end EB

namespace EB
open PySem PySem.Spec PyProof.Rows L2
section
variable {P : Program} {w : World} {K : PySem.W.Frag} {mg : Str → Option Value} {base : Heap} (T : Tx K mg)
include T
theorem b_Offer_steady_from : Binds K T.fd_Offer_steady_from ["self"] [] := bnd0 T.F_Offer_steady_from sc_Offer_steady_from rfl (fun _ _ _ _ _ _ us hl => match us, hl with | [_], _ => rfl)
def spSteady (K : PySem.W.Frag) : Sp := fun vs H Q _ => ∃ (a : Addr) (ts : List Tr), vs = [.ref a] ∧ OfAt K H a ts ∧ Fair ts ∧ Q (.int (EB.T (cN ts) (per ts - 1) + 1 - perB ts)) H
theorem ok_Offer_steady_from : FnOk P w K mg base CX0 1 (a_Offer_steady_from K) T.fd_Offer_steady_from ["self"] (spSteady K) := by
  refine fnK0 (d := d_Offer_steady_from) T.F_Offer_steady_from sc_Offer_steady_from (fun vs H Q E h => ?_) (fun cdv A outer s H vs Q E hr h => ?_)
  · obtain ⟨a, ts, rfl, _⟩ := h
    rfl
  obtain ⟨a, ts, rfl, ho, hf, k⟩ := h
  obtain ⟨dx, t, p, o, f, g, e1, e2, e3, e4, e5, e6⟩ := ho.ex
  refine ⟨_, (pss_cons (ps_asg (pe_fld (pv 0) rfl) (pg_tup rfl (pgs_cons (pg_name (i := 1) sc_Offer_steady_from.nd rfl (Or.inl rfl)) (pgs_cons (pg_name (i := 2) sc_Offer_steady_from.nd rfl (Or.inl rfl)) pgs_nil)))) (pss_one (ps_ret (pe_op op_sub (pe_op op_add (pe_ix ix_list (pe_fld (pv 0) rfl) (pe_op op_sub (pv 2) pe_int) (fun _ _ => rfl)) pe_int) (pv 1))))), ?_⟩
  have hp := per_pos hf.g
  refine ⟨_, rfl, a, _, dx, _, _, rfl, e1, T.k_Offer, T.na_period, lk_period, p, _, rfl, e3, rfl, _, _, rfl, _, _, rfl, rfl, ?_⟩
  refine ⟨_, rfl, a, _, dx, _, _, rfl, e1, T.k_Offer, T.na_tops, lk_tops, _, rfl, _, _, rfl, rfl, o, _, _, _, rfl, rfl, e4, ?_, _, _, rfl, rfl, _, rfl, _, _, rfl, rfl, k⟩
  refine at_of (j := per ts - 1) (by omega) ?_
  rw [List.getElem?_map, List.getElem?_map, List.getElem?_range (by omega)]
  rfl
end
end EB

namespace EB
open PySem PySem.Spec PyProof.Rows L2
section
variable {P : Program} {w : World} {K : PySem.W.Frag} {mg : Str → Option Value} {base : Heap} (T : Tx K mg)
include T
noncomputable abbrev slkT (ts us : List Tr) (n : Nat) : Int := slk (cN ts) (cN us) n
abbrev spanT (ts us : List Tr) : Nat := spanN (per ts) (per us) (perB us)
abbrev fallT (ts us : List Tr) : Int := fallI (per ts) (perB ts) (per us) (perB us)
def spSlack (K : PySem.W.Frag) : Sp := fun vs H Q _ => ∃ (a b : Addr) (ts us : List Tr) (n : Nat), vs = [.ref a, .ref b, .int (n : Nat)] ∧ OfAt K H a ts ∧ Fair ts ∧ OfAt K H b us ∧ Fair us ∧ Q (.int (slkT ts us n)) H
theorem ok_slack : FnR P w K mg base CX0 3 (a_slack K) (spSlack K) := by
  refine fnR0 (d := d_slack) T.F_slack sc_slack rfl (fun _ _ _ _ _ _ us hl => match us, hl with | [_, _, _], _ => rfl) (fun vs H Q E h => ?_) (fun cdv A outer s H vs Q E hr h => ?_)
  · obtain ⟨a, b, ts, us, n, rfl, _⟩ := h
    rfl
  obtain ⟨a, b, ts, us, n, rfl, ho, hf, ho2, hf2, k⟩ := h
  obtain ⟨dx, t, p, o, f, g, e1, _⟩ := ho.ex
  obtain ⟨dx2, t2, p2, o2, f2, g2, e2, _⟩ := ho2.ex
  refine ⟨_, (pss_one (ps_ret (pe_op op_sub (pe_methR (pv 0) T.k_Offer T.m_Offer_most_within (ok_Offer_most_within T) (hr.mono (by decide)) pass0 (pa_cons (pe_methR (pv 1) T.k_Offer T.m_Offer_drinks_for (ok_Offer_drinks_for T) (hr.mono (by decide)) pass0 (pa_cons (pv 2) pa_nil)) pa_nil)) (pv 2)))), ?_⟩
  exact ⟨_, rfl, a, dx, _, rfl, e1, lk_no (by decide +kernel), _, rfl, b, dx2, _, rfl, e2, lk_no (by decide +kernel), _, rfl, b, us, n, rfl, ho2, hf2, a, ts, D (cN us) n, rfl, ho, hf, _, rfl, _, _, rfl, rfl, k⟩
def spRep (K : PySem.W.Frag) : Sp := fun vs H Q _ => ∃ (a b : Addr) (ts us : List Tr), vs = [.ref a, .ref b] ∧ OfAt K H a ts ∧ Fair ts ∧ OfAt K H b us ∧ Fair us ∧ ∀ p H', Same H H' → SqT K H' p [.int ((per ts + per us : Nat) : Int), .int (spanT ts us : Nat), .int (fallT ts us)] → Q (.ref p) H'
theorem ok_repetition : FnR P w K mg base CX0 3 (a_repetition K) (spRep K) := by
  refine fnR0 (d := d_repetition) T.F_repetition sc_repetition rfl (fun _ _ _ _ _ _ us hl => match us, hl with | [_, _], _ => rfl) (fun vs H Q E h => ?_) (fun cdv A outer s H vs Q E hr h => ?_)
  · obtain ⟨a, b, ts, us, rfl, _⟩ := h
    rfl
  obtain ⟨a, b, ts, us, rfl, ho, hf, ho2, hf2, k⟩ := h
  obtain ⟨dx, t, p, o, f, g, e1, _⟩ := ho.ex
  obtain ⟨dx2, t2, p2, o2, f2, g2, e2, _⟩ := ho2.ex
  have hp := per_le' hf.g
  have hp2 := per_le' hf2.g
  have hq := per_pos hf.g
  have hq2 := per_pos hf2.g
  have hb := perB_le hf
  have hb2 := perB_le hf2
  refine ⟨_, (pss_cons (ps_asg (pe_prop (pv 0) T.k_Offer T.p_Offer_period (ok_Offer_period T) (hr.mono (by decide)) (b_Offer_period T) .nil pass0 rfl) (pg_tup rfl (pgs_cons (pg_name (i := 2) sc_repetition.nd rfl (Or.inl rfl)) (pgs_cons (pg_name (i := 3) sc_repetition.nd rfl (Or.inl rfl)) pgs_nil)))) (pss_cons (ps_asg (pe_prop (pv 1) T.k_Offer T.p_Offer_period (ok_Offer_period T) (hr.mono (by decide)) (b_Offer_period T) .nil pass0 rfl) (pg_tup rfl (pgs_cons (pg_name (i := 4) sc_repetition.nd rfl (Or.inl rfl)) (pgs_cons (pg_name (i := 5) sc_repetition.nd rfl (Or.inl rfl)) pgs_nil)))) (pss_cons (ps_set (i := 6) sc_repetition.nd rfl (Or.inl rfl) (pe_callBfun cr_lcm (by rfl) T.b_lcm (pa_cons (pv 3) (pa_cons (pv 5) pa_nil)))) (pss_cons (ps_set (i := 7) sc_repetition.nd rfl (Or.inl rfl) (pe_op op_mul (pe_op op_fdiv (pv 6) (pv 5)) (pv 4))) (pss_cons (ps_set (i := 8) sc_repetition.nd rfl (Or.inl rfl) (pe_op op_sub (pv 7) (pe_op op_mul (pe_op op_fdiv (pv 6) (pv 3)) (pv 2)))) (pss_one (ps_ret (pe_tup (pa_cons (pe_op op_add (pv 3) (pv 5)) (pa_cons (pv 7) (pa_cons (pv 8) pa_nil))))))))))), ?_⟩
  refine ⟨_, rfl, a, dx, _, rfl, e1, a, ts, rfl, ho, fun q hq1 => ⟨q, _, rfl, hq1, rfl, _, _, rfl, _, _, rfl, rfl, ?_⟩⟩
  refine ⟨_, rfl, b, dx2, _, rfl, e2, b, us, rfl, ho2, fun q2 hq3 => ⟨q2, _, rfl, hq3, rfl, _, _, rfl, _, _, rfl, rfl, ?_⟩⟩
  refine ⟨_, rfl, _, rfl, _, _, rfl, by omega, by omega, ?_⟩
  refine ⟨_, rfl, _, rfl, _, _, rfl, rfl, ⟨by omega, by omega⟩, _, rfl, _, _, rfl, rfl, .inr ⟨by omega, by omega⟩, ?_⟩
  refine ⟨_, rfl, _, rfl, _, rfl, _, _, rfl, rfl, ⟨by omega, by omega⟩, _, rfl, _, _, rfl, rfl, .inr ⟨by omega, by omega⟩, _, _, rfl, rfl, ?_⟩
  refine ⟨_, rfl, _, rfl, _, _, rfl, rfl, _, rfl, _, rfl, by show 3 ≤ sizeLine; decide, fun q3 hq4 => k _ _ (same_new hq4) (SqT.of upd_same)⟩
def spNever (K : PySem.W.Frag) : Sp := fun vs H Q _ => ∃ (a b : Addr) (ts us : List Tr), vs = [.ref a, .ref b] ∧ OfAt K H a ts ∧ Fair ts ∧ OfAt K H b us ∧ Fair us ∧ ∀ H' (x : Bool), Same H H' → (x = true ↔ ∀ n, D (cN ts) n ≤ D (cN us) n) → Q (.bl x) H'
theorem ok_never_more : FnR P w K mg base CX0 4 (a_never_more K) (spNever K) := by
  refine fnR0 (d := d_never_more) T.F_never_more sc_never_more rfl (fun _ _ _ _ _ _ us hl => match us, hl with | [_, _], _ => rfl) (fun vs H Q E h => ?_) (fun cdv A outer s H vs Q E hr h => ?_)
  · obtain ⟨a, b, ts, us, rfl, _⟩ := h
    rfl
  obtain ⟨a, b, ts, us, rfl, ho, hf, ho2, hf2, k⟩ := h
  have hp := per_le' hf.g
  have hp2 := per_le' hf2.g
  refine ⟨_, (pss_cons (ps_asg (pe_cR (ok_repetition T) (hr.mono (by decide)) T.F_repetition.kp T.g_repetition pass0 (pa_cons (pv 0) (pa_cons (pv 1) pa_nil))) (pg_tup rfl (pgs_cons (pg_name (i := 2) sc_never_more.nd rfl (Or.inl rfl)) (pgs_cons (pg_name (i := 3) sc_never_more.nd rfl (Or.inl rfl)) (pgs_cons (pg_name (i := 4) sc_never_more.nd rfl (Or.inl rfl)) pgs_nil))))) (pss_cons (ps_if (pt_cmpR op_gt (pv 4) pe_int (nomark _)) (pss_one (ps_ret pe_bl)) pss_nil) (pss_one (ps_ret (pe_callB (cr_all rfl) (by rfl) T.n_all (by decide +kernel) (pa_cons (pe_lc (own := [("bottles", 5)]) rfl sc_never_more.nd (pi_range1 rfl T.n_range (pa_cons (pe_op op_add (pv 2) (pv 3)) pa_nil)) (blkOk_by (own := [("bottles", 5)]) (N := N_never_more) (sc := defScope s_never_more) (by decide +kernel)) (fun _ _ _ _ _ => (pg_name (i := 5) sc_never_more.nd rfl (Or.inl rfl) (.inr rfl))) (fun _ _ _ _ _ => pts_nil) (fun _ _ _ _ _ => (pe_cmpR op_ge (pe_cR (ok_slack T) (hr.mono (by decide)) T.F_slack.kp T.g_slack pass0 (pa_cons (pv 0) (pa_cons (pv 1) (pa_cons (pv 5) pa_nil)))) pe_int (nomark _)))) pa_nil)))))), ?_⟩
  refine ⟨_, rfl, _, rfl, a, b, ts, us, rfl, ho, hf, ho2, hf2, fun p H1 s1 hq => ⟨p, _, rfl, hq, rfl, _, _, rfl, _, _, rfl, _, _, rfl, rfl, ?_⟩⟩
  have hN : (∀ n, D (cN ts) n ≤ D (cN us) n) ↔ ¬ 0 < fallT ts us ∧ ∀ n, n < per ts + per us + spanT ts us → 0 ≤ slkT ts us n := (cf hf).never (cf hf2)
  refine ⟨_, rfl, _, _, rfl, rfl, _, rfl, ite2 (fun hd => ?_) (fun hd => ?_)⟩
  · have hd : 0 < fallT ts us := of_decide_eq_true hd
    exact k _ _ s1 ⟨(fun z => nomatch z), fun z => absurd hd (hN.mp z).1⟩
  have hd : ¬ 0 < fallT ts us := fun z => hd (decide_eq_true z)
  have hsp : spanT ts us ≤ 2985984 := Nat.le_trans ((cf hf).span_le (perB_le hf2)) (Nat.le_trans (Nat.mul_le_mul hp hp2) (by decide))
  refine ⟨_, rfl, _, rfl, _, _, rfl, rfl, _, rfl, ?_, ?_, fun W hW => ?_⟩
  · omega
  · have h62 : (10000000 : Int) < 2 ^ 62 := by decide
    omega
  refine lc_range (lo := 0) (n := (((per ts + per us : Nat) : Int) + (spanT ts us : Nat)).toNat) (fun i H2 => Same H1 H2 ∧ H2 W = some (.lst (((List.range i).map fun n => decide (0 ≤ slkT ts us n)).map V.bl))) ⟨same_new hW, upd_same⟩ ?_ ?_
  · rintro i H2 hi ⟨s2, e2⟩
    refine ⟨rfl, _, rfl, _, rfl, _, rfl, a, b, ts, us, i, by rw [Int.zero_add], ho.mono (s1.trans s2), hf, ho2.mono (s1.trans s2), hf2, _, _, rfl, rfl, ?_⟩
    refine ⟨_, e2, ?_, same_mut s2 hW, ?_⟩
    · rw [List.length_map, List.length_map, List.length_range]
      have : sizeLine = 16777216 := by decide
      omega
    · rw [upd_same, List.range_succ, List.map_append, List.map_append]
      rfl
  rintro H2 ⟨s2, e2⟩
  refine ⟨W, _, rfl, SqL.of e2, k _ _ (s1.trans s2) ?_⟩
  rw [List.all_eq_true, hN]
  constructor
  · intro h
    refine ⟨hd, fun n hn => ?_⟩
    exact of_decide_eq_true (h _ (List.mem_map.mpr ⟨n, List.mem_range.mpr (by omega), rfl⟩))
  · intro h x hx
    obtain ⟨n, hn, rfl⟩ := List.mem_map.mp hx
    have := List.mem_range.mp hn
    exact decide_eq_true (h.2 n (by omega))
/-- the first number for which two offers part -/
def Fst (ts us : List Tr) (v : V) : Prop := ((∀ n, D (cN ts) n = D (cN us) n) ∧ v = .non) ∨ ∃ n : Nat, D (cN ts) n ≠ D (cN us) n ∧ (∀ m, m < n → D (cN ts) m = D (cN us) m) ∧ v = .int (n : Nat)
def spFirst (K : PySem.W.Frag) : Sp := fun vs H Q _ => ∃ (a b : Addr) (ts us : List Tr), vs = [.ref a, .ref b] ∧ OfAt K H a ts ∧ Fair ts ∧ OfAt K H b us ∧ Fair us ∧ ∀ H' v, Same H H' → Fst ts us v → Q v H'
theorem ok_first_difference : FnR P w K mg base CX0 4 (a_first_difference K) (spFirst K) := by
  refine fnR0 (d := d_first_difference) T.F_first_difference sc_first_difference rfl (fun _ _ _ _ _ _ us hl => match us, hl with | [_, _], _ => rfl) (fun vs H Q E h => ?_) (fun cdv A outer s H vs Q E hr h => ?_)
  · obtain ⟨a, b, ts, us, rfl, _⟩ := h
    rfl
  obtain ⟨a, b, ts, us, rfl, ho, hf, ho2, hf2, k⟩ := h
  have k : ∀ H', Same H H' → ((∀ n, D (cN ts) n = D (cN us) n) → Q .non H') ∧ ∀ n, D (cN ts) n ≠ D (cN us) n → (∀ m, m < n → D (cN ts) m = D (cN us) m) → n < per ts + per us + spanT ts us → Q (.int (n : Nat)) H' := fun H' s => ⟨fun h => k H' _ s (.inl ⟨h, rfl⟩), fun n h1 h2 _ => k H' _ s (.inr ⟨n, h1, h2, rfl⟩)⟩
  have hp := per_le' hf.g
  have hp2 := per_le' hf2.g
  obtain ⟨dx, t, p, o, f, g, e1, _⟩ := ho.ex
  obtain ⟨dx2, t2, p2, o2, f2, g2, e2, _⟩ := ho2.ex
  refine ⟨_, (pss_cons (ps_asg (pe_cR (ok_repetition T) (hr.mono (by decide)) T.F_repetition.kp T.g_repetition pass0 (pa_cons (pv 0) (pa_cons (pv 1) pa_nil))) (pg_tup rfl (pgs_cons (pg_name (i := 2) sc_first_difference.nd rfl (Or.inl rfl)) (pgs_cons (pg_name (i := 3) sc_first_difference.nd rfl (Or.inl rfl)) (pgs_cons (pg_name (i := 4) sc_first_difference.nd rfl (Or.inl rfl)) pgs_nil))))) (pss_cons (ps_for PassesOwn.never rfl (pi_range1 rfl T.n_range (pa_cons (pe_op op_add (pv 2) (pv 3)) pa_nil)) (pg_name (i := 5) sc_first_difference.nd rfl (Or.inl rfl)) (pss_one (ps_if (pt_cmpR op_ne (pe_methR (pv 0) T.k_Offer T.m_Offer_drinks_for (ok_Offer_drinks_for T) (hr.mono (by decide)) pass0 (pa_cons (pv 5) pa_nil)) (pe_methR (pv 1) T.k_Offer T.m_Offer_drinks_for (ok_Offer_drinks_for T) (hr.mono (by decide)) pass0 (pa_cons (pv 5) pa_nil)) (nomark _)) (pss_one (ps_ret (pv 5))) pss_nil))) (pss_one (ps_ret pe_non)))), ?_⟩
  refine ⟨_, rfl, _, rfl, a, b, ts, us, rfl, ho, hf, ho2, hf2, fun p H1 s1 hq => ⟨p, _, rfl, hq, rfl, _, _, rfl, _, _, rfl, _, _, rfl, rfl, ?_⟩⟩
  have hsp : spanT ts us ≤ 2985984 := Nat.le_trans ((cf hf).span_le (perB_le hf2)) (Nat.le_trans (Nat.mul_le_mul hp hp2) (by decide))
  refine ⟨_, rfl, _, rfl, _, _, rfl, rfl, _, rfl, ?_, ?_, ?_⟩
  · omega
  · have h62 : (10000000 : Int) < 2 ^ 62 := by decide
    omega
  refine for_range (n := (((per ts + per us : Nat) : Int) + (spanT ts us : Nat)).toNat) (fun i σ H2 => H2 = H1 ∧ (∀ m, m < i → D (cN ts) m = D (cN us) m) ∧ ∃ x5, σ = [some (.ref a), some (.ref b), some (.int ((per ts + per us : Nat) : Int)), some (.int (spanT ts us : Nat)), some (.int (fallT ts us)), x5]) ⟨rfl, fun m hm => absurd hm (Nat.not_lt_zero _), _, rfl⟩ ?_ ?_
  · rintro i σ H2 hi ⟨rfl, hm, x5, rfl⟩
    have ei : (0 : Int) + (i : Int) = (i : Int) := Int.zero_add _
    refine ⟨_, rfl, a, dx, _, rfl, s1 _ _ e1, lk_no (by decide +kernel), _, rfl, a, ts, i, by rw [ei], ho.mono s1, hf, _, rfl, b, dx2, _, rfl, s1 _ _ e2, lk_no (by decide +kernel), _, rfl, b, us, i, by rw [ei], ho2.mono s1, hf2, rfl, _, rfl, ite2 (fun hd => ?_) (fun hd => ?_)⟩
    · refine ⟨_, rfl, ?_⟩
      rw [ei]
      refine (k _ s1).2 i (fun e => ?_) hm (by omega)
      have hd : (!decide (V.int (D (cN ts) i : Nat) = V.int (D (cN us) i : Nat))) = true := hd
      rw [decide_eq_true (by rw [e])] at hd
      cases hd
    · have hd : ¬ (!decide (V.int (D (cN ts) i : Nat) = V.int (D (cN us) i : Nat))) = true := hd
      refine ⟨rfl, fun m hm2 => ?_, _, rfl⟩
      rcases Nat.lt_or_ge m i with z | z
      · exact hm m z
      · have : m = i := by omega
        subst this
        rw [Bool.not_eq_true', Bool.not_eq_false, decide_eq_true_eq] at hd
        have := V.int.inj hd
        omega
  · rintro σ H2 ⟨rfl, hm, x5, rfl⟩
    refine (k _ s1).1 ?_
    refine (cf hf).same (cf hf2) fun n hn => hm n ?_
    have hn : n < per ts + per us + spanT ts us := hn
    omega
def spCmp (K : PySem.W.Frag) (r : Bool) (c : (Nat → Int) → (Nat → Int) → Prop) : Sp := fun vs H Q _ => ∃ (a b : Addr) (ts us : List Tr), vs = [.ref a, .ref b] ∧ OfAt K H a ts ∧ Fair ts ∧ OfAt K H b us ∧ Fair us ∧ ∀ H' (x : Bool), Same H H' → (x = true ↔ if r = true then c (cN us) (cN ts) else c (cN ts) (cN us)) → Q (.bl x) H'
def leC (c d : Nat → Int) : Prop := ∀ n, D c n ≤ D d n
def ltC (c d : Nat → Int) : Prop := (∀ n, D c n ≤ D d n) ∧ ∃ n, D c n < D d n
theorem ok_Offer_le : FnR P w K mg base CX0 5 (a_Offer_le K) (spCmp K false leC) := by
  refine fnR0 (d := d_Offer_le) T.F_Offer_le sc_Offer_le rfl (fun _ _ _ _ _ _ us hl => match us, hl with | [_, _], _ => rfl) (fun vs H Q E h => ?_) (fun cdv A outer s H vs Q E hr h => ?_)
  · obtain ⟨a, b, ts, us, rfl, _⟩ := h
    rfl
  obtain ⟨a, b, ts, us, rfl, ho, hf, ho2, hf2, k⟩ := h
  refine ⟨_, (pss_one (ps_ret (pe_cR (ok_never_more T) (hr.mono (by decide)) T.F_never_more.kp T.g_never_more pass0 (pa_cons (pv 0) (pa_cons (pv 1) pa_nil))))), ?_⟩
  exact ⟨_, rfl, _, rfl, a, b, ts, us, rfl, ho, hf, ho2, hf2, k⟩
theorem ok_Offer_ge : FnR P w K mg base CX0 5 (a_Offer_ge K) (spCmp K true leC) := by
  refine fnR0 (d := d_Offer_ge) T.F_Offer_ge sc_Offer_ge rfl (fun _ _ _ _ _ _ us hl => match us, hl with | [_, _], _ => rfl) (fun vs H Q E h => ?_) (fun cdv A outer s H vs Q E hr h => ?_)
  · obtain ⟨a, b, ts, us, rfl, _⟩ := h
    rfl
  obtain ⟨a, b, ts, us, rfl, ho, hf, ho2, hf2, k⟩ := h
  refine ⟨_, (pss_one (ps_ret (pe_cR (ok_never_more T) (hr.mono (by decide)) T.F_never_more.kp T.g_never_more pass0 (pa_cons (pv 1) (pa_cons (pv 0) pa_nil))))), ?_⟩
  exact ⟨_, rfl, _, rfl, b, a, us, ts, rfl, ho2, hf2, ho, hf, k⟩
theorem ok_Offer_lt : FnR P w K mg base CX0 5 (a_Offer_lt K) (spCmp K false ltC) := by
  refine fnR0 (d := d_Offer_lt) T.F_Offer_lt sc_Offer_lt rfl (fun _ _ _ _ _ _ us hl => match us, hl with | [_, _], _ => rfl) (fun vs H Q E h => ?_) (fun cdv A outer s H vs Q E hr h => ?_)
  · obtain ⟨a, b, ts, us, rfl, _⟩ := h
    rfl
  obtain ⟨a, b, ts, us, rfl, ho, hf, ho2, hf2, k⟩ := h
  refine ⟨_, (pss_one (ps_ret (pe_and (pe_cR (ok_never_more T) (hr.mono (by decide)) T.F_never_more.kp T.g_never_more pass0 (pa_cons (pv 0) (pa_cons (pv 1) pa_nil))) (pe_one (pe_cmpR op_notN (pe_cR (ok_first_difference T) (hr.mono (by decide)) T.F_first_difference.kp T.g_first_difference pass0 (pa_cons (pv 0) (pa_cons (pv 1) pa_nil))) pe_non (nomark _)))))), ?_⟩
  refine ⟨_, rfl, _, rfl, a, b, ts, us, rfl, ho, hf, ho2, hf2, fun H1 x s1 hx => ⟨x, rfl, ite2 (fun hd => ?_) (fun hd => ?_)⟩⟩
  · refine ⟨_, rfl, _, rfl, a, b, ts, us, rfl, ho.mono s1, hf, ho2.mono s1, hf2, fun H2 v s2 hv => ?_⟩
    rcases hv with ⟨heq, rfl⟩ | ⟨n, hne, hmin, rfl⟩
    · refine ⟨rfl, ?_⟩
      rw [decide_eq_true rfl]
      refine k _ _ (s1.trans s2) ⟨(fun z => nomatch z), fun z => ?_⟩
      obtain ⟨m, hm⟩ := z.2
      have := heq m
      omega
    · refine ⟨rfl, ?_⟩
      rw [decide_eq_false (fun z => nomatch z)]
      refine k _ _ (s1.trans s2) ⟨fun _ => ⟨hx.mp hd, n, ?_⟩, fun _ => rfl⟩
      have := hx.mp hd n
      omega
  · exact k _ _ s1 ⟨(fun z => nomatch z), fun z => absurd (hx.mpr z.1) hd⟩
theorem ok_Offer_gt : FnR P w K mg base CX0 5 (a_Offer_gt K) (spCmp K true ltC) := by
  refine fnR0 (d := d_Offer_gt) T.F_Offer_gt sc_Offer_gt rfl (fun _ _ _ _ _ _ us hl => match us, hl with | [_, _], _ => rfl) (fun vs H Q E h => ?_) (fun cdv A outer s H vs Q E hr h => ?_)
  · obtain ⟨a, b, ts, us, rfl, _⟩ := h
    rfl
  obtain ⟨a, b, ts, us, rfl, ho, hf, ho2, hf2, k⟩ := h
  refine ⟨_, (pss_one (ps_ret (pe_and (pe_cR (ok_never_more T) (hr.mono (by decide)) T.F_never_more.kp T.g_never_more pass0 (pa_cons (pv 1) (pa_cons (pv 0) pa_nil))) (pe_one (pe_cmpR op_notN (pe_cR (ok_first_difference T) (hr.mono (by decide)) T.F_first_difference.kp T.g_first_difference pass0 (pa_cons (pv 0) (pa_cons (pv 1) pa_nil))) pe_non (nomark _)))))), ?_⟩
  refine ⟨_, rfl, _, rfl, b, a, us, ts, rfl, ho2, hf2, ho, hf, fun H1 x s1 hx => ⟨x, rfl, ite2 (fun hd => ?_) (fun hd => ?_)⟩⟩
  · refine ⟨_, rfl, _, rfl, a, b, ts, us, rfl, ho.mono s1, hf, ho2.mono s1, hf2, fun H2 v s2 hv => ?_⟩
    rcases hv with ⟨heq, rfl⟩ | ⟨n, hne, hmin, rfl⟩
    · refine ⟨rfl, ?_⟩
      rw [decide_eq_true rfl]
      refine k _ _ (s1.trans s2) ⟨(fun z => nomatch z), fun z => ?_⟩
      obtain ⟨m, hm⟩ := z.2
      have := heq m
      omega
    · refine ⟨rfl, ?_⟩
      rw [decide_eq_false (fun z => nomatch z)]
      refine k _ _ (s1.trans s2) ⟨fun _ => ⟨hx.mp hd, n, ?_⟩, fun _ => rfl⟩
      have := hx.mp hd n
      omega
  · exact k _ _ s1 ⟨(fun z => nomatch z), fun z => absurd (hx.mpr z.1) hd⟩
end
end EB

namespace EB
open PySem PySem.Spec PyProof.Rows L2
theorem OfAt.ins {K : PySem.W.Frag} {H : Hp} {a : Addr} {ts : List Tr} (o : OfAt K H a ts) : ∃ dx fs, H a = some (.ins (He.ga K "Offer") dx fs) ∧ ∀ m : Str, ((m == "_trades") || ((m == "_period") || ((m == "_tops") || ((m == "_firsts") || (m == "_gaps"))))) = false → fs.lookup m = none := by
  obtain ⟨dx, t, p, q, f, g, e1, _⟩ := o.ex
  exact ⟨dx, _, e1, fun m h => lk_no h⟩
theorem dps_snoc {K : PySem.W.Frag} {H : Hp} {v : V} {d : PyData} (h : Dp K H v d) : ∀ {vs : List V} {ds : List PyData}, DpAll K H vs ds → DpAll K H (vs ++ [v]) (ds ++ [d])
  | _, _, .nil => .cons h .nil
  | _, _, .cons a b => .cons a (dps_snoc h b)
theorem hid_mono {H H' : Hp} {x : Addr} (s : Same H H') : Same (hid H x) (hid H' x) := fun b o e => by
  by_cases h : b = x
  · rw [h, hid_x] at e
    cases e
  · rw [hid_ne h] at e ⊢
    exact s b o e
/-- one trade, read off the tuple of the trades -/
theorem TrAt.ix {K : PySem.W.Frag} {H : Hp} {a : Addr} {ts : List Tr} {i : Nat} {t : Tr} (h : TrAt K H a ts) (e : ts[i]? = some t) : ∃ xs p, SqT K H a xs ∧ xs.length = ts.length ∧ atI xs (0 + (i : Int)) = some (.ref p) ∧ SqT K H p t.vs := by
  obtain ⟨ps, h1, h2, h3⟩ := h.ex
  have hi : i < ps.length := by
    rw [h2]
    exact lt_of_at e
  refine ⟨_, ps[i], h1, by rw [List.length_map, h2], at_of (j := i) (Int.zero_add _) ?_, h3 i _ t (List.getElem?_eq_getElem hi) e⟩
  rw [List.getElem?_map, List.getElem?_eq_getElem hi]
  rfl
theorem TrAt.seq {K : PySem.W.Frag} {H : Hp} {a : Addr} {ts : List Tr} (h : TrAt K H a ts) : ∃ xs, SqT K H a xs ∧ xs.length = ts.length := by
  obtain ⟨ps, h1, h2, _⟩ := h.ex
  exact ⟨_, h1, by rw [List.length_map, h2]⟩
theorem ints_lay : ∀ ns : List Int, PyData.canLayAll0 (ns.map .int) = true ∧ PyData.depthAll (ns.map .int) ≤ 1
  | [] => ⟨rfl, by simp [PyData.depthAll]⟩
  | n :: ns => by
    have h := ints_lay ns
    rw [List.map_cons]
    refine ⟨by rw [PyData.canLayAll0, h.1, PyData.canLay0]; rfl, ?_⟩
    simp only [PyData.depthAll, PyData.depth]
    omega
theorem ints_shaped (ns : List Int) : SeqAt.shaped (PyData.list (ns.map .int)) = true := by
  have h := ints_lay ns
  unfold SeqAt.shaped
  rw [Bool.and_eq_true, decide_eq_true_eq]
  refine ⟨by rw [PyData.canLay0]; exact h.1, ?_⟩
  rw [PyData.depth]
  omega
theorem ints_eqv (ns : List Int) : PyData.eqv (PyData.list (ns.map .int)) (.list []) = decide (ns = []) := by
  cases ns with
  | nil => rfl
  | cons k ks =>
    rw [decide_eq_false (by simp)]
    simp [PyData.eqv, PyData.eqvAll]
theorem iteJ {c : Bool} {p : Prop} {R : Hp → Prop} {H : Hp} (Pv : Hp → Prop) (h : ∀ H3, Pv H3 → R H3) (h1 : c = true → (∀ H3, Pv H3 → R H3) → p) (h2 : ¬ c = true → Pv H) : if c = true then p else R H := by
  by_cases q : c = true
  · rw [if_pos q]
    exact h1 q h
  · rw [if_neg q]
    exact h H (h2 q)
/-- two ways on, both to a test that fails -/
theorem capF {a b : TT} {σ : L2.St} {H : Hp} {Q : Bool → Hp → Prop} (Pv : Hp → Prop) (h : ∀ H3, Pv H3 → Q false H3) (k : (∀ H3, Pv H3 → Q false H3) → tAnd a b σ H Q) : tAnd a b σ H Q := k h
/-- a statement whose ways meet again: what is asked of all of them -/
theorem capI {c : TT} {A B X : TS} {D : Ends} {σ : L2.St} {H : Hp} (Pv : L2.St → Hp → Prop) (h : ∀ σ' H', Pv σ' H' → X D σ' H') (k : (∀ σ' H', Pv σ' H' → X D σ' H') → tSeq (tIfS c A B) X D σ H) : tSeq (tIfS c A B) X D σ H := k h
theorem capA {e : TE} {g : TG} {X : TS} {D : Ends} {σ : L2.St} {H : Hp} (Pv : L2.St → Hp → Prop) (h : ∀ σ' H', Pv σ' H' → X D σ' H') (k : (∀ σ' H', Pv σ' H' → X D σ' H') → tSeq (tAsg e g) X D σ H) : tSeq (tAsg e g) X D σ H := k h
theorem hid2_mono {H H' : Hp} {h l : Addr} (s : Same H H') : Same (hid2 H h l) (hid2 H' h l) := fun b o e => by
  by_cases q : b = h ∨ b = l
  · unfold hid2 at e
    rw [if_pos q] at e
    cases e
  · have n1 : b ≠ h := fun z => q (.inl z)
    have n2 : b ≠ l := fun z => q (.inr z)
    rw [hid2_ne n1 n2] at e ⊢
    exact s b o e
theorem HS.trs {K : PySem.W.Frag} {H0 H H' : Hp} {h l a : Addr} {ts : List Tr} (x : HS H0 H h l) (t : TrAt K H a ts) (y : HS (hid2 H h l) H' h l) : TrAt K H' a ts := (x.tr t).mono y.same
theorem tr_snoc {K : PySem.W.Frag} {H : Hp} {a : Addr} {ts : List Tr} {ps : List Addr} {q : Addr} {t : Tr} (h1 : SqT K H a ((ps ++ [q]).map V.ref)) (h2 : ps.length = ts.length) (h3 : ∀ (i : Nat) (p : Addr) (t : Tr), ps[i]? = some p → ts[i]? = some t → SqT K H p t.vs) (hq : SqT K H q t.vs) : TrAt K H a (ts ++ [t]) := by
  refine ⟨ps ++ [q], h1, by rw [List.length_append, List.length_append, h2]; rfl, fun i p u e1 e2 => ?_⟩
  rcases Nat.lt_or_ge i ps.length with z | z
  · rw [List.getElem?_append_left z] at e1
    rw [List.getElem?_append_left (by omega)] at e2
    exact h3 i p u e1 e2
  · rw [List.getElem?_append_right z] at e1
    rw [List.getElem?_append_right (by omega)] at e2
    have hi : i - ps.length = 0 := by
      have := lt_of_at e1
      simp only [List.length_singleton] at this
      omega
    rw [hi] at e1
    rw [← h2, hi] at e2
    cases e1
    cases e2
    exact hq
theorem concat_of {α : Type} {l : List α} (h : l ≠ []) : ∃ i x, l = i ++ [x] := ⟨l.dropLast, l.getLast h, (List.dropLast_concat_getLast h).symm⟩
theorem last_at {xs : List V} {v : V} : atI (xs ++ [v]) (-1) = some v := atI_last xs v
theorem cut_last {xs : List V} {v : V} : cutV (xs ++ [v]) none (some (-1)) = xs ∧ ¬ (HT.sIx (xs ++ [v]).length 0 none = 0 ∧ HT.sIx (xs ++ [v]).length (xs ++ [v]).length (some (-1)) = (xs ++ [v]).length) := by
  have e : HT.sIx (xs ++ [v]).length (xs ++ [v]).length (some (-1)) = xs.length := by
    show (-1 + ((xs ++ [v]).length : Int)).toNat = _
    rw [List.length_append]
    simp only [List.length_singleton]
    omega
  constructor
  · unfold cutV
    rw [e, HT.sIx_none, Nat.sub_zero, List.drop_zero, List.take_left]
  · rw [e]
    intro z
    rw [List.length_append] at z
    simp only [List.length_singleton] at z
    omega
theorem tc_intro {ta : TE} {tr : TA} {σ : L2.St} {H : Hp} {Q : List V → Hp → Prop} (h : ta σ H fun x H1 => tr σ H1 fun xs H2 => Q (x :: xs) H2) : tCons ta tr σ H Q := h
theorem hid_sqt {K : PySem.W.Frag} {H : Hp} {O a : Addr} {zs xs : List V} (e : H O = some (.lst zs)) (t : SqT K H a xs) : SqT K (hid H O) a xs := by
  rcases t with (t | ⟨o, t⟩) | t
  · exact .inl (.inl (by rw [hid_ne (ne_of t e (by intro z; cases z))]; exact t))
  · exact .inl (.inr ⟨o, by rw [hid_ne (ne_of t e (by intro z; cases z))]; exact t⟩)
  · exact .inr t
theorem hid_sql {K : PySem.W.Frag} {H : Hp} {O a : Addr} {xs : List V} (n : a ≠ O) (t : SqL K H a xs) : SqL K (hid H O) a xs := by
  rcases t with (t | ⟨o, t⟩) | t
  · exact .inl (.inl (by rw [hid_ne n]; exact t))
  · exact .inl (.inr ⟨o, by rw [hid_ne n]; exact t⟩)
  · exact .inr t
theorem hid_tr {K : PySem.W.Frag} {H : Hp} {O a : Addr} {zs : List V} {ts : List Tr} (e : H O = some (.lst zs)) (t : TrAt K H a ts) : TrAt K (hid H O) a ts := by
  obtain ⟨ps, h1, h2, h3⟩ := t.ex
  exact ⟨ps, hid_sqt e h1, h2, fun i p t a b => hid_sqt e (h3 i p t a b)⟩
/-- a new offer, looked at without the draws and without a list that was there -/
theorem HS.of3 {K : PySem.W.Frag} {H0 H H1 : Hp} {h l a O : Addr} {ts : List Tr} {zs : List V} (x : HS H0 H h l) (s : Same H H1) (t : OfNew K H H1 a ts) (eO : H O = some (.lst zs)) (m1 : O ≠ h) (m2 : O ≠ l) : OfAt K (hid (hid2 H1 h l) O) a ts := by
  obtain ⟨dx, t, p, o, f, g, h1, h2, h3, h4, h5, h6, n1, n2, n3⟩ := t.ex
  have y := x.grow s
  obtain ⟨m, i, ns, e1, e2, _⟩ := x.ex
  have q : ∀ b, H b = none → b ≠ h ∧ b ≠ l := fun b n => ⟨(ne_of_none e1 n).symm, (ne_of_none e2 n).symm⟩
  have r : ∀ b, H b = none → b ≠ O := fun b n => (ne_of_none eO n).symm
  have eO2 : hid2 H1 h l O = some (.lst zs) := HS.keep (H0 := H0) (s _ _ eO) m1 m2
  have e : hid2 H1 h l a = some (.ins (He.ga K "Offer") dx (ofs t p o f g)) := by
    rw [hid2_ne (ne_of h1 (s _ _ e1) (by intro z; cases z)) (ne_of h1 (s _ _ e2) (by intro z; cases z))]
    exact h1
  refine ⟨dx, t, p, o, f, g, ?_, hid_tr eO2 (y.tr h2), hid_sqt eO2 (y.tup h3), hid_sql (r o n1) (y.lst h4 (q o n1).1 (q o n1).2), hid_sql (r f n2) (y.lst h5 (q f n2).1 (q f n2).2), hid_sql (r g n3) (y.lst h6 (q g n3).1 (q g n3).2)⟩
  rw [hid_ne (ne_of e eO2 (by intro z; cases z))]
  exact e
theorem hid3_upd {H : Hp} {h l O : Addr} {v : HO} (n1 : O ≠ h) (n2 : O ≠ l) : hid (hid2 (upd H O v) h l) O = hid (hid2 H h l) O := funext fun b => by
  by_cases q : b = O
  · rw [q, hid_x, hid_x]
  · rw [hid_ne q, hid_ne q]
    unfold hid2
    rw [upd_ne q]
theorem tr_rev {K : PySem.W.Frag} {H : Hp} {a : Addr} {ts : List Tr} (t : TrAt K H a ts) : ∃ xs, SqT K H a xs ∧ ∀ H' q, Same H H' → SqT K H' q xs.reverse → TrAt K H' q ts.reverse := by
  obtain ⟨ps, h1, h2, h3⟩ := t.ex
  refine ⟨_, h1, fun H' q s e => ⟨ps.reverse, by rw [List.map_reverse]; exact e, by rw [List.length_reverse, List.length_reverse, h2], fun i p2 t2 e1 e2 => ?_⟩⟩
  have hi := lt_of_at e1
  rw [List.length_reverse] at hi
  rw [List.getElem?_reverse hi] at e1
  rw [List.getElem?_reverse (by omega), ← h2] at e2
  exact Same.tup s (h3 _ p2 t2 e1 e2)
theorem catA_any {K : PySem.W.Frag} {H : Hp} {a b : Addr} {xs ys : List V} {Q : VK} (h1 : SqT K H a xs) (h2 : SqT K H b ys) (hl : xs.length + ys.length ≤ 1000) (k : ∀ q H', Same H H' → SqT K H' q (xs ++ ys) → Q (.ref q) H') : rCatA K (.ref a) (.ref b) H Q := by
  have h1000 : 1000 ≤ sizeLine := by decide
  refine ⟨a, b, xs, ys, rfl, rfl, h1, h2, by omega, fun z => k b H (Same.refl _) ?_, fun _ z => k a H (Same.refl _) ?_, fun _ _ p hp => k p _ (same_new hp) (SqT.of upd_same)⟩
  · rw [z, List.nil_append]
    exact h2
  · rw [z, List.append_nil]
    exact h1
theorem slA_any {K : PySem.W.Frag} {H : Hp} {a : Addr} {xs : List V} {lo hi : Option Int} {Q : VK} (h1 : SqT K H a xs) (k : ∀ q H', Same H H' → SqT K H' q (cutV xs lo hi) → Q (.ref q) H') : rSlA K (.ref a) lo hi H Q := by
  refine ⟨a, xs, rfl, h1, fun z => k a H (Same.refl _) ?_, fun _ p hp => k p _ (same_new hp) (SqT.of upd_same)⟩
  unfold cutV
  rw [z.1, z.2, Nat.sub_zero, List.drop_zero, List.take_length]
  exact h1
theorem cut_to {xs : List V} {k : Nat} (h : k ≤ xs.length) : cutV xs none (some (k : Int)) = xs.take k := by
  unfold cutV
  rw [HT.sIx_none, HT.sIx_nat, Nat.min_eq_left h, Nat.sub_zero, List.drop_zero]
theorem cut_from {xs : List V} {k : Nat} (h : k ≤ xs.length) : cutV xs (some (k : Int)) none = xs.drop k := by
  unfold cutV
  rw [HT.sIx_none, HT.sIx_nat, Nat.min_eq_left h, List.take_of_length_le]
  rw [List.length_drop]
  omega
theorem tr_mid {K : PySem.W.Frag} {H : Hp} {b q : Addr} {ps1 ps2 : List Addr} {ts1 ts2 : List Tr} {t : Tr} (h : SqT K H b ((ps1 ++ q :: ps2).map V.ref)) (l1 : ps1.length = ts1.length) (l2 : ps2.length = ts2.length)
    (h1 : ∀ (i : Nat) (p : Addr) (t : Tr), ps1[i]? = some p → ts1[i]? = some t → SqT K H p t.vs) (h2 : ∀ (i : Nat) (p : Addr) (t : Tr), ps2[i]? = some p → ts2[i]? = some t → SqT K H p t.vs) (hq : SqT K H q t.vs) : TrAt K H b (ts1 ++ t :: ts2) := by
  refine ⟨_, h, by rw [List.length_append, List.length_append, List.length_cons, List.length_cons, l1, l2], fun i p u e1 e2 => ?_⟩
  rcases Nat.lt_or_ge i ps1.length with z | z
  · rw [List.getElem?_append_left z] at e1
    rw [List.getElem?_append_left (by omega)] at e2
    exact h1 i p u e1 e2
  · rw [List.getElem?_append_right z] at e1
    rw [List.getElem?_append_right (by omega), ← l1] at e2
    generalize i - ps1.length = j at e1 e2
    cases j with
    | zero =>
      cases e1
      cases e2
      exact hq
    | succ j => exact h2 j p u e1 e2
theorem mid_of {α : Type} {l : List α} {r : Nat} (h : r < l.length) : ∃ a x b, l = a ++ x :: b ∧ a.length = r :=
  ⟨l.take r, l[r], l.drop (r + 1), by rw [← List.drop_eq_getElem_cons h, List.take_append_drop], by rw [List.length_take]; omega⟩
theorem get_of {α β : Type} {xs : List α} {ys : List β} (h : xs.length = ys.length) {i : Nat} {x : α} (e : xs[i]? = some x) : ∃ y, ys[i]? = some y := by
  have hi : i < ys.length := by
    rw [← h]
    exact lt_of_at e
  exact ⟨_, List.getElem?_eq_getElem hi⟩
end EB

namespace EB
open PySem PySem.Spec PyProof.Rows L2
theorem iteB {b : Bool} {p q r : Prop} (h1 : b = true → r → p) (h2 : ¬ b = true → r → q) (h : r) : if b = true then p else q := by
  by_cases c : b = true
  · rw [if_pos c]
    exact h1 c h
  · rw [if_neg c]
    exact h2 c h
/-- after n the first one gives more for ever, at n it does not -/
def LastC (c d : Nat → Int) (n : Nat) : Prop := 0 ≤ slk c d n ∧ ∀ m, n < m → slk c d m < 0
/-- again and again the first one does not give more -/
def OftenC (c d : Nat → Int) : Prop := ∀ b, ∃ n, b ≤ n ∧ 0 ≤ slk c d n
namespace CF
variable {c1 c2 : Nat → Int} {P1 B1 P2 B2 : Nat}
theorem often_neg (h1 : CF c1 P1 B1) (h2 : CF c2 P2 B2) (hf : fallI P1 B1 P2 B2 < 0) : OftenC c1 c2 := by
  intro b
  have hW := h1.span_pos h2
  refine ⟨P1 + P2 + (b + (slk c1 c2 (P1 + P2)).natAbs) * spanN P1 P2 B2, ?_, ?_⟩
  · have := Nat.le_mul_of_pos_right (b + (slk c1 c2 (P1 + P2)).natAbs) hW
    omega
  · rw [h1.slk_perk h2 (Nat.le_refl _)]
    generalize slk c1 c2 (P1 + P2) = u
    have : ((b + u.natAbs : Nat) : Int) * fallI P1 B1 P2 B2 ≤ ((b + u.natAbs : Nat) : Int) * (-1) := Int.mul_le_mul_of_nonneg_left (by omega) (by omega)
    omega
theorem often_zero (h1 : CF c1 P1 B1) (h2 : CF c2 P2 B2) (hf : fallI P1 B1 P2 B2 = 0) {m : Nat} (hm : P1 + P2 ≤ m) (hs : 0 ≤ slk c1 c2 m) : OftenC c1 c2 := by
  intro b
  have hW := h1.span_pos h2
  refine ⟨m + b * spanN P1 P2 B2, ?_, ?_⟩
  · have := Nat.le_mul_of_pos_right b hW
    omega
  · rw [h1.slk_perk h2 hm, hf]
    omega
theorem slk_zero (h1 : CF c1 P1 B1) (h2 : CF c2 P2 B2) : 0 ≤ slk c1 c2 0 := by
  rw [h1.slk_iff, h1.D_zero]
  exact Nat.zero_le _
/-- how far the loops have come -/
structure Seen1 (c1 c2 : Nat → Int) (i last : Nat) : Prop where
  at_ : 0 ≤ slk c1 c2 last
  low : ∀ n, n < i → last < n → slk c1 c2 n < 0
structure Seen2 (c1 c2 : Nat → Int) (S W i last : Nat) : Prop where
  at_ : 0 ≤ slk c1 c2 last
  low : ∀ n, n < S → last < n → slk c1 c2 n < 0
  hi : ∀ m k, S ≤ m → m < S + i → last < m + k * W → slk c1 c2 (m + k * W) < 0
theorem seen_last {S W last : Nat} (hW : 0 < W) (h : Seen2 c1 c2 S W W last) : LastC c1 c2 last := by
  refine ⟨h.at_, fun n hn => ?_⟩
  rcases Nat.lt_or_ge n S with z | z
  · exact h.low n z hn
  · rcases reduce (S := S) hW n with y | ⟨m, k, hm, hm2, rfl⟩
    · have := h.hi n 0 z y
      rw [Nat.zero_mul, Nat.add_zero] at this
      exact this hn
    · exact h.hi m k hm hm2 hn
theorem seen_neg (h1 : CF c1 P1 B1) (h2 : CF c2 P2 B2) (hf : 0 ≤ fallI P1 B1 P2 B2) {i last : Nat} (h : Seen2 c1 c2 (P1 + P2) (spanN P1 P2 B2) i last) (hs : slk c1 c2 (P1 + P2 + i) < 0) : Seen2 c1 c2 (P1 + P2) (spanN P1 P2 B2) (i + 1) last := by
  refine ⟨h.at_, h.low, fun m k hm hm2 hl => ?_⟩
  rcases Nat.lt_or_ge m (P1 + P2 + i) with z | z
  · exact h.hi m k hm z hl
  · have : m = P1 + P2 + i := by omega
    subst this
    rw [h1.slk_perk h2 hm]
    have : 0 ≤ (k : Int) * fallI P1 B1 P2 B2 := Int.mul_nonneg (by omega) hf
    omega
theorem seen_pos (h1 : CF c1 P1 B1) (h2 : CF c2 P2 B2) (hf : 0 < fallI P1 B1 P2 B2) {i last q : Nat} (h : Seen2 c1 c2 (P1 + P2) (spanN P1 P2 B2) i last) (hs : 0 ≤ slk c1 c2 (P1 + P2 + i)) (hq : slk c1 c2 (P1 + P2 + i) / fallI P1 B1 P2 B2 = q) :
    Seen2 c1 c2 (P1 + P2) (spanN P1 P2 B2) (i + 1) (max last (P1 + P2 + i + q * spanN P1 P2 B2)) := by
  have hW := h1.span_pos h2
  have e1 := Int.mul_ediv_add_emod (slk c1 c2 (P1 + P2 + i)) (fallI P1 B1 P2 B2)
  have e2 := Int.emod_nonneg (slk c1 c2 (P1 + P2 + i)) (show fallI P1 B1 P2 B2 ≠ 0 by omega)
  have e3 := Int.emod_lt_of_pos (slk c1 c2 (P1 + P2 + i)) hf
  rw [hq] at e1
  refine ⟨?_, fun n hn hl => h.low n hn (by omega), fun m k hm hm2 hl => ?_⟩
  · rcases Nat.le_total last (P1 + P2 + i + q * spanN P1 P2 B2) with z | z
    · rw [Nat.max_eq_right z, h1.slk_perk h2 (by omega), Int.mul_comm]
      omega
    · rw [Nat.max_eq_left z]
      exact h.at_
  · rcases Nat.lt_or_ge m (P1 + P2 + i) with z | z
    · exact h.hi m k hm z (by omega)
    · have : m = P1 + P2 + i := by omega
      subst this
      have hk : q < k := by
        apply Nat.lt_of_not_le
        intro y
        have := Nat.mul_le_mul_right (spanN P1 P2 B2) y
        omega
      rw [h1.slk_perk h2 hm]
      have : fallI P1 B1 P2 B2 * ((q : Int) + 1) ≤ fallI P1 B1 P2 B2 * (k : Int) := Int.mul_le_mul_of_nonneg_left (by omega) (by omega)
      rw [Int.mul_add, Int.mul_one] at this
      rw [Int.mul_comm]
      omega
end CF
section
variable {P : Program} {w : World} {K : PySem.W.Frag} {mg : Str → Option Value} {base : Heap} (T : Tx K mg)
include T
/-- what is told of two offers -/
def Bet (ts us : List Tr) (v : V) : Prop := (OftenC (cN ts) (cN us) ∧ v = .non) ∨ ∃ n : Nat, LastC (cN ts) (cN us) n ∧ v = .int (n + 1 : Nat)
def spBetter (K : PySem.W.Frag) : Sp := fun vs H Q _ => ∃ (a b : Addr) (ts us : List Tr), vs = [.ref a, .ref b] ∧ OfAt K H a ts ∧ Fair ts ∧ OfAt K H b us ∧ Fair us ∧ ∀ H' v, Same H H' → Bet ts us v → Q v H'
theorem ok_better_from : FnR P w K mg base CX0 4 (a_better_from K) (spBetter K) := by
  refine fnR0 (d := d_better_from) T.F_better_from sc_better_from rfl (fun _ _ _ _ _ _ us hl => match us, hl with | [_, _], _ => rfl) (fun vs H Q E h => ?_) (fun cdv A outer s H vs Q E hr h => ?_)
  · obtain ⟨a, b, ts, us, rfl, _⟩ := h
    rfl
  obtain ⟨a, b, ts, us, rfl, ho, hf, ho2, hf2, k⟩ := h
  have k : ∀ H', Same H H' → (OftenC (cN ts) (cN us) → Q .non H') ∧ ∀ n : Nat, LastC (cN ts) (cN us) n → Q (.int (n + 1 : Nat)) H' := fun H' s => ⟨fun o => k H' _ s (.inl ⟨o, rfl⟩), fun n hn => k H' _ s (.inr ⟨n, hn, rfl⟩)⟩
  have hp := per_le' hf.g
  have hp2 := per_le' hf2.g
  have C1 := cf hf
  have C2 := cf hf2
  refine ⟨_, (pss_cons (ps_asg (pe_cR (ok_repetition T) (hr.mono (by decide)) T.F_repetition.kp T.g_repetition pass0 (pa_cons (pv 0) (pa_cons (pv 1) pa_nil))) (pg_tup rfl (pgs_cons (pg_name (i := 2) sc_better_from.nd rfl (Or.inl rfl)) (pgs_cons (pg_name (i := 3) sc_better_from.nd rfl (Or.inl rfl)) (pgs_cons (pg_name (i := 4) sc_better_from.nd rfl (Or.inl rfl)) pgs_nil))))) (pss_cons (ps_if (pt_cmpR op_lt (pv 4) pe_int (nomark _)) (pss_one (ps_ret pe_non)) pss_nil) (pss_cons (ps_set (i := 5) sc_better_from.nd rfl (Or.inl rfl) pe_int) (pss_cons (ps_for PassesOwn.never rfl (pi_range1 rfl T.n_range (pa_cons (pv 2) pa_nil)) (pg_name (i := 6) sc_better_from.nd rfl (Or.inl rfl)) (pss_one (ps_if (pt_cmpR op_ge (pe_cR (ok_slack T) (hr.mono (by decide)) T.F_slack.kp T.g_slack pass0 (pa_cons (pv 0) (pa_cons (pv 1) (pa_cons (pv 6) pa_nil)))) pe_int (nomark _)) (pss_one (ps_set (i := 5) sc_better_from.nd rfl (Or.inl rfl) (pv 6))) pss_nil))) (pss_cons (ps_for PassesOwn.never rfl (pi_range2 rfl T.n_range (pa_cons (pv 2) (pa_cons (pe_op op_add (pv 2) (pv 3)) pa_nil))) (pg_name (i := 6) sc_better_from.nd rfl (Or.inl rfl)) (pss_cons (ps_set (i := 7) sc_better_from.nd rfl (Or.inl rfl) (pe_cR (ok_slack T) (hr.mono (by decide)) T.F_slack.kp T.g_slack pass0 (pa_cons (pv 0) (pa_cons (pv 1) (pa_cons (pv 6) pa_nil))))) (pss_cons (ps_if (PW.pt (pw_and (pt_cmpR op_ge (pv 7) pe_int (nomark _)) (pw_and1 (pt_cmpR op_eq (pv 4) pe_int (nomark _))))) (pss_one (ps_ret pe_non)) pss_nil) (pss_one (ps_if (PW.pt (pw_and (pt_cmpR op_ge (pv 7) pe_int (nomark _)) (pw_and1 (pt_cmpR op_gt (pe_op op_add (pv 6) (pe_op op_mul (pe_op op_fdiv (pv 7) (pv 4)) (pv 3))) (pv 5) (nomark _))))) (pss_one (ps_set (i := 5) sc_better_from.nd rfl (Or.inl rfl) (pe_op op_add (pv 6) (pe_op op_mul (pe_op op_fdiv (pv 7) (pv 4)) (pv 3))))) pss_nil))))) (pss_one (ps_ret (pe_op op_add (pv 5) pe_int)))))))), ?_⟩
  refine ⟨_, rfl, _, rfl, a, b, ts, us, rfl, ho, hf, ho2, hf2, fun p H1 s1 hq => ⟨p, _, rfl, hq, rfl, _, _, rfl, _, _, rfl, _, _, rfl, rfl, ?_⟩⟩
  have hsp : spanT ts us ≤ 2985984 := Nat.le_trans (C1.span_le (perB_le hf2)) (Nat.le_trans (Nat.mul_le_mul hp hp2) (by decide))
  have hsp0 : 0 < spanT ts us := C1.span_pos C2
  have hfl : fallT ts us ≤ spanT ts us := by
    have : ((spanN (per ts) (per us) (perB us) : Nat) : Int) - ((Nat.lcm (per ts) (per us) / per ts * perB ts : Nat) : Int) = fallT ts us := rfl
    have : spanT ts us = spanN (per ts) (per us) (perB us) := rfl
    omega
  refine ⟨_, rfl, _, _, rfl, rfl, _, rfl, ite2 (fun hd => ?_) (fun hd => ?_)⟩
  · have hd : fallT ts us < 0 := of_decide_eq_true hd
    exact (k _ s1).1 (C1.often_neg C2 hd)
  have hd : 0 ≤ fallT ts us := by
    have : ¬ fallT ts us < 0 := fun z => hd (decide_eq_true z)
    omega
  have h62 : (10000000 : Int) < 2 ^ 62 := by decide
  refine ⟨_, rfl, _, rfl, ?_, ?_, ?_⟩
  · omega
  · omega
  refine for_range (n := ((per ts + per us : Nat) : Int).toNat) (fun i σ H2 => H2 = H1 ∧ ∃ (last : Nat) (x6 x7 : Option V), CF.Seen1 (cN ts) (cN us) i last ∧ σ = [some (.ref a), some (.ref b), some (.int ((per ts + per us : Nat) : Int)), some (.int (spanT ts us : Nat)), some (.int (fallT ts us)), some (.int (last : Nat)), x6, x7]) ⟨rfl, 0, _, _, ⟨C1.slk_zero C2, fun n hn => absurd hn (Nat.not_lt_zero _)⟩, rfl⟩ ?_ ?_
  · rintro i σ H2 hi ⟨rfl, last, x6, x7, hS, rfl⟩
    have ei : (0 : Int) + (i : Int) = (i : Int) := Int.zero_add _
    refine ⟨_, rfl, _, rfl, _, rfl, a, b, ts, us, i, by rw [ei], ho.mono s1, hf, ho2.mono s1, hf2, _, _, rfl, rfl, _, rfl, ite2 (fun hd2 => ?_) (fun hd2 => ?_)⟩
    · have hd2 : 0 ≤ slkT ts us i := of_decide_eq_true hd2
      refine ⟨_, rfl, rfl, i, some (.int (i : Nat)), x7, ⟨hd2, fun n hn hl => by omega⟩, ?_⟩
      rw [ei]
      rfl
    · have hd2 : ¬ 0 ≤ slkT ts us i := fun z => hd2 (decide_eq_true z)
      refine ⟨rfl, last, _, _, ⟨hS.at_, fun n hn hl => ?_⟩, rfl⟩
      rcases Nat.lt_or_ge n i with z | z
      · exact hS.low n z hl
      · have : n = i := by omega
        rw [this]
        have hd3 : ¬ 0 ≤ slk (cN ts) (cN us) i := hd2
        omega
  · rintro σ H2 ⟨rfl, last, x6, x7, hS, rfl⟩
    have hS0 : CF.Seen2 (cN ts) (cN us) (per ts + per us) (spanT ts us) 0 last := ⟨hS.at_, fun n hn hl => hS.low n (by omega) hl, fun m k hm hm2 hl => by omega⟩
    refine ⟨_, rfl, _, rfl, _, rfl, _, _, rfl, rfl, _, _, rfl, ⟨by omega, by omega, by omega, by omega⟩, ?_⟩
    have en : (((per ts + per us : Nat) : Int) + (spanT ts us : Nat) - ((per ts + per us : Nat) : Int)).toNat = spanT ts us := by omega
    refine for_range (lo := ((per ts + per us : Nat) : Int)) (n := (((per ts + per us : Nat) : Int) + (spanT ts us : Nat) - ((per ts + per us : Nat) : Int)).toNat) (fun i σ H3 => H3 = H2 ∧ ∃ (last : Nat) (x6 x7 : Option V), CF.Seen2 (cN ts) (cN us) (per ts + per us) (spanT ts us) i last ∧ σ = [some (.ref a), some (.ref b), some (.int ((per ts + per us : Nat) : Int)), some (.int (spanT ts us : Nat)), some (.int (fallT ts us)), some (.int (last : Nat)), x6, x7]) ⟨rfl, last, _, _, hS0, rfl⟩ ?_ ?_
    · rintro i σ H3 hi ⟨rfl, last, x6, x7, hS2, rfl⟩
      refine ⟨_, rfl, _, rfl, _, rfl, a, b, ts, us, per ts + per us + i, rfl, ho.mono s1, hf, ho2.mono s1, hf2, ?_⟩
      by_cases hs : 0 ≤ slkT ts us (per ts + per us + i)
      · refine ⟨_, rfl, _, _, rfl, rfl, _, rfl, ite2 (fun _ => ?_) (fun y => absurd (decide_eq_true hs) y)⟩
        by_cases hz : fallT ts us = 0
        · refine ⟨_, rfl, rfl, _, rfl, ite2 (fun _ => ?_) (fun y => absurd (decide_eq_true (by rw [hz])) y)⟩
          exact (k _ s1).1 (C1.often_zero C2 hz (m := per ts + per us + i) (by omega) hs)
        · refine ⟨_, rfl, rfl, _, rfl, ite2 (fun y => absurd (V.int.inj (of_decide_eq_true y)) hz) (fun _ => ?_)⟩
          have hpos : 0 < fallT ts us := by omega
          obtain ⟨q, hq⟩ : ∃ q : Nat, slkT ts us (per ts + per us + i) / fallT ts us = q := ⟨(slkT ts us (per ts + per us + i) / fallT ts us).toNat, by
            have := Int.ediv_nonneg hs (show 0 ≤ fallT ts us by omega)
            omega⟩
          have hn := C1.seen_pos C2 hpos hS2 hs hq
          refine ⟨_, rfl, _, _, rfl, rfl, _, rfl, ite2 (fun _ => ?_) (fun y => absurd (decide_eq_true hs) y)⟩
          have ec : ((per ts + per us : Nat) : Int) + (i : Int) + slkT ts us (per ts + per us + i) / fallT ts us * (spanT ts us : Nat) = ((per ts + per us + i + q * spanT ts us : Nat) : Int) := by
            rw [hq]
            push_cast
            rfl
          refine ⟨_, rfl, _, rfl, _, rfl, _, _, rfl, rfl, ⟨hpos, by omega⟩, _, rfl, _, _, rfl, rfl, .inr ⟨by omega, by omega⟩, _, _, rfl, rfl, _, rfl, _, _, rfl, rfl, _, rfl, ite2 (fun y => ?_) (fun y => ?_)⟩
          · have y : (last : Int) < ((per ts + per us : Nat) : Int) + (i : Int) + slkT ts us (per ts + per us + i) / fallT ts us * (spanT ts us : Nat) := of_decide_eq_true y
            rw [ec] at y
            have hn' : CF.Seen2 (cN ts) (cN us) (per ts + per us) (spanT ts us) (i + 1) (max last (per ts + per us + i + q * spanT ts us)) := hn
            rw [Nat.max_eq_right (by omega)] at hn'
            refine ⟨_, rfl, _, rfl, _, rfl, _, _, rfl, rfl, ⟨hpos, by omega⟩, _, rfl, _, _, rfl, rfl, .inr ⟨by omega, by omega⟩, _, _, rfl, rfl, rfl, per ts + per us + i + q * spanT ts us, some (.int (((per ts + per us : Nat) : Int) + (i : Int))), some (.int (slkT ts us (per ts + per us + i))), hn', ?_⟩
            rw [← ec]
            rfl
          · have y : ¬ (last : Int) < ((per ts + per us : Nat) : Int) + (i : Int) + slkT ts us (per ts + per us + i) / fallT ts us * (spanT ts us : Nat) := fun z => y (decide_eq_true z)
            rw [ec] at y
            have hn' : CF.Seen2 (cN ts) (cN us) (per ts + per us) (spanT ts us) (i + 1) (max last (per ts + per us + i + q * spanT ts us)) := hn
            rw [Nat.max_eq_left (by omega)] at hn'
            exact ⟨rfl, last, _, _, hn', rfl⟩
      · refine ⟨_, rfl, _, _, rfl, rfl, _, rfl, ite2 (fun y => absurd (of_decide_eq_true y) hs) (fun _ => iteF ?_)⟩
        refine ⟨_, rfl, _, _, rfl, rfl, _, rfl, ite2 (fun y => absurd (of_decide_eq_true y) hs) (fun _ => iteF ?_)⟩
        have hs' : slk (cN ts) (cN us) (per ts + per us + i) < 0 := Int.not_le.mp hs
        exact ⟨rfl, last, _, _, C1.seen_neg C2 hd hS2 hs', rfl⟩
    · rintro σ H3 ⟨rfl, last, x6, x7, hS2, rfl⟩
      rw [en] at hS2
      exact ⟨_, rfl, _, _, rfl, rfl, (k _ s1).2 last (CF.seen_last hsp0 hS2)⟩
end
end EB

namespace EB
open PySem PySem.Spec PyProof.Rows L2
/-- what a new offer asks of its trades -/
structure Good (ts : List Tr) : Prop where
  fair : Fair ts
  nm : nmOk ts
  ne : ts ≠ []
/-! ### offers of at most two trades for at most six pieces -/
structure Six (ts : List Tr) : Prop where
  good : Good ts
  len : ts.length ≤ 2
  six : ∀ t ∈ ts, t.n ≤ 6
theorem dvd60 {n : Int} (h1 : 1 ≤ n) (h2 : n ≤ 6) : n ∣ 60 := by
  rcases (show n = 1 ∨ n = 2 ∨ n = 3 ∨ n = 4 ∨ n = 5 ∨ n = 6 by omega) with rfl | rfl | rfl | rfl | rfl | rfl <;> exact Int.dvd_of_emod_eq_zero (by decide)
theorem per_le6 : ∀ (ts : List Tr) (d : Nat), (∀ t ∈ ts, t.ok ∧ t.n ≤ 6) → ts.foldl perS d ≤ d * 6 ^ ts.length
  | [], d, _ => by simp
  | t :: ts, d, h => by
    have h1 := per_le6 ts (perS d t) fun u hu => h u (List.mem_cons_of_mem _ hu)
    have ht := h t (List.mem_cons_self ..)
    have hq : (t.n / ((t.l.natAbs.gcd t.n.natAbs : Nat) : Int)).natAbs ≤ 6 := by
      have h4 := gcd_pos' ht.1
      have h2 := ht.1.2.2.1
      have h3 := ht.2
      have h5 : 0 ≤ t.n / ((t.l.natAbs.gcd t.n.natAbs : Nat) : Int) := Int.ediv_nonneg (by omega) (by omega)
      have h6 : t.n / ((t.l.natAbs.gcd t.n.natAbs : Nat) : Int) ≤ t.n := Int.ediv_le_self _ (by omega)
      omega
    have h2 : perS d t ≤ d * 6 := Nat.le_trans (PySem.W.mc_lcm_le _ _) (Nat.mul_le_mul_left _ hq)
    have h3 : perS d t * 6 ^ ts.length ≤ d * 6 * 6 ^ ts.length := Nat.mul_le_mul_right _ h2
    rw [List.foldl_cons, List.length_cons, Nat.pow_succ]
    rw [Nat.mul_assoc, Nat.mul_comm 6] at h3
    omega
theorem Six.per36 {ts : List Tr} (h : Six ts) : per ts ≤ 36 ∧ per ts ∣ 60 := by
  refine ⟨?_, ?_⟩
  · have h1 := per_le6 ts 1 fun t ht => ⟨h.good.fair.g.2 t ht, h.six t ht⟩
    have h2 : 6 ^ ts.length ≤ 6 ^ 2 := Nat.pow_le_pow_right (by omega) h.len
    show ts.foldl perS 1 ≤ 36
    omega
  · rw [per_dvd h.good.fair.g]
    intro t ht
    exact Int.dvd_trans (dvd60 (h.good.fair.g.2 t ht).2.2.1 (h.six t ht)) (Int.dvd_mul_left ..)
theorem Drawn.good {ts : List Tr} {a b : Int} (d : Drawn ts a b) (h : ts ≠ []) : Good ts := ⟨d.fair, d.nm, h⟩
theorem Drawn.isSix {ts : List Tr} (d : Drawn ts 2 6) (h : ts ≠ []) : Six ts := ⟨d.good h, by have := d.len; omega, fun t ht => (d.each t ht).2.1⟩
theorem sum_rev : ∀ l : List Int, l.reverse.sum = l.sum
  | [] => rfl
  | a :: l => by
    rw [List.reverse_cons, List.sum_append, sum_rev l, List.sum_cons]
    simp only [List.sum_cons, List.sum_nil]
    omega
theorem worth_rev (ts : List Tr) : worth ts.reverse = worth ts := by
  unfold worth
  rw [List.map_reverse, sum_rev]
theorem Good.rev {ts : List Tr} (h : Good ts) : Good ts.reverse := by
  refine ⟨⟨⟨by rw [List.length_reverse]; exact h.fair.g.1, fun t ht => h.fair.g.2 t (List.mem_reverse.mp ht)⟩, by rw [worth_rev]; exact h.fair.w⟩, ⟨?_, fun t ht => h.nm.2 t (List.mem_reverse.mp ht)⟩, fun z => h.ne (List.reverse_eq_nil_iff.mp z)⟩
  rw [List.map_reverse]
  exact List.pairwise_reverse.mpr (h.nm.1.imp fun h => Ne.symm h)
theorem Six.rev {ts : List Tr} (h : Six ts) : Six ts.reverse := ⟨h.good.rev, by rw [List.length_reverse]; exact h.len, fun t ht => h.six t (List.mem_reverse.mp ht)⟩
/-- one piece less is left of one kind -/
def lessT (t : Tr) : Tr := ⟨t.k, if t.l - 1 > 0 then t.l - 1 else 0, t.n⟩
theorem lessT_ok {t : Tr} (h : t.ok) : (lessT t).ok ∧ (lessT t).l ≤ t.l := by
  obtain ⟨h1, h2, h3, h4⟩ := h
  unfold lessT Tr.ok
  dsimp only
  split <;> omega
theorem Good.less {xs ys : List Tr} {t : Tr} (h : Good (xs ++ t :: ys)) : Good (xs ++ lessT t :: ys) := by
  have hl : (xs ++ lessT t :: ys).length = (xs ++ t :: ys).length := by simp
  have hk : (xs ++ lessT t :: ys).map Tr.k = (xs ++ t :: ys).map Tr.k := by simp [lessT]
  have ht : t.ok := h.fair.g.2 t (List.mem_append_right _ (List.mem_cons_self ..))
  have mem : ∀ u ∈ xs ++ lessT t :: ys, u = lessT t ∨ u ∈ xs ++ t :: ys := fun u hu => by
    rcases List.mem_append.mp hu with z | z
    · exact .inr (List.mem_append_left _ z)
    · rcases List.mem_cons.mp z with z | z
      · exact .inl z
      · exact .inr (List.mem_append_right _ (List.mem_cons_of_mem _ z))
  refine ⟨⟨⟨by rw [hl]; exact h.fair.g.1, fun u hu => ?_⟩, ?_⟩, ⟨by rw [hk]; exact h.nm.1, fun u hu => ?_⟩, by simp⟩
  · rcases mem u hu with rfl | z
    · exact (lessT_ok ht).1
    · exact h.fair.g.2 u z
  · have h1 := h.fair.w
    have h2 : 27720 / t.n * (lessT t).l ≤ 27720 / t.n * t.l := Int.mul_le_mul_of_nonneg_left (lessT_ok ht).2 (Int.ediv_nonneg (by decide) (by have := ht.2.2.1; omega))
    unfold worth at h1 ⊢
    rw [List.map_append, List.map_cons, List.sum_append, List.sum_cons] at h1 ⊢
    have h3 : (lessT t).n = t.n := rfl
    rw [h3]
    omega
  · rcases mem u hu with rfl | z
    · exact h.nm.2 t (List.mem_append_right _ (List.mem_cons_self ..))
    · exact h.nm.2 u z
theorem Six.less {xs ys : List Tr} {t : Tr} (h : Six (xs ++ t :: ys)) : Six (xs ++ lessT t :: ys) := by
  refine ⟨h.good.less, by have := h.len; simp at this ⊢; omega, fun u hu => ?_⟩
  rcases List.mem_append.mp hu with z | z
  · exact h.six u (List.mem_append_left _ z)
  · rcases List.mem_cons.mp z with z | z
    · subst z
      exact h.six t (List.mem_append_right _ (List.mem_cons_self ..))
    · exact h.six u (List.mem_append_right _ (List.mem_cons_of_mem _ z))
end EB

namespace EB
open PySem PySem.Spec PyProof.Rows L2
theorem sgn_of {x y u v : Int} (hx : 0 < x) (hy : 0 < y) (e : x * u = y * v) : (0 < u ↔ 0 < v) ∧ (u = 0 ↔ v = 0) := by
  rcases Int.lt_trichotomy u 0 with hu | hu | hu <;> rcases Int.lt_trichotomy v 0 with hv | hv | hv
  all_goals first
    | (constructor <;> constructor <;> intro <;> omega)
    | skip
  all_goals exfalso
  · have := Int.mul_neg_of_pos_of_neg hx hu
    rw [e, hv, Int.mul_zero] at this
    omega
  · have := Int.mul_neg_of_pos_of_neg hx hu
    have := Int.mul_pos hy hv
    omega
  · have := Int.mul_neg_of_pos_of_neg hy hv
    rw [← e, hu, Int.mul_zero] at this
    omega
  · have := Int.mul_pos hy hv
    rw [← e, hu, Int.mul_zero] at this
    omega
  · have := Int.mul_pos hx hu
    have := Int.mul_neg_of_pos_of_neg hy hv
    omega
  · have := Int.mul_pos hx hu
    rw [e, hv, Int.mul_zero] at this
    omega
def rateT (ts us : List Tr) : Int := (per ts : Int) * (perB us : Nat) - (per us : Int) * (perB ts : Nat)
theorem rate_swap (ts us : List Tr) : rateT us ts = - rateT ts us := by
  unfold rateT
  omega
theorem fall_rate {ts us : List Tr} (f : Fair ts) (g : Fair us) : (0 < fallT ts us ↔ 0 < rateT ts us) ∧ (fallT ts us = 0 ↔ rateT ts us = 0) := by
  have p1 := per_pos f.g
  have p2 := per_pos g.g
  have C := cf f
  have ea := C.lcm_a (P2 := per us)
  have eb := C.lcm_b (P2 := per us)
  have hL := Nat.lcm_pos p1 p2
  refine sgn_of (x := (per ts : Int) * (per us : Int)) (y := (Nat.lcm (per ts) (per us) : Int)) (Int.mul_pos (by omega) (by omega)) (by omega) ?_
  unfold fallT fallI spanN rateT
  generalize Nat.lcm (per ts) (per us) / per ts = a at ea
  generalize Nat.lcm (per ts) (per us) / per us = b at eb
  generalize Nat.lcm (per ts) (per us) = L at ea eb
  have ea' : (a : Int) * (per ts : Int) = L := by exact_mod_cast ea
  have eb' : (b : Int) * (per us : Int) = L := by exact_mod_cast eb
  push_cast
  rw [Int.mul_sub, Int.mul_sub]
  have h1 : (per ts : Int) * (per us : Int) * ((b : Int) * (perB us : Int)) = (L : Int) * ((per ts : Int) * (perB us : Int)) := by
    rw [← eb', Int.mul_comm (per ts : Int) (per us : Int), Int.mul_assoc, Int.mul_left_comm (per ts : Int), ← Int.mul_assoc, Int.mul_comm (per us : Int)]
  have h2 : (per ts : Int) * (per us : Int) * ((a : Int) * (perB ts : Int)) = (L : Int) * ((per us : Int) * (perB ts : Int)) := by
    rw [← ea', Int.mul_assoc, Int.mul_left_comm (per us : Int), ← Int.mul_assoc, Int.mul_comm (per ts : Int)]
  rw [h1, h2]
/-- two offers whose differences show within the first thousand -/
structure Nr (ts us : List Tr) : Prop where
  start : per ts + per us ≤ 100
  lc : Nat.lcm (per ts) (per us) ≤ 900
theorem Nr.symm {ts us : List Tr} (h : Nr ts us) : Nr us ts := ⟨by have := h.start; omega, by rw [Nat.lcm_comm]; exact h.lc⟩
theorem Nr.span {ts us : List Tr} (h : Nr ts us) (f : Fair ts) (g : Fair us) : spanT ts us ≤ 900 := by
  have C := cf f
  have e := C.lcm_b (P2 := per us)
  have h1 := Nat.mul_le_mul_left (Nat.lcm (per ts) (per us) / per us) (perB_le g)
  have h2 := h.lc
  show Nat.lcm (per ts) (per us) / per us * perB us ≤ 900
  omega
theorem last_ex {c d : Nat → Int} (h0 : 0 ≤ slk c d 0) : ∀ b : Nat, (∀ m, b ≤ m → slk c d m < 0) → ∃ n, n < b ∧ LastC c d n
  | 0, h => by
    have := h 0 (Nat.le_refl _)
    omega
  | b + 1, h => by
    by_cases z : 0 ≤ slk c d b
    · exact ⟨b, Nat.lt_succ_self _, z, fun m hm => h m hm⟩
    · obtain ⟨n, h1, h2⟩ := last_ex h0 b fun m hm => by
        rcases Nat.eq_or_lt_of_le hm with y | y
        · subst y
          omega
        · exact h m y
      exact ⟨n, by omega, h2⟩
section
variable {ts us : List Tr}
theorem slk_most (f : Fair ts) (g : Fair us) (m : Nat) : slkT ts us m ≤ 10 * m := by
  have h1 := (cf f).T_le (D (cN us) m)
  have h2 := (cf g).D_le_ten m
  show T (cN ts) (D (cN us) m) - m ≤ _
  omega
theorem better_often (h : Nr ts us) (f : Fair ts) (g : Fair us) (k : rateT ts us < 0 ∨ rateT ts us = 0 ∧ ∃ m, 100 ≤ m ∧ D (cN ts) m ≤ D (cN us) m) : OftenC (cN ts) (cN us) := by
  have e := fall_rate f g
  rcases k with k | ⟨k, m, hm, hd⟩
  · refine (cf f).often_neg (cf g) ?_
    have := e.1
    have := e.2
    show fallT ts us < 0
    omega
  · refine (cf f).often_zero (cf g) (e.2.mpr k) (m := m) ?_ (((cf f).slk_iff m).mpr hd)
    have := h.start
    omega
theorem better_last (h : Nr ts us) (f : Fair ts) (g : Fair us) (k : ¬ (rateT ts us < 0 ∨ rateT ts us = 0 ∧ ∃ m, 100 ≤ m ∧ m < 1000 ∧ D (cN ts) m ≤ D (cN us) m)) : ∃ n, n < 10000000 ∧ LastC (cN ts) (cN us) n := by
  have e := fall_rate f g
  have hW := (cf f).span_pos (cf g)
  have hs := h.span f g
  have hst := h.start
  have h0 := (cf f).slk_zero (cf g)
  by_cases z : rateT ts us = 0
  · have hf := e.2.mpr z
    obtain ⟨n, h1, h2⟩ := last_ex h0 100 fun m hm => by
      apply Int.lt_of_not_ge
      intro hge
      have base : ∀ m, 100 ≤ m → m < 1000 → slk (cN ts) (cN us) m < 0 := fun m h1 h2 => by
        apply Int.lt_of_not_ge
        intro h3
        exact k (.inr ⟨z, m, h1, h2, ((cf f).slk_iff m).mp h3⟩)
      rcases CF.reduce (S := 100) hW m with y | ⟨m1, j, hm1, hm2, rfl⟩
      · have y : m < 100 + spanT ts us := y
        have := base m hm (by omega)
        omega
      · have hm2 : m1 < 100 + spanT ts us := hm2
        have h1 := base m1 hm1 (by omega)
        rw [(cf f).slk_perk (cf g) (by omega)] at hge
        have hf : fallI (per ts) (perB ts) (per us) (perB us) = 0 := hf
        rw [hf, Int.mul_zero] at hge
        omega
    exact ⟨n, by omega, h2⟩
  · have hf : 0 < fallI (per ts) (perB ts) (per us) (perB us) := by
      refine e.1.mpr ?_
      have : ¬ rateT ts us < 0 := fun y => k (.inl y)
      omega
    obtain ⟨n, h1, h2⟩ := last_ex h0 (per ts + per us + spanT ts us * 10002) fun m hm => by
      rcases CF.reduce (S := per ts + per us) hW m with y | ⟨m1, j, hm1, hm2, rfl⟩
      · have y : m < per ts + per us + spanT ts us := y
        have : spanT ts us * 1 ≤ spanT ts us * 10002 := Nat.mul_le_mul_left _ (by omega)
        omega
      · have hm2 : m1 < per ts + per us + spanT ts us := hm2
        rw [(cf f).slk_perk (cf g) hm1]
        have h3 := slk_most f g m1
        have hj : 10001 ≤ j := by
          apply Nat.le_of_not_lt
          intro y
          have : j * spanT ts us ≤ 10001 * spanT ts us := Nat.mul_le_mul_right _ (by omega)
          have : per ts + per us + spanT ts us * 10002 ≤ m1 + j * spanT ts us := hm
          omega
        have h4 : (j : Int) * 1 ≤ (j : Int) * fallI (per ts) (perB ts) (per us) (perB us) := Int.mul_le_mul_of_nonneg_left (by omega) (by omega)
        have h3 : slk (cN ts) (cN us) m1 ≤ 10 * m1 := h3
        omega
    have : spanT ts us * 10002 ≤ 900 * 10002 := Nat.mul_le_mul_right _ hs
    exact ⟨n, by omega, h2⟩
/-- within the first thousand all is seen -/
theorem seen_all (h : Nr ts us) (f : Fair ts) (g : Fair us) : per ts + per us + spanT ts us ≤ 1000 := by
  have := h.start
  have := h.span f g
  omega
theorem seen_same (h : Nr ts us) (f : Fair ts) (g : Fair us) (k : ∀ n, n < 1000 → D (cN ts) n = D (cN us) n) : ∀ n, D (cN ts) n = D (cN us) n :=
  (cf f).same (cf g) fun n hn => k n (Nat.lt_of_lt_of_le hn (seen_all h f g))
theorem seen_le (h : Nr ts us) (f : Fair ts) (g : Fair us) : leC (cN ts) (cN us) ↔ rateT ts us ≤ 0 ∧ ∀ n, n < 1000 → D (cN ts) n ≤ D (cN us) n := by
  have e := (fall_rate f g).1
  have hN : (∀ n, D (cN ts) n ≤ D (cN us) n) ↔ ¬ 0 < fallT ts us ∧ ∀ n, n < per ts + per us + spanT ts us → 0 ≤ slkT ts us n := (cf f).never (cf g)
  constructor
  · intro k
    have := hN.mp k
    exact ⟨by omega, fun n _ => k n⟩
  · rintro ⟨k1, k2⟩
    refine hN.mpr ⟨by omega, fun n hn => ((cf f).slk_iff n).mpr (k2 n ?_)⟩
    exact Nat.lt_of_lt_of_le hn (seen_all h f g)
end
/-! ### the offers of which two are nearly the same -/
def near3 : List (List Tr) := [[⟨"a", 2, 5⟩], [⟨"a", 1, 4⟩], [⟨"a", 7, 10⟩], [⟨"a", 5, 8⟩], [⟨"a", 4, 7⟩], [⟨"a", 1, 2⟩, ⟨"b", 1, 5⟩], [⟨"a", 1, 2⟩, ⟨"b", 1, 8⟩]]
def near5 : List (List Tr) := [[⟨"a", 1, 3⟩, ⟨"b", 1, 4⟩], [⟨"a", 6, 11⟩], [⟨"a", 7, 12⟩], [⟨"a", 1, 2⟩, ⟨"b", 1, 12⟩], [⟨"a", 4, 9⟩], [⟨"a", 3, 8⟩], [⟨"a", 2, 7⟩]]
def near7 : List (List Tr) := [[⟨"a", 5, 12⟩], [⟨"a", 4, 11⟩], [⟨"a", 3, 10⟩], [⟨"a", 1, 4⟩, ⟨"b", 1, 6⟩], [⟨"a", 1, 3⟩, ⟨"b", 1, 12⟩], [⟨"a", 2, 9⟩], [⟨"a", 1, 8⟩]]
def trB (t : Tr) : Bool := decide (0 ≤ t.l) && (decide (t.l ≤ 12) && (decide (1 ≤ t.n) && (decide (t.n ≤ 12) && (kindOk t.k && decide (t.k.length ≤ 1000)))))
def offB (ts : List Tr) : Bool := decide (ts.length ≤ 3) && (ts.all trB && (decide (10 * worth ts ≤ 9 * 27720) && (decide ((ts.map Tr.k).Nodup) && decide (0 < ts.length))))
theorem good_of {ts : List Tr} (h : offB ts = true) : Good ts := by
  unfold offB at h
  rw [Bool.and_eq_true, Bool.and_eq_true, Bool.and_eq_true, Bool.and_eq_true, decide_eq_true_eq, decide_eq_true_eq, decide_eq_true_eq, decide_eq_true_eq, List.all_eq_true] at h
  obtain ⟨h1, h2, h3, h4, h5⟩ := h
  have each : ∀ t ∈ ts, t.ok ∧ kindOk t.k = true ∧ t.k.length ≤ 1000 := fun t ht => by
    have h := h2 t ht
    unfold trB at h
    rw [Bool.and_eq_true, Bool.and_eq_true, Bool.and_eq_true, Bool.and_eq_true, Bool.and_eq_true, decide_eq_true_eq, decide_eq_true_eq, decide_eq_true_eq, decide_eq_true_eq, decide_eq_true_eq] at h
    exact ⟨⟨h.1, h.2.1, h.2.2.1, h.2.2.2.1⟩, h.2.2.2.2.1, h.2.2.2.2.2⟩
  exact ⟨⟨⟨h1, fun t ht => (each t ht).1⟩, h3⟩, ⟨h4, fun t ht => (each t ht).2⟩, fun z => by rw [z] at h5; exact absurd h5 (Nat.lt_irrefl _)⟩
def nrB (ts us : List Tr) : Bool := decide (per ts + per us ≤ 100) && decide (Nat.lcm (per ts) (per us) ≤ 900)
theorem near_all : ∀ g ∈ [near3, near5, near7], g.length = 7 ∧ ∀ ts ∈ g, offB ts = true ∧ ∀ us ∈ g, nrB ts us = true := by decide +kernel
theorem near_ok {g : List (List Tr)} (hg : g ∈ [near3, near5, near7]) {ts us : List Tr} (h1 : ts ∈ g) (h2 : us ∈ g) : Good ts ∧ Good us ∧ Nr ts us := by
  obtain ⟨_, h⟩ := near_all g hg
  have h3 := (h ts h1).2 us h2
  unfold nrB at h3
  rw [Bool.and_eq_true, decide_eq_true_eq, decide_eq_true_eq] at h3
  exact ⟨good_of (h ts h1).1, good_of (h us h2).1, h3.1, h3.2⟩
theorem Six.nr {ts us : List Tr} (h : Six ts) (g : Six us) : Nr ts us := by
  have h1 := h.per36
  have h2 := g.per36
  refine ⟨by omega, ?_⟩
  have := Nat.le_of_dvd (by omega) (Nat.lcm_dvd h1.2 h2.2)
  omega
end EB

namespace EB
open PySem PySem.Spec PyProof.Rows L2
/-- the fewest bottles that give so many drinks -/
def few (c : Nat → Int) (d : Nat) : Nat := if d = 0 then 0 else (T c (d - 1)).toNat + 1
namespace CF
variable {c : Nat → Int} {P B : Nat}
theorem few_iff (h : CF c P B) (d n : Nat) : D c n < d ↔ n < few c d := by
  unfold few
  by_cases z : d = 0
  · rw [if_pos z]
    omega
  · rw [if_neg z]
    have h1 := h.D_le_iff (n := n) (d := d - 1)
    have h2 := h.T_nonneg (d - 1)
    constructor
    · intro q
      have := h1.mp (by omega)
      omega
    · intro q
      have := h1.mpr (by omega)
      omega
theorem few_le (h : CF c P B) (d : Nat) : few c d ≤ d := by
  apply Nat.le_of_not_lt
  intro q
  have := (h.few_iff d d).mpr q
  have := h.D_ge d
  omega
theorem few_ge (h : CF c P B) (d : Nat) : d ≤ D c (few c d) := by
  apply Nat.le_of_not_lt
  intro q
  have := (h.few_iff d _).mp q
  omega
theorem T_D (h : CF c P B) (n : Nat) : T c (D c n) = n := by
  have h1 := h.D_le_iff (n := n) (d := D c n)
  have h2 := h1.mp (Nat.le_refl _)
  have h0 := h.T_nonneg (D c n)
  have h3 := h.D_le_iff (n := (T c (D c n)).toNat) (d := D c n)
  have h4 := h3.mpr (by omega)
  rcases Nat.lt_or_ge n (T c (D c n)).toNat with z | z
  · have := h.D_lt z
    omega
  · omega
/-- a number comes about just if the most bottles within it give it -/
theorem comes (h : CF c P B) (d : Nat) : D c (T c d).toNat = d ↔ ∃ n, D c n = d := by
  constructor
  · intro q
    exact ⟨_, q⟩
  · rintro ⟨n, rfl⟩
    rw [h.T_D]
    rfl
theorem comes_few (h : CF c P B) (d : Nat) : (∃ n, D c n = d) ↔ D c (few c d) = d := by
  constructor
  · rintro ⟨n, rfl⟩
    have h1 := h.few_ge (D c n)
    have h2 : ¬ n < few c (D c n) := fun z => by
      have := (h.few_iff (D c n) n).mpr z
      omega
    have h3 := h.D_mono (show few c (D c n) ≤ n by omega)
    omega
  · intro q
    exact ⟨_, q⟩
end CF
end EB

namespace EB
open PySem PySem.Spec PyProof.Rows L2
section
variable {P : Program} {w : World} {K : PySem.W.Frag} {mg : Str → Option Value} {base : Heap} (T : Tx K mg)
include T
def spContains (K : PySem.W.Frag) : Sp := fun vs H Q _ => ∃ (a : Addr) (ts : List Tr) (d : Nat), vs = [.ref a, .int (d : Nat)] ∧ OfAt K H a ts ∧ Fair ts ∧ Q (.bl (decide (D (cN ts) (EB.T (cN ts) d).toNat = d))) H
theorem ok_Offer_contains : FnR P w K mg base CX0 3 (a_Offer_contains K) (spContains K) := by
  refine fnR0 (d := d_Offer_contains) T.F_Offer_contains sc_Offer_contains rfl (fun _ _ _ _ _ _ us hl => match us, hl with | [_, _], _ => rfl) (fun vs H Q E h => ?_) (fun cdv A outer s H vs Q E hr h => ?_)
  · obtain ⟨a, ts, n, rfl, _⟩ := h
    rfl
  obtain ⟨a, ts, n, rfl, ho, hf, k⟩ := h
  obtain ⟨dx, t, p, o, f, g, e1, e2, e3, e4, e5, e6⟩ := ho.ex
  have h0 := (cf hf).T_nonneg n
  refine ⟨_, (pss_cons (ps_if (PW.pt (pw_or (pt_not (pt_val (pe_cR (ok_is_integer T) (hr.mono (by decide)) T.F_is_integer.kp T.g_is_integer pass0 (pa_cons (pv 1) pa_nil)))) (pw_or1 (pt_cmpR op_lt (pv 1) pe_int (nomark _))))) (pss_one (ps_ret pe_bl)) pss_nil) (pss_one (ps_ret (pe_cmpR op_eq (pe_methR (pv 0) T.k_Offer T.m_Offer_drinks_for (ok_Offer_drinks_for T) (hr.mono (by decide)) pass0 (pa_cons (pe_methR (pv 0) T.k_Offer T.m_Offer_most_within (ok_Offer_most_within T) (hr.mono (by decide)) pass0 (pa_cons (pv 1) pa_nil)) pa_nil)) (pv 1) (nomark _))))), ?_⟩
  refine ⟨_, rfl, n, rfl, true, rfl, iteF ?_⟩
  refine ⟨_, rfl, _, _, rfl, rfl, _, rfl, ite2 (fun hd => ?_) (fun _ => ?_)⟩
  · have hd : (n : Int) < 0 := of_decide_eq_true hd
    omega
  refine ⟨_, rfl, a, dx, _, rfl, e1, lk_no (by decide +kernel), _, rfl, a, dx, _, rfl, e1, lk_no (by decide +kernel), _, rfl, a, ts, n, rfl, ho, hf, a, ts, (EB.T (cN ts) n).toNat, ?_, ho, hf, _, rfl, rfl, ?_⟩
  · rw [Int.toNat_of_nonneg h0]
  · have e : decide (V.int ((D (cN ts) (EB.T (cN ts) n).toNat : Nat) : Int) = V.int (n : Int)) = decide (D (cN ts) (EB.T (cN ts) n).toNat = n) := by
      by_cases z : D (cN ts) (EB.T (cN ts) n).toNat = n
      · rw [decide_eq_true z, decide_eq_true (by rw [z])]
      · rw [decide_eq_false z, decide_eq_false (fun y => z (by have := V.int.inj y; omega))]
    rw [e]
    exact k
end
end EB

namespace EB
open PySem PySem.Spec PyProof.Rows L2
section
variable {P : Program} {w : World} {K : PySem.W.Frag} {mg : Str → Option Value} {base : Heap}
theorem gfnG {d : DD} {fd : FuncData} {N ps : List Str} {k : Nat} {sp : SpG} (F : FnP K d fd) (S : GScope N ps (defScope d.st)) (len : ∀ vs H Q E, sp vs H Q E → vs.length = ps.length)
    (hbody : ∀ (cdv : Value) (A : Around) (outer : List Env) (s : Shared) (H : Hp) (vs : List V) (Q : List V → Hp → Prop) (E : XK) (pn : List (Addr × Obj)), Room k (A.deeper (envOfC d.ql (defScope d.st) s.heap.objs.size (d.adr K) cdv)) → sp vs H Q E →
      ∃ t, GSs (gcxOf P w K mg base N d.ql (defScope d.st) (d.adr K) cdv A outer s H E pn) (defBody d.st) t ∧ t { nx := fun ys _ H' => Q ys H', rt := fun ys v H' => v = .non ∧ Q ys H' } [] (start N vs) H) :
    GFn P w K mg base (k + 1) (d.adr K) fd ps sp := by
  obtain ⟨oc, od, dV, kV, doc, pm, an, cdv, ct, osl, rfl, lk, hcd, _, _⟩ := F.ex
  exact gfn_of lk hcd S len fun A outer s H vs Q E pn hr hsp => hbody cdv A outer s H vs Q E pn hr hsp
theorem bndG {d : DD} {fd : FuncData} {ps : List Str} (F : FnP K d fd) (e : d.df = [])
    (b : ∀ (kV doc pm : Value) (an : Option Addr) (cdv ct : Value) (us : List Value), us.length = ps.length → bindArgs (PySem.W.fnOf d.nm d.ql (defArgs d.st) (defBody d.st) (defScope d.st) .none kV doc pm an cdv ct) ⟨us, []⟩ = pure (ps.zip us)) : Binds K fd ps [] := by
  have F2 : FunD K d.nm d.ql (defArgs d.st) (defBody d.st) (defScope d.st) [] [] (d.adr K) fd := by
    have z : FnP K d fd := F
    unfold FnP at z
    rw [e] at z
    exact z
  exact F2.bindsN b
theorem noStop0 : NoStop K E0 := fun _ _ _ h => False.elim h
theorem passG {X : Cx} : Passes (CX X.prog X.w) X E0 := by
  intro pins σ H s e s' I h
  obtain ⟨a, B, H', cls, d, z1, fl, z2, ub, z3, z4, z5, z6⟩ := h
  first | exact False.elim z1 | exact False.elim z2 | exact False.elim z3 | exact False.elim z4 | exact False.elim z5 | exact False.elim z6
end
end EB

namespace EB
open PySem PySem.Spec PyProof.Rows L2
/-- the numbers from first on, so many, that do not come about -/
noncomputable def missL (c : Nat → Int) (first n : Nat) : List Nat := ((List.range n).map fun i => first + i).filter fun d => !decide (D c (EB.T c d).toNat = d)
theorem missL_succ (c : Nat → Int) (first n : Nat) : missL c first (n + 1) = if (!decide (D c (EB.T c (first + n)).toNat = first + n)) = true then missL c first n ++ [first + n] else missL c first n := by
  unfold missL
  rw [List.range_succ, List.map_append, List.filter_append]
  by_cases z : (!decide (D c (EB.T c (first + n)).toNat = first + n)) = true
  · rw [if_pos z]
    simp only [List.map_cons, List.map_nil, List.filter_cons, List.filter_nil]
    rw [if_pos z]
  · rw [if_neg z]
    simp only [List.map_cons, List.map_nil, List.filter_cons, List.filter_nil]
    rw [if_neg z, List.append_nil]
theorem missL_len (c : Nat → Int) (first n : Nat) : (missL c first n).length ≤ n := by
  unfold missL
  refine Nat.le_trans (List.length_filter_le _ _) ?_
  rw [List.length_map, List.length_range]
  exact Nat.le_refl _
section
variable {P : Program} {w : World} {K : PySem.W.Frag} {mg : Str → Option Value} {base : Heap} (T : Tx K mg)
include T
def spCount (K : PySem.W.Frag) : Sp := fun vs H Q _ => ∃ (a : Addr) (ts : List Tr) (n : Nat), vs = [.ref a, .int (n : Nat)] ∧ OfAt K H a ts ∧ Fair ts ∧ n ≤ 1000000000000000000 ∧ Q (.int ((n : Int) - EB.T (cN ts) n)) H
theorem ok_Offer_count_missing : FnR P w K mg base CX0 4 (a_Offer_count_missing K) (spCount K) := by
  refine fnR0 (d := d_Offer_count_missing) T.F_Offer_count_missing sc_Offer_count_missing rfl (fun _ _ _ _ _ _ us hl => match us, hl with | [_, _], _ => rfl) (fun vs H Q E h => ?_) (fun cdv A outer s H vs Q E hr h => ?_)
  · obtain ⟨a, ts, n, rfl, _⟩ := h
    rfl
  obtain ⟨a, ts, n, rfl, ho, hf, hn, k⟩ := h
  obtain ⟨dx, t, p, o, f, g, e1, e2, e3, e4, e5, e6⟩ := ho.ex
  refine ⟨_, (pss_cons (ps_expr (pe_cR (ok_check_number T) (hr.mono (by decide)) T.F_check_number.kp T.g_check_number pass0 (pa_cons (pv 1) pa_nil))) (pss_one (ps_ret (pe_op op_sub (pv 1) (pe_methR (pv 0) T.k_Offer T.m_Offer_most_within (ok_Offer_most_within T) (hr.mono (by decide)) pass0 (pa_cons (pv 1) pa_nil)))))), ?_⟩
  refine ⟨_, rfl, n, rfl, by omega, by omega, ?_⟩
  exact ⟨_, rfl, _, rfl, a, dx, _, rfl, e1, lk_no (by decide +kernel), _, rfl, a, ts, n, rfl, ho, hf, _, _, rfl, rfl, k⟩
end
end EB

namespace EB
open PySem PySem.Spec PyProof.Rows L2
def isMiss (c : Nat → Int) (d : Nat) : Prop := ¬ D c (T c d).toNat = d
/-- how many numbers up to d are missing -/
def cntM (c : Nat → Int) (d : Nat) : Int := (d : Int) - T c d
namespace CF
variable {c : Nat → Int} {P B : Nat}
theorem T_zero (h : CF c P B) : T c 0 = 0 := by
  have h1 := h.T_nonneg 0
  have h2 := (h.D_le_iff (n := (T c 0).toNat) (d := 0)).mpr (by omega)
  have h3 := h.D_ge (T c 0).toNat
  omega
theorem miss_zero (h : CF c P B) : ¬ isMiss c 0 := by
  unfold isMiss
  rw [h.T_zero]
  intro z
  exact z h.D_zero
theorem miss_iff (h : CF c P B) (d : Nat) : isMiss c (d + 1) ↔ T c (d + 1) = T c d := by
  unfold isMiss
  rw [h.comes]
  have h1 : T c d ≤ T c (d + 1) := CF.T_mono c (Nat.le_succ d)
  have h2 := h.T_step d
  have h3 := h.T_nonneg (d + 1)
  constructor
  · intro q
    rcases (show T c (d + 1) = T c d ∨ T c (d + 1) = T c d + 1 by omega) with z | z
    · exact z
    · exfalso
      apply q
      refine ⟨(T c (d + 1)).toNat, ?_⟩
      have h4 := (h.D_le_iff (n := (T c (d + 1)).toNat) (d := d + 1)).mpr (by omega)
      have h5 : ¬ D c (T c (d + 1)).toNat ≤ d := fun y => by
        have := h.D_le_iff.mp y
        omega
      omega
  · rintro q ⟨n, hn⟩
    have h4 := (h.D_le_iff (n := n) (d := d + 1)).mp (by omega)
    have h5 : ¬ (n : Int) ≤ T c d := fun y => by
      have := h.D_le_iff.mpr y
      omega
    omega
theorem cnt_step (h : CF c P B) (d : Nat) : (isMiss c (d + 1) → cntM c (d + 1) = cntM c d + 1) ∧ (¬ isMiss c (d + 1) → cntM c (d + 1) = cntM c d) := by
  have h1 := h.miss_iff d
  have h2 := h.T_step d
  have h3 := CF.T_mono c (Nat.le_succ d)
  unfold cntM
  refine ⟨fun q => ?_, fun q => ?_⟩
  · have := h1.mp q
    push_cast
    omega
  · have : ¬ T c (d + 1) = T c d := fun z => q (h1.mpr z)
    have h3 : T c d ≤ T c (d + 1) := h3
    push_cast
    omega
theorem cnt_mono (h : CF c P B) (d : Nat) : ∀ k, cntM c d ≤ cntM c (d + k)
  | 0 => Int.le_refl _
  | k + 1 => by
    have h1 := cnt_mono h d k
    have h2 := h.cnt_step (d + k)
    by_cases z : isMiss c (d + k + 1)
    · have := h2.1 z
      show _ ≤ cntM c (d + k + 1)
      omega
    · have := h2.2 z
      show _ ≤ cntM c (d + k + 1)
      omega
theorem miss_lt (h : CF c P B) {x y : Nat} (hy : isMiss c y) (q : x < y) : cntM c x < cntM c y := by
  obtain ⟨k, rfl⟩ : ∃ k, y = x + k + 1 := ⟨y - x - 1, by omega⟩
  have h1 := h.cnt_mono x k
  have h2 := (h.cnt_step (x + k)).1 hy
  omega
/-- the missing number with a number is one -/
theorem miss_uniq (h : CF c P B) {x y : Nat} (hx : isMiss c x) (hy : isMiss c y) (e : cntM c x = cntM c y) : x = y := by
  rcases Nat.lt_trichotomy x y with z | z | z
  · have := h.miss_lt hy z
    omega
  · exact z
  · have := h.miss_lt hx z
    omega
theorem missL_at (h : CF c P B) : ∀ n : Nat, ((missL c 0 (n + 1)).length : Int) = cntM c n ∧ ∀ (k y : Nat), (missL c 0 (n + 1))[k]? = some y → y ≤ n ∧ isMiss c y ∧ cntM c y = (k : Int) + 1
  | 0 => by
    have e : missL c 0 1 = [] := by
      rw [missL_succ, if_neg (by
        have := h.miss_zero
        unfold isMiss at this
        rw [Bool.not_eq_true', decide_eq_false_iff_not, Nat.zero_add]
        exact this)]
      rfl
    rw [e]
    refine ⟨?_, fun k y q => (by cases q)⟩
    unfold cntM
    rw [h.T_zero]
    rfl
  | n + 1 => by
    obtain ⟨h1, h2⟩ := missL_at h n
    have hs := missL_succ c 0 (n + 1)
    have hc := h.cnt_step n
    rw [Nat.zero_add] at hs
    by_cases z : isMiss c (n + 1)
    · rw [if_pos (by rw [Bool.not_eq_true', decide_eq_false_iff_not]; exact z)] at hs
      rw [hs]
      have hz := hc.1 z
      refine ⟨by rw [List.length_append, List.length_singleton]; push_cast; omega, fun k y q => ?_⟩
      rcases Nat.lt_or_ge k (missL c 0 (n + 1)).length with b | b
      · rw [List.getElem?_append_left b] at q
        obtain ⟨q1, q2, q3⟩ := h2 k y q
        exact ⟨by omega, q2, q3⟩
      · rw [List.getElem?_append_right b] at q
        have : k - (missL c 0 (n + 1)).length = 0 := by
          have := (List.getElem?_eq_some_iff.mp q).1
          rw [List.length_singleton] at this
          omega
        rw [this] at q
        cases q
        exact ⟨Nat.le_refl _, z, by omega⟩
    · rw [if_neg (by rw [Bool.not_eq_true', decide_eq_false_iff_not]; exact z)] at hs
      rw [hs]
      have hz := hc.2 z
      refine ⟨by omega, fun k y q => ?_⟩
      obtain ⟨q1, q2, q3⟩ := h2 k y q
      exact ⟨by omega, q2, q3⟩
theorem cnt_perk (h : CF c P B) {d : Nat} (q : P ≤ d + 1) (k : Nat) : cntM c (d + k * P) = cntM c d + (k : Int) * ((P : Int) - B) := by
  have h1 := h.T_perk q k
  unfold cntM
  rw [h1, Int.mul_sub]
  push_cast
  omega
theorem miss_perk (h : CF c P B) {y : Nat} (q : P ≤ y) (m : isMiss c y) (k : Nat) : isMiss c (y + k * P) := by
  have hp := h.ppos
  obtain ⟨z, rfl⟩ : ∃ z, y = z + 1 := ⟨y - 1, by omega⟩
  have h1 := (h.miss_iff z).mp m
  have h2 := h.T_perk (d := z + 1) (by omega) k
  have h3 := h.T_perk (d := z) (by omega) k
  rw [show z + 1 + k * P = (z + k * P) + 1 from by omega] at h2 ⊢
  exact (h.miss_iff _).mpr (by omega)
theorem B_le (h : CF c P B) : B ≤ P := by
  have h1 := h.per 0
  have h2 := h.le_self (0 + P)
  rw [h.zero] at h1
  rw [Nat.zero_add] at h1 h2
  omega
theorem gaps_len (h : CF c P B) : ((missL c 0 (2 * P)).length : Int) = cntM c (P - 1) + ((P : Int) - B) := by
  have hp := h.ppos
  have h1 := (h.missL_at (2 * P - 1)).1
  rw [show 2 * P - 1 + 1 = 2 * P from by omega] at h1
  have h2 := h.cnt_perk (d := P - 1) (by omega) 1
  rw [show P - 1 + 1 * P = 2 * P - 1 from by omega] at h2
  omega
theorem gaps_pos (h : CF c P B) (q : missL c 0 (2 * P) ≠ []) : B < P := by
  have hp := h.ppos
  have h1 := h.gaps_len
  have h2 := h.B_le
  have h3 := List.length_pos_iff.mpr q
  apply Nat.lt_of_le_of_ne h2
  intro e
  have h4 := h.step (P - 1)
  have h5 := h.per 0
  rw [h.zero, Nat.zero_add] at h5
  rw [show P - 1 + 1 = P from by omega] at h4
  have h6 := CF.T_ge c (Nat.le_refl (P - 1))
  unfold cntM at h1
  omega
theorem getD_cast {xs : List Nat} {i : Nat} (q : i < xs.length) : (xs.map fun n => ((n : Nat) : Int)).getD i 0 = ((xs[i] : Nat) : Int) := by
  rw [List.getD_eq_getElem?_getD, List.getElem?_map, List.getElem?_eq_getElem q]
  rfl
/-- the missing number with a number, off the table of two periods -/
theorem nth (h : CF c P B) (q : missL c 0 (2 * P) ≠ []) (k : Nat) : ∃ x : Nat, valueAt ((missL c 0 (2 * P)).map fun n => ((n : Nat) : Int)) k ((P : Int) - B) P = (x : Nat) ∧ isMiss c x ∧ cntM c x = (k : Int) + 1 := by
  have hp := h.ppos
  have hW := h.gaps_pos q
  have hl := h.gaps_len
  have hat := (h.missL_at (2 * P - 1)).2
  rw [show 2 * P - 1 + 1 = 2 * P from by omega] at hat
  have hc0 : 0 ≤ cntM c (P - 1) := by
    have := h.T_le (P - 1)
    unfold cntM
    omega
  obtain ⟨W, eW⟩ : ∃ W : Nat, (P : Int) - B = (W : Nat) := ⟨P - B, by omega⟩
  have hW0 : 0 < W := by omega
  unfold valueAt
  simp only [List.length_map]
  generalize hL : missL c 0 (2 * P) = L at *
  by_cases z : (k : Int) < (L.length : Int)
  · have hk : k < L.length := by omega
    rw [if_pos z, Int.toNat_natCast, getD_cast hk]
    obtain ⟨_, a2, a3⟩ := hat k _ (List.getElem?_eq_getElem hk)
    exact ⟨_, rfl, a2, a3⟩
  · rw [if_neg z]
    obtain ⟨e, he⟩ : ∃ e, k = L.length + e := ⟨k - L.length, by omega⟩
    have e1 : (k : Int) - (L.length : Int) = (e : Int) := by omega
    rw [e1, eW, ← Int.natCast_ediv]
    have h1 := Nat.div_add_mod e W
    have h2 := Nat.mod_lt e hW0
    have h3 : (e / W + 1) * W = W * (e / W) + W := by rw [Nat.add_mul, Nat.one_mul, Nat.mul_comm]
    have hWl : W ≤ L.length := by omega
    have e2 : (k : Int) - (((e / W : Nat) : Int) + 1) * (W : Int) = ((L.length - W + e % W : Nat) : Int) := by
      have : (((e / W : Nat) : Int) + 1) * (W : Int) = (((e / W + 1) * W : Nat) : Int) := by push_cast; rfl
      rw [this]
      omega
    have hi : L.length - W + e % W < L.length := by omega
    rw [e2, Int.toNat_natCast, getD_cast hi]
    obtain ⟨_, a2, a3⟩ := hat _ _ (List.getElem?_eq_getElem hi)
    generalize L[L.length - W + e % W] = y at a2 a3
    have hy : P ≤ y := by
      apply Nat.le_of_not_lt
      intro w
      have := h.cnt_mono y (P - 1 - y)
      rw [show y + (P - 1 - y) = P - 1 from by omega] at this
      omega
    refine ⟨y + (e / W + 1) * P, by push_cast; rfl, h.miss_perk hy a2 _, ?_⟩
    rw [h.cnt_perk (by omega), a3, eW]
    have : (((e / W + 1 : Nat) : Int)) * (W : Int) = (((e / W + 1) * W : Nat) : Int) := by push_cast; rfl
    rw [this]
    omega
end CF
theorem gaps_eq {ts : List Tr} (f : Fair ts) : ∀ n : Nat, n ≤ 2 * per ts → gapsF (firstsL ts) 0 ((List.range n).map (T (cN ts))) = (missL (cN ts) 0 n).map fun n => ((n : Nat) : Int)
  | 0, _ => rfl
  | n + 1, q => by
    have C := cf f
    have h1 := gaps_eq f n (by omega)
    have h2 := missL_succ (cN ts) 0 n
    rw [Nat.zero_add] at h2
    rw [List.range_succ, List.map_append]
    show gapsF _ 0 (_ ++ [T (cN ts) n]) = _
    rw [gapsF_snoc, h1, List.length_map, List.length_range, Nat.zero_add]
    have h3 : T (cN ts) n ≤ T (cN ts) (2 * per ts - 1) := CF.T_mono _ (by omega)
    have h4 := C.T_nonneg n
    have h5 : (firstsL ts).getD (T (cN ts) n).toNat 0 = ((D (cN ts) (T (cN ts) n).toNat : Nat) : Int) := getD_map (f := fun k => ((D (cN ts) k : Nat) : Int)) (by omega)
    rw [h5, h2]
    by_cases z : D (cN ts) (T (cN ts) n).toNat = n
    · rw [if_pos (by rw [z]), if_neg (by rw [Bool.not_eq_true', decide_eq_false_iff_not]; exact fun y => y z), List.append_nil]
    · rw [if_neg (fun y => z (by omega)), if_pos (by rw [Bool.not_eq_true', decide_eq_false_iff_not]; exact z), List.map_append]
      rfl
theorem gapsL_eq {ts : List Tr} (f : Fair ts) : gapsL ts = (missL (cN ts) 0 (2 * per ts)).map fun n => ((n : Nat) : Int) := gaps_eq f _ (Nat.le_refl _)
section
variable {P : Program} {w : World} {K : PySem.W.Frag} {mg : Str → Option Value} {base : Heap} (T : Tx K mg)
include T
namespace N2
def spChkNum2 : Sp := fun vs H Q _ => ∃ i lo : Int, vs = [.int i, .int lo] ∧ lo ≤ i ∧ i ≤ 1000000000000000000 ∧ Q .non H
theorem ok_check_number : FnR P w K mg base CX0 3 (a_check_number K) spChkNum2 := by
  refine (fnRD (d := d_check_number) (sp := spChkNum) (k := 2) (ps := ["value", "least", "most"]) T.F_check_number sc_check_number 2 1 (fun z => nomatch z) rfl (fun _ _ _ _ _ _ _ us its hl hi => match us, its, hl, hi with | [_, _], [_, _], _, _ => ⟨_, rfl, rfl⟩) (fun vs H Q E h => ?_) (fun cdv A outer s H vs Q E hr h => ?_)).imp fun vs H Q E h => ?_
  · obtain ⟨i, lo, hi, rfl, _⟩ := h
    rfl
  · obtain ⟨i, lo, hi, rfl, h1, h2, k⟩ := h
    refine ⟨_, (pss_one (ps_if (pt_not (pt_val (pe_cR (ok_is_number T) (hr.mono (by decide)) T.F_is_number.kp T.g_is_number pass0 (pa_cons (pv 0) (pa_cons (pv 1) (pa_cons (pv 2) pa_nil)))))) (pss_one ps_never) pss_nil)), ?_⟩
    refine ⟨_, rfl, _, rfl, _, rfl, i, lo, hi, rfl, _, rfl, ?_⟩
    rw [numOk_iff.mpr ⟨h1, h2⟩]
    exact iteF k
  · obtain ⟨i, lo, rfl, h1, h2, k⟩ := h
    exact ⟨i, lo, 1000000000000000000, rfl, h1, h2, k⟩
def spNth (K : PySem.W.Frag) : Sp := fun vs H Q _ => ∃ (a : Addr) (ts : List Tr) (k : Nat), vs = [.ref a, .int ((k : Int) + 1)] ∧ OfAt K H a ts ∧ Fair ts ∧ k < 1000000000000000000 ∧ (missL (cN ts) 0 (2 * per ts) = [] → Q .non H) ∧ (missL (cN ts) 0 (2 * per ts) ≠ [] → ∀ x : Nat, isMiss (cN ts) x → cntM (cN ts) x = (k : Int) + 1 → Q (.int (x : Nat)) H)
theorem ok_Offer_nth_missing : FnR P w K mg base CX0 4 (a_Offer_nth_missing K) (spNth K) := by
  refine fnR0 (d := d_Offer_nth_missing) T.F_Offer_nth_missing sc_Offer_nth_missing rfl (fun _ _ _ _ _ _ us hl => match us, hl with | [_, _], _ => rfl) (fun vs H Q E h => ?_) (fun cdv A outer s H vs Q E hr h => ?_)
  · obtain ⟨a, ts, k, rfl, _⟩ := h
    rfl
  obtain ⟨a, ts, k, rfl, ho, hf, hk, k1, k2⟩ := h
  obtain ⟨dx, t, p, o, f, g, e1, e2, e3, e4, e5, e6⟩ := ho.ex
  rw [gapsL_eq hf] at e6
  have C := cf hf
  have hp := per_pos hf.g
  have hP := per_le' hf.g
  refine ⟨_, (pss_cons (ps_expr (pe_cR (ok_check_number T) (hr.mono (by decide)) T.F_check_number.kp T.g_check_number pass0 (pa_cons (pv 1) (pa_cons pe_int pa_nil)))) (pss_cons (ps_if (pt_not (pt_truth (pe_fld (pv 0) rfl) (by intro _; rfl))) (pss_one (ps_ret pe_non)) pss_nil) (pss_cons (ps_asg (pe_fld (pv 0) rfl) (pg_tup rfl (pgs_cons (pg_name (i := 2) sc_Offer_nth_missing.nd rfl (Or.inl rfl)) (pgs_cons (pg_name (i := 3) sc_Offer_nth_missing.nd rfl (Or.inl rfl)) pgs_nil)))) (pss_one (ps_ret (pe_cR (ok_value_at T) (hr.mono (by decide)) T.F_value_at.kp T.g_value_at pass0 (pa_cons (pe_fld (pv 0) rfl) (pa_cons (pe_op op_sub (pv 1) pe_int) (pa_cons (pe_op op_sub (pv 3) (pv 2)) (pa_cons (pv 3) pa_nil)))))))))), ?_⟩
  refine ⟨_, rfl, _, 1, rfl, by omega, by omega, ?_⟩
  refine ⟨_, rfl, a, _, dx, _, _, rfl, e1, T.k_Offer, T.na_gaps, lk_gaps, ?_⟩
  refine ⟨_, .inl ⟨_, e6, rfl⟩, ?_⟩
  by_cases z : missL (cN ts) 0 (2 * per ts) = []
  · have hk1 := k1 z
    rw [z]
    exact iteT hk1
  have hke := k2 z
  have hemp : (((missL (cN ts) 0 (2 * per ts)).map fun n => ((n : Nat) : Int)).map V.int).isEmpty = false := by
    rw [List.isEmpty_eq_false_iff]
    intro y
    exact z (List.map_eq_nil_iff.mp (List.map_eq_nil_iff.mp y))
  rw [hemp]
  refine iteF ?_
  obtain ⟨x, hx1, hx2, hx3⟩ := C.nth z k
  have hW := C.gaps_pos z
  have hl := C.gaps_len
  have hc0 : 0 ≤ cntM (cN ts) (per ts - 1) := by
    have := C.T_le (per ts - 1)
    unfold cntM
    omega
  refine ⟨_, rfl, a, _, dx, _, _, rfl, e1, T.k_Offer, T.na_period, lk_period, p, _, rfl, e3, rfl, _, _, rfl, _, _, rfl, rfl, ?_⟩
  refine ⟨_, rfl, a, _, dx, _, _, rfl, e1, T.k_Offer, T.na_gaps, lk_gaps, _, rfl, _, _, rfl, rfl, _, rfl, _, rfl, _, _, rfl, rfl, _, rfl, g, _, _, _, _, rfl, e6, ?_, ?_, ?_, ?_, ?_, ?_, ?_⟩
  · omega
  · omega
  · omega
  · omega
  · omega
  · rw [List.length_map]
    omega
  · rw [show (k : Int) + 1 - 1 = (k : Int) from by omega, hx1]
    exact hke x hx2 hx3
end N2
end
end EB

namespace EB
theorem fl_sub1 {l n x y : Int} (hn : 0 < n) : l * (x + y) / n ≤ l * x / n + l * y / n + 1 := by
  rw [Int.mul_add]
  have h1 := Int.mul_ediv_add_emod (l * x) n
  have h2 := Int.mul_ediv_add_emod (l * y) n
  have h3 := Int.mul_ediv_add_emod (l * x + l * y) n
  have b1 := Int.emod_lt_of_pos (l * x) hn
  have b2 := Int.emod_lt_of_pos (l * y) hn
  have b3 := Int.emod_nonneg (l * x + l * y) (show n ≠ 0 by omega)
  generalize l * x / n = p at *
  generalize l * y / n = q at *
  generalize (l * x + l * y) / n = r at *
  generalize l * x % n = u at *
  generalize l * y % n = v at *
  generalize (l * x + l * y) % n = z at *
  have : n * r < n * (p + q + 2) := by
    rw [Int.mul_add, Int.mul_add]
    omega
  have := Int.lt_of_mul_lt_mul_left this (by omega)
  omega
theorem buys_sub : ∀ {ts : List Tr} (h : ∀ t ∈ ts, t.ok) (x y : Int), buys ts (x + y) ≤ buys ts x + buys ts y + ts.length
  | [], _, _, _ => by
    show (0 : Int) ≤ 0 + 0 + ((0 : Nat) : Int)
    omega
  | t :: ts, h, x, y => by
    have h1 := buys_sub (ts := ts) (fun t m => h t (List.mem_cons_of_mem _ m)) x y
    have h2 := fl_sub1 (l := t.l) (x := x) (y := y) (tr_pos (h t (List.mem_cons_self ..)))
    show t.l * (x + y) / t.n + buys ts (x + y) ≤ (t.l * x / t.n + buys ts x) + (t.l * y / t.n + buys ts y) + ((ts.length + 1 : Nat) : Int)
    push_cast
    omega
theorem T_three {ts : List Tr} (f : Fair ts) : T (cN ts) (per ts - 1) ≤ perB ts + 2 := by
  have C := cf f
  obtain ⟨j, hj, e⟩ := CF.T_at (cN ts) (per ts - 1)
  have hp := per_pos f.g
  rw [e]
  obtain ⟨k, hk⟩ : ∃ k, per ts = j + k := ⟨per ts - j, by omega⟩
  have h1 := buys_sub f.g.2 (j : Int) (k : Int)
  have h2 := C.ten k
  have h3 : cN ts (per ts) = perB ts := by
    have := C.per 0
    rw [Nat.zero_add, C.zero] at this
    omega
  have h4 := f.g.1
  rw [hk] at h3
  have h5 : ((j + k : Nat) : Int) - buys ts ((j + k : Nat) : Int) = perB ts := h3
  have h6 : (k : Int) ≤ 10 * ((k : Int) - buys ts k) := h2
  show (j : Int) - buys ts j ≤ _
  push_cast at h5
  omega
end EB

namespace EB
/-- the rounds from so many drunk bottles on, with fuel -/
def rnd (c : Nat → Int) (n : Nat) : Nat → Nat → List Int
  | 0, _ => []
  | m + 1, d => if 0 < (n : Int) - c d then ((n : Int) - c d) :: rnd c n m (d + ((n : Int) - c d).toNat) else []
def roundsL (c : Nat → Int) (n : Nat) : List Int := rnd c n (10 * n + 1) 0
namespace CF
variable {c : Nat → Int} {P B : Nat}
/-- so far every number of drinks costs less than there is -/
theorem below (h : CF c P B) {n d : Nat} (q : ∀ j, j < d → c j < n) : d ≤ D c n := by
  apply Nat.le_of_not_lt
  intro z
  have := q _ z
  rw [h.D_cost] at this
  omega
theorem below_next (h : CF c P B) {n d : Nat} (q : ∀ j, j < d → c j < n) (hp : 0 < (n : Int) - c d) : ∀ j, j < d + ((n : Int) - c d).toNat → c j < n := by
  intro j hj
  rcases Nat.lt_or_ge j d with z | z
  · exact q j z
  · have := h.steps d (j - d)
    rw [show d + (j - d) = j from by omega] at this
    omega
/-- bounds behind which so many rounds remain -/
def bnd : Nat → Nat
  | 0 => 60
  | k + 1 => bnd k * 20 / 19
theorem bnd_ge : ∀ k, 60 ≤ bnd k
  | 0 => Nat.le_refl _
  | k + 1 => by
    have := bnd_ge k
    show 60 ≤ bnd k * 20 / 19
    omega
theorem rnd_len (h : CF c P B) {n : Nat} (hlow : ∀ d r, D c n = d + r → (r : Int) ≤ 10 * ((n : Int) - c d) + 30) :
    ∀ (k m d : Nat), (∀ j, j < d → c j < n) → D c n - d ≤ bnd k → (rnd c n m d).length ≤ 61 + k := by
  have tail : ∀ (m d : Nat), (∀ j, j < d → c j < n) → (rnd c n m d).length ≤ D c n - d + 1 := by
    intro m
    induction m with
    | zero => intro d _; exact Nat.zero_le _
    | succ m ih =>
      intro d q
      show (if 0 < (n : Int) - c d then ((n : Int) - c d) :: rnd c n m (d + ((n : Int) - c d).toNat) else []).length ≤ _
      by_cases z : 0 < (n : Int) - c d
      · rw [if_pos z, List.length_cons]
        have q2 := h.below_next q z
        have := ih _ q2
        have := h.below q2
        omega
      · rw [if_neg z]
        exact Nat.zero_le _
  intro k
  induction k with
  | zero =>
    intro m d q hd
    have := tail m d q
    have : bnd 0 = 60 := rfl
    omega
  | succ k ih =>
    intro m d q hd
    cases m with
    | zero => exact Nat.zero_le _
    | succ m =>
      show (if 0 < (n : Int) - c d then ((n : Int) - c d) :: rnd c n m (d + ((n : Int) - c d).toNat) else []).length ≤ _
      by_cases z : 0 < (n : Int) - c d
      · rw [if_pos z, List.length_cons]
        have q2 := h.below_next q z
        have hb := h.below q
        have hb2 := h.below q2
        have h5 := hlow d (D c n - d) (by omega)
        have h6 := bnd_ge k
        have h7 : bnd (k + 1) = bnd k * 20 / 19 := rfl
        have := ih m _ q2 (by omega)
        omega
      · rw [if_neg z]
        exact Nat.zero_le _
theorem bnd_big : 10000000000000000000 ≤ bnd 900 := by decide +kernel
end CF
theorem slow {ts : List Tr} (f : Fair ts) {n d r : Nat} (e : D (cN ts) n = d + r) : (r : Int) ≤ 10 * ((n : Int) - cN ts d) + 30 := by
  have C := cf f
  have h1 := C.D_cost n
  rw [e] at h1
  have h3 : (r : Int) ≤ 10 * ((r : Int) - buys ts r) := C.ten r
  have h2 := buys_sub f.g.2 (d : Int) (r : Int)
  have h4 := f.g.1
  have h5 : ((d + r : Nat) : Int) - buys ts ((d + r : Nat) : Int) = n := h1
  show (r : Int) ≤ 10 * ((n : Int) - ((d : Int) - buys ts d)) + 30
  push_cast at h5
  omega
theorem rounds_len {ts : List Tr} (f : Fair ts) {n : Nat} (hn : n ≤ 1000000000000000000) {m d : Nat} (q : ∀ j, j < d → cN ts j < n) : (rnd (cN ts) n m d).length ≤ 1000 := by
  have C := cf f
  have h1 := C.D_le_ten n
  have := C.rnd_len (n := n) (fun d r e => slow f e) 900 m d q (Nat.le_trans (by omega) CF.bnd_big)
  omega
end EB

namespace EB
open PySem PySem.Spec PyProof.Rows L2
theorem roundsL_len {ts : List Tr} (f : Fair ts) {n : Nat} (hn : n ≤ 1000000000000000000) : (roundsL (cN ts) n).length ≤ 1000 := rounds_len f hn (fun j q => absurd q (Nat.not_lt_zero _))
/-- how far the rounds have come -/
def RndW (a : Addr) (ts : List Tr) (n : Nat) (H : Hp) : Nat → List V → L2.St → Hp → Prop := fun m ys σ H1 => ∃ (d : Nat) (pre : List Int), Same H H1 ∧ (∀ j, j < d → cN ts j < n) ∧ D (cN ts) n < d + m ∧ ys = pre.map V.int ∧ pre ++ rnd (cN ts) n m d = roundsL (cN ts) n ∧
  σ = [some (.ref a), some (.int (n : Nat)), some (.int (d : Nat)), some (.int ((n : Int) - cN ts d))]
section
variable {P : Program} {w : World} {K : PySem.W.Frag} {mg : Str → Option Value} {base : Heap} (T : Tx K mg)
include T
def spRounds (K : PySem.W.Frag) : SpG := fun vs H Q _ => ∃ (a : Addr) (ts : List Tr) (n : Nat), vs = [.ref a, .int (n : Nat)] ∧ OfAt K H a ts ∧ Fair ts ∧ n ≤ 1000000000000000000 ∧ ∀ H', Same H H' → Q ((roundsL (cN ts) n).map V.int) H'
theorem ok_Offer_rounds : GFn P w K mg base 4 (a_Offer_rounds K) T.fd_Offer_rounds ["self", "bottles"] (spRounds K) := by
  refine gfnG (d := d_Offer_rounds) T.F_Offer_rounds sc_Offer_rounds (fun vs H Q E h => ?_) (fun cdv A outer s H vs Q E pn hr h => ?_)
  · obtain ⟨a, ts, n, rfl, _⟩ := h
    rfl
  obtain ⟨a, ts, n, rfl, ho, hf, hn, k⟩ := h
  obtain ⟨dx, t, p, o, f, g, e1, e2, e3, e4, e5, e6⟩ := ho.ex
  have C := cf hf
  refine ⟨_, (gss_cons (gs_ps (ps_expr (pe_cR (ok_check_number T) (hr.mono (by decide)) T.F_check_number.kp T.g_check_number pass0 (pa_cons (pv 1) pa_nil)))) (gss_cons (gs_ps (ps_set (i := 2) sc_Offer_rounds.nd rfl (Or.inl rfl) pe_int)) (gss_cons (gs_ps (ps_set (i := 3) sc_Offer_rounds.nd rfl (Or.inl rfl) (pv 1))) (gss_cons (gs_while owns_gcx (pt_cmpR op_gt (pv 3) pe_int (nomark _)) (gss_cons (gs_yield (pv 3)) (gss_pss (pss_cons (ps_set (i := 2) sc_Offer_rounds.nd rfl (Or.inl rfl) (pe_op op_add (pv 2) (pv 3))) (pss_one (ps_set (i := 3) sc_Offer_rounds.nd rfl (Or.inl rfl) (pe_op op_sub (pv 1) (pe_cR (ok_cost_of T) (hr.mono (by decide)) T.F_cost_of.kp T.g_cost_of pass0 (pa_cons (pe_fld (pv 0) rfl) (pa_cons (pv 2) pa_nil)))))))))) gss_nil)))), ?_⟩
  refine ⟨_, rfl, n, rfl, by omega, by omega, ?_⟩
  refine ⟨_, rfl, RndW a ts n H, ⟨10 * n + 1, 0, [], Same.refl _, fun j q => absurd q (Nat.not_lt_zero _), by have := C.D_le_ten n; omega, rfl, rfl, ?_⟩, ?_⟩
  · rw [C.zero, Int.sub_zero]
    rfl
  rintro m ys σ H1 ⟨d, pre, s1, hlow, hm, rfl, hpre, rfl⟩
  have hd := C.below hlow
  obtain ⟨m, rfl⟩ : ∃ m', m = m' + 1 := ⟨m - 1, by omega⟩
  have hr2 : rnd (cN ts) n (m + 1) d = if 0 < (n : Int) - cN ts d then ((n : Int) - cN ts d) :: rnd (cN ts) n m (d + ((n : Int) - cN ts d).toNat) else [] := rfl
  refine ⟨_, rfl, _, _, rfl, rfl, _, rfl, ite2 (fun hf0 => ?_) (fun hf0 => ?_)⟩
  · have hf0 : 0 < (n : Int) - cN ts d := of_decide_eq_true hf0
    rw [hr2, if_pos hf0] at hpre
    have hlow2 := C.below_next hlow hf0
    refine ⟨RndW a ts n H m, fun _ _ _ h => ⟨m, Nat.lt_succ_self _, h⟩, ?_, _, rfl, ?_⟩
    · have h1 := roundsL_len hf hn
      rw [← hpre, List.length_append] at h1
      rw [List.length_map]
      exact small3 (by omega)
    refine ⟨_, rfl, _, rfl, _, _, rfl, rfl, ?_⟩
    refine ⟨_, rfl, _, rfl, a, _, dx, _, _, rfl, s1 _ _ e1, T.k_Offer, T.na_trades, lk_trades, ?_⟩
    have ed : (d : Int) + ((n : Int) - cN ts d) = ((d + ((n : Int) - cN ts d).toNat : Nat) : Int) := by omega
    refine ⟨_, rfl, t, ts, _, rfl, e2.mono s1, hf.g, fun H2 s2 => ⟨_, _, rfl, rfl, ?_⟩⟩
    refine ⟨d + ((n : Int) - cN ts d).toNat, pre ++ [(n : Int) - cN ts d], s1.trans s2, hlow2, by omega, by rw [List.map_append]; rfl, by rw [List.append_assoc]; exact hpre, ?_⟩
    show [some (V.ref a), some (V.int (n : Nat)), some (V.int ((d : Int) + ((n : Int) - cN ts d))), some (V.int ((n : Int) - cost ts ((d : Int) + ((n : Int) - cN ts d))))] = _
    rw [ed]
  · have hf0 : ¬ 0 < (n : Int) - cN ts d := fun z => hf0 (decide_eq_true z)
    rw [hr2, if_neg hf0, List.append_nil] at hpre
    rw [hpre]
    exact k _ s1
theorem b_Offer_rounds : Binds K T.fd_Offer_rounds ["self", "bottles"] [] := bndG T.F_Offer_rounds rfl (fun _ _ _ _ _ _ us hl => match us, hl with | [_, _], _ => rfl)
end
end EB

namespace EB
open PySem PySem.Spec PyProof.Rows L2
/-- the greatest number of drinks whose cost is within n -/
def IsC (c : Nat → Int) (n d : Nat) : Prop := c d ≤ n ∧ ∀ e, d < e → (n : Int) < c e
theorem credit_at {c : Nat → Int} {P B : Nat} (h : CF c P B) {n q r d : Nat} (hn : n = q * B + r) (hr : r < B) (hd : d < P) (h1 : c d ≤ r) (h2 : ∀ e, d < e → e < P → (r : Int) < c e) : IsC c n (q * P + d) := by
  have hp := h.ppos
  refine ⟨?_, fun e he => ?_⟩
  · rw [Nat.add_comm (q * P), h.perm, hn]
    push_cast
    omega
  · have e1 := Nat.div_add_mod e P
    have e2 := Nat.mod_lt e hp
    have e3 : e = e % P + e / P * P := by rw [Nat.mul_comm]; omega
    have e4 := h.perm (e % P) (e / P)
    rw [← e3] at e4
    rw [e4, hn]
    have e5 : q ≤ e / P := by
      rw [Nat.le_div_iff_mul_le hp]
      omega
    rcases Nat.lt_or_eq_of_le e5 with z | z
    · have z1 : (q + 1) * B ≤ e / P * B := Nat.mul_le_mul_right _ z
      have z2 := h.nonneg (e % P)
      have z3 : (q + 1) * B = q * B + B := by rw [Nat.add_mul, Nat.one_mul]
      have z4 : ((q * B + r : Nat) : Int) < ((e / P * B : Nat) : Int) := by omega
      have z5 : ((e / P * B : Nat) : Int) = (e / P : Nat) * (B : Int) := by push_cast; rfl
      omega
    · have z1 : d < e % P := by
        rw [← z] at e3
        omega
      have z2 := h2 (e % P) z1 e2
      rw [← z]
      push_cast
      omega
theorem IsC.uniq {c : Nat → Int} {n d e : Nat} (h : IsC c n d) (g : IsC c n e) : d = e := by
  rcases Nat.lt_trichotomy d e with q | q | q
  · have := h.2 e q
    have := g.1
    omega
  · exact q
  · have := g.2 d q
    have := h.1
    omega
theorem IsC.cost {c : Nat → Int} {P B : Nat} (h : CF c P B) {n d : Nat} (g : IsC c n d) : c d = n := by
  have h1 := g.1
  have h2 := g.2 (d + 1) (Nat.lt_succ_self d)
  have h3 := h.step d
  omega
theorem IsC.ten {c : Nat → Int} {P B : Nat} (h : CF c P B) {n d : Nat} (g : IsC c n d) : d ≤ 10 * n := by
  have h1 := g.1
  have h2 := h.ten d
  omega
theorem IsC.ge {c : Nat → Int} {P B : Nat} (h : CF c P B) {n d : Nat} (g : IsC c n d) : D c n ≤ d := by
  apply Nat.le_of_not_lt
  intro q
  have h1 := g.2 _ q
  have h2 := h.D_cost n
  omega
section
variable {P : Program} {w : World} {K : PySem.W.Frag} {mg : Str → Option Value} {base : Heap} (T : Tx K mg)
include T
def spCredit (K : PySem.W.Frag) : Sp := fun vs H Q _ => ∃ (a : Addr) (ts : List Tr) (n : Nat), vs = [.ref a, .int (n : Nat)] ∧ OfAt K H a ts ∧ Fair ts ∧ n ≤ 1000000000000000000 ∧ ∀ H' d, Same H H' → IsC (cN ts) n d → Q (.int (d : Nat)) H'
theorem ok_Offer_credit : FnR P w K mg base CX0 4 (a_Offer_credit K) (spCredit K) := by
  refine fnR0 (d := d_Offer_credit) T.F_Offer_credit sc_Offer_credit rfl (fun _ _ _ _ _ _ us hl => match us, hl with | [_, _], _ => rfl) (fun vs H Q E h => ?_) (fun cdv A outer s H vs Q E hr h => ?_)
  · obtain ⟨a, ts, n, rfl, _⟩ := h
    rfl
  obtain ⟨a, ts, n, rfl, ho, hf, hn, k⟩ := h
  obtain ⟨dx, t, p, o, f, g, e1, e2, e3, e4, e5, e6⟩ := ho.ex
  have C := cf hf
  have hB := C.bpos
  have hP := C.ppos
  have hP2 := per_le' hf.g
  have hB2 := perB_le hf
  refine ⟨_, (pss_cons (ps_expr (pe_cR (ok_check_number T) (hr.mono (by decide)) T.F_check_number.kp T.g_check_number pass0 (pa_cons (pv 1) pa_nil))) (pss_cons (ps_asg (pe_fld (pv 0) rfl) (pg_tup rfl (pgs_cons (pg_name (i := 2) sc_Offer_credit.nd rfl (Or.inl rfl)) (pgs_cons (pg_name (i := 3) sc_Offer_credit.nd rfl (Or.inl rfl)) pgs_nil)))) (pss_cons (ps_asg (pe_callB call_divmod (by rfl) T.n_divmod (by decide +kernel) (pa_cons (pv 1) (pa_cons (pv 2) pa_nil))) (pg_tup rfl (pgs_cons (pg_name (i := 4) sc_Offer_credit.nd rfl (Or.inl rfl)) (pgs_cons (pg_name (i := 5) sc_Offer_credit.nd rfl (Or.inl rfl)) pgs_nil)))) (pss_cons (ps_set (i := 6) sc_Offer_credit.nd rfl (Or.inl rfl) (pe_op op_sub (pv 3) pe_int)) (pss_cons (ps_while PassesOwn.never (pt_cmpR op_gt (pe_cR (ok_cost_of T) (hr.mono (by decide)) T.F_cost_of.kp T.g_cost_of pass0 (pa_cons (pe_fld (pv 0) rfl) (pa_cons (pv 6) pa_nil))) (pv 5) (nomark _)) (pss_one (ps_set (i := 6) sc_Offer_credit.nd rfl (Or.inl rfl) (pe_op op_sub (pv 6) pe_int)))) (pss_one (ps_ret (pe_op op_add (pe_op op_mul (pv 4) (pv 3)) (pv 6))))))))), ?_⟩
  refine ⟨_, rfl, n, rfl, by omega, by omega, ?_⟩
  refine ⟨_, rfl, a, _, dx, _, _, rfl, e1, T.k_Offer, T.na_period, lk_period, p, _, rfl, e3, rfl, _, _, rfl, _, _, rfl, rfl, ?_⟩
  refine ⟨_, rfl, _, rfl, n, perB ts, rfl, ⟨by omega, by omega⟩, fun q hq => ⟨q, _, rfl, SqT.of upd_same, rfl, _, _, rfl, _, _, rfl, rfl, ?_⟩⟩
  have s1 : Same H (upd H q (.tup [.int ((n : Int) / (perB ts : Int)), .int ((n : Int) % (perB ts : Int))])) := same_new hq
  refine ⟨_, rfl, _, _, rfl, rfl, ?_⟩
  -- down from the last drinks of a period
  refine ⟨fun m σ H1 => Same H H1 ∧ m < per ts ∧ (∀ e, m < e → e < per ts → (((n % perB ts : Nat) : Nat) : Int) < cN ts e) ∧
    σ = [some (.ref a), some (.int n), some (.int (perB ts : Nat)), some (.int (per ts : Nat)), some (.int ((n : Int) / (perB ts : Int))), some (.int ((n : Int) % (perB ts : Int))), some (.int (m : Nat))], ⟨per ts - 1, s1, by omega, fun e h1 h2 => by omega, ?_⟩, ?_⟩
  · have : ((per ts - 1 : Nat) : Int) = (per ts : Int) - 1 := by omega
    rw [this]
    rfl
  rintro m σ H1 ⟨s1, hm, hall, rfl⟩
  refine ⟨_, rfl, a, _, dx, _, _, rfl, s1 _ _ e1, T.k_Offer, T.na_trades, lk_trades, _, rfl, t, ts, m, rfl, e2.mono s1, hf.g, fun H2 s2 => ⟨_, rfl, _, _, rfl, rfl, _, rfl, ite2 (fun hd => ?_) (fun hd => ?_)⟩⟩
  · have hd : ((n : Int) % (perB ts : Int)) < cost ts m := of_decide_eq_true hd
    have em : ((n % perB ts : Nat) : Int) = (n : Int) % (perB ts : Int) := by push_cast; rfl
    have hm0 : 0 < m := by
      rcases Nat.eq_zero_or_pos m with z | z
      · subst z
        have z0 : cost ts ((0 : Nat) : Int) = 0 := C.zero
        have := Int.emod_nonneg (n : Int) (show (perB ts : Int) ≠ 0 by omega)
        omega
      · exact z
    refine ⟨fun σ' H' => ∃ m', m' < m ∧ (Same H H' ∧ m' < per ts ∧ (∀ e, m' < e → e < per ts → (((n % perB ts : Nat) : Nat) : Int) < cN ts e) ∧
      σ' = [some (.ref a), some (.int n), some (.int (perB ts : Nat)), some (.int (per ts : Nat)), some (.int ((n : Int) / (perB ts : Int))), some (.int ((n : Int) % (perB ts : Int))), some (.int (m' : Nat))]), fun _ _ z => z, ?_⟩
    refine ⟨_, rfl, _, _, rfl, rfl, m - 1, by omega, s1.trans s2, by omega, fun e h1 h2 => ?_, ?_⟩
    · rcases Nat.lt_or_ge m e with z | z
      · exact hall e z h2
      · have : e = m := by omega
        rw [this, em]
        exact hd
    · have : ((m - 1 : Nat) : Int) = (m : Int) - 1 := by omega
      rw [this]
      rfl
  · have hd : ¬ ((n : Int) % (perB ts : Int)) < cost ts m := fun z => hd (decide_eq_true z)
    have em : ((n % perB ts : Nat) : Int) = (n : Int) % (perB ts : Int) := by push_cast; rfl
    refine ⟨_, rfl, _, rfl, _, _, rfl, rfl, .inr ⟨by omega, by omega⟩, _, rfl, _, _, rfl, rfl, ?_⟩
    have ed := Nat.div_add_mod n (perB ts)
    have hc := credit_at (n := n) (q := n / perB ts) (r := n % perB ts) (d := m) C (by rw [Nat.mul_comm]; omega) (Nat.mod_lt _ hB) hm (by show cost ts m ≤ _; omega) hall
    have k2 := k _ _ (s1.trans s2) hc
    have e9 : (((n / perB ts * per ts + m : Nat) : Nat) : Int) = (n : Int) / (perB ts : Int) * (per ts : Int) + (m : Int) := by push_cast; rfl
    rw [e9] at k2
    exact k2
end
end EB

namespace EB
open PySem PySem.Spec PyProof.Rows L2
/-- the offer of a full bottle for n empty ones -/
def simT (n : Nat) : List Tr := [⟨"empty", 1, (n : Int)⟩]
theorem till12 {n : Nat} (h2 : 2 ≤ n) (h12 : n ≤ 12) : n = 2 ∨ n = 3 ∨ n = 4 ∨ n = 5 ∨ n = 6 ∨ n = 7 ∨ n = 8 ∨ n = 9 ∨ n = 10 ∨ n = 11 ∨ n = 12 := by omega
theorem sim_good {n : Nat} (h2 : 2 ≤ n) (h12 : n ≤ 12) : Good (simT n) := by
  rcases till12 h2 h12 with rfl | rfl | rfl | rfl | rfl | rfl | rfl | rfl | rfl | rfl | rfl <;> exact good_of (by decide +kernel)
theorem sim_per {n : Nat} (h2 : 2 ≤ n) (h12 : n ≤ 12) : per (simT n) = n ∧ perB (simT n) = n - 1 := by
  rcases till12 h2 h12 with rfl | rfl | rfl | rfl | rfl | rfl | rfl | rfl | rfl | rfl | rfl <;> decide +kernel
theorem sim_c (n d : Nat) : cN (simT n) d = (d : Int) - ((d / n : Nat) : Int) := by
  show (d : Int) - (1 * (d : Int) / (n : Int) + 0) = _
  rw [Int.one_mul, Int.add_zero]
  rfl
theorem sim_mono {n : Nat} (h2 : 2 ≤ n) (h12 : n ≤ 12) {d e : Nat} (q : d ≤ e) : cN (simT n) d ≤ cN (simT n) e := by
  rw [sim_c, sim_c]
  rcases till12 h2 h12 with rfl | rfl | rfl | rfl | rfl | rfl | rfl | rfl | rfl | rfl | rfl <;> omega
theorem sim_T {n : Nat} (h2 : 2 ≤ n) (h12 : n ≤ 12) (d : Nat) : EB.T (cN (simT n)) d = (d : Int) - ((d / n : Nat) : Int) := by
  rw [← sim_c]
  exact CF.T_eq _ ⟨d, Nat.le_refl _, rfl⟩ fun j q => sim_mono h2 h12 q
theorem sim_D {n : Nat} (h2 : 2 ≤ n) (h12 : n ≤ 12) (b : Nat) : D (cN (simT n)) (b + 1) = b + 1 + b / (n - 1) := by
  refine (cf (sim_good h2 h12).fair).D_eq ⟨?_, fun j q => ?_⟩
  · rw [sim_c]
    rcases till12 h2 h12 with rfl | rfl | rfl | rfl | rfl | rfl | rfl | rfl | rfl | rfl | rfl <;> omega
  · rw [sim_c]
    rcases till12 h2 h12 with rfl | rfl | rfl | rfl | rfl | rfl | rfl | rfl | rfl | rfl | rfl <;> omega
theorem sim_D0 {n : Nat} (h2 : 2 ≤ n) (h12 : n ≤ 12) : D (cN (simT n)) 0 = 0 := (cf (sim_good h2 h12).fair).D_zero
theorem sim_C {n : Nat} (h2 : 2 ≤ n) (h12 : n ≤ 12) {b d : Nat} (h : IsC (cN (simT n)) b d) : d = b + b / (n - 1) := by
  refine h.uniq ⟨?_, fun j q => ?_⟩
  · rw [sim_c]
    rcases till12 h2 h12 with rfl | rfl | rfl | rfl | rfl | rfl | rfl | rfl | rfl | rfl | rfl <;> omega
  · rw [sim_c]
    rcases till12 h2 h12 with rfl | rfl | rfl | rfl | rfl | rfl | rfl | rfl | rfl | rfl | rfl <;> omega
theorem sim_steady {n : Nat} (h2 : 2 ≤ n) (h12 : n ≤ 12) : EB.T (cN (simT n)) (per (simT n) - 1) + 1 - perB (simT n) = 1 := by
  obtain ⟨e1, e2⟩ := sim_per h2 h12
  rw [sim_T h2 h12, e1, e2]
  rcases till12 h2 h12 with rfl | rfl | rfl | rfl | rfl | rfl | rfl | rfl | rfl | rfl | rfl <;> decide
theorem sim_miss {n : Nat} (h2 : 2 ≤ n) (h12 : n ≤ 12) (d : Nat) : isMiss (cN (simT n)) (d + 1) ↔ (d + 1) % n = 0 := by
  rw [CF.miss_iff (cf (sim_good h2 h12).fair), sim_T h2 h12, sim_T h2 h12]
  rcases till12 h2 h12 with rfl | rfl | rfl | rfl | rfl | rfl | rfl | rfl | rfl | rfl | rfl <;> omega
theorem sim_in {n : Nat} (h2 : 2 ≤ n) (h12 : n ≤ 12) (d : Nat) : decide (D (cN (simT n)) (EB.T (cN (simT n)) (d + 1)).toNat = d + 1) = !decide ((d + 1) % n = 0) := by
  by_cases z : (d + 1) % n = 0
  · rw [decide_eq_true z, decide_eq_false ((sim_miss h2 h12 d).mpr z)]
    rfl
  · rw [decide_eq_false z, decide_eq_true (Classical.byContradiction fun y => z ((sim_miss h2 h12 d).mp y))]
    rfl
theorem sim_gaps {n : Nat} (h2 : 2 ≤ n) (h12 : n ≤ 12) : missL (cN (simT n)) 0 (2 * per (simT n)) ≠ [] := by
  obtain ⟨m, rfl⟩ : ∃ m, n = m + 1 := ⟨n - 1, by omega⟩
  have h := (sim_miss h2 h12 m).mpr (Nat.mod_self _)
  refine List.ne_nil_of_mem (a := m + 1) (List.mem_filter.mpr ⟨List.mem_map.mpr ⟨m + 1, List.mem_range.mpr ?_, Nat.zero_add _⟩, ?_⟩)
  · rw [(sim_per h2 h12).1]
    omega
  · rw [decide_eq_false h]
    rfl
theorem sim_nth {n : Nat} (h2 : 2 ≤ n) (h12 : n ≤ 12) {x k : Nat} (h : isMiss (cN (simT n)) x) (e : cntM (cN (simT n)) x = (k : Int) + 1) : x = (k + 1) * n := by
  cases x with
  | zero => exact absurd h (CF.miss_zero (cf (sim_good h2 h12).fair))
  | succ x =>
    have h1 := (sim_miss h2 h12 x).mp h
    unfold cntM at e
    rw [sim_T h2 h12] at e
    rcases till12 h2 h12 with rfl | rfl | rfl | rfl | rfl | rfl | rfl | rfl | rfl | rfl | rfl <;> omega
theorem sim_round {n : Nat} {b : Nat} (hb : 0 < b) : ∃ r, roundsL (cN (simT n)) b = (b : Int) :: r := by
  unfold roundsL rnd
  have e : (b : Int) - cN (simT n) 0 = b := by
    rw [sim_c, Nat.zero_div]
    omega
  rw [e]
  exact ⟨_, if_pos (by omega)⟩
/-- the first difference of two -/
theorem sim_low {n m : Nat} (h2 : 2 ≤ n) (h12 : n ≤ 12) (g2 : 2 ≤ m) (g12 : m ≤ 12) : ∀ b, b < n → b < m → D (cN (simT n)) b = D (cN (simT m)) b
  | 0, _, _ => by rw [sim_D0 h2 h12, sim_D0 g2 g12]
  | b + 1, q1, q2 => by rw [sim_D h2 h12, sim_D g2 g12, Nat.div_eq_of_lt (show b < n - 1 by omega), Nat.div_eq_of_lt (show b < m - 1 by omega)]
theorem sim_diff {n m : Nat} (h2 : 2 ≤ n) (h12 : n ≤ 12) (g2 : 2 ≤ m) (g12 : m ≤ 12) (q : n < m) : D (cN (simT n)) n ≠ D (cN (simT m)) n := by
  obtain ⟨k, rfl⟩ : ∃ k, n = k + 1 := ⟨n - 1, by omega⟩
  rw [sim_D h2 h12, sim_D g2 g12, Nat.div_eq_of_lt (show k < m - 1 by omega), show k + 1 - 1 = k by omega, Nat.div_self (by omega)]
  omega
theorem sim_first {n m : Nat} (h2 : 2 ≤ n) (h12 : n ≤ 12) (g2 : 2 ≤ m) (g12 : m ≤ 12) {v : V} (h : Fst (simT n) (simT m) v) : v = if n = m then .non else .int ((if n < m then n else m : Nat) : Int) := by
  by_cases z : n = m
  · rw [if_pos z]
    subst z
    rcases h with ⟨_, e⟩ | ⟨k, e, _⟩
    · exact e
    · exact absurd rfl e
  · rw [if_neg z]
    have hd : D (cN (simT n)) (if n < m then n else m) ≠ D (cN (simT m)) (if n < m then n else m) := by
      by_cases y : n < m
      · rw [if_pos y]
        exact sim_diff h2 h12 g2 g12 y
      · rw [if_neg y]
        exact (sim_diff g2 g12 h2 h12 (by omega)).symm
    rcases h with ⟨e, _⟩ | ⟨k, e, l, rfl⟩
    · exact absurd (e _) hd
    · have hk : k = if n < m then n else m := by
        rcases Nat.lt_trichotomy k (if n < m then n else m) with q | q | q
        · exfalso
          refine e (sim_low h2 h12 g2 g12 k ?_ ?_)
          · split at q <;> omega
          · split at q <;> omega
        · exact q
        · exact absurd (l _ q) hd
      rw [hk]
/-- from when on one is better -/
theorem sim_last {n : Nat} (h2 : 2 ≤ n) (h12 : n < 12) : LastC (cN (simT n)) (cN (simT (n + 1))) (n * (n - 2) + 1) := by
  have F1 := cf (sim_good h2 (Nat.le_of_lt h12)).fair
  refine ⟨(CF.slk_iff F1 _).mpr ?_, fun m q => Int.not_le.mp fun z => ?_⟩
  · rw [sim_D h2 (by omega), sim_D (by omega) (by omega)]
    rcases till12 h2 (by omega) with rfl | rfl | rfl | rfl | rfl | rfl | rfl | rfl | rfl | rfl | rfl <;> first | decide | omega
  · have z := (CF.slk_iff F1 _).mp z
    obtain ⟨k, rfl⟩ : ∃ k, m = k + 1 := ⟨m - 1, by omega⟩
    rw [sim_D h2 (by omega), sim_D (by omega) (by omega)] at z
    rcases till12 h2 (by omega) with rfl | rfl | rfl | rfl | rfl | rfl | rfl | rfl | rfl | rfl | rfl <;> omega
theorem bet_last {ts us : List Tr} {n : Nat} {v : V} (h : LastC (cN ts) (cN us) n) (b : Bet ts us v) : v = .int (n + 1 : Nat) := by
  rcases b with ⟨o, _⟩ | ⟨m, l, rfl⟩
  · obtain ⟨k, h1, h2⟩ := o (n + 1)
    have := h.2 k (by omega)
    omega
  · rcases Nat.lt_trichotomy m n with q | q | q
    · have := l.2 n q
      have := h.1
      omega
    · rw [q]
    · have := h.2 m q
      have := l.1
      omega
theorem bet_self {ts : List Tr} {v : V} (f : Fair ts) (b : Bet ts ts v) : v = .non := by
  rcases b with ⟨_, e⟩ | ⟨m, l, rfl⟩
  · exact e
  · have h1 := l.2 (m + 1) (by omega)
    have h2 := (CF.slk_iff (c2 := cN ts) (cf f) (m + 1)).mpr (Nat.le_refl _)
    omega
/-! ### better for some, not in the long run -/
def lateA : List Tr := [⟨"a", 1, 12⟩, ⟨"b", 1, 12⟩, ⟨"c", 1, 12⟩]
def lateB : List Tr := [⟨"a", 1, 8⟩, ⟨"b", 1, 8⟩]
theorem lateA_good : Good lateA := good_of (by decide +kernel)
theorem lateB_good : Good lateB := good_of (by decide +kernel)
def tabA : List Nat := [0, 1, 2, 3, 4, 5, 6, 7, 8, 9, 10, 11, 15, 16]
def tabB : List Nat := [0, 1, 2, 3, 4, 5, 6, 7, 10, 11, 12, 13, 14, 15]
theorem lateA_D : ∀ b : Nat, b < 14 → D (cN lateA) b = tabA.getD b 0 := fun b q => (cf lateA_good.fair).D_eq (by
  have h : ∀ b : Nat, b < 14 → ((b : Int) ≤ cN lateA (tabA.getD b 0) ∧ ∀ j, j < tabA.getD b 0 → cN lateA j < b) := by decide +kernel
  exact h b q)
theorem lateB_D : ∀ b : Nat, b < 14 → D (cN lateB) b = tabB.getD b 0 := fun b q => (cf lateB_good.fair).D_eq (by
  have h : ∀ b : Nat, b < 14 → ((b : Int) ≤ cN lateB (tabB.getD b 0) ∧ ∀ j, j < tabB.getD b 0 → cN lateB j < b) := by decide +kernel
  exact h b q)
theorem late_le {b : Nat} (q : b < 14) : decide (((D (cN lateA) b : Nat) : Int) ≤ (D (cN lateB) b : Nat)) = decide (b < 12) := by
  rw [lateA_D b q, lateB_D b q]
  have h : ∀ b : Nat, b < 14 → decide (((tabA.getD b 0 : Nat) : Int) ≤ (tabB.getD b 0 : Nat)) = decide (b < 12) := by decide +kernel
  exact h b q
theorem late_no : ¬ leC (cN lateA) (cN lateB) ∧ ¬ leC (cN lateB) (cN lateA) := by
  refine ⟨fun h => ?_, fun h => ?_⟩
  · have := h 12
    rw [lateA_D 12 (by decide), lateB_D 12 (by decide)] at this
    exact absurd this (by decide)
  · have := h 8
    rw [lateA_D 8 (by decide), lateB_D 8 (by decide)] at this
    exact absurd this (by decide)
end EB

namespace EB
open PySem PySem.Spec PyProof.Rows L2
theorem OfNew.less {K : PySem.W.Frag} {H0 H1 H : Hp} {a : Addr} {ts : List Tr} (s : ∀ b, H1 b = none → H0 b = none) (o : OfNew K H1 H a ts) : OfNew K H0 H a ts := by
  obtain ⟨dx, t, p, q, f, g, e1, e2, e3, e4, e5, e6, n1, n2, n3⟩ := o.ex
  exact ⟨dx, t, p, q, f, g, e1, e2, e3, e4, e5, e6, s _ n1, s _ n2, s _ n3⟩
section
variable {P : Program} {w : World} {K : PySem.W.Frag} {mg : Str → Option Value} {base : Heap} (T : Tx K mg)
include T
def spSimple (K : PySem.W.Frag) : Sp := fun vs H Q _ => ∃ n : Nat, vs = [.ref (He.ga K "Offer"), .int (n : Nat)] ∧ 2 ≤ n ∧ n ≤ 12 ∧ ∀ H' x, Same H H' → OfNew K H H' x (simT n) → Q (.ref x) H'
theorem ok_Offer_simple : FnR P w K mg base CX0 7 (a_Offer_simple K) (spSimple K) := by
  refine fnR0 (d := d_Offer_simple) T.F_Offer_simple sc_Offer_simple rfl (fun _ _ _ _ _ _ us hl => match us, hl with | [_, _], _ => rfl) (fun vs H Q E h => ?_) (fun cdv A outer s H vs Q E hr h => ?_)
  · obtain ⟨n, rfl, _⟩ := h
    rfl
  obtain ⟨n, rfl, h2, h12, k⟩ := h
  have g := sim_good h2 h12
  refine ⟨_, (pss_one (ps_ret (pe_makeV T.mk_Offer (ok_Offer_init T) (hr.mono (by decide)) pass0 (pv 0) (pa_cons (pe_tup (pa_cons pe_str (pa_cons pe_int (pa_cons (pv 1) pa_nil)))) pa_nil)))), ?_⟩
  refine ⟨_, rfl, rfl, _, rfl, by show 3 ≤ sizeLine; decide, fun p hp x dx nx nd ned => ?_⟩
  refine make_ok (ps := [p]) (ts := simT n) rfl (fun i q t a b => ?_) g.fair g.ne g.nm nx nd ned fun H' s' o' => k H' x ((same_new hp).trans s') (o'.less fun b e => (upd_none e).2)
  match i, a, b with
  | 0, a, b =>
    cases a
    cases b
    exact SqT.of upd_same
end
end EB

namespace EB
open PySem PySem.Spec PyProof.Rows L2
theorem OfNew.of {K : PySem.W.Frag} {H0 H : Hp} {a : Addr} {ts : List Tr} (o : OfNew K H0 H a ts) : OfAt K H a ts := by
  obtain ⟨dx, t, p, q, f, g, e1, e2, e3, e4, e5, e6, _⟩ := o.ex
  exact ⟨dx, t, p, q, f, g, e1, e2, e3, e4, e5, e6⟩
theorem make_okR {K : PySem.W.Frag} {H : Hp} {ts : List Tr} {ps : List Addr} {R : Hp → Prop} {E : XK} {x dx : Addr} (h2 : ps.length = ts.length) (h3 : ∀ (i : Nat) (p : Addr) (t : Tr), ps[i]? = some p → ts[i]? = some t → SqT K H p t.vs)
    (hg : Good ts) (nx : H x = none) (nd : H dx = none) (ned : dx ≠ x) (k : ∀ H', Same H H' → OfNew K H H' x ts → R H') :
    ∃ ws rest, (V.ref x :: ps.map V.ref) = ws ++ rest ∧ ws.length = 1 ∧ rest.length ≤ sizeLine ∧ ∀ p, (upd (upd H dx (.own x)) x (.ins (He.ga K "Offer") dx [])) p = none →
      spInit K (ws ++ [V.ref p]) (upd (upd (upd H dx (.own x)) x (.ins (He.ga K "Offer") dx [])) p (.tup rest)) (fun v H2 => v = .non ∧ R H2) E :=
  make_ok (Q := fun _ => R) h2 h3 hg.fair hg.ne hg.nm nx nd ned k
section
variable {P : Program} {w : World} {K : PySem.W.Frag} {mg : Str → Option Value} {base : Heap} (T : Tx K mg)
include T
def spLate (K : PySem.W.Frag) : Sp := fun vs H Q _ => vs = [] ∧ ∀ H', Same H H' → Q (.bl true) H'
theorem b_law_late_right : Binds K T.fd_law_late_right [] [] := bnd0 T.F_law_late_right sc_law_late_right rfl (fun _ _ _ _ _ _ us hl => match us, hl with | [], _ => rfl)
theorem ok_law_late_right : FnOk P w K mg base CX0 8 (a_law_late_right K) T.fd_law_late_right [] (spLate K) := by
  refine fnK0 (d := d_law_late_right) T.F_law_late_right sc_law_late_right (fun vs H Q E h => ?_) (fun cdv A outer s H vs Q E hr h => ?_)
  · obtain ⟨rfl, _⟩ := h
    rfl
  obtain ⟨rfl, k⟩ := h
  refine ⟨_, (pss_cons (ps_set (i := 0) sc_law_late_right.nd rfl (Or.inr rfl) (StX.pe_makeR T.mk_Offer (ok_Offer_init T) (hr.mono (by decide)) (by rfl) T.g_Offer pass0 (pa_cons (pe_tup (pa_cons pe_str (pa_cons pe_int (pa_cons pe_int pa_nil)))) (pa_cons (pe_tup (pa_cons pe_str (pa_cons pe_int (pa_cons pe_int pa_nil)))) (pa_cons (pe_tup (pa_cons pe_str (pa_cons pe_int (pa_cons pe_int pa_nil)))) pa_nil))))) (pss_cons (ps_set (i := 1) sc_law_late_right.nd rfl (Or.inr rfl) (StX.pe_makeR T.mk_Offer (ok_Offer_init T) (hr.mono (by decide)) (by rfl) T.g_Offer pass0 (pa_cons (pe_tup (pa_cons pe_str (pa_cons pe_int (pa_cons pe_int pa_nil)))) (pa_cons (pe_tup (pa_cons pe_str (pa_cons pe_int (pa_cons pe_int pa_nil)))) pa_nil)))) (pss_cons (ps_if (pt_cmpR (op_neD hr.units) (pe_lc (own := [("_law_n", 2)]) rfl sc_law_late_right.nd (pi_range1 rfl T.n_range (pa_cons pe_int pa_nil)) (blkOk_by (own := [("_law_n", 2)]) (N := N_law_late_right) (sc := defScope s_law_late_right) (by decide +kernel)) (fun _ _ _ _ _ => (pg_name (i := 2) sc_law_late_right.nd rfl (Or.inl rfl) (.inr rfl))) (fun _ _ _ _ _ => pts_nil) (fun _ _ _ _ _ => (pe_cmpR op_le (pe_callI (pv 0) T.co_Offer (ok_Offer_call T) (hr.mono (by decide)) pass0 (pa_cons (pv 2) pa_nil)) (pe_callI (pv 1) T.co_Offer (ok_Offer_call T) (hr.mono (by decide)) pass0 (pa_cons (pv 2) pa_nil)) (nomark _)))) (pe_op op_cat (pe_op op_rep (pe_lst (pa_cons pe_bl pa_nil)) pe_int) (pe_lst (pa_cons pe_bl (pa_cons pe_bl pa_nil)))) (nomark _)) (pss_one (ps_ret pe_bl)) pss_nil) (pss_one (ps_ret (pe_cmpR (op_eqD hr.units) (pe_lst (pa_cons (pe_cmpR (op_cmpO (fun _ _ => rfl) T.m_Offer_le.at_ T.m_Offer_le.fn (ok_Offer_le T) (hr.mono (by decide)) pass0) (pv 0) (pv 1) (nomark _)) (pa_cons (pe_cmpR (op_cmpO (fun _ _ => rfl) T.m_Offer_le.at_ T.m_Offer_le.fn (ok_Offer_le T) (hr.mono (by decide)) pass0) (pv 1) (pv 0) (nomark _)) (pa_cons (pe_cmpR (op_cmpO (fun _ _ => rfl) T.m_Offer_lt.at_ T.m_Offer_lt.fn (ok_Offer_lt T) (hr.mono (by decide)) pass0) (pv 0) (pv 1) (nomark _)) (pa_cons (pe_cmpR (op_cmpO (fun _ _ => rfl) T.m_Offer_gt.at_ T.m_Offer_gt.fn (ok_Offer_gt T) (hr.mono (by decide)) pass0) (pv 0) (pv 1) (nomark _)) pa_nil))))) (pe_op op_rep (pe_lst (pa_cons pe_bl pa_nil)) pe_int) (nomark _))))))), ?_⟩
  refine ⟨by show 3 ≤ sizeLine; decide, fun p1 h1 => ⟨by show 3 ≤ sizeLine; decide, fun p2 h2 => ⟨by show 3 ≤ sizeLine; decide, fun p3 h3 x dx nx nd ned => ?_⟩⟩⟩
  refine make_okR (ps := [p1, p2, p3]) (ts := lateA) rfl (fun i q t a b => ?_) lateA_good nx nd ned fun H1 s1 o1 => ?_
  · match i, a, b with
    | 0, a, b =>
      cases a
      cases b
      exact SqT.of (upd_old (upd_old upd_same h2) h3)
    | 1, a, b =>
      cases a
      cases b
      exact SqT.of (upd_old upd_same h3)
    | 2, a, b =>
      cases a
      cases b
      exact SqT.of upd_same
  have S1 : Same H H1 := (same_new h1).trans ((same_new h2).trans ((same_new h3).trans s1))
  have oA := o1.of
  refine ⟨by show 3 ≤ sizeLine; decide, fun p4 h4 => ⟨by show 3 ≤ sizeLine; decide, fun p5 h5 y dy ny nd5 ned5 => ?_⟩⟩
  refine make_okR (ps := [p4, p5]) (ts := lateB) rfl (fun i q t a b => ?_) lateB_good ny nd5 ned5 fun H2 s2 o2 => ?_
  · match i, a, b with
    | 0, a, b =>
      cases a
      cases b
      exact SqT.of (upd_old upd_same h5)
    | 1, a, b =>
      cases a
      cases b
      exact SqT.of upd_same
  have S2 : Same H1 H2 := (same_new h4).trans ((same_new h5).trans s2)
  have oB := o2.of
  have oA := oA.mono S2
  have S02 := S1.trans S2
  clear S1 S2 s1 s2 o1 o2 nx nd ned ny nd5 ned5 h1 h2 h3 h4 h5
  obtain ⟨dx, fx, iA, nA⟩ := oA.ins
  obtain ⟨dy, fy, iB, nB⟩ := oB.ins
  refine ⟨14, rfl, by decide, by decide, fun D1 hD => ?_⟩
  refine lc_range (lo := 0) (n := 14) (fun i H5 => Same H2 H5 ∧ H5 D1 = some (.lst ((List.range i).map fun m => V.bl (decide (m < 12)))))
      ⟨same_new hD, upd_same⟩ ?_ ?_
  · rintro j H5 hj ⟨s5, e5⟩
    have A := oA.mono s5
    have B := oB.mono s5
    refine ⟨rfl, _, rfl, x, rfl, _, rfl, ⟨dx, fx, s5 _ _ iA⟩, x, lateA, j, by rw [Int.zero_add], A, lateA_good.fair, by omega, ?_⟩
    refine ⟨_, rfl, y, rfl, _, rfl, ⟨dy, fy, s5 _ _ iB⟩, y, lateB, j, by rw [Int.zero_add], B, lateB_good.fair, by omega, ?_⟩
    refine ⟨_, _, rfl, rfl, _, e5, small3 (by rw [List.length_map, List.length_range]; omega), same_mut s5 hD, ?_⟩
    rw [upd_same, List.range_succ, List.map_append]
    dsimp only
    rw [late_le hj]
    rfl
  rintro H5 ⟨s5, e5⟩
  refine ⟨by show 1 ≤ sizeLine; decide, fun L1 m1 => ⟨L1, 12, _, rfl, rfl, upd_same, by decide, by decide, by show 1 * 12 ≤ sizeLine; decide, fun L2 m2 => ⟨by show 2 ≤ sizeLine; decide, fun L3 m3 => ⟨L2, L3, _, _, rfl, rfl, upd_old upd_same m3, upd_same, by show 12 + 2 ≤ sizeLine; decide, fun L4 m4 => ?_⟩⟩⟩⟩
  have s6 : Same H5 (upd (upd (upd (upd H5 L1 (.lst [.bl true])) L2 (.lst (List.replicate (12 : Int).toNat [V.bl true]).flatten)) L3 (.lst [.bl false, .bl false])) L4 (.lst ((List.replicate (12 : Int).toNat [V.bl true]).flatten ++ [.bl false, .bl false]))) :=
    (same_new m1).trans ((same_new m2).trans ((same_new m3).trans (same_new m4)))
  have e6 : upd (upd (upd (upd H5 L1 (.lst [.bl true])) L2 (.lst (List.replicate (12 : Int).toNat [V.bl true]).flatten)) L3 (.lst [.bl false, .bl false])) L4 (.lst ((List.replicate (12 : Int).toNat [V.bl true]).flatten ++ [.bl false, .bl false])) L4 =
    some (.lst ((List.range 14).map fun m => V.bl (decide (m < 12)))) := upd_same
  dsimp only
  generalize upd (upd (upd (upd H5 L1 (.lst [.bl true])) L2 (.lst (List.replicate (12 : Int).toNat [V.bl true]).flatten)) L3 (.lst [.bl false, .bl false])) L4 (.lst ((List.replicate (12 : Int).toNat [V.bl true]).flatten ++ [.bl false, .bl false])) = H6 at s6 e6
  have hb : ∀ (H : Hp) (bs : List Bool), DpAll K H (bs.map V.bl) (bs.map PyData.bool) := fun H bs => by
    induction bs with
    | nil => exact .nil
    | cons b bs ih => exact .cons (.bl b) ih
  have d6 : ∀ L, H6 L = some (.lst ((List.range 14).map fun m => V.bl (decide (m < 12)))) → Dp K H6 (.ref L) (.list (((List.range 14).map fun m => decide (m < 12)).map PyData.bool)) := fun L e => .lst (SqL.of e) (hb _ ((List.range 14).map fun m => decide (m < 12)))
  refine ⟨_, _, d6 _ (s6 _ _ e5), d6 _ e6, by decide +kernel, by decide +kernel, _, rfl, ite2 (fun z => absurd z (by decide +kernel)) (fun _ => ?_)⟩
  have s06 := s5.trans s6
  have hnf : PySem.W.notFirst K (He.ga K "Offer") (.ref (He.ga K "Offer")) = true := by simp [PySem.W.notFirst]
  refine ⟨_, rfl, _, rfl, x, dx, fx, y, dy, fy, rfl, rfl, s06 _ _ iA, s06 _ _ iB, hnf, x, y, lateA, lateB, rfl, oA.mono s06, lateA_good.fair, oB.mono s06, lateB_good.fair, fun Ha b1 sa hb1 => ?_⟩
  have s0a := s06.trans sa
  refine ⟨_, rfl, _, rfl, y, dy, fy, x, dx, fx, rfl, rfl, s0a _ _ iB, s0a _ _ iA, hnf, y, x, lateB, lateA, rfl, oB.mono s0a, lateB_good.fair, oA.mono s0a, lateA_good.fair, fun Hb b2 sb hb2 => ?_⟩
  have s0b := s0a.trans sb
  refine ⟨_, rfl, _, rfl, x, dx, fx, y, dy, fy, rfl, rfl, s0b _ _ iA, s0b _ _ iB, hnf, x, y, lateA, lateB, rfl, oA.mono s0b, lateA_good.fair, oB.mono s0b, lateB_good.fair, fun Hc b3 sc hb3 => ?_⟩
  have s0c := s0b.trans sc
  refine ⟨_, rfl, _, rfl, x, dx, fx, y, dy, fy, rfl, rfl, s0c _ _ iA, s0c _ _ iB, hnf, x, y, lateA, lateB, rfl, oA.mono s0c, lateA_good.fair, oB.mono s0c, lateB_good.fair, fun Hd b4 sd hb4 => ?_⟩
  have s0d := s0c.trans sd
  rw [if_neg Bool.false_ne_true] at hb1 hb2 hb3
  rw [if_pos rfl] at hb4
  have eb1 : b1 = false := Bool.eq_false_iff.mpr fun z => late_no.1 (hb1.mp z)
  have eb2 : b2 = false := Bool.eq_false_iff.mpr fun z => late_no.2 (hb2.mp z)
  have eb3 : b3 = false := Bool.eq_false_iff.mpr fun z => late_no.1 (hb3.mp z).1
  have eb4 : b4 = false := Bool.eq_false_iff.mpr fun z => late_no.2 (hb4.mp z).1
  subst eb1 eb2 eb3 eb4
  refine ⟨by show 4 ≤ sizeLine; decide, fun La hLa => ⟨by show 1 ≤ sizeLine; decide, fun Lb hLb => ⟨Lb, 4, _, rfl, rfl, upd_same, by decide, by decide, by show 1 * 4 ≤ sizeLine; decide, fun Lc hLc => ?_⟩⟩⟩
  have d7 : ∀ {H L}, H L = some (.lst [.bl false, .bl false, .bl false, .bl false]) → Dp K H (.ref L) (.list [.bool false, .bool false, .bool false, .bool false]) := fun e => .lst (SqL.of e) (hb _ [false, false, false, false])
  refine ⟨_, _, d7 (upd_old (upd_old upd_same hLb) hLc), d7 upd_same, by decide +kernel, by decide +kernel, ?_⟩
  exact k _ (S02.trans (s0d.trans ((same_new hLa).trans ((same_new hLb).trans (same_new hLc)))))
end
end EB

namespace EB
open PySem PySem.Spec PyProof.Rows L2
open N2 (ok_Offer_nth_missing spNth)
section
variable {P : Program} {w : World} {K : PySem.W.Frag} {mg : Str → Option Value} {base : Heap} (T : Tx K mg)
include T
def spLaw (K : PySem.W.Frag) : Sp := fun vs H Q _ => ∃ (a : Addr) (ns : List Int), vs = [.ref a] ∧ SqL K H a (ns.map V.int) ∧ ns.length ≤ 63 ∧ ∀ H', Q (.bl true) H'
theorem ok_law : FnOk P w K mg base CX0 10 (a_law K) T.fd_law ["_law_script"] (spLaw K) := by
  refine fnK0 (d := d_law) T.F_law sc_law (fun vs H Q E h => ?_) (fun cdv A outer s H vs Q E hr h => ?_)
  · obtain ⟨a, ns, rfl, _⟩ := h
    rfl
  obtain ⟨a, ns, rfl, hS, hl, k⟩ := h
  refine ⟨_, (pss_cons (ps_set (i := 1) sc_law.nd rfl (Or.inl rfl) (pe_cR (ok_law_mix T) (hr.mono (by decide)) T.F_law_mix.kp T.g_law_mix pass0 (pa_cons (pv 0) (pa_cons pe_int pa_nil)))) (pss_cons (ps_if (pt_not (pt_val (pe_call0 (ok_law_late_right T) (hr.mono (by decide)) (by rfl) T.g_law_late_right T.F_law_late_right.kp (b_law_late_right T) .nil pass0))) (pss_one (ps_ret pe_bl)) pss_nil) (pss_cons (ps_for PassesOwn.never rfl (pi_range1 rfl T.n_range (pa_cons pe_int pa_nil)) (pg_name (i := 2) sc_law.nd rfl (Or.inl rfl)) (pss_cons (ps_par (i := 3) (j := 4) (by rfl) sc_law.nd rfl rfl (by decide) rfl rfl (pa_cons (pe_op op_add pe_int (pe_cR (ok_law_next T) (hr.mono (by decide)) T.F_law_next.kp T.g_law_next pass0 (pa_cons (pv 1) (pa_cons pe_int pa_nil)))) (pa_cons (pe_op op_add pe_int (pe_cR (ok_law_next T) (hr.mono (by decide)) T.F_law_next.kp T.g_law_next pass0 (pa_cons (pv 1) (pa_cons (pe_ix ix_list (pe_lst (pa_cons pe_int (pa_cons (pe_op op_pow pe_int pe_int) pa_nil))) (pe_cR (ok_law_next T) (hr.mono (by decide)) T.F_law_next.kp T.g_law_next pass0 (pa_cons (pv 1) (pa_cons pe_int pa_nil))) (fun _ _ => rfl)) pa_nil)))) pa_nil)) (by rfl)) (pss_cons (ps_par (i := 5) (j := 6) (by rfl) sc_law.nd rfl rfl (by decide) rfl rfl (pa_cons (ClX.pe_cmeth (pe_cC T.g_Offer) T.r_Offer T.cm_Offer_simple (ok_Offer_simple T) (hr.mono (by decide)) pass0 (pa_cons (pv 3) pa_nil)) (pa_cons (pe_op op_sub (pv 3) pe_int) pa_nil)) (by rfl)) (pss_cons (ps_set (i := 7) sc_law.nd rfl (Or.inl rfl) (pe_lst (pa_cons (pe_op op_add (pv 4) (pe_op op_fdiv (pe_op op_sub (pv 4) pe_int) (pv 6))) (pa_cons (pe_op op_add (pv 4) (pe_op op_fdiv (pv 4) (pv 6))) (pa_cons (pe_tup (pa_cons (pv 6) (pa_cons (pv 3) pa_nil))) (pa_cons pe_int pa_nil)))))) (pss_cons (ps_if (pt_not (pt_val (pe_cR (ok_law_alike T) (hr.mono (by decide)) T.F_law_alike.kp T.g_law_alike pass0 (pa_cons (pe_lst (pa_cons (StX.pe_callO (pv 5) T.co_Offer (ok_Offer_call T) (hr.mono (by decide)) pass0 (pa_cons (pv 4) pa_nil)) (pa_cons (pe_methR (pv 5) T.k_Offer T.m_Offer_credit (ok_Offer_credit T) (hr.mono (by decide)) pass0 (pa_cons (pv 4) pa_nil)) (pa_cons (pe_prop (pv 5) T.k_Offer T.p_Offer_period (ok_Offer_period T) (hr.mono (by decide)) (b_Offer_period T) .nil pass0 rfl) (pa_cons (pe_prop (pv 5) T.k_Offer T.p_Offer_steady_from (ok_Offer_steady_from T) (hr.mono (by decide)) (b_Offer_steady_from T) .nil pass0 rfl) pa_nil))))) (pa_cons (pv 7) pa_nil))))) (pss_one (ps_ret pe_bl)) pss_nil) (pss_cons (ps_if (PW.pt (pw_or (pt_cmpR op_ne (StX.pe_callO (pv 5) T.co_Offer (ok_Offer_call T) (hr.mono (by decide)) pass0 (pa_cons pe_int pa_nil)) pe_int (nomark _)) (pw_or1 (pt_cmpR op_ne (pe_ix ix_list (pe_listG (pgen_meth (pv 5) T.k_Offer T.m_Offer_rounds (ok_Offer_rounds T) (hr.mono (by decide)) (b_Offer_rounds T) .nil (pa_cons (pv 4) pa_nil)) passG noStop0 (hr.mono (by decide)) (by rfl) T.n_list (by decide +kernel)) pe_int (fun _ _ => rfl)) (pv 4) (nomark _))))) (pss_one (ps_ret pe_bl)) pss_nil) (pss_cons (ps_set (i := 8) sc_law.nd rfl (Or.inl rfl) (pe_op op_add pe_int (pe_cR (ok_law_next T) (hr.mono (by decide)) T.F_law_next.kp T.g_law_next pass0 (pa_cons (pv 1) (pa_cons (pe_op op_pow pe_int pe_int) pa_nil))))) (pss_cons (ps_if (pt_cmpR op_ne (pe_cmpR (op_inO T.m_Offer_contains.at_ T.m_Offer_contains.fn (ok_Offer_contains T) (hr.mono (by decide)) pass0) (pv 8) (pv 5) rfl) (pe_cmpR op_ne (pe_op op_mod (pv 8) (pv 3)) pe_int (nomark _)) (nomark _)) (pss_one (ps_ret pe_bl)) pss_nil) (pss_cons (ps_if (pt_cmpR op_ne (pe_methR (pv 5) T.k_Offer T.m_Offer_count_missing (ok_Offer_count_missing T) (hr.mono (by decide)) pass0 (pa_cons (pv 8) pa_nil)) (pe_op op_fdiv (pv 8) (pv 3)) (nomark _)) (pss_one (ps_ret pe_bl)) pss_nil) (pss_cons (ps_if (pt_cmpR op_ne (pe_methR (pv 5) T.k_Offer T.m_Offer_nth_missing (ok_Offer_nth_missing T) (hr.mono (by decide)) pass0 (pa_cons (pv 4) pa_nil)) (pe_op op_mul (pv 4) (pv 3)) (nomark _)) (pss_one (ps_ret pe_bl)) pss_nil) (pss_cons (ps_set (i := 9) sc_law.nd rfl (Or.inl rfl) (pe_op op_add pe_int (pe_cR (ok_law_next T) (hr.mono (by decide)) T.F_law_next.kp T.g_law_next pass0 (pa_cons (pv 1) (pa_cons pe_int pa_nil))))) (pss_cons (ps_set (i := 10) sc_law.nd rfl (Or.inl rfl) (pe_ifExp (pt_cmpR op_lt (pv 3) (pv 9) (nomark _)) (pv 3) (pv 9))) (pss_cons (ps_if (pt_cmpR op_ne (pe_cR (ok_first_difference T) (hr.mono (by decide)) T.F_first_difference.kp T.g_first_difference pass0 (pa_cons (pv 5) (pa_cons (ClX.pe_cmeth (pe_cC T.g_Offer) T.r_Offer T.cm_Offer_simple (ok_Offer_simple T) (hr.mono (by decide)) pass0 (pa_cons (pv 9) pa_nil)) pa_nil))) (pe_ifExp (pt_cmpR op_eq (pv 3) (pv 9) (nomark _)) pe_non (pv 10)) (nomark _)) (pss_one (ps_ret pe_bl)) pss_nil) (pss_cons (ps_set (i := 11) sc_law.nd rfl (Or.inl rfl) (ClX.pe_cmeth (pe_cC T.g_Offer) T.r_Offer T.cm_Offer_simple (ok_Offer_simple T) (hr.mono (by decide)) pass0 (pa_cons (pe_op op_add (pv 10) (pe_callTy call_int1 (by rfl) T.n_int (by decide +kernel) (pa_cons (pe_cmpR op_lt (pv 10) pe_int (nomark _)) pa_nil))) pa_nil))) (pss_cons (ps_set (i := 7) sc_law.nd rfl (Or.inl rfl) (pe_ifExp (pt_cmpR op_lt (pv 10) pe_int (nomark _)) (pe_op op_add (pe_op op_mul (pv 10) (pe_op op_sub (pv 10) pe_int)) pe_int) pe_non)) (pss_one (ps_if (pt_cmpR op_ne (pe_cR (ok_better_from T) (hr.mono (by decide)) T.F_better_from.kp T.g_better_from pass0 (pa_cons (ClX.pe_cmeth (pe_cC T.g_Offer) T.r_Offer T.cm_Offer_simple (ok_Offer_simple T) (hr.mono (by decide)) pass0 (pa_cons (pv 10) pa_nil)) (pa_cons (pv 11) pa_nil))) (pv 7) (nomark _)) (pss_one (ps_ret pe_bl)) pss_nil))))))))))))))))) (pss_one (ps_ret pe_bl))))), ?_⟩
  refine ⟨_, rfl, a, ns, 15, rfl, hS, hl, by decide, by decide, fun H1 h l hs1 => ?_⟩
  refine ⟨rfl, fun H1b sb => ⟨true, rfl, iteF ?_⟩⟩
  replace hs1 := hs1.grow sb
  refine ⟨4, rfl, by decide, by decide, for_range (n := 4) (fun i σ H2 => HS H H2 h l ∧ ∃ x2 x3 x4 x5 x6 x7 x8 x9 x10 x11, σ = [some (.ref a), some (.ref h), x2, x3, x4, x5, x6, x7, x8, x9, x10, x11]) ⟨hs1, _, _, _, _, _, _, _, _, _, _, rfl⟩ ?_ ?_⟩
  · rintro i σ H2 hi ⟨hs2, x2, x3, x4, x5, x6, x7, x8, x9, x10, x11, rfl⟩
    refine ⟨_, rfl, h, l, 11, H, rfl, by decide, by decide, hs2, fun H3 r hs3 r0 r1 => ?_⟩
    obtain ⟨n, en, h2, h12⟩ : ∃ n : Nat, (2 : Int) + r = (n : Nat) ∧ 2 ≤ n ∧ n ≤ 12 := ⟨(2 + r).toNat, by omega, by omega, by omega⟩
    refine ⟨_, _, rfl, rfl, ?_⟩
    dsimp only
    rw [en]
    clear r0 r1
    -- [40, 10 ** 18]
    refine ⟨_, rfl, _, _, rfl, rfl, ⟨by decide, by decide, by decide⟩, by show 2 ≤ sizeLine; decide, fun L hL => ?_⟩
    have nL := hs3.new hL
    have hsA := hs3.grow (same_new (u := .lst [.int 40, .int (10 ^ (18 : Int).toNat)]) hL)
    have eL : upd H3 L (.lst [.int 40, .int (10 ^ (18 : Int).toNat)]) L = some (.lst [.int 40, .int (10 ^ (18 : Int).toNat)]) := upd_same
    generalize upd H3 L (.lst [.int 40, .int (10 ^ (18 : Int).toNat)]) = HA at hsA eL
    refine ⟨_, rfl, h, l, 2, hid2 HA h l, rfl, by decide, by decide, hsA.re, fun H6 r2 hs6' r0 r1 => ?_⟩
    have eL6 := hs6'.same _ _ (HS.keep (H0 := H) eL nL.1 nL.2)
    have hs6 := hsA.down hs6'
    obtain ⟨lim, elim, l0, l1⟩ : ∃ lim : Int, atI [V.int 40, V.int (10 ^ (18 : Int).toNat)] r2 = some (.int lim) ∧ 0 < lim ∧ lim ≤ 1000000000000000000 := by
      rcases (show r2 = 0 ∨ r2 = 1 by omega) with rfl | rfl
      · exact ⟨40, rfl, by decide, by decide⟩
      · exact ⟨10 ^ (18 : Int).toNat, rfl, by decide, by decide⟩
    refine ⟨L, _, _, _, rfl, rfl, SqL.of eL6, elim, ?_⟩
    refine ⟨h, l, lim, hid2 H6 h l, rfl, l0, by omega, hs6.re, fun H7 m hs7' m0 m1 => ⟨_, _, rfl, rfl, ?_⟩⟩
    have hs7 := hs6.down hs7'
    obtain ⟨b, eb, hb⟩ : ∃ b : Nat, (1 : Int) + m = ((b + 1 : Nat) : Int) ∧ b + 1 ≤ 1000000000000000000 := ⟨m.toNat, by omega, by omega⟩
    dsimp only
    rw [eb]
    clear m0 m1 l0 l1 elim eL6 hs6 hs6' hs7' eL hsA nL
    refine ⟨_, _, rfl, ?_⟩
    -- the offer
    have good := sim_good h2 h12
    have hf := good.fair
    have hn1 : ((n - 1 : Nat) : Int) ≠ 0 := by omega
    have en1 : (n : Int) - 1 = ((n - 1 : Nat) : Int) := by omega
    refine ⟨rfl, _, rfl, n, rfl, h2, h12, fun H8 x s8 o8 => ⟨_, rfl, _, _, rfl, rfl, _, _, rfl, ?_⟩⟩
    dsimp only
    rw [en1]
    have hs8 := hs7.grow s8
    have ox := HS.of_ hs7 s8 o8
    have hb8 := hs8.re
    have hsub := hs8.sub
    generalize hid2 H8 h l = B at ox hb8 hsub
    clear hs7 s8 o8 hs8
    obtain ⟨dx, fx, oi, on⟩ := ox.ins
    have sB := hb8.same
    -- what is due
    have hj : 0 < ((n - 1 : Nat) : Int) ∧ ((n - 1 : Nat) : Int) < 1073741824 := ⟨by omega, by omega⟩
    have e1 : ((b + 1 : Nat) : Int) + (((b + 1 : Nat) : Int) - 1) / ((n - 1 : Nat) : Int) = ((D (cN (simT n)) (b + 1) : Nat) : Int) := by
      rw [sim_D h2 h12, show ((b + 1 : Nat) : Int) - 1 = (b : Int) by omega]
      rfl
    have e2 : ((b + 1 : Nat) : Int) + ((b + 1 : Nat) : Int) / ((n - 1 : Nat) : Int) = ((b + 1 + (b + 1) / (n - 1) : Nat) : Int) := rfl
    refine ⟨_, rfl, _, rfl, _, _, rfl, rfl, _, rfl, _, _, rfl, rfl, hj, _, _, rfl, rfl, _, rfl, _, rfl, _, rfl, _, _, rfl, rfl, hj, _, _, rfl, rfl, _, rfl, _, rfl, by show 2 ≤ sizeLine; decide, fun q hq => ?_⟩
    dsimp only
    rw [e1, e2]
    refine ⟨by show 4 ≤ sizeLine; decide, fun L1 m1 => ?_⟩
    have s9 : Same H8 (upd (upd H8 q (.tup [.int (n - 1 : Nat), .int (n : Nat)])) L1 (.lst [.int (D (cN (simT n)) (b + 1) : Nat), .int (b + 1 + (b + 1) / (n - 1) : Nat), .ref q, .int 1])) := (same_new hq).trans (same_new m1)
    have eL1 : upd (upd H8 q (.tup [.int (n - 1 : Nat), .int (n : Nat)])) L1 (.lst [.int (D (cN (simT n)) (b + 1) : Nat), .int (b + 1 + (b + 1) / (n - 1) : Nat), .ref q, .int 1]) L1 = some (.lst [.int (D (cN (simT n)) (b + 1) : Nat), .int (b + 1 + (b + 1) / (n - 1) : Nat), .ref q, .int 1]) := upd_same
    have eq : upd (upd H8 q (.tup [.int (n - 1 : Nat), .int (n : Nat)])) L1 (.lst [.int (D (cN (simT n)) (b + 1) : Nat), .int (b + 1 + (b + 1) / (n - 1) : Nat), .ref q, .int 1]) q = some (.tup [.int (n - 1 : Nat), .int (n : Nat)]) := upd_old upd_same m1
    generalize upd (upd H8 q (.tup [.int (n - 1 : Nat), .int (n : Nat)])) L1 (.lst [.int (D (cN (simT n)) (b + 1) : Nat), .int (b + 1 + (b + 1) / (n - 1) : Nat), .ref q, .int 1]) = H9 at s9 eL1 eq
    have hs9 := hb8.grow s9
    clear hb8 s9 hq m1
    have sB := hs9.same
    -- what is found
    have iX : StX.InsC (cxOf CX0 P w K mg base N_law d_law.ql (defScope d_law.st) (d_law.adr K) cdv A outer s H E).nox H9 x (He.ga K "Offer") := .inr ⟨dx, fx, sB _ _ oi⟩
    refine ⟨_, rfl, x, rfl, _, rfl, iX, x, simT n, b + 1, rfl, ox.mono sB, hf, hb, ?_⟩
    refine ⟨_, rfl, x, dx, fx, rfl, sB _ _ oi, on _ (by decide +kernel), _, rfl, x, simT n, b + 1, rfl, ox.mono sB, hf, hb, fun HA cr sA hcr => ?_⟩
    have sBA := sB.trans sA
    refine ⟨_, rfl, x, dx, _, rfl, sBA _ _ oi, x, simT n, rfl, ox.mono sBA, fun qp hqp => ?_⟩
    refine ⟨_, rfl, x, dx, _, rfl, sBA _ _ oi, x, simT n, rfl, ox.mono sBA, hf, ?_⟩
    rw [sim_steady h2 h12, sim_C h2 h12 hcr]
    rw [(sim_per h2 h12).1, (sim_per h2 h12).2] at hqp
    refine ⟨by show 4 ≤ sizeLine; decide, fun L2 m2 => ⟨_, rfl, _, _, .list [.int (D (cN (simT n)) (b + 1) : Nat), .int (b + 1 + (b + 1) / (n - 1) : Nat), .tuple [.int (n - 1 : Nat), .int (n : Nat)], .int 1], rfl, ?_, ?_, ?_, fun HC sC => ⟨true, rfl, iteF ?_⟩⟩⟩
    · exact .lst (SqL.of upd_same) (.cons (.int _) (.cons (.int _) (.cons (.tup (Same.tup (same_new m2) hqp) (.cons (.int _) (.cons (.int _) .nil))) (.cons (.int _) .nil))))
    · exact .lst (SqL.of (upd_old (sA _ _ eL1) m2)) (.cons (.int _) (.cons (.int _) (.cons (.tup (SqT.of (upd_old (sA _ _ eq) m2)) (.cons (.int _) (.cons (.int _) .nil))) (.cons (.int _) .nil))))
    · refine .lst (fun e he => ?_) (by show 4 ≤ 10000; decide)
      simp only [List.mem_cons, List.not_mem_nil, or_false] at he
      rcases he with rfl | rfl | rfl | rfl
      · exact .int _
      · exact .int _
      · refine .tup (fun e he => ?_) (by show 2 ≤ 10000; decide)
        simp only [List.mem_cons, List.not_mem_nil, or_false] at he
        rcases he with rfl | rfl <;> exact .int _
      · exact .int _
    have hsC := hs9.grow (sA.trans ((same_new m2).trans sC))
    clear sBA hqp iX eq eL1 hs9 sB m2 sC
    have sB := hsC.same
    -- none, the first round
    have iX : StX.InsC (cxOf CX0 P w K mg base N_law d_law.ql (defScope d_law.st) (d_law.adr K) cdv A outer s H E).nox HC x (He.ga K "Offer") := .inr ⟨dx, fx, sB _ _ oi⟩
    refine ⟨_, rfl, x, rfl, iX, x, simT n, 0, rfl, ox.mono sB, hf, by omega, rfl, _, rfl, ite2 (fun z => ?_) (fun _ => ?_)⟩
    · rw [sim_D0 h2 h12] at z
      exact absurd z (by decide)
    refine ⟨_, rfl, x, dx, fx, rfl, sB _ _ oi, on _ (by decide +kernel), _, rfl, x, simT n, b + 1, rfl, ox.mono sB, hf, hb, fun HD sD R1 hR1 => ?_⟩
    obtain ⟨rr, er⟩ := sim_round (n := n) (b := b + 1) (by omega)
    have h0 : atI ((roundsL (cN (simT n)) (b + 1)).map V.int) 0 = some (.int ((b + 1 : Nat) : Int)) := by
      rw [er]
      exact at_of (j := 0) rfl rfl
    refine ⟨R1, _, 0, _, rfl, rfl, SqL.of upd_same, h0, _, rfl, rfl, _, rfl, ite2 (fun z => absurd z (by simp)) (fun _ => ?_)⟩
    have hsD := hsC.grow (sD.trans (same_new (u := .lst ((roundsL (cN (simT n)) (b + 1)).map V.int)) hR1))
    clear hsC sD hR1 h0 er rr sB iX
    -- drinks that come about
    refine ⟨_, rfl, _, _, rfl, rfl, ⟨by decide, by decide, by decide⟩, h, l, _, B, rfl, by decide, by decide, hsD, fun HE m hsE m0 m1 => ⟨_, _, rfl, rfl, ?_⟩⟩
    have m2 : m < 1000000000000000000 := Int.lt_of_lt_of_le m1 (by decide)
    obtain ⟨d, ed, hd⟩ : ∃ d : Nat, (1 : Int) + m = ((d + 1 : Nat) : Int) ∧ d + 1 ≤ 1000000000000000000 := ⟨m.toNat, by omega, by omega⟩
    dsimp only
    rw [ed]
    clear m0 m1 m2 hsD
    have sB := hsE.same
    have hjn : 0 < ((n : Nat) : Int) ∧ ((n : Nat) : Int) < 1073741824 := ⟨by omega, by omega⟩
    have em : decide (V.int (((d + 1 : Nat) : Int) % ((n : Nat) : Int)) = V.int 0) = decide ((d + 1) % n = 0) := by
      by_cases z : (d + 1) % n = 0
      · rw [decide_eq_true z, decide_eq_true (by rw [show ((d + 1 : Nat) : Int) % ((n : Nat) : Int) = (((d + 1) % n : Nat) : Int) from rfl, z]; rfl)]
      · rw [decide_eq_false z, decide_eq_false fun y => z ?_]
        have := V.int.inj y
        have e : ((d + 1 : Nat) : Int) % ((n : Nat) : Int) = (((d + 1) % n : Nat) : Int) := rfl
        omega
    refine ⟨_, rfl, _, rfl, x, dx, fx, rfl, sB _ _ oi, ⟨x, simT n, d + 1, rfl, ox.mono sB, hf, ⟨_, rfl, ?_⟩⟩⟩
    refine ⟨_, rfl, _, rfl, _, _, rfl, rfl, hjn.1, rfl, rfl, _, rfl, ite2 (fun z => ?_) (fun _ => ?_)⟩
    · exfalso
      dsimp only at z
      rw [em, sim_in h2 h12] at z
      simp at z
    -- how many are missing
    have ec : ((d + 1 : Nat) : Int) - EB.T (cN (simT n)) (d + 1) = ((d + 1 : Nat) : Int) / ((n : Nat) : Int) := by
      have e : ((d + 1 : Nat) : Int) / ((n : Nat) : Int) = (((d + 1) / n : Nat) : Int) := rfl
      rw [sim_T h2 h12]
      omega
    refine ⟨_, rfl, x, dx, fx, rfl, sB _ _ oi, on _ (by decide +kernel), _, rfl, x, simT n, d + 1, rfl, ox.mono sB, hf, hd, ?_⟩
    refine ⟨_, rfl, _, rfl, _, _, rfl, rfl, hjn, rfl, _, rfl, ite2 (fun z => ?_) (fun _ => ?_)⟩
    · exfalso
      dsimp only at z
      rw [ec] at z
      simp at z
    -- the one with a number
    refine ⟨_, rfl, x, dx, fx, rfl, sB _ _ oi, on _ (by decide +kernel), _, rfl, x, simT n, b, rfl, ox.mono sB, hf, by omega, fun z => absurd z (sim_gaps h2 h12), fun _ y y1 y2 => ?_⟩
    have ey := sim_nth h2 h12 y1 y2
    refine ⟨_, rfl, _, rfl, _, _, rfl, rfl, .inl ⟨by omega, by omega⟩, rfl, _, rfl, ite2 (fun z => ?_) (fun _ => ?_)⟩
    · exfalso
      dsimp only at z
      rw [ey, show ((((b + 1) * n : Nat)) : Int) = ((b + 1 : Nat) : Int) * ((n : Nat) : Int) from rfl] at z
      simp at z
    clear ec em y1 y2 ey ed hd
    -- another
    refine ⟨_, rfl, h, l, 11, B, rfl, by decide, by decide, hsE, fun HF r3 hsF r0 r1 => ⟨_, _, rfl, rfl, ?_⟩⟩
    obtain ⟨m2, em, g2, g12⟩ : ∃ m : Nat, (2 : Int) + r3 = (m : Nat) ∧ 2 ≤ m ∧ m ≤ 12 := ⟨(2 + r3).toNat, by omega, by omega, by omega⟩
    dsimp only
    rw [em]
    clear r0 r1 hsE
    have sB := hsF.same
    obtain ⟨lo, elo⟩ : ∃ lo : Nat, lo = if n < m2 then n else m2 := ⟨_, rfl⟩
    have lo2 : 2 ≤ lo ∧ lo ≤ 12 := by
      rw [elo]
      split <;> omega
    refine capA (fun σ' H' => H' = HF ∧ σ' = [some (.ref a), some (.ref h), some (.int (0 + (i : Int))), some (.int (n : Nat)), some (.int ((b + 1 : Nat) : Int)), some (.ref x), some (.int (n - 1 : Nat)), some (.ref L1), some (.int ((d + 1 : Nat) : Int)), some (.int (m2 : Nat)), some (.int (lo : Nat)), x11]) ?_ (fun k2 => ?_)
    rotate_left
    · refine ⟨_, rfl, _, rfl, _, _, rfl, rfl, _, rfl, ite2 (fun z => ?_) (fun z => ?_)⟩
      · have z : ((n : Nat) : Int) < (m2 : Nat) := of_decide_eq_true z
        have e : lo = n := by rw [elo, if_pos (by omega)]
        exact ⟨_, rfl, k2 _ _ ⟨rfl, by rw [e]; rfl⟩⟩
      · have z : ¬ ((n : Nat) : Int) < (m2 : Nat) := fun y => z (decide_eq_true y)
        have e : lo = m2 := by rw [elo, if_neg (by omega)]
        exact ⟨_, rfl, k2 _ _ ⟨rfl, by rw [e]; rfl⟩⟩
    rintro σ _ ⟨rfl, rfl⟩
    -- the first difference
    refine capI (fun σ' H' => HS B H' h l ∧ σ' = [some (.ref a), some (.ref h), some (.int (0 + (i : Int))), some (.int (n : Nat)), some (.int ((b + 1 : Nat) : Int)), some (.ref x), some (.int (n - 1 : Nat)), some (.ref L1), some (.int ((d + 1 : Nat) : Int)), some (.int (m2 : Nat)), some (.int (lo : Nat)), x11]) ?_ (fun k2 => ?_)
    rotate_left
    · have g := (sim_good g2 g12).fair
      refine ⟨_, rfl, rfl, _, rfl, m2, rfl, g2, g12, fun HG y sG oy => ?_⟩
      refine ⟨x, y, simT n, simT m2, rfl, ox.mono (sB.trans sG), hf, oy.of, g, fun HH v sv hv => ?_⟩
      have ev := sim_first h2 h12 g2 g12 hv
      rw [← elo] at ev
      have hsH := hsF.grow (sG.trans sv)
      refine ⟨_, rfl, _, rfl, rfl, _, rfl, ite2 (fun z => ?_) (fun z => ?_)⟩
      · have z : V.int ((n : Nat) : Int) = V.int ((m2 : Nat) : Int) := of_decide_eq_true z
        have z := V.int.inj z
        rw [if_pos (by omega)] at ev
        subst ev
        refine ⟨rfl, _, rfl, ite2 (fun z => absurd z (by decide)) (fun _ => k2 _ _ ⟨hsH, rfl⟩)⟩
      · have z : ¬ n = m2 := fun y => z (decide_eq_true (by rw [y]))
        rw [if_neg z] at ev
        subst ev
        refine ⟨_, rfl, rfl, _, rfl, ite2 (fun z => absurd z (by simp)) (fun _ => k2 _ _ ⟨hsH, rfl⟩)⟩
    rintro σ HH ⟨hsH, rfl⟩
    clear hsF sB
    -- one for one more
    obtain ⟨mo, emo⟩ : ∃ mo : Nat, mo = if lo < 12 then lo + 1 else lo := ⟨_, rfl⟩
    have mo2 : 2 ≤ mo ∧ mo ≤ 12 := by
      rw [emo]
      split <;> omega
    have es : ((lo : Nat) : Int) + (if decide (((lo : Nat) : Int) < 12) = true then 1 else 0) = ((mo : Nat) : Int) := by
      rw [emo]
      by_cases z : lo < 12
      · rw [if_pos z, if_pos (decide_eq_true (by omega))]
        rfl
      · rw [if_neg z, if_neg fun y => z (by have := of_decide_eq_true y; omega)]
        omega
    refine ⟨rfl, _, rfl, _, rfl, _, _, rfl, rfl, .inr ⟨_, rfl, _, _, rfl, rfl, ?_⟩⟩
    dsimp only
    rw [es]
    refine ⟨mo, rfl, mo2.1, mo2.2, fun HI y sI oy => ?_⟩
    have hsI := hsH.grow sI
    have oy := oy.of
    refine capA (fun σ' H' => H' = HI ∧ σ' = [some (.ref a), some (.ref h), some (.int (0 + (i : Int))), some (.int (n : Nat)), some (.int ((b + 1 : Nat) : Int)), some (.ref x), some (.int (n - 1 : Nat)), some (if lo < 12 then V.int ((lo * (lo - 2) + 2 : Nat) : Int) else .non), some (.int ((d + 1 : Nat) : Int)), some (.int (m2 : Nat)), some (.int (lo : Nat)), some (.ref y)]) ?_ (fun k2 => ?_)
    rotate_left
    · refine ⟨_, rfl, _, _, rfl, rfl, _, rfl, ite2 (fun z => ?_) (fun z => ?_)⟩
      · have z : ((lo : Nat) : Int) < 12 := of_decide_eq_true z
        have e : ((lo : Nat) : Int) * (((lo : Nat) : Int) - 2) + 2 = ((lo * (lo - 2) + 2 : Nat) : Int) := by
          rw [show ((lo : Nat) : Int) - 2 = ((lo - 2 : Nat) : Int) by omega]
          rfl
        refine ⟨_, rfl, _, rfl, _, _, rfl, rfl, _, _, rfl, rfl, .inl ⟨by omega, by omega⟩, _, _, rfl, rfl, k2 _ _ ⟨rfl, ?_⟩⟩
        dsimp only
        rw [e, if_pos (by omega)]
        rfl
      · have z : ¬ ((lo : Nat) : Int) < 12 := fun y => z (decide_eq_true y)
        refine k2 _ _ ⟨rfl, ?_⟩
        rw [if_neg (by omega)]
        rfl
    rintro σ _ ⟨rfl, rfl⟩
    -- from when on it is better
    refine ⟨rfl, _, rfl, lo, rfl, lo2.1, lo2.2, fun HJ u sJ ou => ⟨_, rfl, ?_⟩⟩
    refine ⟨u, y, simT lo, simT mo, rfl, ou.of, (sim_good lo2.1 lo2.2).fair, oy.mono sJ, (sim_good mo2.1 mo2.2).fair, fun HK v sv hv => ?_⟩
    have ev : v = if lo < 12 then V.int ((lo * (lo - 2) + 2 : Nat) : Int) else .non := by
      by_cases z : lo < 12
      · rw [if_pos z] at emo ⊢
        subst emo
        exact bet_last (sim_last lo2.1 z) hv
      · rw [if_neg z] at emo ⊢
        subst emo
        exact bet_self (sim_good lo2.1 lo2.2).fair hv
    subst ev
    have hsK := hsI.grow (sJ.trans sv)
    refine ⟨_, rfl, ?_⟩
    have sc : scal (if lo < 12 then V.int ((lo * (lo - 2) + 2 : Nat) : Int) else .non) (if lo < 12 then V.int ((lo * (lo - 2) + 2 : Nat) : Int) else .non) = true := by
      by_cases z : lo < 12
      · rw [if_pos z]
        rfl
      · rw [if_neg z]
        rfl
    refine ⟨sc, _, rfl, ite2 (fun z => absurd z (by simp)) (fun _ => ?_)⟩
    exact ⟨⟨hsub.trans hsK.same, hs2.nh, hs2.nl, hs2.ne, hsK.ex⟩, _, _, _, _, _, _, _, _, _, _, rfl⟩
  · rintro σ H2 ⟨hs2, x2, x3, x4, x5, x6, x7, x8, x9, x10, x11, rfl⟩
    exact k _
end
end EB

namespace EB
open PySem PySem.Spec PyProof.Rows L2
abbrev R : PySem.W.OpenRow := PySem.W.OpenLaw.row PySem.Challenge.rw_emptiesback_k15_whole_simple_offers
abbrev hk : PySem.W.Hook := hook 5 fas moreB dds
def ob (s : PySem.W.SharedT) : Seen := seen fas moreB dds (He.frG (HandSHeadRun.getT s) (cStatics :: He.asD (HandSHeadRun.getT s) 5))
theorem ob_eq (s : PySem.W.SharedT) : ob s = hk.obs s.abs := by
  have e : HandSHeadRun.getT s = s.abs.heap.get? := funext (HandSHeadRun.getT_eq s)
  unfold ob
  rw [e] <;> rfl
def loose0 : List Str := ["_wall", "__name__", "TradeError", "InvalidOffer", "TooGenerous", "UnknownKind", "InvalidNumber", "MAX_NUMBER", "MAX_LABEL_LENGTH", "DRINK", "is_integer", "is_number", "check_number", "is_label", "is_kind", "cost_of", "drinks_of_period", "tops_of", "firsts_of", "gaps_of"]
def loose1 : List Str := ["value_at", "MAX_LEFT", "_is_trade", "_check_trades", "_check_generosity", "Offer", "_slack", "_repetition", "_never_more", "first_difference", "better_from", "_law_mix", "_law_next", "_law_alike", "_law_late_right"]
def loose : List Str := loose0 ++ loose1
theorem run (w : World) : HandSHeadRun.RunEqI R (PySem.W.view R.prog [0, 40]) hk ob 4000 loose w := by
  unfold HandSHeadRun.RunEqI
  kernel_rfl
end EB

namespace EB
open PySem PySem.Spec PyProof.Rows L2
theorem facts {P : Program} {w : World} {K : PySem.W.Frag} {h : Heap} {mg : Str → Option Value} {f : Addr} (X : K.In h) (G : h.Ns mainGlobals mg) (hfa : mg ("law" : Str) = some (.ref f)) (c : Says fas moreB dds K) :
    ∃ fd : FuncData, (∀ (s : Shared) (v : Value), BindsTo s fd ⟨[v], []⟩ [("_law_script", v)]) ∧ ∀ base : Heap, K.In base → base.Ns mainGlobals mg → FnOk P w K mg base CX0 10 f fd ["_law_script"] (spLaw K) := by
  obtain ⟨T⟩ := tx_of X G c
  have e := hfa.symm.trans T.g_law
  cases e
  have b := FunD.bindsA (ps := ["_law_script"]) (show FunD K d_law.nm d_law.ql (defArgs d_law.st) (defBody d_law.st) (defScope d_law.st) [] [] (d_law.adr K) T.fd_law from T.F_law) fun _ _ _ _ _ _ us hl => match us, hl with | [_], _ => rfl
  exact ⟨T.fd_law, fun s v => b s [v] rfl, fun base _ _ => ok_law T⟩
end EB
open PySem PySem.W PySem.Calls PyProof.Rows in
theorem PySem.Challenge.cw_emptiesback_k15_whole_simple_offers_holds : PySem.Challenge.rw_emptiesback_k15_whole_simple_offers.Holds := by
  w_on; o_law
  refine HandSHeadRun.head_imp (r := OpenLaw.row PySem.Challenge.rw_emptiesback_k15_whole_simple_offers) (q := view (OpenLaw.row PySem.Challenge.rw_emptiesback_k15_whole_simple_offers).prog [0, 40]) (H := EB.hk) (ob := EB.ob) (M := 4000) (loose := EB.loose) (d := HandSHeadRun.topDef (OpenLaw.row PySem.Challenge.rw_emptiesback_k15_whole_simple_offers).prog 40) (kwd := [])
    EB.ob_eq EB.run (by kernel_rfl) (by kernel_rfl) (by kernel_rfl) (by rfl) (by first | assumption | decide +kernel) (by decide +kernel) ⟨rfl, rfl, rfl, rfl, rfl, by decide +kernel⟩ ?hw ?hc
  case hw => w_witness2
  case hc =>
    refine L2.walk_ofE (l := PySem.Challenge.rw_emptiesback_k15_whole_simple_offers) (n := 63) (k := 10) (x := "_law_script") (CX := L2.CX0) rfl (by decide) (by kernel_rfl) ⟨rfl, by decide, by decide⟩ ?F (fun _ _ _ _ z => z)
    intro w mg fa h Y G hmg0
    obtain ⟨K, KX, c⟩ := Y
    have hmg : mg ("law" : PySem.Str) = some (.ref fa) := by
      have e : (HandSHeadRun.topDef (OpenLaw.row PySem.Challenge.rw_emptiesback_k15_whole_simple_offers).prog 40).name = ("law" : PySem.Str) := by kernel_rfl
      rw [← e]
      exact hmg0
    obtain ⟨fd, hb, hF⟩ := EB.facts (P := (PySem.Challenge.rw_emptiesback_k15_whole_simple_offers).prog) (w := w) KX G hmg c
    exact ⟨K, fd, EB.spLaw K, KX, hb, fun H a ns hl _ hS => ⟨a, ns, rfl, hS, hl, fun _ => rfl⟩, hF⟩

