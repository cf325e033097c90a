import PyProof.Rows.All
import Wide.All
import OpenK.AllK
import Wide.FinOn
import PyProof.EqAt
import PyProof.EqKinds
import PyProof.TupleCall
import Open.SpecLaws
import KE.OsGo
import HandS.ForSpec
import HandS.ForMost
import HandS.More
import HandS.Walk
import PySem.Challenge.RW_madeimage_s02_tokens
set_option Elab.async false
set_option linter.all false
set_option maxRecDepth 100000
set_option maxHeartbeats 2000000
/-! Own rules: written dicts by a table of their pairs; None asked of a dict with tuple keys. -/
namespace Own
open PySem PySem.Spec PyProof.Rows L2

/-- an entry says the pair -/
def EntOk (w : World) (p : Key × V) (e : DictEntry) : Prop := keyIs p.1 e.key = true ∧ e.hash = keyH w p.1 ∧ RelV p.2 e.val
/-- at d a dict is written whose pairs are tab -/
structure KTab (K : PySem.W.Frag) (w : World) (d : Addr) (tab : List (Key × V)) : Prop where
  at_ : ∃ es n, K.lookup d = some ⟨.type "dict", none, .dict es n, #[]⟩ ∧ Paired (EntOk w) tab es.toList
  low : (d == sysModules) = false
theorem tab_find {P : Program} {w : World} : ∀ {tab : List (Key × V)} {l : List DictEntry}, Paired (EntOk w) tab l → ∀ k : Key, RelO (valV tab k) ((l.find? fun e => keyIs k e.key).map (·.val))
  | [], [], .nil, _ => trivial
  | p :: tab, e :: l, .cons ⟨h1, _, h3⟩ t, k => by
    have q : keyIs k e.key = decide (k = p.1) := KeyKind.is_eq_decide (knd := mixKind P w) h1 k
    by_cases c : p.1 = k
    · rw [valV_pos c, List.find?_cons, q, decide_eq_true c.symm]
      exact h3
    · rw [valV_neg c, List.find?_cons, q, decide_eq_false (fun z => c z.symm)]
      exact tab_find (P := P) t k
theorem tab_keys {w : World} : ∀ {tab : List (Key × V)} {l : List DictEntry}, Paired (EntOk w) tab l → ∀ e ∈ l, ∃ k, keyIs k e.key = true ∧ e.hash = keyH w k
  | _, _, .nil, _, h => nomatch h
  | p :: _, _ :: _, .cons ⟨h1, h2, _⟩ t, e, h => by
    rcases List.mem_cons.mp h with rfl | h
    · exact ⟨p.1, h1, h2⟩
    · exact tab_keys t e h
theorem KTab.map {P : Program} {w : World} {K : PySem.W.Frag} {h : Heap} {d : Addr} {tab : List (Key × V)} (T : KTab K w d tab) (X : K.In h) : ∃ f, h.MapOf (mixKind P w) d f ∧ ∀ k, RelO (valV tab k) (f k) := by
  obtain ⟨⟨es, n, hl, pr⟩, _⟩ := T
  refine ⟨fun k => findBy keyIs es k, ⟨_, es, n, X _ _ hl, ⟨rfl, rfl, rfl⟩, rfl, fun e he => tab_keys pr e (Array.mem_toList_iff.mpr he), fun _ => rfl⟩, fun k => ?_⟩
  have q := tab_find (P := P) pr k
  obtain ⟨l⟩ := es
  show RelO (valV tab k) ((Array.find? (fun e => keyIs k e.key) l.toArray).map (·.val))
  rw [List.find?_toArray]
  exact q
section
variable {X : Cx} {d : Addr} {tab : List (Key × V)}
/-- k in d, k not in d -/
def rTabIn (K : PySem.W.Frag) (w : World) (neg : Bool) : R2 := fun x y H Q => ∃ d tab k, KTab K w d tab ∧ x = kV k ∧ y = .ref d ∧ Q (.bl (if neg then !(valV tab k).isSome else (valV tab k).isSome)) H
theorem op_in_tab : OpR X (compareOp .In) (rTabIn X.K X.w false) := by
  rintro pins s σ H x y v u Q I rx ry ⟨d, tab, k, T, rfl, rfl, q⟩
  cases ry
  obtain ⟨f, hm, hf⟩ := T.map (P := X.prog) I.kIn
  exact wpAny_in_of (kV_is rx) T.low hm ⟨.bl (valV tab k).isSome, H, I.tok _, congrArg Value.bool (hf k).isSome_eq.symm, q⟩
theorem op_notIn_tab : OpR X (compareOp .NotIn) (rTabIn X.K X.w true) := by
  rintro pins s σ H x y v u Q I rx ry ⟨d, tab, k, T, rfl, rfl, q⟩
  cases ry
  obtain ⟨f, hm, hf⟩ := T.map (P := X.prog) I.kIn
  exact wpAny_notIn_of (kV_is rx) T.low hm ⟨.bl (!(valV tab k).isSome), H, I.tok _, congrArg (fun b => Value.bool (!b)) (hf k).isSome_eq.symm, q⟩
/-- d[k], there -/
def rTabIx (K : PySem.W.Frag) (w : World) : R2 := fun x y H Q => ∃ d tab k v, KTab K w d tab ∧ x = .ref d ∧ y = kV k ∧ valV tab k = some v ∧ Q v H
theorem ix_tab : IxR X (rTabIx X.K X.w) := by
  rintro value slice pins s σ H x y v u Q I rx ry ⟨d, tab, k, r, T, rfl, rfl, hr, q⟩ hs
  cases rx
  obtain ⟨f, hm, hf⟩ := T.map (P := X.prog) I.kIn
  obtain ⟨u0, e0, r0⟩ := RelO.some_of (v := r) (o := f k) (by rw [← hr]; exact hf k)
  exact tail_any hm.typeIs slot_dict_getitem.lookup (wpAny_getItem_of (kV_is ry) hm e0 ⟨r, H, I.tok _, r0, q⟩) hs
/-- d.get(k) -/
def tTabGet (K : PySem.W.Frag) (w : World) (td ty : TE) : TE := fun σ H Q => td σ H fun x H1 => ∃ d tab, KTab K w d tab ∧ x = .ref d ∧ ty σ H1 fun y H2 => ∃ k, y = kV k ∧ Q ((valV tab k).getD .non) H2
theorem pe_tabget {o e : Expr} {td ty : TE} {apos cpos : Pos} (ho : PE X o td) (he : PE X e ty) (m : M1 X o "get" apos e cpos) : PE X (.Call (.Attribute o "get" apos) [e] [] cpos) (tTabGet X.K X.w td ty) := ⟨by
  intro pins s σ H Q I h
  refine wpAny_Call_method m.base m.few m.line PySem.F.plainAttrs_dict PySem.F.slot_dict_get PySem.F.type_dict_get (thn (ho.run pins s σ H _ I h) ?_)
  rintro u s1 ⟨x, H1, I1, rx, d, tab, T, rfl, q1⟩
  cases rx
  obtain ⟨f, hm, _⟩ := T.map (P := X.prog) I1.kIn
  refine ⟨hm.typeIs, hm.noDict, ?_⟩
  rw [m.trees]
  refine Calls.callWith_builtin rfl (Calls.evalArgs_plain (Calls.spliced_cons (thn (he.run pins s1 σ H1 _ I1 q1) ?_)))
  rintro iv s2 ⟨y, H2, I2, ry, k, rfl, q2⟩
  refine Calls.spliced_nil ?_
  obtain ⟨g, hg, hr⟩ := T.map (P := X.prog) I2.kIn
  exact call_meetsIn PySem.F.slot_dict_get hg.typeIs PySem.F.entry_dict_get (PySem.F.args_dict_get_2 _ _) (meets_dict_get (mixKind X.prog X.w) d (kV_is ry) T.low) ⟨_, hg, (valV tab k).getD .non, H2, I2.tok _, (hr k).getD (show RelV V.non Value.none from rfl), q2⟩⟩
end
end Own
namespace Own
open PySem PySem.Spec PyProof.Rows L2
/-- «key in d» by what d's look-up gives, whatever the keys are -/
theorem in_by_get {prog : Program} {w : World} {A : Around} {E : Value → Shared → Prop} {s : Shared} {d : Addr} {key : Value} {Q : Value → Shared → Prop} (ty : s.TypeIs (.ref d) "dict") (hd : (d == sysModules) = false)
    (h : ∀ B : Around, ∀ E' : Value → Shared → Prop, wpAny (model prog w) B (dictGet d key) (fun r s' => Q (.bool r.isSome) s') E' s) : wpAny (model prog w) A (compareOp .In key (.ref d)) Q E s := by
  show wpAny _ _ (contains (.ref d) key >>= fun b => pure (.bool b)) Q E s
  refine wpAny_bind ?_
  unfold contains
  try with_reducible refine wpAny_holding ?_
  refine wpAny_bind (wpAny_specialOf ty slot_dict_contains.lookup ?_)
  rw [if_neg (show ¬ (some (Value.builtin "dict.__contains__") == some Value.none) = true by rw [beq_builtin_none]; exact Bool.false_ne_true)]
  refine wpAny_bind (wpAny_callSpecialUnlessNone?_slot (name := Str.ofString "__contains__") ty slot_dict_contains (wpAny_call_entry slot_dict_contains ty entry_dict_contains ?_ (args_dict_contains _ _)))
  show wpAny _ _ (dictGet d key >>= _) _ _ s
  refine wpAny_bind (wpAny_mono (h _ _) (fun r s' q => ?_) fun _ _ x => x)
  cases r with
  | some v => exact wpAny_pure ⟨_, rfl, wpAny_truthy_bool (wpAny_pure q)⟩
  | none => exact wpAny_bind (wpAny_pendingKey_other hd (wpAny_pure ⟨_, rfl, wpAny_truthy_bool (wpAny_pure q)⟩))
/-- None's hash -/
def noneHash : Int := reduceHash 0xFCA86420
/-- None is no key of a dict none of whose hashes is None's -/
theorem get_none {prog : Program} {w : World} {A : Around} {E : Value → Shared → Prop} {s : Shared} {d : Addr} {o : Obj} {es : Array DictEntry} {ep : Nat} {Q : Option Value → Shared → Prop} (ho : s.heap.get? d = some o) (hd : o.data = .dict es ep)
    (hh : ∀ e ∈ es, e.hash ≠ noneHash) (h : Q none { s with toks := s.toks + 1 }) : wpAny (model prog w) A (dictGet d .none) Q E s := by
  have np : placesWithHash es.size (fun i => es[i]?.map (·.hash)) noneHash = [] := by
    unfold placesWithHash
    rw [List.filter_eq_nil_iff]
    intro i hi
    have hlt : i < es.size := List.mem_range.mp hi
    have hne := hh es[i] (Array.getElem_mem hlt)
    show ¬ ((es[i]?).map (·.hash) == some noneHash) = true
    rw [Array.getElem?_eq_getElem hlt]
    simpa using hne
  unfold dictGet
  try with_reducible refine wpAny_holding ?_
  refine wpAny_bind (PySem.W.pyHash_slot (T := "NoneType") rfl PySem.F.slot_NoneType_hash PySem.F.entry_NoneType_hash (PySem.F.args_NoneType_hash_1 _) (beq_builtin_none _) (.inl rfl) (wpAny_bind (wpAny_pure (wpAny_bind (wpAny_mkInt (wpAny_pure ⟨_, _, rfl, ?_⟩))))))
  refine wpAny_bind ?_
  unfold dictFind
  try with_reducible refine wpAny_holding ?_
  refine wpAny_bind (wpAny_dictEntries (s := { s with toks := s.toks + 1 }) ho hd ?_)
  dsimp only
  rw [show reduceHash 0xFCA86420 = noneHash from rfl, np]
  rw [if_pos (show ((Value.none :: ([] : List Nat).filterMap fun i => es[i]?.map (·.key)).all carriedByValue) = true from rfl)]
  unfold dictWalkPlain
  refine wpAny_bind ?_
  rw [List.forIn_nil]
  exact wpAny_pure (wpAny_pure (wpAny_pure h))
/-- None in d, d a dict with tuple keys -/
def rNoneInT (P : Program) (w : World) : R2 := fun x y H Q => ∃ d kvs, x = .non ∧ y = .ref d ∧ Rd H d (.dT kvs) ∧ (∀ p ∈ kvs, tupleKeyHash (mixKind P w) p.1 ≠ noneHash) ∧ Q (.bl false) H
theorem op_noneInT {X : Cx} : OpR X (compareOp .In) (rNoneInT X.prog X.w) := by
  rintro pins s σ H x y v u Q I rx ry ⟨d, kvs, rfl, rfl, hr, hh, q⟩
  cases rx
  cases ry
  obtain ⟨_, hd, xs, rel, dd⟩ := dt_rd I.hok hr
  refine in_by_get dd.typeIs hd fun B E' => ?_
  obtain ⟨o, es, ep, ho, _, hdt, he, _, _⟩ := dd
  refine get_none ho hdt (fun e hin z => ?_) ⟨.bl false, H, I.tok _, rfl, q⟩
  have hm : e ∈ xs.map (entryOfKey (tupleKind (mixKind X.prog X.w))) := he ▸ Array.mem_toList_iff.mpr hin
  obtain ⟨t, ht, rfl⟩ := List.mem_map.mp hm
  have all : ∀ {l : List (List Key × V)} {m : List (List Key × Addr × Value)}, KT H l m → ∀ t ∈ m, ∃ p ∈ l, p.1 = t.1 := by
    intro l m r
    induction r with
    | nil => exact fun _ h => nomatch h
    | @cons a b as bs hab _ ih =>
      intro t ht
      rcases List.mem_cons.mp ht with rfl | ht
      · exact ⟨a, List.mem_cons_self, hab.1⟩
      · obtain ⟨p, h1, h2⟩ := ih t ht
        exact ⟨p, List.mem_cons_of_mem _ h1, h2⟩
  obtain ⟨p, hp, ep⟩ := all rel t ht
  exact hh p hp (by rw [ep]; exact z)
/-- y in d, y a tuple or None, d a dict with tuple keys -/
def rInT (P : Program) (w : World) : R2 := fun x y H Q => rNoneInT P w x y H Q ∨ ∃ d o, y = .ref d ∧ DGet H d x o ∧ Q (.bl o.isSome) H
theorem op_inT {X : Cx} (hu : X.A.units + 1 < cLine) : OpR X (compareOp .In) (rInT X.prog X.w) := by
  rintro pins s σ H x y v u Q I rx ry (h | ⟨d, o, rfl, g, q⟩)
  · exact op_noneInT pins s σ H x y v u Q I rx ry h
  · cases ry
    exact d_in hu I g rx fun s' I' => ⟨.bl o.isSome, H, I', rfl, q⟩
end Own
/-! Defs, methods and classes by name: what they promise, without their addresses; heaps' frames; fields. -/
namespace Own
open PySem PySem.Spec PyProof.Rows L2

/-- a def | a method of the text stands behind the top -/
def DfnAt (K : PySem.W.Frag) (mg : Str → Option Value) (x : Str) (st : Stmt) : Prop := ∃ f fd, mg x = some (.ref f) ∧ Fun K x x st f fd
def MthAt (K : PySem.W.Frag) (C : Addr) (m q : Str) (st : Stmt) : Prop := ∃ f fd, Meth K C m f ∧ Fun K m q st f fd
def IniAt (K : PySem.W.Frag) (C : Addr) (q : Str) (st : Stmt) : Prop := ∃ f fd, Mk K C f ∧ Fun K "__init__" q st f fd
/-- it keeps its promise -/
def Dfn (P : Program) (w : World) (K : PySem.W.Frag) (mg : Str → Option Value) (base : Heap) (CX : CXT) (k : Nat) (x : Str) (ps : List Str) (sp : Sp) : Prop :=
  ∃ f fd, mg x = some (.ref f) ∧ PySem.W.keepIn K (.ref f) = true ∧ Binds K fd ps [] ∧ FnOk P w K mg base CX k f fd ps sp
def Mth (P : Program) (w : World) (K : PySem.W.Frag) (mg : Str → Option Value) (base : Heap) (CX : CXT) (C : Addr) (k : Nat) (m : Str) (ps : List Str) (sp : Sp) : Prop :=
  ∃ f fd, Meth K C m f ∧ Binds K fd ps [] ∧ FnOk P w K mg base CX k f fd ps sp
def Ini (P : Program) (w : World) (K : PySem.W.Frag) (mg : Str → Option Value) (base : Heap) (CX : CXT) (C : Addr) (k : Nat) (ps : List Str) (sp : Sp) : Prop :=
  ∃ f fd, Mk K C f ∧ Binds K fd ps [] ∧ FnOk P w K mg base CX k f fd ps sp
section
variable {P : Program} {w : World} {K : PySem.W.Frag} {mg : Str → Option Value} {base : Heap} {C : Addr} {x m q : Str} {st : Stmt} {N ps : List Str} {k : Nat} {sp : Sp}
/-- how arguments meet parameters: «fun _ _ _ _ _ _ us hl => match us, hl with | [_, _], _ => rfl» -/
abbrev BindFn (x q : Str) (st : Stmt) (ps : List Str) : Prop := ∀ (kV doc pm : Value) (an : Option Addr) (cdv ct : Value) (us : List Value), us.length = ps.length → bindArgs (PySem.W.fnOf x q (defArgs st) (defBody st) (defScope st) .none kV doc pm an cdv ct) ⟨us, []⟩ = pure (ps.zip us)
/-- the body has a reading, and the promise gives it -/
abbrev BodyOk (P : Program) (w : World) (K : PySem.W.Frag) (mg : Str → Option Value) (base : Heap) (N : List Str) (q : Str) (st : Stmt) (k : Nat) (sp : Sp) : Prop :=
  ∀ (f : Addr) (cdv : Value) (A : Around) (outer : List Env) (s : Shared) (H : Hp) (vs : List V) (Q : VK) (E : XK), Room k (A.deeper (envOfC q (defScope st) s.heap.objs.size f cdv)) → sp vs H Q E →
    ∃ t, PSs (cxOf CX0 P w K mg base N q (defScope st) f cdv A outer s H E).nox (defBody st) t ∧ t { nx := fun _ H' => Q .non H', rt := Q } (start N vs) H
theorem dfn_of (A : DfnAt K mg x st) (S : FnScope N ps (defScope st)) (b : BindFn x x st ps) (len : ∀ vs H Q E, sp vs H Q E → vs.length = ps.length) (h : BodyOk P w K mg base N x st k sp) : Dfn P w K mg base CX0 (k + 1) x ps sp := by
  obtain ⟨f, fd, h1, F⟩ := A
  exact ⟨f, fd, h1, F.kp, F.binds b, F.ok S len (h f)⟩
theorem mth_of (A : MthAt K C m q st) (S : FnScope N ps (defScope st)) (b : BindFn m q st ps) (len : ∀ vs H Q E, sp vs H Q E → vs.length = ps.length) (h : BodyOk P w K mg base N q st k sp) : Mth P w K mg base CX0 C (k + 1) m ps sp := by
  obtain ⟨f, fd, h1, F⟩ := A
  exact ⟨f, fd, h1, F.binds b, F.ok S len (h f)⟩
theorem ini_of (A : IniAt K C q st) (S : FnScope N ps (defScope st)) (b : BindFn "__init__" q st ps) (len : ∀ vs H Q E, sp vs H Q E → vs.length = ps.length) (h : BodyOk P w K mg base N q st k sp) : Ini P w K mg base CX0 C (k + 1) ps sp := by
  obtain ⟨f, fd, h1, F⟩ := A
  exact ⟨f, fd, h1, F.binds b, F.ok S len (h f)⟩
end
section
variable {X : Cx} {CX : CXT} {k : Nat} {C : Addr} {ps : List Str} {sp : Sp} {E : XK} {x m : Str} {p pos apos : Pos} {e o : Expr} {es : List Expr} {ta : TE} {t : TA} {v : V}
/-- a name of the module, by what it holds -/
theorem pe_gv (h : ∃ u, X.mg x = some u ∧ RelV v u) (hg : Gl X x := by rfl) (hd : (x == ("__debug__" : Str)) = false := by decide) : PE X (.Name x pos) (tC v) := by
  obtain ⟨u, h1, h2⟩ := h
  exact pe_glob hg h1 h2 hd
theorem pe_dfn (D : Dfn X.prog X.w X.K X.mg X.base CX k x ps sp) (hr : Room k X.A) (hx : Passes CX X E) (ha : PA X (e :: es) t) (hg : Gl X x := by rfl) (hdb : (x == ("__debug__" : Str)) = false := by decide)
    (he : starEach (e :: es) X.env = (false, eval e X.env) :: starEach es X.env := by rfl) (hpl : (backTo pos (starEach es X.env)).any (·.1) = false := by rfl) : PE X (.Call (.Name x p) (e :: es) [] pos) (tCall sp [] E t) := by
  obtain ⟨f, fd, h1, h2, h3, h4⟩ := D
  exact pe_call h4 hr hg h1 h2 h3 .nil hx ha hdb he hpl
theorem pe_dfn0 (D : Dfn X.prog X.w X.K X.mg X.base CX k x ps sp) (hr : Room k X.A) (hx : Passes CX X E) (hg : Gl X x := by rfl) (hdb : (x == ("__debug__" : Str)) = false := by decide) : PE X (.Call (.Name x p) [] [] pos) (tCall sp [] E tNil) := by
  obtain ⟨f, fd, h1, h2, h3, h4⟩ := D
  exact pe_call0 h4 hr hg h1 h2 h3 .nil hx hdb
theorem pe_mth {pl : Sem Bool} (ho : PE X o ta) (c : Cls X.K C) (D : Mth X.prog X.w X.K X.mg X.base CX C k m ps sp) (hr : Room k X.A) (hx : Passes CX X E) (ha : PA X (e :: es) t)
    (hst : starEach (e :: es) X.env = (false, eval e X.env) :: starEach es X.env := by rfl) (hpl : (backTo pos (starEach es X.env)).any (·.1) = false := by rfl)
    (ht : eval (.Call (.Attribute o m apos) (e :: es) [] pos) X.env = (do
      let ov ← eval o X.env
      standAt apos.atName
      let (f, first) ← holding [ov] (getMethod ov m pl)
      callWith pos f first (backTo pos (starEach (e :: es) X.env)) (backToKw pos (keywordEach [] X.env))) := by rfl) : PE X (.Call (.Attribute o m apos) (e :: es) [] pos) (tMeth C m sp [] E ta t) := by
  obtain ⟨f, fd, h1, h3, h4⟩ := D
  exact L2.pe_meth ho c h1 h4 hr h3 .nil hx ha hst hpl ht
theorem pe_mth0 {pl : Sem Bool} (ho : PE X o ta) (c : Cls X.K C) (D : Mth X.prog X.w X.K X.mg X.base CX C k m ps sp) (hr : Room k X.A) (hx : Passes CX X E)
    (ht : eval (.Call (.Attribute o m apos) [] [] pos) X.env = (do
      let ov ← eval o X.env
      standAt apos.atName
      let (f, first) ← holding [ov] (getMethod ov m pl)
      callWith pos f first (backTo pos (starEach [] X.env)) (backToKw pos (keywordEach [] X.env))) := by rfl) : PE X (.Call (.Attribute o m apos) [] [] pos) (tMeth C m sp [] E ta tNil) := by
  obtain ⟨f, fd, h1, h3, h4⟩ := D
  exact L2.pe_meth0 ho c h1 h4 hr h3 .nil hx ht
theorem pe_new (h : X.mg x = some (.ref C)) (D : Ini X.prog X.w X.K X.mg X.base CX C k ps sp) (hr : Room (k + 1) X.A) (hx : Passes CX X E) (ha : PA X (e :: es) t) (hg : Gl X x := by rfl) (hdb : (x == ("__debug__" : Str)) = false := by decide)
    (he : starEach (e :: es) X.env = (false, eval e X.env) :: starEach es X.env := by rfl) (hpl : (backTo pos (starEach es X.env)).any (·.1) = false := by rfl) : PE X (.Call (.Name x p) (e :: es) [] pos) (tMake C sp [] E t) := by
  obtain ⟨f, fd, h1, h3, h4⟩ := D
  exact pe_make h1 h4 hr hg h h3 .nil hx ha hdb he hpl
theorem pe_new0 (h : X.mg x = some (.ref C)) (D : Ini X.prog X.w X.K X.mg X.base CX C k ps sp) (hr : Room (k + 1) X.A) (hx : Passes CX X E) (hg : Gl X x := by rfl) (hdb : (x == ("__debug__" : Str)) = false := by decide) :
    PE X (.Call (.Name x p) [] [] pos) (tMake C sp [] E tNil) := by
  obtain ⟨f, fd, h1, h3, h4⟩ := D
  exact pe_make0 h1 h4 hr hg h h3 .nil hx hdb
end

section
variable {CX : CXT} {P : Program} {w : World} {K : PySem.W.Frag} {mg : Str → Option Value} {base : Heap} {N : List Str} {q : Str} {sc : Scope} {f : Addr} {cd : Value} {A : Around} {outer : List Env} {s : Shared} {H : Hp} {E : XK}
theorem cx_K : (cxOf CX P w K mg base N q sc f cd A outer s H E).K = K := rfl
theorem cx_w : (cxOf CX P w K mg base N q sc f cd A outer s H E).w = w := rfl
theorem cx_P : (cxOf CX P w K mg base N q sc f cd A outer s H E).prog = P := rfl
end
theorem if_yes {c A B : Prop} [Decidable c] (h : c) (x : A) : if c then A else B := by
  rw [if_pos h]
  exact x
theorem if_no {c A B : Prop} [Decidable c] (h : ¬ c) (x : B) : if c then A else B := by
  rw [if_neg h]
  exact x
/-! ### heaps -/
/-- all but what stands at p is as it was, and something stands there if it did -/
structure Chg (p : Addr) (H H' : Hp) : Prop where
  at_ : ∀ b o, b ≠ p → H b = some o → H' b = some o
  kept : ∀ o, H p = some o → ∃ o', H' p = some o'
theorem Chg.at {p : Addr} {H H' : Hp} (c : Chg p H H') {b : Addr} {o : HO} (n : b ≠ p) (e : H b = some o) : H' b = some o := c.at_ b o n e
theorem Chg.refl {p : Addr} {H : Hp} : Chg p H H := ⟨fun _ _ _ e => e, fun o e => ⟨o, e⟩⟩
theorem Chg.trans {p : Addr} {H H1 H2 : Hp} (a : Chg p H H1) (b : Chg p H1 H2) : Chg p H H2 := ⟨fun c o n e => b.at_ c o n (a.at_ c o n e), fun o e => let ⟨o1, e1⟩ := a.kept o e; b.kept o1 e1⟩
theorem Chg.of {p : Addr} {H H' : Hp} (a : Same H H') : Chg p H H' := ⟨fun c o _ e => a c o e, fun o e => ⟨o, a p o e⟩⟩
/-- what is free behind was free ahead -/
theorem Chg.free {p : Addr} {H H' : Hp} (c : Chg p H H') {l : Addr} (h : H' l = none) : H l = none := by
  cases q : H l with
  | none => rfl
  | some u =>
    by_cases z : l = p
    · subst z
      obtain ⟨o', e⟩ := c.kept u q
      rw [e] at h
      cases h
    · rw [c.at z q] at h
      cases h
theorem Chg.upd {p : Addr} {H : Hp} {o : HO} : Chg p H (upd H p o) := ⟨fun b u n e => by rw [upd_ne n]; exact e, fun _ _ => ⟨o, upd_same⟩⟩
/-- what is new to H may change as it likes -/
theorem Chg.same {p : Addr} {H H1 H' : Hp} (s : Same H H1) (c : Chg p H1 H') (n : H p = none) : Same H H' := fun b o e => c.at (fun z => by rw [z, n] at e; cases e) (s b o e)
theorem _root_.L2.Same.new {H : Hp} {p : Addr} {o : HO} (h : H p = none) : Same H (upd H p o) := fun b u e => by
  rw [upd_ne (ne_of_none e h)]
  exact e
theorem _root_.L2.Same.tup {K : PySem.W.Frag} {H H' : Hp} {a : Addr} {xs : List V} (e : Same H H') (h : SqT K H a xs) : SqT K H' a xs := by
  rcases h with (h | ⟨o, h⟩) | h
  · exact .inl (.inl (e _ _ h))
  · exact .inl (.inr ⟨o, e _ _ h⟩)
  · exact .inr h
theorem seq_chg {K : PySem.W.Frag} {H H' : Hp} {a p : Addr} {xs : List V} (e : Chg p H H') (n : H p = none ∨ ∃ C dx fs, H p = some (.ins C dx fs)) (h : SqL K H a xs) : SqL K H' a xs := by
  have ne : ∀ o, H a = some o → (∀ C dx fs, o ≠ .ins C dx fs) → a ≠ p := fun o q z r => by
    rw [r] at q
    rcases n with n | ⟨C, dx, fs, n⟩
    · rw [n] at q
      cases q
    · rw [n] at q
      cases q
      exact z _ _ _ rfl
  rcases h with (h | ⟨o, h⟩) | h
  · exact .inl (.inl (e.at (ne _ h (fun _ _ _ z => nomatch z)) h))
  · exact .inl (.inr ⟨o, e.at (ne _ h (fun _ _ _ z => nomatch z)) h⟩)
  · exact .inr h

/-! ### fields -/
theorem lk_here {k : Str} {v : V} {r : List (Str × V)} : List.lookup k ((k, v) :: r) = some v := by
  have e : (k == k) = true := beq_self_eq_true k
  simp only [List.lookup, e]
theorem lk_past {k g : Str} {v : V} {r : List (Str × V)} (h : (k == g) = false) : List.lookup k ((g, v) :: r) = List.lookup k r := by
  simp only [List.lookup, h]
theorem put_here {f : Str} {v x : V} {r : List (Str × V)} : putF f v ((f, x) :: r) = (f, v) :: r := if_pos rfl
theorem put_past {f g : Str} {v x : V} {r : List (Str × V)} (h : ¬ g = f) : putF f v ((g, x) :: r) = (g, x) :: putF f v r := if_neg h
/-- what a field's reading asks of its object -/
abbrev FldQ (K : PySem.W.Frag) (f : Str) (x : V) (H : Hp) (Q : VK) : Prop := ∃ a C dx fs v, x = .ref a ∧ H a = some (.ins C dx fs) ∧ Cls K C ∧ NoAttr K C f ∧ fs.lookup f = some v ∧ Q v H
theorem fldq {K : PySem.W.Frag} {f : Str} {H : Hp} {Q : VK} {p C dx : Addr} {fs : List (Str × V)} {v : V} (hp : H p = some (.ins C dx fs)) (cl : Cls K C) (na : NoAttr K C f) (hl : fs.lookup f = some v) (q : Q v H) : FldQ K f (.ref p) H Q :=
  ⟨p, C, dx, fs, v, rfl, hp, cl, na, hl, q⟩
end Own
/-! What the specification's tokens are, said of a text's rest: no fuel, one equation a way; and each reading (name, number, string, sign) as the loops of a scanner do it. -/
namespace Tk
open Rd24

/-- a byte of the rest, 256 behind its end -/
def at_ (r : B) (k : Nat) : Nat := (r[k]?).getD 256

theorem stringOf_len : ∀ (r : B) (x : B × Nat × B), stringOf r = some x → 1 ≤ x.2.1 := by
  intro r
  induction r using stringOf.induct with
  | case1 => intro x h; simp [stringOf] at h
  | case2 r => intro x h; simp [stringOf] at h; subst h; simp
  | case3 r ih | case4 r ih | case5 r ih | case6 r ih =>
    intro x h
    simp only [stringOf, Option.map_eq_some_iff] at h
    obtain ⟨y, hy, rfl⟩ := h
    show 1 ≤ y.2.1 + 2
    omega
  | case7 a b r ih =>
    intro x h
    simp only [stringOf, Option.bind_eq_some_iff, Option.map_eq_some_iff] at h
    obtain ⟨p, _, q, _, y, _, rfl⟩ := h
    show 1 ≤ y.2.1 + 4
    omega
  | case8 c r h1 h2 h3 h4 h5 h6 hc ih =>
    intro x h
    rw [stringOf.eq_8 c r h1 h2 h3 h4 h5 h6, if_pos hc, Option.map_eq_some_iff] at h
    obtain ⟨y, _, rfl⟩ := h
    show 1 ≤ y.2.1 + 1
    omega
  | case9 c r h1 h2 h3 h4 h5 h6 hc =>
    intro x h
    rw [stringOf.eq_8 c r h1 h2 h3 h4 h5 h6, if_neg hc] at h
    cases h

theorem tok_len {c : Nat} {r : B} {line col : Nat} {x : Tok × Nat} (h : tokenOf (c :: r) line col = some x) : 1 ≤ x.2 := by
  unfold tokenOf at h
  dsimp only at h
  split at h
  · rename_i hl
    split at h
    · cases h
    · cases h
      have e : inName c = true := by unfold inName; rw [hl]; rfl
      show 1 ≤ ((c :: r).takeWhile inName).length
      rw [List.takeWhile_cons, if_pos e]
      simp
  · split at h
    · rename_i hd
      split at h
      · split at h
        · cases h
        · cases h
          show 1 ≤ 2 + _
          omega
      · split at h
        · cases h
        · cases h
          show 1 ≤ ((c :: r).takeWhile digit).length
          rw [List.takeWhile_cons, if_pos hd]
          simp
    · split at h
      · simp only [Option.bind_eq_some_iff] at h
        obtain ⟨y, _, h⟩ := h
        split at h
        · cases h
        · cases h
          show 1 ≤ y.2.1 + 1
          omega
      · split at h
        · cases h
          show 1 ≤ 2
          omega
        · split at h
          · cases h
            exact Nat.le_refl 1
          · cases h

/-- the tokens of a rest, fuel enough -/
def TK (line col : Nat) (r : B) : List Tok := tokens (r.length + 1) line col r

theorem fuel : ∀ (f : Nat) (r : B) (line col : Nat) (g : Nat), r.length < f → r.length < g → tokens f line col r = tokens g line col r
  | 0, _, _, _, _, h, _ => absurd h (Nat.not_lt_zero _)
  | _ + 1, _, _, _, 0, _, h => absurd h (Nat.not_lt_zero _)
  | f + 1, [], _, _, g + 1, _, _ => rfl
  | f + 1, c :: r, line, col, g + 1, hf, hg => by
    have hf' : r.length < f := by simpa using hf
    have hg' : r.length < g := by simpa using hg
    unfold tokens
    split
    · exact fuel f r _ _ g hf' hg'
    · split
      · exact fuel f r _ _ g hf' hg'
      · split
        · refine fuel f _ _ _ g ?_ ?_ <;> (rw [List.length_drop]; omega)
        · split
          · rfl
          · rename_i x hx
            have h1 := tok_len hx
            have e : ((c :: r).drop x.2).length ≤ r.length := by rw [List.length_drop, List.length_cons]; omega
            rw [fuel f _ _ _ g (by omega) (by omega)]

theorem tk_nil (line col : Nat) : TK line col [] = [⟨5, [], 0, line, col⟩] := rfl
theorem tk_line (line col : Nat) (r : B) : TK line col (10 :: r) = TK (line + 1) 1 r := by
  show tokens (r.length + 1 + 1) line col (10 :: r) = _
  unfold tokens
  rw [if_pos rfl]
  rfl
theorem tk_blank {line col c : Nat} {r : B} (h : c = 32 ∨ c = 9 ∨ c = 13) : TK line col (c :: r) = TK line (col + 1) r := by
  show tokens (r.length + 1 + 1) line col (c :: r) = _
  unfold tokens
  rw [if_neg (by omega), if_pos h]
  rfl
theorem tk_hash (line col : Nat) (r : B) : TK line col (35 :: r) = TK line (col + 1 + (r.takeWhile fun d => d != 10).length) (r.drop (r.takeWhile fun d => d != 10).length) := by
  show tokens (r.length + 1 + 1) line col (35 :: r) = _
  unfold tokens
  rw [if_neg (by decide), if_neg (by decide), if_pos rfl]
  exact fuel _ _ _ _ _ (by rw [List.length_drop]; omega) (by omega)
theorem tk_none {line col c : Nat} {r : B} (h : ¬ (c = 10 ∨ c = 32 ∨ c = 9 ∨ c = 13 ∨ c = 35)) (e : tokenOf (c :: r) line col = none) : TK line col (c :: r) = [⟨6, [], 0, line, col⟩] := by
  show tokens (r.length + 1 + 1) line col (c :: r) = _
  unfold tokens
  rw [if_neg (by omega), if_neg (by omega), if_neg (by omega), e]
theorem tk_some {line col c : Nat} {r : B} {x : Tok × Nat} (h : ¬ (c = 10 ∨ c = 32 ∨ c = 9 ∨ c = 13 ∨ c = 35)) (e : tokenOf (c :: r) line col = some x) : TK line col (c :: r) = x.1 :: TK line (col + x.2) ((c :: r).drop x.2) := by
  show tokens (r.length + 1 + 1) line col (c :: r) = _
  unfold tokens
  rw [if_neg (by omega), if_neg (by omega), if_neg (by omega), e]
  have h1 := tok_len e
  refine congrArg (x.1 :: ·) ?_
  exact fuel _ _ _ _ _ (by rw [List.length_drop, List.length_cons]; omega) (by omega)
end Tk
/-! One token, as a scanner's loops read it. -/
namespace Tk
open Rd24

theorem hexOf_none {c : Nat} (h : 256 ≤ c) : hexOf c = none := by
  unfold hexOf digit
  rw [if_neg (by simp; omega), if_neg (by omega), if_neg (by omega)]
theorem hex_inName {c : Nat} (h : isHex c = true) : inName c = true := by
  unfold isHex hexOf at h
  unfold inName letter
  unfold digit at *
  by_cases h1 : 48 ≤ c ∧ c ≤ 57
  · simp [h1]
  · rw [if_neg (by simpa using h1)] at h
    by_cases h2 : 97 ≤ c ∧ c ≤ 102
    · have : 97 ≤ c ∧ c ≤ 122 := by omega
      simp [this]
    · rw [if_neg h2] at h
      by_cases h3 : 65 ≤ c ∧ c ≤ 70
      · have : 65 ≤ c ∧ c ≤ 90 := by omega
        simp [this]
      · rw [if_neg h3] at h
        cases h
/-- what a takeWhile has taken -/
theorem tw_at {p : Nat → Bool} : ∀ (l : B) (k : Nat), k < (l.takeWhile p).length → ∃ x, l[k]? = some x ∧ p x = true
  | [], k, h => by simp at h
  | a :: l, k, h => by
    rw [List.takeWhile_cons] at h
    by_cases e : p a = true
    · rw [if_pos e] at h
      cases k with
      | zero => exact ⟨a, rfl, e⟩
      | succ k =>
        obtain ⟨x, h1, h2⟩ := tw_at l k (by simpa using h)
        exact ⟨x, by simpa using h1, h2⟩
    · rw [if_neg e] at h
      simp at h
theorem headD_at (l : B) (k : Nat) (d : Nat) : (l.drop k).headD d = (l[k]?).getD d := by
  rw [List.headD_eq_head?_getD, List.head?_drop]
theorem inName_end (l : B) (k : Nat) : inName ((l[k]?).getD 0) = inName (at_ l k) := by
  unfold at_
  cases l[k]? with
  | some x => rfl
  | none => decide

/-! ### names -/
theorem tok_name {c : Nat} {r : B} {line col : Nat} (h : letter c = true) : tokenOf (c :: r) line col = if 32 < ((c :: r).takeWhile inName).length then none else
    some (⟨if WORDS.contains ((c :: r).takeWhile inName) = true then 1 else 0, (c :: r).takeWhile inName, 0, line, col⟩, ((c :: r).takeWhile inName).length) := by
  unfold tokenOf
  dsimp only
  rw [if_pos h]

/-! ### numbers -/
theorem digit_not_letter {c : Nat} (h : digit c = true) : ¬ letter c = true := by
  unfold digit at h
  unfold letter
  simp at h ⊢
  omega
/-- the digits that are read behind 0x: sixteen at most -/
def hex16 (r : B) : B := (r.takeWhile isHex).take 16
theorem tok_hex {r : B} {line col : Nat} (h : at_ (48 :: r) 1 = 120) : tokenOf (48 :: r) line col =
    if (hex16 (r.drop 1)).isEmpty = true ∨ inName (at_ (48 :: r) (2 + (hex16 (r.drop 1)).length)) = true then none else
      some (⟨2, (48 :: r).take (2 + (hex16 (r.drop 1)).length), signed (valueOf 16 (hex16 (r.drop 1))), line, col⟩, 2 + (hex16 (r.drop 1)).length) := by
  have hr : r.headD 0 = 120 := by
    cases r with
    | nil => simp [at_] at h
    | cons a r => simpa [at_] using h
  unfold tokenOf
  dsimp only
  rw [if_neg (by decide), if_pos (by decide), if_pos ⟨rfl, hr⟩]
  have next : ∀ n, inName ((r.drop (1 + n)).headD 0) = inName (at_ (48 :: r) (2 + n)) := fun n => by
    rw [headD_at, inName_end]
    unfold at_
    rw [show 2 + n = (1 + n) + 1 by omega, List.getElem?_cons_succ]
  by_cases big : 16 < ((r.drop 1).takeWhile isHex).length
  · have l16 : (hex16 (r.drop 1)).length = 16 := by unfold hex16; rw [List.length_take]; omega
    obtain ⟨x, hx, hp⟩ := tw_at (r.drop 1) 16 big
    have e : inName (at_ (48 :: r) (2 + (hex16 (r.drop 1)).length)) = true := by
      rw [l16]
      unfold at_
      rw [List.getElem?_drop] at hx
      rw [show 2 + 16 = (1 + 16) + 1 by omega, List.getElem?_cons_succ, hx]
      exact hex_inName hp
    rw [if_pos (Or.inr (Or.inl big)), if_pos (Or.inr e)]
  · have e : hex16 (r.drop 1) = (r.drop 1).takeWhile isHex := by unfold hex16; exact List.take_of_length_le (by omega)
    rw [e]
    simp only [next]
    by_cases c1 : ((r.drop 1).takeWhile isHex).isEmpty = true ∨ inName (at_ (48 :: r) (2 + ((r.drop 1).takeWhile isHex).length)) = true
    · rw [if_pos c1, if_pos (c1.elim Or.inl fun z => Or.inr (Or.inr z))]
    · rw [if_neg c1, if_neg (fun z => c1 (z.elim Or.inl fun z => z.elim (fun z => absurd z big) Or.inr))]
theorem tok_dec {c : Nat} {r : B} {line col : Nat} (hd : digit c = true) (h : ¬ (c = 48 ∧ at_ (c :: r) 1 = 120)) : tokenOf (c :: r) line col =
    if 9223372036854775807 < valueOf 10 ((c :: r).takeWhile digit) ∨ inName (at_ (c :: r) ((c :: r).takeWhile digit).length) = true then none else
      some (⟨2, (c :: r).takeWhile digit, (valueOf 10 ((c :: r).takeWhile digit) : Int), line, col⟩, ((c :: r).takeWhile digit).length) := by
  have hr : ¬ (c = 48 ∧ r.headD 0 = 120) := fun z => h ⟨z.1, by
    cases r with
    | nil => exact absurd z.2 (by decide)
    | cons a r => simpa [at_] using z.2⟩
  unfold tokenOf
  dsimp only
  rw [if_neg (digit_not_letter hd), if_pos hd, if_neg hr, headD_at, inName_end]
def G : Nat := 9223372036854775807
/-- the scanner's step: what is too great stays just too great -/
def decStep (n c : Nat) : Nat := min (n * 10 + c - 48) (G + 1)
theorem hexOf_digit {c : Nat} (h : digit c = true) : (hexOf c).getD 0 = c - 48 := by
  unfold hexOf
  rw [if_pos h]
  rfl
theorem clamp : ∀ (d : B) (a : Nat), (∀ c ∈ d, digit c = true) → d.foldl decStep (min a (G + 1)) = min (d.foldl (fun n c => 10 * n + (hexOf c).getD 0) a) (G + 1)
  | [], _, _ => rfl
  | c :: d, a, h => by
    have hc := h c List.mem_cons_self
    have e := hexOf_digit hc
    have b : 48 ≤ c := by unfold digit at hc; simp at hc; exact hc.1
    rw [List.foldl_cons, List.foldl_cons, e]
    have s : decStep (min a (G + 1)) c = min (10 * a + (c - 48)) (G + 1) := by
      unfold decStep G
      omega
    rw [s]
    exact clamp d _ fun x hx => h x (List.mem_cons_of_mem _ hx)
theorem clamp0 {d : B} (h : ∀ c ∈ d, digit c = true) : d.foldl decStep 0 = min (valueOf 10 d) (G + 1) := clamp d 0 h

/-! ### signs -/
theorem two_iff (c d : Nat) : TWO.contains [c, d] = true ↔ (c = 61 ∨ c = 33 ∨ c = 60 ∨ c = 62) ∧ d = 61 := by
  have e : TWO = [[61, 61], [33, 61], [60, 61], [62, 61]] := by decide
  rw [e]
  simp
  omega
theorem two_one (c : Nat) : TWO.contains [c] = false := by
  have e : TWO = [[61, 61], [33, 61], [60, 61], [62, 61]] := by decide
  rw [e]
  simp
theorem tok_two {c : Nat} {r : B} {line col : Nat} (h : c = 61 ∨ c = 33 ∨ c = 60 ∨ c = 62) (n : at_ (c :: r) 1 = 61) : tokenOf (c :: r) line col = some (⟨4, [c, 61], 0, line, col⟩, 2) := by
  cases r with
  | nil => simp [at_] at n
  | cons d r =>
    have ed : d = 61 := by simpa [at_] using n
    subst ed
    unfold tokenOf
    dsimp only
    rw [if_neg (by rcases h with rfl | rfl | rfl | rfl <;> decide), if_neg (by rcases h with rfl | rfl | rfl | rfl <;> decide), if_neg (by omega)]
    have e : TWO.contains ((c :: 61 :: r).take 2) = true := (two_iff c 61).mpr ⟨h, rfl⟩
    rw [if_pos e]
    rfl
theorem tok_one {c : Nat} {r : B} {line col : Nat} (hl : ¬ letter c = true) (hd : ¬ digit c = true) (hq : c ≠ 34) (h : ¬ ((c = 61 ∨ c = 33 ∨ c = 60 ∨ c = 62) ∧ at_ (c :: r) 1 = 61)) :
    tokenOf (c :: r) line col = if ONE.contains c = true then some (⟨4, [c], 0, line, col⟩, 1) else none := by
  unfold tokenOf
  dsimp only
  rw [if_neg hl, if_neg hd, if_neg hq]
  have e : ¬ TWO.contains ((c :: r).take 2) = true := by
    cases r with
    | nil => show ¬ TWO.contains [c] = true; rw [two_one]; exact Bool.false_ne_true
    | cons d r =>
      show ¬ TWO.contains [c, d] = true
      rw [two_iff]
      exact fun z => h ⟨z.1, by simpa [at_] using z.2⟩
  rw [if_neg e]

/-! ### strings -/
/-- one byte of a string's inside: it, and how many bytes it's written with -/
def oneByte (r : B) : Option (Nat × Nat) :=
  if at_ r 0 = 92 then
    if at_ r 1 ≠ 120 then
      (if at_ r 1 = 110 then some (10, 2) else if at_ r 1 = 116 then some (9, 2) else if at_ r 1 = 92 then some (92, 2) else if at_ r 1 = 34 then some (34, 2) else none)
    else (hexOf (at_ r 2)).bind fun p => (hexOf (at_ r 3)).bind fun q => some (p * 16 + q, 4)
  else if 32 ≤ at_ r 0 ∧ at_ r 0 ≤ 126 then some (at_ r 0, 1) else none
theorem one_hex {r : B} {p q : Option Nat} (h0 : at_ r 0 = 92) (h1 : at_ r 1 = 120) (h2 : hexOf (at_ r 2) = p) (h3 : hexOf (at_ r 3) = q) : oneByte r = p.bind fun p => q.bind fun q => some (p * 16 + q, 4) := by
  unfold oneByte
  rw [if_pos h0, if_neg (by rw [h1]; simp), h2, h3]
theorem one_esc {r : B} (h0 : at_ r 0 = 92) (h1 : at_ r 1 ≠ 120) (k2 : at_ r 1 ≠ 110) (k3 : at_ r 1 ≠ 116) (k4 : at_ r 1 ≠ 92) (k5 : at_ r 1 ≠ 34) : oneByte r = none := by
  unfold oneByte
  rw [if_pos h0, if_pos h1, if_neg k2, if_neg k3, if_neg k4, if_neg k5]
theorem one_bad {c : Nat} {r : B} (h2 : ∀ s, c = 92 → r = 110 :: s → False) (h3 : ∀ s, c = 92 → r = 116 :: s → False) (h4 : ∀ s, c = 92 → r = 92 :: s → False) (h5 : ∀ s, c = 92 → r = 34 :: s → False)
    (h6 : ∀ a b s, c = 92 → r = 120 :: a :: b :: s → False) (hc : ¬ (c ≠ 92 ∧ 32 ≤ c ∧ c ≤ 126)) : oneByte (c :: r) = none := by
  by_cases e : c = 92
  · subst e
    cases r with
    | nil => exact one_esc rfl (by decide) (by decide) (by decide) (by decide) (by decide)
    | cons d s =>
      by_cases x : d = 120
      · subst x
        have hn : hexOf 256 = none := by decide
        cases s with
        | nil => rw [one_hex (r := [92, 120]) (p := none) (q := none) rfl rfl hn hn]; rfl
        | cons a s =>
          cases s with
          | nil =>
            rw [one_hex (r := [92, 120, a]) (p := hexOf a) (q := none) rfl rfl rfl hn]
            cases hexOf a <;> rfl
          | cons b s => exact (h6 a b s rfl rfl).elim
      · exact one_esc rfl x (fun z => h2 s rfl (by rw [← show d = 110 from z])) (fun z => h3 s rfl (by rw [← show d = 116 from z])) (fun z => h4 s rfl (by rw [← show d = 92 from z])) (fun z => h5 s rfl (by rw [← show d = 34 from z]))
  · unfold oneByte
    rw [if_neg (show ¬ at_ (c :: r) 0 = 92 from e), if_neg (show ¬ (32 ≤ at_ (c :: r) 0 ∧ at_ (c :: r) 0 ≤ 126) from fun z => hc ⟨e, z⟩)]
theorem string_step : ∀ (r : B), at_ r 0 ≠ 34 → stringOf r = (oneByte r).bind fun y => (stringOf (r.drop y.2)).map fun x => (y.1 :: x.1, x.2.1 + y.2, x.2.2) := by
  intro r
  induction r using stringOf.induct with
  | case1 => intro _; rfl
  | case2 r => intro h; exact (h rfl).elim
  | case3 r ih | case4 r ih | case5 r ih | case6 r ih => intro _; rw [stringOf]; rfl
  | case7 a b r ih =>
    intro _
    rw [one_hex (p := hexOf a) (q := hexOf b) rfl rfl rfl rfl, stringOf]
    cases hexOf a with
    | none => rfl
    | some p =>
      cases hexOf b with
      | none => rfl
      | some q =>
        show (stringOf r).map (fun x => ((16 * p + q) :: x.1, x.2.1 + 4, x.2.2)) = (stringOf r).map fun x => ((p * 16 + q) :: x.1, x.2.1 + 4, x.2.2)
        rw [Nat.mul_comm]
  | case8 c r h1 h2 h3 h4 h5 h6 hc ih =>
    intro _
    rw [stringOf.eq_8 c r h1 h2 h3 h4 h5 h6, if_pos hc]
    have e : oneByte (c :: r) = some (c, 1) := by
      unfold oneByte
      rw [if_neg (show ¬ at_ (c :: r) 0 = 92 from hc.1), if_pos (show 32 ≤ at_ (c :: r) 0 ∧ at_ (c :: r) 0 ≤ 126 from hc.2)]
      rfl
    rw [e]
    rfl
  | case9 c r h1 h2 h3 h4 h5 h6 hc =>
    intro _
    rw [stringOf.eq_8 c r h1 h2 h3 h4 h5 h6, if_neg hc, one_bad h2 h3 h4 h5 h6 hc]
    rfl
theorem tok_string {r : B} {line col : Nat} : tokenOf (34 :: r) line col = (stringOf r).bind fun x => if 1024 < x.1.length then none else some (⟨3, x.1, 0, line, col⟩, x.2.1 + 1) := by
  unfold tokenOf
  dsimp only
  rw [if_neg (by decide), if_neg (by decide), if_pos rfl]
end Tk
/-! The loops' invariants: the inside of a string, blanks and remarks, the list of all tokens; what is answered. -/
namespace Tk
open Rd24

/-! ### the inside of a string -/
theorem one_len {r : B} {y : Nat × Nat} (h : oneByte r = some y) : 1 ≤ y.2 ∧ y.2 ≤ r.length := by
  have big : ∀ {k : Nat}, at_ r k ≠ 256 → k < r.length := fun {k} hk => by
    apply Classical.byContradiction
    intro z
    exact hk (by unfold at_; rw [List.getElem?_eq_none (by omega)]; rfl)
  unfold oneByte at h
  split at h
  · rename_i h0
    split at h
    · have key : at_ r 1 ≠ 256 := fun z => by rw [z] at h; simp at h
      have := big key
      split at h
      · cases h; exact ⟨by decide, by show 2 ≤ _; omega⟩
      · split at h
        · cases h; exact ⟨by decide, by show 2 ≤ _; omega⟩
        · split at h
          · cases h; exact ⟨by decide, by show 2 ≤ _; omega⟩
          · split at h
            · cases h; exact ⟨by decide, by show 2 ≤ _; omega⟩
            · cases h
    · simp only [Option.bind_eq_some_iff] at h
      obtain ⟨p, hp, q, hq, e⟩ := h
      cases e
      have key : at_ r 3 ≠ 256 := fun z => by rw [z, hexOf_none (Nat.le_refl 256)] at hq; cases hq
      have := big key
      exact ⟨by show 1 ≤ 4; decide, by show 4 ≤ _; omega⟩
  · split at h
    · rename_i hc
      cases h
      have := big (k := 0) (by omega)
      exact ⟨Nat.le_refl 1, by show 1 ≤ _; omega⟩
    · cases h
/-- behind k bytes of the inside, acc is what they stand for -/
def Ins (r : B) (acc : B) (k : Nat) : Prop := k ≤ r.length ∧ stringOf r = (stringOf (r.drop k)).map fun x => (acc ++ x.1, x.2.1 + k, x.2.2)
theorem ins_zero (r : B) : Ins r [] 0 := ⟨Nat.zero_le _, by rw [List.drop_zero]; cases stringOf r <;> rfl⟩
theorem ins_more {r acc : B} {k : Nat} {y : Nat × Nat} (I : Ins r acc k) (h : at_ (r.drop k) 0 ≠ 34) (e : oneByte (r.drop k) = some y) : Ins r (acc ++ [y.1]) (k + y.2) := by
  have hl := one_len e
  rw [List.length_drop] at hl
  have := I.1
  refine ⟨by omega, ?_⟩
  rw [I.2, string_step _ h, e]
  show ((stringOf ((r.drop k).drop y.2)).map _).map _ = _
  rw [List.drop_drop, Option.map_map]
  refine congrFun (congrArg Option.map (funext fun x => ?_)) _
  show (acc ++ (y.1 :: x.1), x.2.1 + y.2 + k, x.2.2) = (acc ++ [y.1] ++ x.1, x.2.1 + (k + y.2), x.2.2)
  rw [List.append_assoc, show x.2.1 + y.2 + k = x.2.1 + (k + y.2) by omega]
  rfl
theorem ins_bad {r acc : B} {k : Nat} (I : Ins r acc k) (h : at_ (r.drop k) 0 ≠ 34) (e : oneByte (r.drop k) = none) : stringOf r = none := by
  rw [I.2, string_step _ h, e]
  rfl
theorem ins_long {r acc : B} {k : Nat} {y : Nat × Nat} {line col : Nat} (I : Ins r acc k) (h : at_ (r.drop k) 0 ≠ 34) (e : oneByte (r.drop k) = some y) (f : acc.length = 1024) : tokenOf (34 :: r) line col = none := by
  have J := ins_more I h e
  rw [tok_string, J.2]
  cases stringOf (r.drop (k + y.2)) with
  | none => rfl
  | some x =>
    show (if 1024 < (acc ++ [y.1] ++ x.1).length then none else _) = none
    rw [if_pos (by rw [List.length_append, List.length_append, f]; simp; omega)]
theorem ins_end {r acc : B} {k : Nat} {line col : Nat} (I : Ins r acc k) (h : at_ (r.drop k) 0 = 34) (f : acc.length ≤ 1024) : tokenOf (34 :: r) line col = some (⟨3, acc, 0, line, col⟩, k + 2) := by
  have e : ∃ s, r.drop k = 34 :: s := by
    cases q : r.drop k with
    | nil => rw [q] at h; exact absurd h (by decide)
    | cons a s => rw [q] at h; exact ⟨s, by rw [show a = 34 from h]⟩
  obtain ⟨s, e⟩ := e
  rw [tok_string, I.2, e, stringOf]
  show (if 1024 < (acc ++ []).length then none else some ((⟨3, acc ++ [], 0, line, col⟩ : Tok), 1 + k + 1)) = _
  rw [List.append_nil, if_neg (by omega), show 1 + k + 1 = k + 2 by omega]
theorem bad_string {r : B} {line col : Nat} (h : stringOf r = none) : tokenOf (34 :: r) line col = none := by
  rw [tok_string, h]
  rfl

/-! ### the whole list -/
/-- what the loop has at last: tokens, and one that is the end or can't be -/
theorem tk_shape : ∀ (n : Nat) (r : B) (line col : Nat), r.length ≤ n → ∃ pre last, TK line col r = pre ++ [last] ∧ (∀ t ∈ pre, t.kind ≤ 4) ∧ (last.kind = 5 ∨ last.kind = 6)
  | n, [], line, col, _ => ⟨[], _, tk_nil line col, (fun _ h => nomatch h), Or.inl rfl⟩
  | 0, c :: r, _, _, h => absurd h (by simp)
  | n + 1, c :: r, line, col, h => by
    have hr : r.length ≤ n := by simpa using h
    by_cases h10 : c = 10
    · subst h10
      rw [tk_line]
      exact tk_shape n r _ _ hr
    · by_cases hb : c = 32 ∨ c = 9 ∨ c = 13
      · rw [tk_blank hb]
        exact tk_shape n r _ _ hr
      · by_cases h35 : c = 35
        · subst h35
          rw [tk_hash]
          exact tk_shape n _ _ _ (by rw [List.length_drop]; omega)
        · have hn : ¬ (c = 10 ∨ c = 32 ∨ c = 9 ∨ c = 13 ∨ c = 35) := by omega
          cases e : tokenOf (c :: r) line col with
          | none => exact ⟨[], _, tk_none hn e, (fun _ h => nomatch h), Or.inr rfl⟩
          | some x =>
            have h1 := tok_len e
            obtain ⟨pre, last, q, k1, k2⟩ := tk_shape n ((c :: r).drop x.2) line (col + x.2) (by rw [List.length_drop, List.length_cons]; omega)
            refine ⟨x.1 :: pre, last, by rw [tk_some hn e, q]; rfl, fun t ht => ?_, k2⟩
            rcases List.mem_cons.mp ht with rfl | ht
            · exact tok_kind e
            · exact k1 t ht
where
  tok_kind {c : Nat} {r : B} {line col : Nat} {x : Tok × Nat} (h : tokenOf (c :: r) line col = some x) : x.1.kind ≤ 4 := by
    unfold tokenOf at h
    dsimp only at h
    split at h
    · split at h
      · cases h
      · cases h
        show (if _ then 1 else 0) ≤ 4
        split <;> decide
    · split at h
      · split at h
        · split at h
          · cases h
          · cases h; show 2 ≤ 4; decide
        · split at h
          · cases h
          · cases h; show 2 ≤ 4; decide
      · split at h
        · simp only [Option.bind_eq_some_iff] at h
          obtain ⟨y, _, h⟩ := h
          split at h
          · cases h
          · cases h; show 3 ≤ 4; decide
        · split at h
          · cases h; show 4 ≤ 4; decide
          · split at h
            · cases h; show 4 ≤ 4; decide
            · cases h
/-- what is answered, by the list's two parts -/
theorem answer_bad {b : B} {pre : List Tok} {last : Tok} (ok : okText b = true) (e : tokensOf b = pre ++ [last]) (h : ∀ t ∈ pre, t.kind ≤ 4) (k : last.kind = 6) : (answer (.tokens b)).value :: (answer (.tokens b)).out = [-1, (last.line : Int), (last.col : Int)] := by
  have f : (pre ++ [last]).find? (fun t => t.kind == 6) = some last := by
    rw [List.find?_append, List.find?_eq_none.mpr (fun t ht => by have := h t ht; simp; omega)]
    simp [k]
  unfold answer
  simp only [ok, e, f]
  rfl
theorem answer_good {b : B} {pre : List Tok} {last : Tok} (ok : okText b = true) (e : tokensOf b = pre ++ [last]) (h : ∀ t ∈ pre, t.kind ≤ 4) (k : last.kind = 5) : (answer (.tokens b)).value :: (answer (.tokens b)).out = (pre.length : Int) :: pre.flatMap tellTok := by
  have f : (pre ++ [last]).find? (fun t => t.kind == 6) = none := by
    rw [List.find?_eq_none]
    intro t ht
    rcases List.mem_append.mp ht with ht | ht
    · have := h t ht
      simp
      omega
    · rw [List.mem_singleton.mp ht]
      simp [k]
  unfold answer
  simp only [ok, e, f, List.dropLast_concat]
  rfl
end Tk
/-! How long the answer may be. -/
namespace Tk
open Rd24
theorem string_len : ∀ (r : B) (x : B × Nat × B), stringOf r = some x → x.1.length + 1 ≤ x.2.1 := by
  intro r
  induction r using stringOf.induct with
  | case1 => intro x h; simp [stringOf] at h
  | case2 r => intro x h; simp [stringOf] at h; subst h; simp
  | case3 r ih | case4 r ih | case5 r ih | case6 r ih =>
    intro x h
    simp only [stringOf, Option.map_eq_some_iff] at h
    obtain ⟨y, hy, rfl⟩ := h
    have := ih y hy
    simp
    omega
  | case7 a b r ih =>
    intro x h
    simp only [stringOf, Option.bind_eq_some_iff, Option.map_eq_some_iff] at h
    obtain ⟨p, hp, q, hq, y, hy, rfl⟩ := h
    have := ih y hy
    simp
    omega
  | case8 c r h1 h2 h3 h4 h5 h6 hc ih =>
    intro x h
    rw [stringOf.eq_8 c r h1 h2 h3 h4 h5 h6, if_pos hc, Option.map_eq_some_iff] at h
    obtain ⟨y, hy, rfl⟩ := h
    have := ih y hy
    simp
    omega
  | case9 c r h1 h2 h3 h4 h5 h6 hc =>
    intro x h
    rw [stringOf.eq_8 c r h1 h2 h3 h4 h5 h6, if_neg hc] at h
    cases h
theorem tell_short {t : Tok} {k : Nat} (h : 1 ≤ k) (hb : t.kind = 2 ∨ t.b.length ≤ k) : (tellTok t).length ≤ 5 * k := by
  unfold tellTok row_ nats
  rw [List.length_append]
  split
  · simp
    omega
  · rename_i z
    rcases hb with e | e
    · exact absurd e z
    · simp
      omega
theorem tell_tok {c : Nat} {r : B} {line col : Nat} {x : Tok × Nat} (h : tokenOf (c :: r) line col = some x) : (tellTok x.1).length ≤ 5 * x.2 := by
  have h1 := tok_len h
  refine tell_short h1 ?_
  unfold tokenOf at h
  dsimp only at h
  split at h
  · split at h
    · cases h
    · cases h
      exact .inr (Nat.le_refl _)
  · split at h
    · split at h
      · split at h
        · cases h
        · cases h
          exact .inl rfl
      · split at h
        · cases h
        · cases h
          exact .inl rfl
    · split at h
      · simp only [Option.bind_eq_some_iff] at h
        obtain ⟨y, hy, h⟩ := h
        split at h
        · cases h
        · cases h
          have := string_len _ _ hy
          exact .inr (by show y.1.length ≤ y.2.1 + 1; omega)
      · split at h
        · cases h
          exact .inr (by show (List.take 2 (c :: r)).length ≤ 2; rw [List.length_take]; omega)
        · split at h
          · cases h
            exact .inr (Nat.le_refl _)
          · cases h
theorem tok_fits {c : Nat} {r : B} {line col : Nat} {x : Tok × Nat} (h : tokenOf (c :: r) line col = some x) : x.2 ≤ (c :: r).length := by
  have tw : ∀ (q : Nat → Bool) (l : B), (l.takeWhile q).length ≤ l.length := fun q l => by
    induction l with
    | nil => exact Nat.le_refl _
    | cons a l ih =>
      rw [List.takeWhile_cons]
      split
      · exact Nat.succ_le_succ ih
      · exact Nat.zero_le _
  unfold tokenOf at h
  dsimp only at h
  split at h
  · split at h
    · cases h
    · cases h
      exact tw _ _
  · split at h
    · split at h
      · rename_i z
        split at h
        · cases h
        · cases h
          have := tw isHex (r.drop 1)
          rw [List.length_drop] at this
          cases r with
          | nil => exact absurd z.2 (by decide)
          | cons d r =>
            simp only [List.length_cons] at this ⊢
            omega
      · split at h
        · cases h
        · cases h
          exact tw _ _
    · split at h
      · simp only [Option.bind_eq_some_iff] at h
        obtain ⟨y, hy, h⟩ := h
        split at h
        · cases h
        · cases h
          have len : ∀ (r : B) (x : B × Nat × B), stringOf r = some x → x.2.1 ≤ r.length := by
            intro r
            induction r using stringOf.induct with
            | case1 => intro x h; simp [stringOf] at h
            | case2 r => intro x h; simp [stringOf] at h; subst h; simp
            | case3 r ih | case4 r ih | case5 r ih | case6 r ih =>
              intro x h
              simp only [stringOf, Option.map_eq_some_iff] at h
              obtain ⟨y, hy, rfl⟩ := h
              have := ih y hy
              simp
              omega
            | case7 a b r ih =>
              intro x h
              simp only [stringOf, Option.bind_eq_some_iff, Option.map_eq_some_iff] at h
              obtain ⟨p, hp, q, hq, y, hy, rfl⟩ := h
              have := ih y hy
              simp
              omega
            | case8 c r h1 h2 h3 h4 h5 h6 hc ih =>
              intro x h
              rw [stringOf.eq_8 c r h1 h2 h3 h4 h5 h6, if_pos hc, Option.map_eq_some_iff] at h
              obtain ⟨y, hy, rfl⟩ := h
              have := ih y hy
              simp
              omega
            | case9 c r h1 h2 h3 h4 h5 h6 hc =>
              intro x h
              rw [stringOf.eq_8 c r h1 h2 h3 h4 h5 h6, if_neg hc] at h
              cases h
          have := len _ _ hy
          show y.2.1 + 1 ≤ _
          simp
          omega
      · split at h
        · rename_i z
          cases h
          cases r with
          | nil => rw [show List.take 2 [c] = [c] from rfl, two_one] at z; cases z
          | cons d r => simp
        · split at h
          · cases h
            simp
          · cases h
theorem tk_ne (n : Nat) (r : B) (line col : Nat) (h : r.length ≤ n) : TK line col r ≠ [] := by
  obtain ⟨pre, last, e, _⟩ := tk_shape n r line col h
  rw [e]
  simp
theorem tell_len : ∀ (n : Nat) (r : B) (line col : Nat), r.length ≤ n → ((TK line col r).dropLast.flatMap tellTok).length ≤ 5 * r.length ∧ (TK line col r).length ≤ r.length + 1
  | n, [], line, col, _ => by rw [tk_nil]; simp
  | 0, c :: r, _, _, h => absurd h (by simp)
  | n + 1, c :: r, line, col, h => by
    have hr : r.length ≤ n := by simpa using h
    by_cases h10 : c = 10
    · subst h10
      rw [tk_line]
      have := tell_len n r (line + 1) 1 hr
      rw [List.length_cons]
      omega
    · by_cases hb : c = 32 ∨ c = 9 ∨ c = 13
      · rw [tk_blank hb]
        have := tell_len n r line (col + 1) hr
        rw [List.length_cons]
        omega
      · by_cases h35 : c = 35
        · subst h35
          rw [tk_hash]
          have := tell_len n (r.drop (r.takeWhile fun d => d != 10).length) line (col + 1 + (r.takeWhile fun d => d != 10).length) (by rw [List.length_drop]; omega)
          rw [List.length_drop] at this
          rw [List.length_cons]
          omega
        · have hn : ¬ (c = 10 ∨ c = 32 ∨ c = 9 ∨ c = 13 ∨ c = 35) := by omega
          cases e : tokenOf (c :: r) line col with
          | none => rw [tk_none hn e]; simp
          | some x =>
            have h1 := tok_len e
            have h2 := tell_tok e
            have h3 := tok_fits e
            have ld : ((c :: r).drop x.2).length = r.length + 1 - x.2 := by rw [List.length_drop, List.length_cons]
            have ih := tell_len n ((c :: r).drop x.2) line (col + x.2) (by rw [ld]; omega)
            rw [List.length_cons] at h3
            rw [tk_some hn e, List.dropLast_cons_of_ne_nil (tk_ne n _ _ _ (by rw [ld]; omega)), List.flatMap_cons, List.length_append, List.length_cons, List.length_cons]
            rw [ld] at ih
            omega
end Tk
namespace Prog
open PySem PySem.Spec PyProof.Rows L2 Own
def top (i : Nat) : Stmt := PySem.Challenge.pw_madeimage_s02_tokens.main.body.getD i (.Pass ⟨0, 0, 0, 0⟩)
abbrev s_told_bytes : Stmt := top 1
theorem sc_told_bytes : FnScope ["values"] ["values"] (defScope s_told_bytes) := ⟨rfl, rfl, rfl, by decide +kernel, rfl, by decide +kernel, by decide +kernel⟩

abbrev s_written_bytes : Stmt := top 5
theorem sc_written_bytes : FnScope ["text", "letter"] ["text"] (defScope s_written_bytes) := ⟨rfl, rfl, rfl, by decide +kernel, rfl, by decide +kernel, by decide +kernel⟩

abbrev s_token_bytes : Stmt := top 6
theorem sc_token_bytes : FnScope ["token"] ["token"] (defScope s_token_bytes) := ⟨rfl, rfl, rfl, by decide +kernel, rfl, by decide +kernel, by decide +kernel⟩

abbrev s_told_tokens : Stmt := top 7
theorem sc_told_tokens : FnScope ["found", "answer", "token"] ["found"] (defScope s_told_tokens) := ⟨rfl, rfl, rfl, by decide +kernel, rfl, by decide +kernel, by decide +kernel⟩

abbrev s_Token_init : Stmt := inClass (top 24) 0
theorem sc_Token_init : FnScope ["self", "kind", "value", "line", "column"] ["self", "kind", "value", "line", "column"] (defScope s_Token_init) := ⟨rfl, rfl, rfl, by decide +kernel, rfl, by decide +kernel, by decide +kernel⟩

abbrev s_is_blank : Stmt := top 25
theorem sc_is_blank : FnScope ["byte"] ["byte"] (defScope s_is_blank) := ⟨rfl, rfl, rfl, by decide +kernel, rfl, by decide +kernel, by decide +kernel⟩

abbrev s_is_digit : Stmt := top 26
theorem sc_is_digit : FnScope ["byte"] ["byte"] (defScope s_is_digit) := ⟨rfl, rfl, rfl, by decide +kernel, rfl, by decide +kernel, by decide +kernel⟩

abbrev s_is_letter : Stmt := top 27
theorem sc_is_letter : FnScope ["byte"] ["byte"] (defScope s_is_letter) := ⟨rfl, rfl, rfl, by decide +kernel, rfl, by decide +kernel, by decide +kernel⟩

abbrev s_is_name_byte : Stmt := top 28
theorem sc_is_name_byte : FnScope ["byte"] ["byte"] (defScope s_is_name_byte) := ⟨rfl, rfl, rfl, by decide +kernel, rfl, by decide +kernel, by decide +kernel⟩

abbrev s_hex_worth : Stmt := top 29
theorem sc_hex_worth : FnScope ["byte"] ["byte"] (defScope s_hex_worth) := ⟨rfl, rfl, rfl, by decide +kernel, rfl, by decide +kernel, by decide +kernel⟩

abbrev s_words_by_bytes : Stmt := top 30
theorem sc_words_by_bytes : FnScope ["found", "word", "letter"] [] (defScope s_words_by_bytes) := ⟨rfl, rfl, rfl, by decide +kernel, rfl, by decide +kernel, by decide +kernel⟩

abbrev s_signed_worth : Stmt := top 31
theorem sc_signed_worth : FnScope ["worth"] ["worth"] (defScope s_signed_worth) := ⟨rfl, rfl, rfl, by decide +kernel, rfl, by decide +kernel, by decide +kernel⟩

abbrev s_Scanner_init : Stmt := inClass (top 32) 0
theorem sc_Scanner_init : FnScope ["self", "text"] ["self", "text"] (defScope s_Scanner_init) := ⟨rfl, rfl, rfl, by decide +kernel, rfl, by decide +kernel, by decide +kernel⟩

abbrev s_Scanner_byte_ahead : Stmt := inClass (top 32) 1
theorem sc_Scanner_byte_ahead : FnScope ["self", "ahead", "place"] ["self", "ahead"] (defScope s_Scanner_byte_ahead) := ⟨rfl, rfl, rfl, by decide +kernel, rfl, by decide +kernel, by decide +kernel⟩

abbrev s_Scanner_skip_remark : Stmt := inClass (top 32) 2
theorem sc_Scanner_skip_remark : FnScope ["self"] ["self"] (defScope s_Scanner_skip_remark) := ⟨rfl, rfl, rfl, by decide +kernel, rfl, by decide +kernel, by decide +kernel⟩

abbrev s_Scanner_skip_blank : Stmt := inClass (top 32) 3
theorem sc_Scanner_skip_blank : FnScope ["self"] ["self"] (defScope s_Scanner_skip_blank) := ⟨rfl, rfl, rfl, by decide +kernel, rfl, by decide +kernel, by decide +kernel⟩

abbrev s_Scanner_skip_to_token : Stmt := inClass (top 32) 4
theorem sc_Scanner_skip_to_token : FnScope ["self", "byte"] ["self"] (defScope s_Scanner_skip_to_token) := ⟨rfl, rfl, rfl, by decide +kernel, rfl, by decide +kernel, by decide +kernel⟩

abbrev s_Scanner_read_token : Stmt := inClass (top 32) 5
theorem sc_Scanner_read_token : FnScope ["self", "line", "column", "kind", "value"] ["self"] (defScope s_Scanner_read_token) := ⟨rfl, rfl, rfl, by decide +kernel, rfl, by decide +kernel, by decide +kernel⟩

abbrev s_Scanner_kind_here : Stmt := inClass (top 32) 6
theorem sc_Scanner_kind_here : FnScope ["self", "byte"] ["self"] (defScope s_Scanner_kind_here) := ⟨rfl, rfl, rfl, by decide +kernel, rfl, by decide +kernel, by decide +kernel⟩

abbrev s_Scanner_read_value : Stmt := inClass (top 32) 7
theorem sc_Scanner_read_value : FnScope ["self", "kind"] ["self", "kind"] (defScope s_Scanner_read_value) := ⟨rfl, rfl, rfl, by decide +kernel, rfl, by decide +kernel, by decide +kernel⟩

abbrev s_Scanner_read_name : Stmt := inClass (top 32) 8
theorem sc_Scanner_read_name : FnScope ["self", "first"] ["self"] (defScope s_Scanner_read_name) := ⟨rfl, rfl, rfl, by decide +kernel, rfl, by decide +kernel, by decide +kernel⟩

abbrev s_Scanner_read_number : Stmt := inClass (top 32) 9
theorem sc_Scanner_read_number : FnScope ["self", "worth"] ["self"] (defScope s_Scanner_read_number) := ⟨rfl, rfl, rfl, by decide +kernel, rfl, by decide +kernel, by decide +kernel⟩

abbrev s_Scanner_read_hex_number : Stmt := inClass (top 32) 10
theorem sc_Scanner_read_hex_number : FnScope ["self", "first", "worth", "digit"] ["self"] (defScope s_Scanner_read_hex_number) := ⟨rfl, rfl, rfl, by decide +kernel, rfl, by decide +kernel, by decide +kernel⟩

abbrev s_Scanner_read_decimal_number : Stmt := inClass (top 32) 11
theorem sc_Scanner_read_decimal_number : FnScope ["self", "worth"] ["self"] (defScope s_Scanner_read_decimal_number) := ⟨rfl, rfl, rfl, by decide +kernel, rfl, by decide +kernel, by decide +kernel⟩

abbrev s_Scanner_read_string : Stmt := inClass (top 32) 12
theorem sc_Scanner_read_string : FnScope ["self", "stands_for", "byte"] ["self"] (defScope s_Scanner_read_string) := ⟨rfl, rfl, rfl, by decide +kernel, rfl, by decide +kernel, by decide +kernel⟩

abbrev s_Scanner_read_string_byte : Stmt := inClass (top 32) 13
theorem sc_Scanner_read_string_byte : FnScope ["self", "byte"] ["self"] (defScope s_Scanner_read_string_byte) := ⟨rfl, rfl, rfl, by decide +kernel, rfl, by decide +kernel, by decide +kernel⟩

abbrev s_Scanner_read_escape : Stmt := inClass (top 32) 14
theorem sc_Scanner_read_escape : FnScope ["self", "byte", "high", "low"] ["self"] (defScope s_Scanner_read_escape) := ⟨rfl, rfl, rfl, by decide +kernel, rfl, by decide +kernel, by decide +kernel⟩

abbrev s_Scanner_read_sign : Stmt := inClass (top 32) 15
theorem sc_Scanner_read_sign : FnScope ["self", "byte"] ["self"] (defScope s_Scanner_read_sign) := ⟨rfl, rfl, rfl, by decide +kernel, rfl, by decide +kernel, by decide +kernel⟩

abbrev s_scan : Stmt := top 33
theorem sc_scan : FnScope ["text", "scanner", "found"] ["text"] (defScope s_scan) := ⟨rfl, rfl, rfl, by decide +kernel, rfl, by decide +kernel, by decide +kernel⟩

abbrev s_tokens : Stmt := top 36
theorem sc_tokens : FnScope ["text", "found", "last"] ["text"] (defScope s_tokens) := ⟨rfl, rfl, rfl, by decide +kernel, rfl, by decide +kernel, by decide +kernel⟩

structure Ads where
  v_KINDS : Addr
  v_WORDS : Addr
  v_SIGNS : Addr
  v_SIGNS_WITH_EQUALS : Addr
  v_ESCAPES : Addr
  c_Token : Addr
  c_Scanner : Addr
def tab_KINDS : List (Key × V) := [(Sum.inr "name", .int 0), (Sum.inr "word", .int 1), (Sum.inr "number", .int 2), (Sum.inr "string", .int 3), (Sum.inr "sign", .int 4)]
def seq_WORDS : List V := [.str "let", .str "fn", .str "if", .str "else", .str "while", .str "for", .str "in", .str "to", .str "break", .str "continue", .str "return", .str "throw", .str "try", .str "catch", .str "use", .str "as", .str "give", .str "and", .str "or", .str "not", .str "true", .str "false", .str "nothing", .str "host", .str "task", .str "yield", .str "channel", .str "send", .str "receive", .str "join", .str "wait", .str "len"]
def tab_SIGNS : List (Key × V) := [(Sum.inl 40, .str "("), (Sum.inl 41, .str ")"), (Sum.inl 123, .str "{"), (Sum.inl 125, .str "}"), (Sum.inl 91, .str "["), (Sum.inl 93, .str "]"), (Sum.inl 44, .str ","), (Sum.inl 59, .str ";"), (Sum.inl 58, .str ":"), (Sum.inl 46, .str "."), (Sum.inl 61, .str "="), (Sum.inl 60, .str "<"), (Sum.inl 62, .str ">"), (Sum.inl 43, .str "+"), (Sum.inl 45, .str "-"), (Sum.inl 42, .str "*"), (Sum.inl 47, .str "/"), (Sum.inl 37, .str "rem")]
def tab_SIGNS_WITH_EQUALS : List (Key × V) := [(Sum.inl 61, .str "=="), (Sum.inl 33, .str "!="), (Sum.inl 60, .str "<="), (Sum.inl 62, .str ">=")]
def tab_ESCAPES : List (Key × V) := [(Sum.inl 110, .int 10), (Sum.inl 116, .int 9), (Sum.inl 92, .int 92), (Sum.inl 34, .int 34)]
structure Txt (w : World) (K : PySem.W.Frag) (mg : Str → Option Value) (a : Ads) : Prop where
  g_KINDS : ∃ u, mg "KINDS" = some u ∧ RelV (.ref a.v_KINDS) u
  t_KINDS : KTab K w a.v_KINDS tab_KINDS
  g_PERCENT : ∃ u, mg "PERCENT" = some u ∧ RelV (.int 37) u
  g_LONGEST_NAME : ∃ u, mg "LONGEST_NAME" = some u ∧ RelV (.int 32) u
  g_LONGEST_STRING : ∃ u, mg "LONGEST_STRING" = some u ∧ RelV (.int 1024) u
  g_GREATEST_NUMBER : ∃ u, mg "GREATEST_NUMBER" = some u ∧ RelV (.int 9223372036854775807) u
  g_MOST_HEX_DIGITS : ∃ u, mg "MOST_HEX_DIGITS" = some u ∧ RelV (.int 16) u
  g_LINE_FEED : ∃ u, mg "LINE_FEED" = some u ∧ RelV (.int 10) u
  g_QUOTE : ∃ u, mg "QUOTE" = some u ∧ RelV (.int 34) u
  g_HASH : ∃ u, mg "HASH" = some u ∧ RelV (.int 35) u
  g_EQUALS : ∃ u, mg "EQUALS" = some u ∧ RelV (.int 61) u
  g_BACKSLASH : ∃ u, mg "BACKSLASH" = some u ∧ RelV (.int 92) u
  g_LOWER_X : ∃ u, mg "LOWER_X" = some u ∧ RelV (.int 120) u
  g_NO_BYTE : ∃ u, mg "NO_BYTE" = some u ∧ RelV (.int 256) u
  g_WORDS : ∃ u, mg "WORDS" = some u ∧ RelV (.ref a.v_WORDS) u
  t_WORDS : ∀ H, SqT K H a.v_WORDS seq_WORDS
  g_SIGNS : ∃ u, mg "SIGNS" = some u ∧ RelV (.ref a.v_SIGNS) u
  t_SIGNS : KTab K w a.v_SIGNS tab_SIGNS
  g_SIGNS_WITH_EQUALS : ∃ u, mg "SIGNS_WITH_EQUALS" = some u ∧ RelV (.ref a.v_SIGNS_WITH_EQUALS) u
  t_SIGNS_WITH_EQUALS : KTab K w a.v_SIGNS_WITH_EQUALS tab_SIGNS_WITH_EQUALS
  g_ESCAPES : ∃ u, mg "ESCAPES" = some u ∧ RelV (.ref a.v_ESCAPES) u
  t_ESCAPES : KTab K w a.v_ESCAPES tab_ESCAPES
  g_LONGEST_TEXT : ∃ u, mg "LONGEST_TEXT" = some u ∧ RelV (.int 65536) u
  c_Token : Cls K a.c_Token
  k_Token : mg "Token" = some (.ref a.c_Token)
  na_Token_kind : NoAttr K a.c_Token "kind"
  na_Token_value : NoAttr K a.c_Token "value"
  na_Token_line : NoAttr K a.c_Token "line"
  na_Token_column : NoAttr K a.c_Token "column"
  c_Scanner : Cls K a.c_Scanner
  k_Scanner : mg "Scanner" = some (.ref a.c_Scanner)
  na_Scanner_text : NoAttr K a.c_Scanner "text"
  na_Scanner_place : NoAttr K a.c_Scanner "place"
  na_Scanner_line : NoAttr K a.c_Scanner "line"
  na_Scanner_line_start : NoAttr K a.c_Scanner "line_start"
  na_Scanner_words : NoAttr K a.c_Scanner "words"
  n_len : mg "len" = none
  n_list : mg "list" = none
  n_min : mg "min" = none
  n_ord : mg "ord" = none
  n_tuple : mg "tuple" = none
  f_told_bytes : DfnAt K mg "told_bytes" s_told_bytes
  f_written_bytes : DfnAt K mg "written_bytes" s_written_bytes
  f_token_bytes : DfnAt K mg "token_bytes" s_token_bytes
  f_told_tokens : DfnAt K mg "told_tokens" s_told_tokens
  f_Token_init : IniAt K a.c_Token "Token.__init__" s_Token_init
  f_is_blank : DfnAt K mg "is_blank" s_is_blank
  f_is_digit : DfnAt K mg "is_digit" s_is_digit
  f_is_letter : DfnAt K mg "is_letter" s_is_letter
  f_is_name_byte : DfnAt K mg "is_name_byte" s_is_name_byte
  f_hex_worth : DfnAt K mg "hex_worth" s_hex_worth
  f_words_by_bytes : DfnAt K mg "words_by_bytes" s_words_by_bytes
  f_signed_worth : DfnAt K mg "signed_worth" s_signed_worth
  f_Scanner_init : IniAt K a.c_Scanner "Scanner.__init__" s_Scanner_init
  f_Scanner_byte_ahead : MthAt K a.c_Scanner "byte_ahead" "Scanner.byte_ahead" s_Scanner_byte_ahead
  f_Scanner_skip_remark : MthAt K a.c_Scanner "skip_remark" "Scanner.skip_remark" s_Scanner_skip_remark
  f_Scanner_skip_blank : MthAt K a.c_Scanner "skip_blank" "Scanner.skip_blank" s_Scanner_skip_blank
  f_Scanner_skip_to_token : MthAt K a.c_Scanner "skip_to_token" "Scanner.skip_to_token" s_Scanner_skip_to_token
  f_Scanner_read_token : MthAt K a.c_Scanner "read_token" "Scanner.read_token" s_Scanner_read_token
  f_Scanner_kind_here : MthAt K a.c_Scanner "kind_here" "Scanner.kind_here" s_Scanner_kind_here
  f_Scanner_read_value : MthAt K a.c_Scanner "read_value" "Scanner.read_value" s_Scanner_read_value
  f_Scanner_read_name : MthAt K a.c_Scanner "read_name" "Scanner.read_name" s_Scanner_read_name
  f_Scanner_read_number : MthAt K a.c_Scanner "read_number" "Scanner.read_number" s_Scanner_read_number
  f_Scanner_read_hex_number : MthAt K a.c_Scanner "read_hex_number" "Scanner.read_hex_number" s_Scanner_read_hex_number
  f_Scanner_read_decimal_number : MthAt K a.c_Scanner "read_decimal_number" "Scanner.read_decimal_number" s_Scanner_read_decimal_number
  f_Scanner_read_string : MthAt K a.c_Scanner "read_string" "Scanner.read_string" s_Scanner_read_string
  f_Scanner_read_string_byte : MthAt K a.c_Scanner "read_string_byte" "Scanner.read_string_byte" s_Scanner_read_string_byte
  f_Scanner_read_escape : MthAt K a.c_Scanner "read_escape" "Scanner.read_escape" s_Scanner_read_escape
  f_Scanner_read_sign : MthAt K a.c_Scanner "read_sign" "Scanner.read_sign" s_Scanner_read_sign
  f_scan : DfnAt K mg "scan" s_scan
  f_tokens : DfnAt K mg "tokens" s_tokens

theorem lk_Token_kind {v0 v1 v2 v3 : V} : List.lookup ("kind" : Str) ([("kind", v0), ("value", v1), ("line", v2), ("column", v3)] : List (Str × V)) = some v0 := lk_here
theorem put_Token_kind {v0 v1 v2 v3 : V} {y : V} : putF ("kind" : Str) y ([("kind", v0), ("value", v1), ("line", v2), ("column", v3)] : List (Str × V)) = ([("kind", y), ("value", v1), ("line", v2), ("column", v3)] : List (Str × V)) := put_here
theorem ini_Token_kind {y : V} : putF ("kind" : Str) y ([] : List (Str × V)) = ([("kind", y)] : List (Str × V)) := rfl
theorem lk_Token_value {v0 v1 v2 v3 : V} : List.lookup ("value" : Str) ([("kind", v0), ("value", v1), ("line", v2), ("column", v3)] : List (Str × V)) = some v1 := (lk_past (by decide +kernel)).trans (lk_here)
theorem put_Token_value {v0 v1 v2 v3 : V} {y : V} : putF ("value" : Str) y ([("kind", v0), ("value", v1), ("line", v2), ("column", v3)] : List (Str × V)) = ([("kind", v0), ("value", y), ("line", v2), ("column", v3)] : List (Str × V)) := (put_past (by decide +kernel)).trans (congrArg _ (put_here))
theorem ini_Token_value {v0 : V} {y : V} : putF ("value" : Str) y ([("kind", v0)] : List (Str × V)) = ([("kind", v0), ("value", y)] : List (Str × V)) := (put_past (by decide +kernel)).trans (congrArg _ (rfl))
theorem lk_Token_line {v0 v1 v2 v3 : V} : List.lookup ("line" : Str) ([("kind", v0), ("value", v1), ("line", v2), ("column", v3)] : List (Str × V)) = some v2 := (lk_past (by decide +kernel)).trans ((lk_past (by decide +kernel)).trans (lk_here))
theorem put_Token_line {v0 v1 v2 v3 : V} {y : V} : putF ("line" : Str) y ([("kind", v0), ("value", v1), ("line", v2), ("column", v3)] : List (Str × V)) = ([("kind", v0), ("value", v1), ("line", y), ("column", v3)] : List (Str × V)) := (put_past (by decide +kernel)).trans (congrArg _ ((put_past (by decide +kernel)).trans (congrArg _ (put_here))))
theorem ini_Token_line {v0 v1 : V} {y : V} : putF ("line" : Str) y ([("kind", v0), ("value", v1)] : List (Str × V)) = ([("kind", v0), ("value", v1), ("line", y)] : List (Str × V)) := (put_past (by decide +kernel)).trans (congrArg _ ((put_past (by decide +kernel)).trans (congrArg _ (rfl))))
theorem lk_Token_column {v0 v1 v2 v3 : V} : List.lookup ("column" : Str) ([("kind", v0), ("value", v1), ("line", v2), ("column", v3)] : List (Str × V)) = some v3 := (lk_past (by decide +kernel)).trans ((lk_past (by decide +kernel)).trans ((lk_past (by decide +kernel)).trans (lk_here)))
theorem put_Token_column {v0 v1 v2 v3 : V} {y : V} : putF ("column" : Str) y ([("kind", v0), ("value", v1), ("line", v2), ("column", v3)] : List (Str × V)) = ([("kind", v0), ("value", v1), ("line", v2), ("column", y)] : List (Str × V)) := (put_past (by decide +kernel)).trans (congrArg _ ((put_past (by decide +kernel)).trans (congrArg _ ((put_past (by decide +kernel)).trans (congrArg _ (put_here))))))
theorem ini_Token_column {v0 v1 v2 : V} {y : V} : putF ("column" : Str) y ([("kind", v0), ("value", v1), ("line", v2)] : List (Str × V)) = ([("kind", v0), ("value", v1), ("line", v2), ("column", y)] : List (Str × V)) := (put_past (by decide +kernel)).trans (congrArg _ ((put_past (by decide +kernel)).trans (congrArg _ ((put_past (by decide +kernel)).trans (congrArg _ (rfl))))))
theorem lk_Scanner_text {v0 v1 v2 v3 v4 : V} : List.lookup ("text" : Str) ([("text", v0), ("place", v1), ("line", v2), ("line_start", v3), ("words", v4)] : List (Str × V)) = some v0 := lk_here
theorem put_Scanner_text {v0 v1 v2 v3 v4 : V} {y : V} : putF ("text" : Str) y ([("text", v0), ("place", v1), ("line", v2), ("line_start", v3), ("words", v4)] : List (Str × V)) = ([("text", y), ("place", v1), ("line", v2), ("line_start", v3), ("words", v4)] : List (Str × V)) := put_here
theorem ini_Scanner_text {y : V} : putF ("text" : Str) y ([] : List (Str × V)) = ([("text", y)] : List (Str × V)) := rfl
theorem lk_Scanner_place {v0 v1 v2 v3 v4 : V} : List.lookup ("place" : Str) ([("text", v0), ("place", v1), ("line", v2), ("line_start", v3), ("words", v4)] : List (Str × V)) = some v1 := (lk_past (by decide +kernel)).trans (lk_here)
theorem put_Scanner_place {v0 v1 v2 v3 v4 : V} {y : V} : putF ("place" : Str) y ([("text", v0), ("place", v1), ("line", v2), ("line_start", v3), ("words", v4)] : List (Str × V)) = ([("text", v0), ("place", y), ("line", v2), ("line_start", v3), ("words", v4)] : List (Str × V)) := (put_past (by decide +kernel)).trans (congrArg _ (put_here))
theorem ini_Scanner_place {v0 : V} {y : V} : putF ("place" : Str) y ([("text", v0)] : List (Str × V)) = ([("text", v0), ("place", y)] : List (Str × V)) := (put_past (by decide +kernel)).trans (congrArg _ (rfl))
theorem lk_Scanner_line {v0 v1 v2 v3 v4 : V} : List.lookup ("line" : Str) ([("text", v0), ("place", v1), ("line", v2), ("line_start", v3), ("words", v4)] : List (Str × V)) = some v2 := (lk_past (by decide +kernel)).trans ((lk_past (by decide +kernel)).trans (lk_here))
theorem put_Scanner_line {v0 v1 v2 v3 v4 : V} {y : V} : putF ("line" : Str) y ([("text", v0), ("place", v1), ("line", v2), ("line_start", v3), ("words", v4)] : List (Str × V)) = ([("text", v0), ("place", v1), ("line", y), ("line_start", v3), ("words", v4)] : List (Str × V)) := (put_past (by decide +kernel)).trans (congrArg _ ((put_past (by decide +kernel)).trans (congrArg _ (put_here))))
theorem ini_Scanner_line {v0 v1 : V} {y : V} : putF ("line" : Str) y ([("text", v0), ("place", v1)] : List (Str × V)) = ([("text", v0), ("place", v1), ("line", y)] : List (Str × V)) := (put_past (by decide +kernel)).trans (congrArg _ ((put_past (by decide +kernel)).trans (congrArg _ (rfl))))
theorem lk_Scanner_line_start {v0 v1 v2 v3 v4 : V} : List.lookup ("line_start" : Str) ([("text", v0), ("place", v1), ("line", v2), ("line_start", v3), ("words", v4)] : List (Str × V)) = some v3 := (lk_past (by decide +kernel)).trans ((lk_past (by decide +kernel)).trans ((lk_past (by decide +kernel)).trans (lk_here)))
theorem put_Scanner_line_start {v0 v1 v2 v3 v4 : V} {y : V} : putF ("line_start" : Str) y ([("text", v0), ("place", v1), ("line", v2), ("line_start", v3), ("words", v4)] : List (Str × V)) = ([("text", v0), ("place", v1), ("line", v2), ("line_start", y), ("words", v4)] : List (Str × V)) := (put_past (by decide +kernel)).trans (congrArg _ ((put_past (by decide +kernel)).trans (congrArg _ ((put_past (by decide +kernel)).trans (congrArg _ (put_here))))))
theorem ini_Scanner_line_start {v0 v1 v2 : V} {y : V} : putF ("line_start" : Str) y ([("text", v0), ("place", v1), ("line", v2)] : List (Str × V)) = ([("text", v0), ("place", v1), ("line", v2), ("line_start", y)] : List (Str × V)) := (put_past (by decide +kernel)).trans (congrArg _ ((put_past (by decide +kernel)).trans (congrArg _ ((put_past (by decide +kernel)).trans (congrArg _ (rfl))))))
theorem lk_Scanner_words {v0 v1 v2 v3 v4 : V} : List.lookup ("words" : Str) ([("text", v0), ("place", v1), ("line", v2), ("line_start", v3), ("words", v4)] : List (Str × V)) = some v4 := (lk_past (by decide +kernel)).trans ((lk_past (by decide +kernel)).trans ((lk_past (by decide +kernel)).trans ((lk_past (by decide +kernel)).trans (lk_here))))
theorem put_Scanner_words {v0 v1 v2 v3 v4 : V} {y : V} : putF ("words" : Str) y ([("text", v0), ("place", v1), ("line", v2), ("line_start", v3), ("words", v4)] : List (Str × V)) = ([("text", v0), ("place", v1), ("line", v2), ("line_start", v3), ("words", y)] : List (Str × V)) := (put_past (by decide +kernel)).trans (congrArg _ ((put_past (by decide +kernel)).trans (congrArg _ ((put_past (by decide +kernel)).trans (congrArg _ ((put_past (by decide +kernel)).trans (congrArg _ (put_here))))))))
theorem ini_Scanner_words {v0 v1 v2 v3 : V} {y : V} : putF ("words" : Str) y ([("text", v0), ("place", v1), ("line", v2), ("line_start", v3)] : List (Str × V)) = ([("text", v0), ("place", v1), ("line", v2), ("line_start", v3), ("words", y)] : List (Str × V)) := (put_past (by decide +kernel)).trans (congrArg _ ((put_past (by decide +kernel)).trans (congrArg _ ((put_past (by decide +kernel)).trans (congrArg _ ((put_past (by decide +kernel)).trans (congrArg _ (rfl))))))))
theorem no_Scanner_byte_ahead {v0 v1 v2 v3 v4 : V} : List.lookup ("byte_ahead" : Str) ([("text", v0), ("place", v1), ("line", v2), ("line_start", v3), ("words", v4)] : List (Str × V)) = none := (lk_past (by decide +kernel)).trans ((lk_past (by decide +kernel)).trans ((lk_past (by decide +kernel)).trans ((lk_past (by decide +kernel)).trans ((lk_past (by decide +kernel)).trans (rfl)))))
theorem no_Scanner_skip_remark {v0 v1 v2 v3 v4 : V} : List.lookup ("skip_remark" : Str) ([("text", v0), ("place", v1), ("line", v2), ("line_start", v3), ("words", v4)] : List (Str × V)) = none := (lk_past (by decide +kernel)).trans ((lk_past (by decide +kernel)).trans ((lk_past (by decide +kernel)).trans ((lk_past (by decide +kernel)).trans ((lk_past (by decide +kernel)).trans (rfl)))))
theorem no_Scanner_skip_blank {v0 v1 v2 v3 v4 : V} : List.lookup ("skip_blank" : Str) ([("text", v0), ("place", v1), ("line", v2), ("line_start", v3), ("words", v4)] : List (Str × V)) = none := (lk_past (by decide +kernel)).trans ((lk_past (by decide +kernel)).trans ((lk_past (by decide +kernel)).trans ((lk_past (by decide +kernel)).trans ((lk_past (by decide +kernel)).trans (rfl)))))
theorem no_Scanner_skip_to_token {v0 v1 v2 v3 v4 : V} : List.lookup ("skip_to_token" : Str) ([("text", v0), ("place", v1), ("line", v2), ("line_start", v3), ("words", v4)] : List (Str × V)) = none := (lk_past (by decide +kernel)).trans ((lk_past (by decide +kernel)).trans ((lk_past (by decide +kernel)).trans ((lk_past (by decide +kernel)).trans ((lk_past (by decide +kernel)).trans (rfl)))))
theorem no_Scanner_read_token {v0 v1 v2 v3 v4 : V} : List.lookup ("read_token" : Str) ([("text", v0), ("place", v1), ("line", v2), ("line_start", v3), ("words", v4)] : List (Str × V)) = none := (lk_past (by decide +kernel)).trans ((lk_past (by decide +kernel)).trans ((lk_past (by decide +kernel)).trans ((lk_past (by decide +kernel)).trans ((lk_past (by decide +kernel)).trans (rfl)))))
theorem no_Scanner_kind_here {v0 v1 v2 v3 v4 : V} : List.lookup ("kind_here" : Str) ([("text", v0), ("place", v1), ("line", v2), ("line_start", v3), ("words", v4)] : List (Str × V)) = none := (lk_past (by decide +kernel)).trans ((lk_past (by decide +kernel)).trans ((lk_past (by decide +kernel)).trans ((lk_past (by decide +kernel)).trans ((lk_past (by decide +kernel)).trans (rfl)))))
theorem no_Scanner_read_value {v0 v1 v2 v3 v4 : V} : List.lookup ("read_value" : Str) ([("text", v0), ("place", v1), ("line", v2), ("line_start", v3), ("words", v4)] : List (Str × V)) = none := (lk_past (by decide +kernel)).trans ((lk_past (by decide +kernel)).trans ((lk_past (by decide +kernel)).trans ((lk_past (by decide +kernel)).trans ((lk_past (by decide +kernel)).trans (rfl)))))
theorem no_Scanner_read_name {v0 v1 v2 v3 v4 : V} : List.lookup ("read_name" : Str) ([("text", v0), ("place", v1), ("line", v2), ("line_start", v3), ("words", v4)] : List (Str × V)) = none := (lk_past (by decide +kernel)).trans ((lk_past (by decide +kernel)).trans ((lk_past (by decide +kernel)).trans ((lk_past (by decide +kernel)).trans ((lk_past (by decide +kernel)).trans (rfl)))))
theorem no_Scanner_read_number {v0 v1 v2 v3 v4 : V} : List.lookup ("read_number" : Str) ([("text", v0), ("place", v1), ("line", v2), ("line_start", v3), ("words", v4)] : List (Str × V)) = none := (lk_past (by decide +kernel)).trans ((lk_past (by decide +kernel)).trans ((lk_past (by decide +kernel)).trans ((lk_past (by decide +kernel)).trans ((lk_past (by decide +kernel)).trans (rfl)))))
theorem no_Scanner_read_hex_number {v0 v1 v2 v3 v4 : V} : List.lookup ("read_hex_number" : Str) ([("text", v0), ("place", v1), ("line", v2), ("line_start", v3), ("words", v4)] : List (Str × V)) = none := (lk_past (by decide +kernel)).trans ((lk_past (by decide +kernel)).trans ((lk_past (by decide +kernel)).trans ((lk_past (by decide +kernel)).trans ((lk_past (by decide +kernel)).trans (rfl)))))
theorem no_Scanner_read_decimal_number {v0 v1 v2 v3 v4 : V} : List.lookup ("read_decimal_number" : Str) ([("text", v0), ("place", v1), ("line", v2), ("line_start", v3), ("words", v4)] : List (Str × V)) = none := (lk_past (by decide +kernel)).trans ((lk_past (by decide +kernel)).trans ((lk_past (by decide +kernel)).trans ((lk_past (by decide +kernel)).trans ((lk_past (by decide +kernel)).trans (rfl)))))
theorem no_Scanner_read_string {v0 v1 v2 v3 v4 : V} : List.lookup ("read_string" : Str) ([("text", v0), ("place", v1), ("line", v2), ("line_start", v3), ("words", v4)] : List (Str × V)) = none := (lk_past (by decide +kernel)).trans ((lk_past (by decide +kernel)).trans ((lk_past (by decide +kernel)).trans ((lk_past (by decide +kernel)).trans ((lk_past (by decide +kernel)).trans (rfl)))))
theorem no_Scanner_read_string_byte {v0 v1 v2 v3 v4 : V} : List.lookup ("read_string_byte" : Str) ([("text", v0), ("place", v1), ("line", v2), ("line_start", v3), ("words", v4)] : List (Str × V)) = none := (lk_past (by decide +kernel)).trans ((lk_past (by decide +kernel)).trans ((lk_past (by decide +kernel)).trans ((lk_past (by decide +kernel)).trans ((lk_past (by decide +kernel)).trans (rfl)))))
theorem no_Scanner_read_escape {v0 v1 v2 v3 v4 : V} : List.lookup ("read_escape" : Str) ([("text", v0), ("place", v1), ("line", v2), ("line_start", v3), ("words", v4)] : List (Str × V)) = none := (lk_past (by decide +kernel)).trans ((lk_past (by decide +kernel)).trans ((lk_past (by decide +kernel)).trans ((lk_past (by decide +kernel)).trans ((lk_past (by decide +kernel)).trans (rfl)))))
theorem no_Scanner_read_sign {v0 v1 v2 v3 v4 : V} : List.lookup ("read_sign" : Str) ([("text", v0), ("place", v1), ("line", v2), ("line_start", v3), ("words", v4)] : List (Str × V)) = none := (lk_past (by decide +kernel)).trans ((lk_past (by decide +kernel)).trans ((lk_past (by decide +kernel)).trans ((lk_past (by decide +kernel)).trans ((lk_past (by decide +kernel)).trans (rfl)))))
section
variable {P : Program} {w : World} {K : PySem.W.Frag} {mg : Str → Option Value} {base : Heap} {a : Ads}
/-- a test of one byte -/
def spTest (f : Nat → Bool) : Sp := fun vs H Q _ => ∃ c : Nat, vs = [.int c] ∧ ∀ H', Same H H' → Q (.bl (f c)) H'
theorem len_test {f : Nat → Bool} (vs : List V) (H : Hp) (Q : VK) (E : XK) (h : spTest f vs H Q E) : vs.length = (["byte"] : List Str).length := by
  obtain ⟨c, rfl, _⟩ := h
  rfl
theorem scal_int {i j : Int} : scal (.int i) (.int j) = true := rfl
theorem scal_str {i j : Str} : scal (.str i) (.str j) = true := rfl
theorem ite_bl {c : Prop} [Decidable c] {Q : VK} {H : Hp} {x y : Bool} : (if c then Q (.bl x) H else Q (.bl y) H) = Q (.bl (if c then x else y)) H := by
  by_cases e : c
  · rw [if_pos e, if_pos e]
  · rw [if_neg e, if_neg e]
theorem bl_of {Q : VK} {H : Hp} {b b' : Bool} (k : Q (.bl b) H) (e : b = b') : Q (.bl b') H := e ▸ k
theorem d_is_digit (T : Txt w K mg a) : Dfn P w K mg base CX0 1 "is_digit" ["byte"] (spTest Rd24.digit) := by
  refine dfn_of T.f_is_digit sc_is_digit (fun _ _ _ _ _ _ us hl => match us, hl with | [_], _ => rfl) len_test fun f cdv A outer s H vs Q E hr h => ?_
  obtain ⟨c, rfl, k⟩ := h
  refine ⟨_, (pss_one (ps_ret (pe_and (pe_cmpR op_le pe_int (pv 0) (nomark _)) (pe_one (pe_cmpR op_le (pv 0) pe_int (nomark _)))))), ?_⟩
  simp only [cx_K, cx_w, cx_P, tSeq, tAsg, gName, tRet, tRetN, tNext, tDrop, tIfS, tIf, tAnd, tOr, tNot, tAndV, tOrV, tNotV, tTest, tB, tOp, tUn, tC, tVar, rI0, rI, rU, rEq, rNe, tCons, tNil, tCB, tCall, tMeth, tMake, tSl, tPart, tNoPart, tFld, sFld, sFldAug, L2.rAdd, L2.rSub, L2.start, decide_eq_true_eq, List.map_cons, List.map_nil, List.length_cons, List.length_nil, Nat.sub_self, Nat.reduceAdd, Nat.reduceSub, List.replicate_zero, List.replicate_succ, List.replicate, List.append_nil, List.cons_append, List.nil_append, List.getElem?_cons_zero, List.getElem?_cons_succ, List.set_cons_zero, List.set_cons_succ, Option.some.injEq, V.int.injEq, V.bl.injEq, V.str.injEq, V.ref.injEq, scal_int, scal_str, Bool.false_eq_true, if_false, if_true, List.cons.injEq, and_true, true_and, exists_and_left, exists_eq_left', exists_eq_left, exists_eq_right, exists_eq_right', exists_eq, exists_eq', exists_const, and_assoc, ite_bl]
  refine bl_of (k H (Same.refl H)) ?_
  unfold Rd24.digit
  rw [Bool.eq_iff_iff]
  simp
  omega
theorem d_is_letter (T : Txt w K mg a) : Dfn P w K mg base CX0 1 "is_letter" ["byte"] (spTest Rd24.letter) := by
  refine dfn_of T.f_is_letter sc_is_letter (fun _ _ _ _ _ _ us hl => match us, hl with | [_], _ => rfl) len_test fun f cdv A outer s H vs Q E hr h => ?_
  obtain ⟨c, rfl, k⟩ := h
  refine ⟨_, (pss_one (ps_ret (pe_or (pe_and (pe_cmpR op_le pe_int (pv 0) (nomark _)) (pe_one (pe_cmpR op_le (pv 0) pe_int (nomark _)))) (pe_or (pe_and (pe_cmpR op_le pe_int (pv 0) (nomark _)) (pe_one (pe_cmpR op_le (pv 0) pe_int (nomark _)))) (pe_one (pe_cmpR op_eq (pv 0) pe_int (nomark _))))))), ?_⟩
  simp only [cx_K, cx_w, cx_P, tSeq, tAsg, gName, tRet, tRetN, tNext, tDrop, tIfS, tIf, tAnd, tOr, tNot, tAndV, tOrV, tNotV, tTest, tB, tOp, tUn, tC, tVar, rI0, rI, rU, rEq, rNe, tCons, tNil, tCB, tCall, tMeth, tMake, tSl, tPart, tNoPart, tFld, sFld, sFldAug, L2.rAdd, L2.rSub, L2.start, decide_eq_true_eq, List.map_cons, List.map_nil, List.length_cons, List.length_nil, Nat.sub_self, Nat.reduceAdd, Nat.reduceSub, List.replicate_zero, List.replicate_succ, List.replicate, List.append_nil, List.cons_append, List.nil_append, List.getElem?_cons_zero, List.getElem?_cons_succ, List.set_cons_zero, List.set_cons_succ, Option.some.injEq, V.int.injEq, V.bl.injEq, V.str.injEq, V.ref.injEq, scal_int, scal_str, Bool.false_eq_true, if_false, if_true, List.cons.injEq, and_true, true_and, exists_and_left, exists_eq_left', exists_eq_left, exists_eq_right, exists_eq_right', exists_eq, exists_eq', exists_const, and_assoc, ite_bl]
  repeat' split
  all_goals
    refine bl_of (k H (Same.refl H)) ?_
    unfold Rd24.letter
    rw [Bool.eq_iff_iff]
    simp
    omega
/-- a blank's byte -/
def blank (c : Nat) : Bool := c == 32 || (c == 9 || (c == 13 || c == 10))
theorem d_is_blank (T : Txt w K mg a) : Dfn P w K mg base CX0 1 "is_blank" ["byte"] (spTest blank) := by
  refine dfn_of T.f_is_blank sc_is_blank (fun _ _ _ _ _ _ us hl => match us, hl with | [_], _ => rfl) len_test fun f cdv A outer s H vs Q E hr h => ?_
  obtain ⟨c, rfl, k⟩ := h
  refine ⟨_, (pss_one (ps_ret (pe_cmpR op_in_seq (pv 0) (pe_tup (pa_cons pe_int (pa_cons pe_int (pa_cons pe_int (pa_cons pe_int pa_nil))))) rfl))), ?_⟩
  simp only [cx_K, cx_w, cx_P, tSeq, tAsg, gName, tRet, tRetN, tNext, tDrop, tIfS, tIf, tAnd, tOr, tNot, tAndV, tOrV, tNotV, tTest, tB, tOp, tUn, tC, tVar, rI0, rI, rU, rEq, rNe, tCons, tNil, tCB, tCall, tMeth, tMake, tSl, tPart, tNoPart, tFld, sFld, sFldAug, L2.rAdd, L2.rSub, L2.start, decide_eq_true_eq, List.map_cons, List.map_nil, List.length_cons, List.length_nil, Nat.sub_self, Nat.reduceAdd, Nat.reduceSub, List.replicate_zero, List.replicate_succ, List.replicate, List.append_nil, List.cons_append, List.nil_append, List.getElem?_cons_zero, List.getElem?_cons_succ, List.set_cons_zero, List.set_cons_succ, Option.some.injEq, V.int.injEq, V.bl.injEq, V.str.injEq, V.ref.injEq, scal_int, scal_str, Bool.false_eq_true, if_false, if_true, List.cons.injEq, and_true, true_and, exists_and_left, exists_eq_left', exists_eq_left, exists_eq_right, exists_eq_right', exists_eq, exists_eq', exists_const, and_assoc, tTup]
  refine ⟨by decide, fun p hp => ⟨p, _, rfl, .inr (SqT.of upd_same), rfl, rfl, bl_of (k _ (Same.new hp)) ?_⟩⟩
  show blank c = inV (V.int c) _
  unfold blank inV
  simp only [List.any_cons, List.any_nil, eqV]
  rw [Bool.eq_iff_iff]
  simp
  omega
theorem d_is_name_byte (T : Txt w K mg a) : Dfn P w K mg base CX0 2 "is_name_byte" ["byte"] (spTest Rd24.inName) := by
  refine dfn_of T.f_is_name_byte sc_is_name_byte (fun _ _ _ _ _ _ us hl => match us, hl with | [_], _ => rfl) len_test fun f cdv A outer s H vs Q E hr h => ?_
  obtain ⟨c, rfl, k⟩ := h
  refine ⟨_, (pss_one (ps_ret (pe_or (pe_dfn (d_is_letter T) (hr.mono (by decide)) pass0 (pa_cons (pv 0) pa_nil)) (pe_one (pe_dfn (d_is_digit T) (hr.mono (by decide)) pass0 (pa_cons (pv 0) pa_nil)))))), ?_⟩
  simp only [cx_K, cx_w, cx_P, tSeq, tAsg, gName, tRet, tRetN, tNext, tDrop, tIfS, tIf, tAnd, tOr, tNot, tAndV, tOrV, tNotV, tTest, tB, tOp, tUn, tC, tVar, rI0, rI, rU, rEq, rNe, tCons, tNil, tCB, tCall, tMeth, tMake, tSl, tPart, tNoPart, tFld, sFld, sFldAug, L2.rAdd, L2.rSub, L2.start, decide_eq_true_eq, List.map_cons, List.map_nil, List.length_cons, List.length_nil, Nat.sub_self, Nat.reduceAdd, Nat.reduceSub, List.replicate_zero, List.replicate_succ, List.replicate, List.append_nil, List.cons_append, List.nil_append, List.getElem?_cons_zero, List.getElem?_cons_succ, List.set_cons_zero, List.set_cons_succ, Option.some.injEq, V.int.injEq, V.bl.injEq, V.str.injEq, V.ref.injEq, scal_int, scal_str, Bool.false_eq_true, if_false, if_true, List.cons.injEq, and_true, true_and, exists_and_left, exists_eq_left', exists_eq_left, exists_eq_right, exists_eq_right', exists_eq, exists_eq', exists_const, and_assoc]
  refine ⟨c, rfl, fun H1 s1 => ⟨_, rfl, ?_⟩⟩
  split
  · rename_i h1
    refine bl_of (k _ s1) ?_
    unfold Rd24.inName
    rw [h1]
    rfl
  · rename_i h1
    refine ⟨c, rfl, fun H2 s2 => bl_of (k _ (s1.trans s2)) ?_⟩
    unfold Rd24.inName
    rw [Bool.not_eq_true _ |>.mp h1]
    rfl
/-- what an option of a number is to the program -/
def optN : Option Nat → V
  | some n => .int n
  | none => .non
def spHex : Sp := fun vs H Q _ => ∃ c : Nat, vs = [.int c] ∧ ∀ H', Same H H' → Q (optN (Rd24.hexOf c)) H'
theorem d_hex_worth (T : Txt w K mg a) : Dfn P w K mg base CX0 2 "hex_worth" ["byte"] spHex := by
  refine dfn_of T.f_hex_worth sc_hex_worth (fun _ _ _ _ _ _ us hl => match us, hl with | [_], _ => rfl) (fun vs H Q E h => by obtain ⟨c, rfl, _⟩ := h; rfl) fun f cdv A outer s H vs Q E hr h => ?_
  obtain ⟨c, rfl, k⟩ := h
  refine ⟨_, (pss_cons (ps_if (pt_val (pe_dfn (d_is_digit T) (hr.mono (by decide)) pass0 (pa_cons (pv 0) pa_nil))) (pss_one (ps_ret (pe_op op_sub (pv 0) pe_int))) pss_nil)
      (pss_cons (ps_if (PW.pt (pw_and (pt_cmpR op_le pe_int (pv 0) (nomark _)) (pw_and1 (pt_cmpR op_le (pv 0) pe_int (nomark _))))) (pss_one (ps_ret (pe_op op_sub (pv 0) pe_int))) pss_nil)
      (pss_cons (ps_if (PW.pt (pw_and (pt_cmpR op_le pe_int (pv 0) (nomark _)) (pw_and1 (pt_cmpR op_le (pv 0) pe_int (nomark _))))) (pss_one (ps_ret (pe_op op_sub (pv 0) pe_int))) pss_nil)
      (pss_one (ps_ret pe_non))))), ?_⟩
  simp only [cx_K, cx_w, cx_P, tSeq, tAsg, gName, tRet, tRetN, tNext, tDrop, tIfS, tIf, tAnd, tOr, tNot, tAndV, tOrV, tNotV, tTest, tB, tOp, tUn, tC, tVar, rI0, rI, rU, rEq, rNe, tCons, tNil, tCB, tCall, tMeth, tMake, tSl, tPart, tNoPart, tFld, sFld, sFldAug, L2.rAdd, L2.rSub, L2.start, decide_eq_true_eq, List.map_cons, List.map_nil, List.length_cons, List.length_nil, Nat.sub_self, Nat.reduceAdd, Nat.reduceSub, List.replicate_zero, List.replicate_succ, List.replicate, List.append_nil, List.cons_append, List.nil_append, List.getElem?_cons_zero, List.getElem?_cons_succ, List.set_cons_zero, List.set_cons_succ, Option.some.injEq, V.int.injEq, V.bl.injEq, V.str.injEq, V.ref.injEq, scal_int, scal_str, Bool.false_eq_true, if_false, if_true, List.cons.injEq, and_true, true_and, exists_and_left, exists_eq_left', exists_eq_left, exists_eq_right, exists_eq_right', exists_eq, exists_eq', exists_const, and_assoc]
  refine ⟨c, rfl, fun H1 s1 => ⟨_, rfl, ?_⟩⟩
  have q := k H1 s1
  unfold Rd24.hexOf at q
  split
  · rename_i h1
    rw [if_pos h1] at q
    have : 48 ≤ c := by unfold Rd24.digit at h1; simp at h1; exact h1.1
    rw [show ((c : Int) - 48) = ((c - 48 : Nat) : Int) by omega]
    exact q
  · rename_i h1
    rw [if_neg h1] at q
    by_cases c1 : 97 ≤ c ∧ c ≤ 102
    · rw [if_pos c1] at q
      rw [if_pos (by omega), if_pos (by omega), show ((c : Int) - 87) = ((c - 87 : Nat) : Int) by omega]
      exact q
    · rw [if_neg c1] at q
      by_cases c2 : 65 ≤ c ∧ c ≤ 70
      · rw [if_pos c2] at q
        have z : ¬ (97 : Int) ≤ c := by omega
        rw [if_neg z, if_pos (by omega), if_pos (by omega), show ((c : Int) - 55) = ((c - 55 : Nat) : Int) by omega]
        exact q
      · rw [if_neg c2] at q
        by_cases z : (97 : Int) ≤ c
        · rw [if_pos z, if_neg (by omega)]
          split
          · rw [if_neg (by omega)]
            exact q
          · exact q
        · rw [if_neg z]
          split
          · rw [if_neg (by omega)]
            exact q
          · exact q
def spSigned : Sp := fun vs H Q _ => ∃ n : Nat, vs = [.int n] ∧ n < 2 ^ 64 ∧ Q (.int (Rd24.signed n)) H
theorem d_signed_worth (T : Txt w K mg a) : Dfn P w K mg base CX0 1 "signed_worth" ["worth"] spSigned := by
  refine dfn_of T.f_signed_worth sc_signed_worth (fun _ _ _ _ _ _ us hl => match us, hl with | [_], _ => rfl) (fun vs H Q E h => by obtain ⟨c, rfl, _⟩ := h; rfl) fun f cdv A outer s H vs Q E hr h => ?_
  obtain ⟨n, rfl, hn, k⟩ := h
  refine ⟨_, (pss_one (ps_ret (pe_ifExp (pt_cmpR op_gt (pv 0) (pe_gv T.g_GREATEST_NUMBER) (nomark _)) (pe_op op_sub (pv 0) (pe_op op_pow pe_int pe_int)) (pv 0)))), ?_⟩
  simp only [cx_K, cx_w, cx_P, tSeq, tAsg, gName, tRet, tRetN, tNext, tDrop, tIfS, tIf, tAnd, tOr, tNot, tAndV, tOrV, tNotV, tTest, tB, tOp, tUn, tC, tVar, rI0, rI, rU, rEq, rNe, tCons, tNil, tCB, tCall, tMeth, tMake, tSl, tPart, tNoPart, tFld, sFld, sFldAug, L2.rAdd, L2.rSub, L2.start, decide_eq_true_eq, List.map_cons, List.map_nil, List.length_cons, List.length_nil, Nat.sub_self, Nat.reduceAdd, Nat.reduceSub, List.replicate_zero, List.replicate_succ, List.replicate, List.append_nil, List.cons_append, List.nil_append, List.getElem?_cons_zero, List.getElem?_cons_succ, List.set_cons_zero, List.set_cons_succ, Option.some.injEq, V.int.injEq, V.bl.injEq, V.str.injEq, V.ref.injEq, scal_int, scal_str, Bool.false_eq_true, if_false, if_true, List.cons.injEq, and_true, true_and, exists_and_left, exists_eq_left', exists_eq_left, exists_eq_right, exists_eq_right', exists_eq, exists_eq', exists_const, and_assoc]
  have e : n % 2 ^ 64 = n := Nat.mod_eq_of_lt hn
  unfold Rd24.signed at k
  rw [e] at k
  split
  · rename_i h1
    rw [if_neg (by omega)] at k
    exact ⟨⟨by decide, by decide, by decide⟩, k⟩
  · rename_i h1
    rw [if_pos (by omega)] at k
    exact k
end
end Prog
namespace Prog
open PySem PySem.Spec PyProof.Rows L2 Own
section
variable {P : Program} {w : World} {K : PySem.W.Frag} {mg : Str → Option Value} {base : Heap} {a : Ads}
/-- a text's signs as ints -/
def ords (x : Str) : List V := x.cps.toList.map fun c => V.int (c : Nat)
abbrev rOrd : List V → Hp → VK → Prop := fun xs H Q => ∃ x, xs = [V.str x] ∧ x.length = 1 ∧ Q (.int (x.cps.getD 0 0 : Nat)) H
/-- [ord(letter) for letter in x] -/
theorem lc_ord {σ : L2.St} {H : Hp} {Q : VK} {x : Str} {j : Nat} (hj : j < σ.length) (hx : x.cps.size ≤ sizeLine) (k : ∀ D, H D = none → Q (.ref D) (upd H D (.lst (ords x)))) :
    ∀ D, H D = none → ∃ W : Nat → Nat → Hp → Prop, (∃ m, W 0 m (upd H D (.lst []))) ∧ ∀ i m H', W i m H' →
      ((Its x).stop i H' ∧ Q (.ref D) H') ∨ ((Its x).go i H' ∧ ∃ Nx : Hp → Prop, (∀ H'', Nx H'' → ∃ m', m' < m ∧ W (i + 1) m' H'') ∧ ∀ y H'', (Its x).yld i H' y H'' → gName j y (wipe σ [j]) H'' fun σ2 H2 => wipe σ2 [j] = wipe σ [j] ∧ tYes σ2 H2 fun b H3 =>
        if b = true then tCB rOrd (tCons (tVar j) tNil) σ2 H3 fun y H4 => ∃ acc, H4 D = some (.lst acc) ∧ acc.length < sizeLine ∧ Nx (upd H4 D (.lst (acc ++ [y]))) else Nx H3) := by
  intro D hD
  refine lc_it walk_str (fun i H' => H' = upd H D (.lst ((ords x).take i))) rfl (fun _ _ _ _ => trivial) ?_ ?_
  · rintro i y H1 H2 hi rfl ⟨rfl, c, hc, rfl⟩
    have e : (σ.set j none).set j (some (V.str ⟨#[c]⟩)) = σ.set j (some (V.str ⟨#[c]⟩)) := by rw [List.set_set]
    refine ⟨by show ((wipe σ [j]).set j _).set j none = σ.set j none; show ((σ.set j none).set j _).set j none = _; rw [List.set_set, List.set_set], ?_⟩
    unfold tYes
    dsimp only
    rw [if_pos rfl]
    refine ⟨V.str ⟨#[c]⟩, ?_, ⟨#[c]⟩, rfl, rfl, _, upd_same, ?_, ?_⟩
    · show ((σ.set j none).set j _)[j]? = _
      rw [List.set_set, List.getElem?_set_self hj]
    · rw [List.length_take]
      have : i < x.cps.size := hi
      omega
    · rw [upd_upd]
      have hl : (ords x)[i]? = some (V.int (c : Nat)) := by
        unfold ords
        rw [List.getElem?_map, Array.getElem?_toList, hc]
        rfl
      have : (ords x).take (i + 1) = (ords x).take i ++ [V.int (c : Nat)] := by
        rw [List.take_add_one, hl]
        rfl
      rw [this]
      rfl
  · rintro H' rfl
    have : (ords x).take x.cps.size = ords x := List.take_of_length_le (by unfold ords; simp)
    rw [this]
    exact k D hD

/-- [ord(letter) for letter in x], x in slot i, letter in slot j -/
def tOrds (i j : Nat) : TE := fun σ H Q => j < σ.length ∧ ∃ x, σ[i]? = some (some (.str x)) ∧ x.cps.size ≤ sizeLine ∧ ∀ D, H D = none → Q (.ref D) (upd H D (.lst (ords x)))
theorem pe_ords {X : Cx} {e : Expr} {i j : Nat} (h : PE X e (tLc (iStr (tVar i)) (gName j) tYes (tCB rOrd (tCons (tVar j) tNil)) [j])) : PE X e (tOrds i j) := ⟨by
  rintro pins s σ H Q I ⟨hj, x, hx, hl, k⟩
  exact h.run pins s σ H Q I ⟨_, hx, x, rfl, lc_ord hj hl k⟩⟩
/-! ### told_bytes, written_bytes -/
def spTold (K : PySem.W.Frag) : Sp := fun vs H Q _ => ∃ p xs, vs = [.ref p] ∧ (SqL K H p xs ∨ SqT K H p xs) ∧ xs.length ≤ 2000000 ∧ ∀ H' q, Same H H' → H q = none → H' q = some (.lst (.int xs.length :: xs)) → Q (.ref q) H'
theorem d_told_bytes (T : Txt w K mg a) : Dfn P w K mg base CX0 1 "told_bytes" ["values"] (spTold K) := by
  refine dfn_of T.f_told_bytes sc_told_bytes (fun _ _ _ _ _ _ us hl => match us, hl with | [_], _ => rfl) (fun vs H Q E h => by obtain ⟨p, xs, rfl, _⟩ := h; rfl) fun f cdv A outer s H vs Q E hr h => ?_
  obtain ⟨p, xs, rfl, hs, hl, k⟩ := h
  refine ⟨_, (pss_one (ps_ret (pe_op op_cat (pe_lst (pa_cons (pe_callB call_len_seq (by rfl) T.n_len PySem.boot_len (pa_cons (pv 0) pa_nil)) pa_nil)) (pe_callTy call_list_of (by rfl) T.n_list (by decide +kernel) (pa_cons (pv 0) pa_nil))))), ?_⟩
  simp only [cx_K, cx_w, cx_P, tSeq, tAsg, gName, tRet, tRetN, tNext, tDrop, tIfS, tIf, tAnd, tOr, tNot, tAndV, tOrV, tNotV, tTest, tB, tOp, tUn, tC, tVar, rI0, rI, rU, rEq, rNe, tCons, tNil, tCB, tCall, tMeth, tMake, tSl, tPart, tNoPart, tFld, sFld, sFldAug, L2.rAdd, L2.rSub, L2.start, decide_eq_true_eq, List.map_cons, List.map_nil, List.length_cons, List.length_nil, Nat.sub_self, Nat.reduceAdd, Nat.reduceSub, List.replicate_zero, List.replicate_succ, List.replicate, List.append_nil, List.cons_append, List.nil_append, List.getElem?_cons_zero, List.getElem?_cons_succ, List.set_cons_zero, List.set_cons_succ, Option.some.injEq, V.int.injEq, V.bl.injEq, V.str.injEq, V.ref.injEq, scal_int, scal_str, Bool.false_eq_true, if_false, if_true, List.cons.injEq, and_true, true_and, exists_and_left, exists_eq_left', exists_eq_left, exists_eq_right, exists_eq_right', exists_eq, exists_eq', exists_const, and_assoc, tLst]
  refine ⟨xs, hs, by decide, fun l1 n1 => ⟨xs, ?_, fun l2 n2 => ⟨l1, l2, [V.int xs.length], xs, rfl, rfl, ?_, upd_same, ?_, fun l3 n3 => ?_⟩⟩⟩
  · have s1 := Same.new (o := .lst [V.int (xs.length : Int)]) n1
    exact hs.imp s1.seq s1.tup
  · rw [upd_ne (fun z => by rw [← z, upd_same] at n2; cases n2), upd_same]
  · have : (2000000 : Nat) + 1 ≤ sizeLine := by decide
    simp
    omega
  · have s1 := (Same.new (o := .lst [V.int (xs.length : Int)]) n1).trans ((Same.new (o := .lst xs) n2).trans (Same.new (o := .lst ([V.int (xs.length : Int)] ++ xs)) n3))
    exact k _ l3 s1 (Same.free ((Same.new (o := .lst [V.int (xs.length : Int)]) n1).trans (Same.new (o := .lst xs) n2)) n3) upd_same
/-- a word's or a sign's bytes by its text -/
def textBytes (x : Str) : List V := if x = "rem" then [.int 37] else ords x
def spWritten : Sp := fun vs H Q _ => ∃ x : Str, vs = [.str x] ∧ x.cps.size ≤ 1000 ∧ ∀ H' q, Same H H' → H q = none → H' q = some (.lst (textBytes x)) → Q (.ref q) H'
theorem d_written_bytes (T : Txt w K mg a) : Dfn P w K mg base CX0 1 "written_bytes" ["text"] spWritten := by
  refine dfn_of T.f_written_bytes sc_written_bytes (fun _ _ _ _ _ _ us hl => match us, hl with | [_], _ => rfl) (fun vs H Q E h => by obtain ⟨x, rfl, _⟩ := h; rfl) fun f cdv A outer s H vs Q E hr h => ?_
  obtain ⟨x, rfl, hx, k⟩ := h
  refine ⟨_, (pss_one (ps_ret (pe_ifExp (pt_cmpR op_eq (pv 0) pe_str (nomark _)) (pe_lst (pa_cons (pe_gv T.g_PERCENT) pa_nil)) (pe_ords (pe_lc (own := [("letter", 1)]) (g := gName 1) (tt := tYes) rfl sc_written_bytes.nd (pi_str (pv 0)) (blkOk_by (own := [("letter", 1)]) (N := ["text", "letter"]) (sc := defScope s_written_bytes) (by decide +kernel)) (fun _ _ _ _ _ => pg_name (i := 1) sc_written_bytes.nd rfl (Or.inl rfl)) (fun _ _ _ _ _ => pts_nil) (fun _ _ _ _ _ => (pe_callB call_ord (by rfl) T.n_ord (by decide +kernel) (pa_cons (pv 1) pa_nil)))))))), ?_⟩
  unfold textBytes at k
  simp only [cx_K, cx_w, cx_P, tSeq, tAsg, gName, tRet, tRetN, tNext, tDrop, tIfS, tIf, tAnd, tOr, tNot, tAndV, tOrV, tNotV, tTest, tB, tOp, tUn, tC, tVar, rI0, rI, rU, rEq, rNe, tCons, tNil, tCB, tCall, tMeth, tMake, tSl, tPart, tNoPart, tFld, sFld, sFldAug, L2.rAdd, L2.rSub, L2.start, decide_eq_true_eq, List.map_cons, List.map_nil, List.length_cons, List.length_nil, Nat.sub_self, Nat.reduceAdd, Nat.reduceSub, List.replicate_zero, List.replicate_succ, List.replicate, List.append_nil, List.cons_append, List.nil_append, List.getElem?_cons_zero, List.getElem?_cons_succ, List.set_cons_zero, List.set_cons_succ, Option.some.injEq, V.int.injEq, V.bl.injEq, V.str.injEq, V.ref.injEq, scal_int, scal_str, Bool.false_eq_true, if_false, if_true, List.cons.injEq, and_true, true_and, exists_and_left, exists_eq_left', exists_eq_left, exists_eq_right, exists_eq_right', exists_eq, exists_eq', exists_const, and_assoc, tLst, tOrds]
  split
  · rename_i e
    rw [if_pos e] at k
    exact ⟨by decide, fun p n => k _ p (Same.new n) n upd_same⟩
  · rename_i e
    rw [if_neg e] at k
    exact ⟨Nat.lt_succ_self 1, Nat.le_trans hx (by decide), fun D n => k _ D (Same.new n) n upd_same⟩
end
end Prog
namespace Prog
open PySem PySem.Spec PyProof.Rows L2 Own
section
variable {P : Program} {w : World} {K : PySem.W.Frag} {mg : Str → Option Value} {base : Heap} {a : Ads}
/-! ### the words by their bytes -/
def wordOf : V → List Key × V
  | .str x => (x.cps.toList.map fun c => Sum.inl ((c : Nat) : Int), .str x)
  | v => ([], v)
def wordsTab : List (List Key × V) := seq_WORDS.map wordOf
theorem words_new : ∀ i : Fin 32, ∃ x, seq_WORDS[i.val]? = some (.str x) ∧ valV (wordsTab.take i.val) (wordOf (.str x)).1 = none ∧ x.cps.size ≤ 32 := by
  have h : ∀ i : Fin 32, (match seq_WORDS[i.val]? with | some (.str x) => decide (valV (wordsTab.take i.val) (wordOf (.str x)).1 = none) && decide (x.cps.size ≤ 32) | _ => false) = true := by decide +kernel
  intro i
  have q := h i
  split at q
  · rename_i x hx
    rw [Bool.and_eq_true] at q
    exact ⟨x, hx, of_decide_eq_true q.1, of_decide_eq_true q.2⟩
  · cases q
theorem words_len : seq_WORDS.length = 32 := by decide +kernel
def spWords : Sp := fun vs H Q _ => vs = [] ∧ ∀ H' d, Same H H' → H d = none → H' d = some (.dT wordsTab) → Q (.ref d) H'
theorem ords_keys (x : Str) : ords x = (wordOf (.str x)).1.map kV := by
  unfold ords wordOf
  rw [List.map_map]
  rfl
theorem d_words_by_bytes (T : Txt w K mg a) : Dfn P w K mg base CX0 1 "words_by_bytes" [] spWords := by
  refine dfn_of T.f_words_by_bytes sc_words_by_bytes (fun _ _ _ _ _ _ us hl => match us, hl with | [], _ => rfl) (fun vs H Q E h => by obtain ⟨rfl, _⟩ := h; rfl) fun f cdv A outer s H vs Q E hr h => ?_
  obtain ⟨rfl, k⟩ := h
  have hu := hu_of hr
  refine ⟨_, (pss_cons (ps_set (i := 0) sc_words_by_bytes.nd rfl (Or.inl rfl) pe_dnewT)
      (pss_cons (ps_for PassesOwn.never rfl (pi_tup (pe_gv T.g_WORDS)) (pg_name (i := 1) sc_words_by_bytes.nd rfl (Or.inl rfl)) (pss_one (ps_dput hu (pv 0) (pe_callTy call_tuple_of (by rfl) T.n_tuple (by decide +kernel) (pa_cons (pe_ords (pe_lc (own := [("letter", 2)]) (g := gName 2) (tt := tYes) rfl sc_words_by_bytes.nd (pi_str (pv 1)) (blkOk_by (own := [("letter", 2)]) (N := ["found", "word", "letter"]) (sc := defScope s_words_by_bytes) (by decide +kernel)) (fun _ _ _ _ _ => pg_name (i := 2) sc_words_by_bytes.nd rfl (Or.inl rfl)) (fun _ _ _ _ _ => pts_nil) (fun _ _ _ _ _ => (pe_callB call_ord (by rfl) T.n_ord (by decide +kernel) (pa_cons (pv 2) pa_nil))))) pa_nil)) (pv 1) rfl)))
      (pss_one (ps_ret (pv 0))))), ?_⟩
  intro d hd
  have sn := Same.new (o := .dT []) hd
  refine ⟨a.v_WORDS, rfl, ⟨_, T.t_WORDS _⟩, for_tup (K := K) (a := a.v_WORDS) (xs := seq_WORDS) (fun i σ H' => ∃ v : Option V, σ = [some (.ref d), v, none] ∧ Same H H' ∧ H' d = some (.dT (wordsTab.take i)))
    ⟨none, rfl, sn, upd_same⟩ (fun i σ H' _ _ => T.t_WORDS _) ?_ ?_⟩
  · rintro i y σ H' hi ⟨v, rfl, s1, h1⟩
    have hlt : i < 32 := by
      have := (List.getElem?_eq_some_iff.mp hi).1
      rwa [words_len] at this
    obtain ⟨x, e1, e2, e3⟩ := words_new ⟨i, hlt⟩
    have e1 : seq_WORDS[i]? = some (.str x) := e1
    rw [hi] at e1
    cases e1
    refine ⟨_, rfl, _, rfl, ⟨Nat.lt_succ_self 2, x, rfl, Nat.le_trans e3 (by decide), fun D hD => ?_⟩⟩
    have hdD : d ≠ D := ne_of_none h1 hD
    refine ⟨D, _, rfl, .inl ⟨SqL.of upd_same, fun l hl => ?_⟩⟩
    have hl' : H' l = none := (Same.new hD).free hl
    have hdl : d ≠ l := ne_of_none h1 hl'
    have e4 : putK (wordsTab.take i) (wordOf (.str x)).1 (.str x) = wordsTab.take (i + 1) := by
      rw [putK_new _ e2, List.take_add_one]
      unfold wordsTab
      rw [List.getElem?_map, hi]
      rfl
    refine ⟨d, _, rfl, DPut.t (k := (wordOf (.str x)).1) (kvs := wordsTab.take i) ?_ ?_ ?_, some (.str x), rfl, ?_, ?_⟩
    · rw [upd_ne hdl, upd_ne hdD]
      exact h1
    · rw [upd_same, ords_keys]
    · rw [List.length_take]
      have : (32 : Nat) < sizeLine := by decide
      omega
    · have s2 : Same H (upd (upd H' D (.lst (ords x))) l (.tup (ords x))) := s1.trans ((Same.new hD).trans (Same.new hl))
      intro b o e
      rw [upd_ne (ne_of_none e hd)]
      exact s2 b o e
    · rw [upd_same, e4]
  · rintro σ H' ⟨v, rfl, s1, h1⟩
    refine ⟨_, rfl, k H' d s1 hd ?_⟩
    rw [words_len, show wordsTab.take 32 = wordsTab from List.take_of_length_le (by unfold wordsTab; rw [List.length_map, words_len]; exact Nat.le_refl 32)] at h1
    exact h1
end
end Prog
namespace Prog
open PySem PySem.Spec PyProof.Rows L2 Own Tk
/-! ### the scanner's state -/
structure Sc where
  ta : Addr
  wa : Addr
  l : List Nat
  n : Nat
  line : Nat
  ls : Nat
def Sc.to (S : Sc) (n : Nat) : Sc := { S with n := n }
abbrev scF (S : Sc) : List (Str × V) := [("text", .ref S.ta), ("place", .int S.n), ("line", .int S.line), ("line_start", .int S.ls), ("words", .ref S.wa)]
structure ScAt (K : PySem.W.Frag) (C : Addr) (H : Hp) (p : Addr) (S : Sc) : Prop where
  ob : ∃ dx, H p = some (.ins C dx (scF S))
  tx : SqL K H S.ta (S.l.map fun c => V.int (c : Nat))
  wd : H S.wa = some (.dT wordsTab)
  le : S.n ≤ S.l.length
  ls : S.ls ≤ S.n
  sm : S.l.length ≤ 65536
section
variable {P : Program} {w : World} {K : PySem.W.Frag} {mg : Str → Option Value} {base : Heap} {a : Ads} {C p : Addr} {H H' : Hp} {S S' : Sc}
theorem ScAt.chg (h : ScAt K C H p S) (c : Chg p H H') {dx : Addr} (hp : H' p = some (.ins C dx (scF S'))) (e1 : S'.ta = S.ta := by rfl) (e2 : S'.wa = S.wa := by rfl) (e3 : S'.l = S.l := by rfl) (le : S'.n ≤ S.l.length) (ls : S'.ls ≤ S'.n) : ScAt K C H' p S' := by
  obtain ⟨⟨dx0, h0⟩, h2, h3, h4, h5, h6⟩ := h
  refine ⟨⟨dx, hp⟩, ?_, ?_, by rw [e3]; exact le, ls, by rw [e3]; exact h6⟩
  · rw [e1, e3]
    exact seq_chg c (.inr ⟨_, _, _, h0⟩) h2
  · rw [e2]
    exact c.at (ne_of h3 h0 (fun z => nomatch z)) h3
theorem ScAt.same (h : ScAt K C H p S) (c : Same H H') : ScAt K C H' p S := by
  obtain ⟨⟨dx0, h0⟩, h2, h3, h4, h5, h6⟩ := h
  exact ⟨⟨dx0, c _ _ h0⟩, c.seq h2, c _ _ h3, h4, h5, h6⟩
/-- one field of it is stored -/
theorem ScAt.put (h : ScAt K C H p S) {dx : Addr} (le : S'.n ≤ S.l.length) (ls : S'.ls ≤ S'.n) (e1 : S'.ta = S.ta := by rfl) (e2 : S'.wa = S.wa := by rfl) (e3 : S'.l = S.l := by rfl) : ScAt K C (upd H p (.ins C dx (scF S'))) p S' :=
  h.chg Chg.upd upd_same e1 e2 e3 le ls
theorem ScAt.set (h : ScAt K C H p S) {dx : Addr} {v1 v2 v3 : Int} (S' : Sc) (le : S'.n ≤ S.l.length) (ls : S'.ls ≤ S'.n) (e1 : v1 = (S'.n : Int) := by first | rfl | omega) (e2 : v2 = (S'.line : Int) := by first | rfl | omega) (e3 : v3 = (S'.ls : Int) := by first | rfl | omega)
    (f1 : S'.ta = S.ta := by rfl) (f2 : S'.wa = S.wa := by rfl) (f3 : S'.l = S.l := by rfl) : ScAt K C (upd H p (.ins C dx [("text", .ref S.ta), ("place", .int v1), ("line", .int v2), ("line_start", .int v3), ("words", .ref S.wa)])) p S' := by
  refine h.chg Chg.upd (dx := dx) ?_ f1 f2 f3 le ls
  rw [upd_same, e1, e2, e3, ← f1, ← f2]
/-! ### bytes ahead -/
theorem at_drop (l : List Nat) (n k : Nat) : at_ (l.drop n) k = (l[n + k]?).getD 256 := by
  unfold at_
  rw [List.getElem?_drop]
def spAhead (K : PySem.W.Frag) (C : Addr) : Sp := fun vs H Q _ => ∃ p S, ∃ k : Nat, vs = [.ref p, .int k] ∧ ScAt K C H p S ∧ Q (.int (at_ (S.l.drop S.n) k)) H
theorem m_Scanner_byte_ahead (T : Txt w K mg a) : Mth P w K mg base CX0 a.c_Scanner 1 "byte_ahead" ["self", "ahead"] (spAhead K a.c_Scanner) := by
  refine mth_of T.f_Scanner_byte_ahead sc_Scanner_byte_ahead (fun _ _ _ _ _ _ us hl => match us, hl with | [_, _], _ => rfl) (fun vs H Q E h => by obtain ⟨p, S, k, rfl, _⟩ := h; rfl) fun f cdv A outer s H vs Q E hr h => ?_
  obtain ⟨p, S, k, rfl, hS, q⟩ := h
  obtain ⟨dx, hp⟩ := hS.ob
  refine ⟨_, (pss_cons (ps_set (i := 2) sc_Scanner_byte_ahead.nd rfl (Or.inl rfl) (pe_op op_add (pe_fld (pv 0) rfl) (pv 1)))
      (pss_one (ps_ret (pe_ifExp (pt_cmpR op_lt (pv 2) (pe_callB call_len_seq (by rfl) T.n_len PySem.boot_len (pa_cons (pe_fld (pv 0) rfl) pa_nil)) (nomark _)) (pe_ix ix_list (pe_fld (pv 0) rfl) (pv 2) (fun _ _ => rfl)) (pe_gv T.g_NO_BYTE))))), ?_⟩
  rw [at_drop] at q
  simp only [cx_K, cx_w, cx_P, tSeq, tAsg, gName, tRet, tRetN, tNext, tDrop, tIfS, tIf, tAnd, tOr, tNot, tAndV, tOrV, tNotV, tTest, tB, tOp, tUn, tC, tVar, rI0, rI, rU, rEq, rNe, tCons, tNil, tCB, tCall, tMeth, tMake, tSl, tPart, tNoPart, tFld, sFld, sFldAug, L2.rAdd, L2.rSub, L2.start, decide_eq_true_eq, List.map_cons, List.map_nil, List.length_cons, List.length_nil, Nat.sub_self, Nat.reduceAdd, Nat.reduceSub, List.replicate_zero, List.replicate_succ, List.replicate, List.append_nil, List.cons_append, List.nil_append, List.getElem?_cons_zero, List.getElem?_cons_succ, List.set_cons_zero, List.set_cons_succ, Option.some.injEq, V.int.injEq, V.bl.injEq, V.str.injEq, V.ref.injEq, scal_int, scal_str, Bool.false_eq_true, if_false, if_true, List.cons.injEq, and_true, true_and, exists_and_left, exists_eq_left', exists_eq_left, exists_eq_right, exists_eq_right', exists_eq, exists_eq', exists_const, and_assoc, HO.ins.injEq, upd_same, T.c_Token, T.na_Token_kind, lk_Token_kind, put_Token_kind, ini_Token_kind, T.na_Token_value, lk_Token_value, put_Token_value, ini_Token_value, T.na_Token_line, lk_Token_line, put_Token_line, ini_Token_line, T.na_Token_column, lk_Token_column, put_Token_column, ini_Token_column, T.c_Scanner, T.na_Scanner_text, lk_Scanner_text, put_Scanner_text, ini_Scanner_text, T.na_Scanner_place, lk_Scanner_place, put_Scanner_place, ini_Scanner_place, T.na_Scanner_line, lk_Scanner_line, put_Scanner_line, ini_Scanner_line, T.na_Scanner_line_start, lk_Scanner_line_start, put_Scanner_line_start, ini_Scanner_line_start, T.na_Scanner_words, lk_Scanner_words, put_Scanner_words, ini_Scanner_words, no_Scanner_byte_ahead, no_Scanner_skip_remark, no_Scanner_skip_blank, no_Scanner_skip_to_token, no_Scanner_read_token, no_Scanner_kind_here, no_Scanner_read_value, no_Scanner_read_name, no_Scanner_read_number, no_Scanner_read_hex_number, no_Scanner_read_decimal_number, no_Scanner_read_string, no_Scanner_read_string_byte, no_Scanner_read_escape, no_Scanner_read_sign, hp]
  refine ⟨_, .inl hS.tx, ?_⟩
  rw [List.length_map]
  by_cases c : S.n + k < S.l.length
  · rw [if_pos (by omega)]
    rw [List.getElem?_eq_getElem c] at q
    refine ⟨_, _, _, _, rfl, rfl, hS.tx, ?_, q⟩
    rw [show ((S.n : Int) + (k : Int)) = ((S.n + k : Nat) : Int) by omega]
    exact atI_nat (by rw [List.getElem?_map, List.getElem?_eq_getElem c]; rfl)
  · rw [if_neg (by omega)]
    rw [List.getElem?_eq_none (by omega)] at q
    exact q
theorem at_none {l : List Nat} {n : Nat} (h : l[n]? = none) : at_ (l.drop n) 0 = 256 := by
  rw [at_drop, Nat.add_zero, h]
  rfl
theorem at_some {l : List Nat} {n x : Nat} (h : l[n]? = some x) : at_ (l.drop n) 0 = x := by
  rw [at_drop, Nat.add_zero, h]
  rfl
theorem ix_text {Q : VK} {x : Nat} (hS : ScAt K C H p S) (hx : S.l[S.n]? = some x) (q : Q (.int x) H) : rIxL K (.ref S.ta) (.int S.n) H Q :=
  ⟨_, _, _, _, rfl, rfl, hS.tx, atI_nat (by rw [List.getElem?_map, hx]; rfl), q⟩
/-! ### what is passed over -/
/-- the scanner goes on -/
def spGo (K : PySem.W.Frag) (C : Addr) (ok : Sc → Prop) (f : Sc → Sc) : Sp := fun vs H Q _ => ∃ p S, vs = [.ref p] ∧ ScAt K C H p S ∧ ok S ∧ ∀ H', ScAt K C H' p (f S) → Chg p H H' → Q .non H'
theorem tw_end {q : Nat → Bool} : ∀ (l : List Nat) (x : Nat), l[(l.takeWhile q).length]? = some x → q x = false
  | [], x, h => by simp at h
  | c :: l, x, h => by
    rw [List.takeWhile_cons] at h
    by_cases e : q c = true
    · rw [if_pos e] at h
      exact tw_end l x (by simpa using h)
    · rw [if_neg e] at h
      have : c = x := by simpa using h
      subst this
      exact Bool.not_eq_true _ |>.mp e
theorem tw_le {q : Nat → Bool} : ∀ (l : List Nat), (l.takeWhile q).length ≤ l.length
  | [] => Nat.le_refl _
  | c :: l => by
    rw [List.takeWhile_cons]
    split
    · exact Nat.succ_le_succ (tw_le l)
    · exact Nat.zero_le _
def remark (S : Sc) : Nat := ((S.l.drop S.n).takeWhile fun d => d != 10).length
theorem m_Scanner_skip_remark (T : Txt w K mg a) : Mth P w K mg base CX0 a.c_Scanner 1 "skip_remark" ["self"] (spGo K a.c_Scanner (fun _ => True) fun S => S.to (S.n + remark S)) := by
  refine mth_of T.f_Scanner_skip_remark sc_Scanner_skip_remark (fun _ _ _ _ _ _ us hl => match us, hl with | [_], _ => rfl) (fun vs H Q E h => by obtain ⟨p, S, rfl, _⟩ := h; rfl) fun f cdv A outer s H vs Q E hr h => ?_
  obtain ⟨p, S, rfl, hS, _, q⟩ := h
  refine ⟨_, (pss_one (ps_while PassesOwn.never (PW.pt (pw_and (pt_cmpR op_lt (pe_fld (pv 0) rfl) (pe_callB call_len_seq (by rfl) T.n_len PySem.boot_len (pa_cons (pe_fld (pv 0) rfl) pa_nil)) (nomark _)) (pw_and1 (pt_cmpR op_ne (pe_ix ix_list (pe_fld (pv 0) rfl) (pe_fld (pv 0) rfl) (fun _ _ => rfl)) (pe_gv T.g_LINE_FEED) (nomark _))))) (pss_one (ps_fldaug (pv 0) pe_int in_add)))), ?_⟩
  have hle : S.n + remark S ≤ S.l.length := by
    have h1 := tw_le (q := fun d => d != 10) (S.l.drop S.n)
    have h2 := hS.le
    rw [List.length_drop] at h1
    unfold remark
    omega
  refine ⟨fun m σ H' => ∃ j, j ≤ remark S ∧ m = remark S - j ∧ σ = [some (.ref p)] ∧ ScAt K a.c_Scanner H' p (S.to (S.n + j)) ∧ Chg p H H', ⟨_, 0, Nat.zero_le _, rfl, rfl, hS, Chg.refl⟩, ?_⟩
  rintro m σ H1 ⟨j, hj, rfl, rfl, h1, c1⟩
  obtain ⟨dx, hp⟩ := h1.ob
  simp only [cx_K, cx_w, cx_P, tSeq, tAsg, gName, tRet, tRetN, tNext, tDrop, tIfS, tIf, tAnd, tOr, tNot, tAndV, tOrV, tNotV, tTest, tB, tOp, tUn, tC, tVar, rI0, rI, rU, rEq, rNe, tCons, tNil, tCB, tCall, tMeth, tMake, tSl, tPart, tNoPart, tFld, sFld, sFldAug, L2.rAdd, L2.rSub, L2.start, decide_eq_true_eq, List.map_cons, List.map_nil, List.length_cons, List.length_nil, Nat.sub_self, Nat.reduceAdd, Nat.reduceSub, List.replicate_zero, List.replicate_succ, List.replicate, List.append_nil, List.cons_append, List.nil_append, List.getElem?_cons_zero, List.getElem?_cons_succ, List.set_cons_zero, List.set_cons_succ, Option.some.injEq, V.int.injEq, V.bl.injEq, V.str.injEq, V.ref.injEq, scal_int, scal_str, Bool.false_eq_true, if_false, if_true, List.cons.injEq, and_true, true_and, exists_and_left, exists_eq_left', exists_eq_left, exists_eq_right, exists_eq_right', exists_eq, exists_eq', exists_const, and_assoc, HO.ins.injEq, upd_same, T.c_Token, T.na_Token_kind, lk_Token_kind, put_Token_kind, ini_Token_kind, T.na_Token_value, lk_Token_value, put_Token_value, ini_Token_value, T.na_Token_line, lk_Token_line, put_Token_line, ini_Token_line, T.na_Token_column, lk_Token_column, put_Token_column, ini_Token_column, T.c_Scanner, T.na_Scanner_text, lk_Scanner_text, put_Scanner_text, ini_Scanner_text, T.na_Scanner_place, lk_Scanner_place, put_Scanner_place, ini_Scanner_place, T.na_Scanner_line, lk_Scanner_line, put_Scanner_line, ini_Scanner_line, T.na_Scanner_line_start, lk_Scanner_line_start, put_Scanner_line_start, ini_Scanner_line_start, T.na_Scanner_words, lk_Scanner_words, put_Scanner_words, ini_Scanner_words, no_Scanner_byte_ahead, no_Scanner_skip_remark, no_Scanner_skip_blank, no_Scanner_skip_to_token, no_Scanner_read_token, no_Scanner_kind_here, no_Scanner_read_value, no_Scanner_read_name, no_Scanner_read_number, no_Scanner_read_hex_number, no_Scanner_read_decimal_number, no_Scanner_read_string, no_Scanner_read_string_byte, no_Scanner_read_escape, no_Scanner_read_sign, hp]
  refine ⟨_, .inl h1.tx, ?_⟩
  rw [List.length_map]
  show if ((S.n + j : Nat) : Int) < (S.l.length : Int) then _ else _
  by_cases c : S.n + j < S.l.length
  · rw [if_pos (by omega)]
    have hx : S.l[S.n + j]? = some S.l[S.n + j] := List.getElem?_eq_getElem c
    generalize S.l[S.n + j] = x at hx
    have hd : (S.l.drop S.n)[j]? = some x := by rw [List.getElem?_drop]; exact hx
    refine ix_text h1 hx ⟨rfl, ?_⟩
    by_cases c10 : x = 10
    · subst c10
      rw [if_neg (by simp)]
      have : j = remark S := by
        apply Classical.byContradiction
        intro z
        obtain ⟨y, h2, h3⟩ := tw_at (p := fun d => d != 10) (S.l.drop S.n) j (by unfold remark at hj z; omega)
        rw [hd] at h2
        cases h2
        exact absurd h3 (by decide)
      subst this
      exact q _ h1 c1
    · rw [if_pos (by simpa using (by omega : ¬ (x : Int) = 10))]
      have hlt : j < remark S := by
        apply Classical.byContradiction
        intro z
        have : j = remark S := by omega
        subst this
        have := tw_end (q := fun d => d != 10) (S.l.drop S.n) x hd
        simp [c10] at this
      refine ⟨fun σ' H' => σ' = [some (.ref p)] ∧ ScAt K a.c_Scanner H' p (S.to (S.n + (j + 1))) ∧ Chg p H H', fun σ' H' ⟨e1, e2, e3⟩ => ⟨_, by omega, j + 1, by omega, rfl, e1, e2, e3⟩, ?_⟩
      simp only [cx_K, cx_w, cx_P, tSeq, tAsg, gName, tRet, tRetN, tNext, tDrop, tIfS, tIf, tAnd, tOr, tNot, tAndV, tOrV, tNotV, tTest, tB, tOp, tUn, tC, tVar, rI0, rI, rU, rEq, rNe, tCons, tNil, tCB, tCall, tMeth, tMake, tSl, tPart, tNoPart, tFld, sFld, sFldAug, L2.rAdd, L2.rSub, L2.start, decide_eq_true_eq, List.map_cons, List.map_nil, List.length_cons, List.length_nil, Nat.sub_self, Nat.reduceAdd, Nat.reduceSub, List.replicate_zero, List.replicate_succ, List.replicate, List.append_nil, List.cons_append, List.nil_append, List.getElem?_cons_zero, List.getElem?_cons_succ, List.set_cons_zero, List.set_cons_succ, Option.some.injEq, V.int.injEq, V.bl.injEq, V.str.injEq, V.ref.injEq, scal_int, scal_str, Bool.false_eq_true, if_false, if_true, List.cons.injEq, and_true, true_and, exists_and_left, exists_eq_left', exists_eq_left, exists_eq_right, exists_eq_right', exists_eq, exists_eq', exists_const, and_assoc, HO.ins.injEq, upd_same, T.c_Token, T.na_Token_kind, lk_Token_kind, put_Token_kind, ini_Token_kind, T.na_Token_value, lk_Token_value, put_Token_value, ini_Token_value, T.na_Token_line, lk_Token_line, put_Token_line, ini_Token_line, T.na_Token_column, lk_Token_column, put_Token_column, ini_Token_column, T.c_Scanner, T.na_Scanner_text, lk_Scanner_text, put_Scanner_text, ini_Scanner_text, T.na_Scanner_place, lk_Scanner_place, put_Scanner_place, ini_Scanner_place, T.na_Scanner_line, lk_Scanner_line, put_Scanner_line, ini_Scanner_line, T.na_Scanner_line_start, lk_Scanner_line_start, put_Scanner_line_start, ini_Scanner_line_start, T.na_Scanner_words, lk_Scanner_words, put_Scanner_words, ini_Scanner_words, no_Scanner_byte_ahead, no_Scanner_skip_remark, no_Scanner_skip_blank, no_Scanner_skip_to_token, no_Scanner_read_token, no_Scanner_kind_here, no_Scanner_read_value, no_Scanner_read_name, no_Scanner_read_number, no_Scanner_read_hex_number, no_Scanner_read_decimal_number, no_Scanner_read_string, no_Scanner_read_string_byte, no_Scanner_read_escape, no_Scanner_read_sign, hp]
      exact ⟨by decide, h1.set (S.to (S.n + (j + 1))) (by show S.n + (j + 1) ≤ S.l.length; omega) (by have := hS.ls; show S.ls ≤ S.n + (j + 1); omega), c1.trans Chg.upd⟩
  · rw [if_neg (by omega)]
    have : j = remark S := by omega
    subst this
    exact q _ h1 c1
def next (S : Sc) : Sc := if S.l[S.n]? = some 10 then { S with line := S.line + 1, ls := S.n + 1, n := S.n + 1 } else S.to (S.n + 1)
theorem m_Scanner_skip_blank (T : Txt w K mg a) : Mth P w K mg base CX0 a.c_Scanner 1 "skip_blank" ["self"] (spGo K a.c_Scanner (fun S => S.n < S.l.length) next) := by
  refine mth_of T.f_Scanner_skip_blank sc_Scanner_skip_blank (fun _ _ _ _ _ _ us hl => match us, hl with | [_], _ => rfl) (fun vs H Q E h => by obtain ⟨p, S, rfl, _⟩ := h; rfl) fun f cdv A outer s H vs Q E hr h => ?_
  obtain ⟨p, S, rfl, hS, hlt, q⟩ := h
  refine ⟨_, (pss_cons (ps_if (pt_cmpR op_eq (pe_ix ix_list (pe_fld (pv 0) rfl) (pe_fld (pv 0) rfl) (fun _ _ => rfl)) (pe_gv T.g_LINE_FEED) (nomark _)) (pss_cons (ps_fldaug (pv 0) pe_int in_add)
      (pss_one (ps_fld (pv 0) (pe_op op_add (pe_fld (pv 0) rfl) pe_int) rfl))) pss_nil)
      (pss_one (ps_fldaug (pv 0) pe_int in_add))), ?_⟩
  obtain ⟨dx, hp⟩ := hS.ob
  have hx : S.l[S.n]? = some S.l[S.n] := List.getElem?_eq_getElem hlt
  generalize S.l[S.n] = x at hx
  have hls := hS.ls
  simp only [cx_K, cx_w, cx_P, tSeq, tAsg, gName, tRet, tRetN, tNext, tDrop, tIfS, tIf, tAnd, tOr, tNot, tAndV, tOrV, tNotV, tTest, tB, tOp, tUn, tC, tVar, rI0, rI, rU, rEq, rNe, tCons, tNil, tCB, tCall, tMeth, tMake, tSl, tPart, tNoPart, tFld, sFld, sFldAug, L2.rAdd, L2.rSub, L2.start, decide_eq_true_eq, List.map_cons, List.map_nil, List.length_cons, List.length_nil, Nat.sub_self, Nat.reduceAdd, Nat.reduceSub, List.replicate_zero, List.replicate_succ, List.replicate, List.append_nil, List.cons_append, List.nil_append, List.getElem?_cons_zero, List.getElem?_cons_succ, List.set_cons_zero, List.set_cons_succ, Option.some.injEq, V.int.injEq, V.bl.injEq, V.str.injEq, V.ref.injEq, scal_int, scal_str, Bool.false_eq_true, if_false, if_true, List.cons.injEq, and_true, true_and, exists_and_left, exists_eq_left', exists_eq_left, exists_eq_right, exists_eq_right', exists_eq, exists_eq', exists_const, and_assoc, HO.ins.injEq, upd_same, T.c_Token, T.na_Token_kind, lk_Token_kind, put_Token_kind, ini_Token_kind, T.na_Token_value, lk_Token_value, put_Token_value, ini_Token_value, T.na_Token_line, lk_Token_line, put_Token_line, ini_Token_line, T.na_Token_column, lk_Token_column, put_Token_column, ini_Token_column, T.c_Scanner, T.na_Scanner_text, lk_Scanner_text, put_Scanner_text, ini_Scanner_text, T.na_Scanner_place, lk_Scanner_place, put_Scanner_place, ini_Scanner_place, T.na_Scanner_line, lk_Scanner_line, put_Scanner_line, ini_Scanner_line, T.na_Scanner_line_start, lk_Scanner_line_start, put_Scanner_line_start, ini_Scanner_line_start, T.na_Scanner_words, lk_Scanner_words, put_Scanner_words, ini_Scanner_words, no_Scanner_byte_ahead, no_Scanner_skip_remark, no_Scanner_skip_blank, no_Scanner_skip_to_token, no_Scanner_read_token, no_Scanner_kind_here, no_Scanner_read_value, no_Scanner_read_name, no_Scanner_read_number, no_Scanner_read_hex_number, no_Scanner_read_decimal_number, no_Scanner_read_string, no_Scanner_read_string_byte, no_Scanner_read_escape, no_Scanner_read_sign, hp]
  refine ix_text hS hx ⟨rfl, ?_⟩
  unfold next at q
  by_cases c : x = 10
  · subst c
    rw [if_pos hx] at q
    rw [if_pos (by rfl)]
    simp only [cx_K, cx_w, cx_P, tSeq, tAsg, gName, tRet, tRetN, tNext, tDrop, tIfS, tIf, tAnd, tOr, tNot, tAndV, tOrV, tNotV, tTest, tB, tOp, tUn, tC, tVar, rI0, rI, rU, rEq, rNe, tCons, tNil, tCB, tCall, tMeth, tMake, tSl, tPart, tNoPart, tFld, sFld, sFldAug, L2.rAdd, L2.rSub, L2.start, decide_eq_true_eq, List.map_cons, List.map_nil, List.length_cons, List.length_nil, Nat.sub_self, Nat.reduceAdd, Nat.reduceSub, List.replicate_zero, List.replicate_succ, List.replicate, List.append_nil, List.cons_append, List.nil_append, List.getElem?_cons_zero, List.getElem?_cons_succ, List.set_cons_zero, List.set_cons_succ, Option.some.injEq, V.int.injEq, V.bl.injEq, V.str.injEq, V.ref.injEq, scal_int, scal_str, Bool.false_eq_true, if_false, if_true, List.cons.injEq, and_true, true_and, exists_and_left, exists_eq_left', exists_eq_left, exists_eq_right, exists_eq_right', exists_eq, exists_eq', exists_const, and_assoc, HO.ins.injEq, upd_same, T.c_Token, T.na_Token_kind, lk_Token_kind, put_Token_kind, ini_Token_kind, T.na_Token_value, lk_Token_value, put_Token_value, ini_Token_value, T.na_Token_line, lk_Token_line, put_Token_line, ini_Token_line, T.na_Token_column, lk_Token_column, put_Token_column, ini_Token_column, T.c_Scanner, T.na_Scanner_text, lk_Scanner_text, put_Scanner_text, ini_Scanner_text, T.na_Scanner_place, lk_Scanner_place, put_Scanner_place, ini_Scanner_place, T.na_Scanner_line, lk_Scanner_line, put_Scanner_line, ini_Scanner_line, T.na_Scanner_line_start, lk_Scanner_line_start, put_Scanner_line_start, ini_Scanner_line_start, T.na_Scanner_words, lk_Scanner_words, put_Scanner_words, ini_Scanner_words, no_Scanner_byte_ahead, no_Scanner_skip_remark, no_Scanner_skip_blank, no_Scanner_skip_to_token, no_Scanner_read_token, no_Scanner_kind_here, no_Scanner_read_value, no_Scanner_read_name, no_Scanner_read_number, no_Scanner_read_hex_number, no_Scanner_read_decimal_number, no_Scanner_read_string, no_Scanner_read_string_byte, no_Scanner_read_escape, no_Scanner_read_sign, hp]
    exact ⟨by decide, by decide, by decide, q _ (by rw [upd_upd, upd_upd]; exact hS.set _ (by show S.n + 1 ≤ _; omega) (Nat.le_refl _)) (by rw [upd_upd, upd_upd]; exact Chg.upd)⟩
  · rw [if_neg (fun z => c (by rw [hx] at z; exact Option.some.inj z))] at q
    rw [if_neg (by simp; omega)]
    simp only [cx_K, cx_w, cx_P, tSeq, tAsg, gName, tRet, tRetN, tNext, tDrop, tIfS, tIf, tAnd, tOr, tNot, tAndV, tOrV, tNotV, tTest, tB, tOp, tUn, tC, tVar, rI0, rI, rU, rEq, rNe, tCons, tNil, tCB, tCall, tMeth, tMake, tSl, tPart, tNoPart, tFld, sFld, sFldAug, L2.rAdd, L2.rSub, L2.start, decide_eq_true_eq, List.map_cons, List.map_nil, List.length_cons, List.length_nil, Nat.sub_self, Nat.reduceAdd, Nat.reduceSub, List.replicate_zero, List.replicate_succ, List.replicate, List.append_nil, List.cons_append, List.nil_append, List.getElem?_cons_zero, List.getElem?_cons_succ, List.set_cons_zero, List.set_cons_succ, Option.some.injEq, V.int.injEq, V.bl.injEq, V.str.injEq, V.ref.injEq, scal_int, scal_str, Bool.false_eq_true, if_false, if_true, List.cons.injEq, and_true, true_and, exists_and_left, exists_eq_left', exists_eq_left, exists_eq_right, exists_eq_right', exists_eq, exists_eq', exists_const, and_assoc, HO.ins.injEq, upd_same, T.c_Token, T.na_Token_kind, lk_Token_kind, put_Token_kind, ini_Token_kind, T.na_Token_value, lk_Token_value, put_Token_value, ini_Token_value, T.na_Token_line, lk_Token_line, put_Token_line, ini_Token_line, T.na_Token_column, lk_Token_column, put_Token_column, ini_Token_column, T.c_Scanner, T.na_Scanner_text, lk_Scanner_text, put_Scanner_text, ini_Scanner_text, T.na_Scanner_place, lk_Scanner_place, put_Scanner_place, ini_Scanner_place, T.na_Scanner_line, lk_Scanner_line, put_Scanner_line, ini_Scanner_line, T.na_Scanner_line_start, lk_Scanner_line_start, put_Scanner_line_start, ini_Scanner_line_start, T.na_Scanner_words, lk_Scanner_words, put_Scanner_words, ini_Scanner_words, no_Scanner_byte_ahead, no_Scanner_skip_remark, no_Scanner_skip_blank, no_Scanner_skip_to_token, no_Scanner_read_token, no_Scanner_kind_here, no_Scanner_read_value, no_Scanner_read_name, no_Scanner_read_number, no_Scanner_read_hex_number, no_Scanner_read_decimal_number, no_Scanner_read_string, no_Scanner_read_string_byte, no_Scanner_read_escape, no_Scanner_read_sign, hp]
    exact ⟨by decide, q _ (hS.set _ (by show S.n + 1 ≤ _; omega) (by show S.ls ≤ S.n + 1; omega)) Chg.upd⟩
/-- what the specification reads from here on -/
def TKs (S : Sc) : List Rd24.Tok := TK S.line (S.n - S.ls + 1) (S.l.drop S.n)
theorem drop_cons {l : List Nat} {n x : Nat} (h : l[n]? = some x) : l.drop n = x :: l.drop (n + 1) := by
  obtain ⟨hlt, e⟩ := List.getElem?_eq_some_iff.mp h
  rw [List.drop_eq_getElem_cons hlt, e]
theorem tks_line {S : Sc} (h : S.l[S.n]? = some 10) : TKs (next S) = TKs S := by
  unfold TKs next
  rw [if_pos h, drop_cons h, tk_line]
  show TK (S.line + 1) (S.n + 1 - (S.n + 1) + 1) (S.l.drop (S.n + 1)) = _
  rw [Nat.sub_self]
theorem tks_blank {S : Sc} {x : Nat} (hl : S.ls ≤ S.n) (h : S.l[S.n]? = some x) (hb : x = 32 ∨ x = 9 ∨ x = 13) : TKs (next S) = TKs S := by
  unfold TKs next
  rw [if_neg (by rw [h]; intro z; cases z; omega), drop_cons h, tk_blank hb]
  show TK S.line (S.n + 1 - S.ls + 1) (S.l.drop (S.n + 1)) = _
  rw [show S.n + 1 - S.ls + 1 = S.n - S.ls + 1 + 1 by omega]
theorem tks_hash {S : Sc} (hl : S.ls ≤ S.n) (h : S.l[S.n]? = some 35) : TKs (S.to (S.n + remark S)) = TKs S := by
  unfold TKs
  have e : remark S = 1 + ((S.l.drop (S.n + 1)).takeWhile fun d => d != 10).length := by
    unfold remark
    rw [drop_cons h, List.takeWhile_cons, if_pos (by decide), List.length_cons, Nat.add_comm]
  rw [drop_cons h, tk_hash]
  show TK S.line (S.n + remark S - S.ls + 1) (S.l.drop (S.n + remark S)) = _
  rw [e, List.drop_drop, show S.n + (1 + ((S.l.drop (S.n + 1)).takeWhile fun d => d != 10).length) - S.ls + 1 = S.n - S.ls + 1 + 1 + ((S.l.drop (S.n + 1)).takeWhile fun d => d != 10).length by omega, show S.n + (1 + ((S.l.drop (S.n + 1)).takeWhile fun d => d != 10).length) = S.n + 1 + ((S.l.drop (S.n + 1)).takeWhile fun d => d != 10).length by omega]
/-- a token begins, or the text ends -/
def AtTok (S : Sc) : Prop := ∀ x, S.l[S.n]? = some x → blank x = false ∧ x ≠ 35
def spSkip (K : PySem.W.Frag) (C : Addr) : Sp := fun vs H Q _ => ∃ p S, vs = [.ref p] ∧ ScAt K C H p S ∧ ∀ H' S', ScAt K C H' p S' → S'.ta = S.ta → S'.wa = S.wa → S'.l = S.l → S.n ≤ S'.n → TKs S' = TKs S → AtTok S' → Chg p H H' → Q .non H'
theorem m_Scanner_skip_to_token (T : Txt w K mg a) : Mth P w K mg base CX0 a.c_Scanner 2 "skip_to_token" ["self"] (spSkip K a.c_Scanner) := by
  refine mth_of T.f_Scanner_skip_to_token sc_Scanner_skip_to_token (fun _ _ _ _ _ _ us hl => match us, hl with | [_], _ => rfl) (fun vs H Q E h => by obtain ⟨p, S, rfl, _⟩ := h; rfl) fun f cdv A outer s H vs Q E hr h => ?_
  obtain ⟨p, S, rfl, hS, q⟩ := h
  refine ⟨_, (pss_cons (ps_set (i := 1) sc_Scanner_skip_to_token.nd rfl (Or.inl rfl) (pe_mth (pv 0) T.c_Scanner (m_Scanner_byte_ahead T) (hr.mono (by decide)) pass0 (pa_cons pe_int pa_nil)))
      (pss_one (ps_while PassesOwn.never (PW.pt (pw_or (pt_val (pe_dfn (d_is_blank T) (hr.mono (by decide)) pass0 (pa_cons (pv 1) pa_nil))) (pw_or1 (pt_cmpR op_eq (pv 1) (pe_gv T.g_HASH) (nomark _))))) (pss_cons (ps_if (pt_cmpR op_eq (pv 1) (pe_gv T.g_HASH) (nomark _)) (pss_one (ps_expr (pe_mth0 (pv 0) T.c_Scanner (m_Scanner_skip_remark T) (hr.mono (by decide)) pass0))) (pss_one (ps_expr (pe_mth0 (pv 0) T.c_Scanner (m_Scanner_skip_blank T) (hr.mono (by decide)) pass0))))
      (pss_one (ps_set (i := 1) sc_Scanner_skip_to_token.nd rfl (Or.inl rfl) (pe_mth (pv 0) T.c_Scanner (m_Scanner_byte_ahead T) (hr.mono (by decide)) pass0 (pa_cons pe_int pa_nil)))))))), ?_⟩
  obtain ⟨dx, hp⟩ := hS.ob
  refine ⟨_, rfl, p, dx, _, rfl, hp, no_Scanner_byte_ahead, p, S, 0, rfl, hS, ?_⟩
  refine ⟨fun m σ H' => ∃ S', m = S.l.length - S'.n ∧ σ = [some (.ref p), some (.int (at_ (S'.l.drop S'.n) 0))] ∧ ScAt K a.c_Scanner H' p S' ∧ S'.ta = S.ta ∧ S'.wa = S.wa ∧ S'.l = S.l ∧ S.n ≤ S'.n ∧ TKs S' = TKs S ∧ Chg p H H',
    ⟨_, S, rfl, rfl, hS, rfl, rfl, rfl, Nat.le_refl _, rfl, Chg.refl⟩, ?_⟩
  rintro m σ H1 ⟨S1, rfl, rfl, h1, f1, f2, f3, f4, f5, c1⟩
  obtain ⟨dx1, hp1⟩ := h1.ob
  simp only [cx_K, cx_w, cx_P, tSeq, tAsg, gName, tRet, tRetN, tNext, tDrop, tIfS, tIf, tAnd, tOr, tNot, tAndV, tOrV, tNotV, tTest, tB, tOp, tUn, tC, tVar, rI0, rI, rU, rEq, rNe, tCons, tNil, tCB, tCall, tMeth, tMake, tSl, tPart, tNoPart, tFld, sFld, sFldAug, L2.rAdd, L2.rSub, L2.start, decide_eq_true_eq, List.map_cons, List.map_nil, List.length_cons, List.length_nil, Nat.sub_self, Nat.reduceAdd, Nat.reduceSub, List.replicate_zero, List.replicate_succ, List.replicate, List.append_nil, List.cons_append, List.nil_append, List.getElem?_cons_zero, List.getElem?_cons_succ, List.set_cons_zero, List.set_cons_succ, Option.some.injEq, V.int.injEq, V.bl.injEq, V.str.injEq, V.ref.injEq, scal_int, scal_str, Bool.false_eq_true, if_false, if_true, List.cons.injEq, and_true, true_and, exists_and_left, exists_eq_left', exists_eq_left, exists_eq_right, exists_eq_right', exists_eq, exists_eq', exists_const, and_assoc, HO.ins.injEq, upd_same, T.c_Token, T.na_Token_kind, lk_Token_kind, put_Token_kind, ini_Token_kind, T.na_Token_value, lk_Token_value, put_Token_value, ini_Token_value, T.na_Token_line, lk_Token_line, put_Token_line, ini_Token_line, T.na_Token_column, lk_Token_column, put_Token_column, ini_Token_column, T.c_Scanner, T.na_Scanner_text, lk_Scanner_text, put_Scanner_text, ini_Scanner_text, T.na_Scanner_place, lk_Scanner_place, put_Scanner_place, ini_Scanner_place, T.na_Scanner_line, lk_Scanner_line, put_Scanner_line, ini_Scanner_line, T.na_Scanner_line_start, lk_Scanner_line_start, put_Scanner_line_start, ini_Scanner_line_start, T.na_Scanner_words, lk_Scanner_words, put_Scanner_words, ini_Scanner_words, no_Scanner_byte_ahead, no_Scanner_skip_remark, no_Scanner_skip_blank, no_Scanner_skip_to_token, no_Scanner_read_token, no_Scanner_kind_here, no_Scanner_read_value, no_Scanner_read_name, no_Scanner_read_number, no_Scanner_read_hex_number, no_Scanner_read_decimal_number, no_Scanner_read_string, no_Scanner_read_string_byte, no_Scanner_read_escape, no_Scanner_read_sign, hp1]
  refine ⟨_, rfl, fun H2 s2 => ⟨_, rfl, ?_⟩⟩
  have h2 := h1.same s2
  have c2 : Chg p H H2 := c1.trans (Chg.of s2)
  obtain ⟨dx2, hp2⟩ := h2.ob
  cases hx : S1.l[S1.n]? with
  | none =>
    rw [at_none hx, if_neg (by decide), if_neg (by decide)]
    exact q _ S1 h2 f1 f2 f3 f4 f5 (fun x z => by rw [hx] at z; cases z) c2
  | some x =>
    have hlt := (List.getElem?_eq_some_iff.mp hx).1
    rw [at_some hx]
    -- one turn more: from S1 to S3
    have more : ∀ (H3 : Hp) (S3 : Sc), ScAt K a.c_Scanner H3 p S3 → S3.ta = S1.ta → S3.wa = S1.wa → S3.l = S1.l → S1.n < S3.n → TKs S3 = TKs S1 → Chg p H2 H3 → ∃ m', m' < S.l.length - S1.n ∧ ∃ S',
        m' = S.l.length - S'.n ∧ [some (V.ref p), some (V.int (at_ (S3.l.drop S3.n) 0))] = [some (V.ref p), some (V.int (at_ (S'.l.drop S'.n) 0))] ∧ ScAt K a.c_Scanner H3 p S' ∧ S'.ta = S.ta ∧ S'.wa = S.wa ∧ S'.l = S.l ∧ S.n ≤ S'.n ∧ TKs S' = TKs S ∧ Chg p H H3 := by
      intro H3 S3 g1 g2 g3 g4 g5 g6 g7
      exact ⟨_, by rw [← f3]; omega, S3, rfl, rfl, g1, g2.trans f1, g3.trans f2, g4.trans f3, by omega, g6.trans f5, c2.trans g7⟩
    by_cases c35 : x = 35
    · subst c35
      rw [if_neg (by decide), if_pos (by decide)]
      refine ⟨_, fun σ' H' z => z, ?_⟩
      rw [if_pos (by decide)]
      refine ⟨dx2, _, hp2, no_Scanner_skip_remark, p, S1, rfl, h2, trivial, fun H3 h3 c3 => ?_⟩
      obtain ⟨dx3, hp3⟩ := h3.ob
      refine ⟨dx3, _, hp3, no_Scanner_byte_ahead, p, _, 0, rfl, h3, ?_⟩
      refine more H3 _ h3 rfl rfl rfl ?_ (tks_hash h1.ls hx) c3
      show S1.n < S1.n + remark S1
      unfold remark
      rw [drop_cons hx, List.takeWhile_cons, if_pos (by decide), List.length_cons]
      omega
    · by_cases cb : blank x = true
      · rw [if_pos cb]
        refine ⟨_, fun σ' H' z => z, ?_⟩
        rw [if_neg (by omega)]
        refine ⟨dx2, _, hp2, no_Scanner_skip_blank, p, S1, rfl, h2, hlt, fun H3 h3 c3 => ?_⟩
        obtain ⟨dx3, hp3⟩ := h3.ob
        refine ⟨dx3, _, hp3, no_Scanner_byte_ahead, p, _, 0, rfl, h3, ?_⟩
        have nx : (next S1).ta = S1.ta ∧ (next S1).wa = S1.wa ∧ (next S1).l = S1.l ∧ (next S1).n = S1.n + 1 := by
          unfold next
          split <;> exact ⟨rfl, rfl, rfl, rfl⟩
        refine more H3 _ h3 nx.1 nx.2.1 nx.2.2.1 (by rw [nx.2.2.2]; omega) ?_ c3
        by_cases c10 : x = 10
        · subst c10
          exact tks_line hx
        · refine tks_blank h1.ls hx ?_
          unfold blank at cb
          simp at cb
          omega
      · rw [if_neg cb, if_neg (by omega)]
        exact q _ S1 h2 f1 f2 f3 f4 f5 (fun y z => by rw [hx] at z; cases z; exact ⟨Bool.not_eq_true _ |>.mp cb, c35⟩) c2
end
end Prog
namespace Prog
open PySem PySem.Spec PyProof.Rows L2 Own Tk
section
variable {P : Program} {w : World} {K : PySem.W.Frag} {mg : Str → Option Value} {base : Heap} {a : Ads} {C p : Addr} {H H' : Hp} {S S' : Sc}
/-- self.place += k -/
theorem aug_place (T : Txt w K mg a) (hS : ScAt K a.c_Scanner H p S) (k : Nat) (hle : S.n + k ≤ S.l.length) {D : Ends} {σ : L2.St} (hσ : σ[0]? = some (some (.ref p))) (q : ∀ H', ScAt K a.c_Scanner H' p (S.to (S.n + k)) → Chg p H H' → D.nx σ H') :
    sFldAug K (tVar 0) (tC (.int k)) L2.rAdd "place" D σ H := by
  obtain ⟨dx, hp⟩ := hS.ob
  refine ⟨_, hσ, p, a.c_Scanner, dx, _, _, rfl, hp, T.c_Scanner, T.na_Scanner_place, lk_Scanner_place, _, _, rfl, rfl, dx, _, hp, (by show 5 < 1000; decide), ?_⟩
  rw [put_Scanner_place]
  have := hS.ls
  exact q _ (hS.set (S.to (S.n + k)) hle (by show S.ls ≤ S.n + k; omega)) Chg.upd
/-! ### the kind -/
def kindStr (x : Nat) : Str := if Rd24.letter x = true then "name" else if Rd24.digit x = true then "number" else if x = 34 then "string" else "sign"
def spKind (K : PySem.W.Frag) (C : Addr) : Sp := fun vs H Q _ => ∃ p S x, vs = [.ref p] ∧ ScAt K C H p S ∧ S.l[S.n]? = some x ∧ ∀ H', Same H H' → Q (.str (kindStr x)) H'
theorem m_Scanner_kind_here (T : Txt w K mg a) : Mth P w K mg base CX0 a.c_Scanner 2 "kind_here" ["self"] (spKind K a.c_Scanner) := by
  refine mth_of T.f_Scanner_kind_here sc_Scanner_kind_here (fun _ _ _ _ _ _ us hl => match us, hl with | [_], _ => rfl) (fun vs H Q E h => by obtain ⟨p, S, x, rfl, _⟩ := h; rfl) fun f cdv A outer s H vs Q E hr h => ?_
  obtain ⟨p, S, x, rfl, hS, hx, q⟩ := h
  refine ⟨_, (pss_cons (ps_set (i := 1) sc_Scanner_kind_here.nd rfl (Or.inl rfl) (pe_mth (pv 0) T.c_Scanner (m_Scanner_byte_ahead T) (hr.mono (by decide)) pass0 (pa_cons pe_int pa_nil)))
      (pss_cons (ps_if (pt_val (pe_dfn (d_is_letter T) (hr.mono (by decide)) pass0 (pa_cons (pv 1) pa_nil))) (pss_one (ps_ret pe_str)) pss_nil)
      (pss_cons (ps_if (pt_val (pe_dfn (d_is_digit T) (hr.mono (by decide)) pass0 (pa_cons (pv 1) pa_nil))) (pss_one (ps_ret pe_str)) pss_nil)
      (pss_one (ps_ret (pe_ifExp (pt_cmpR op_eq (pv 1) (pe_gv T.g_QUOTE) (nomark _)) pe_str pe_str)))))), ?_⟩
  obtain ⟨dx, hp⟩ := hS.ob
  refine ⟨_, rfl, p, dx, _, rfl, hp, no_Scanner_byte_ahead, p, S, 0, rfl, hS, ?_⟩
  rw [at_some hx]
  unfold kindStr at q
  simp only [cx_K, cx_w, cx_P, tSeq, tAsg, gName, tRet, tRetN, tNext, tDrop, tIfS, tIf, tAnd, tOr, tNot, tAndV, tOrV, tNotV, tTest, tB, tOp, tUn, tC, tVar, rI0, rI, rU, rEq, rNe, tCons, tNil, tCB, tCall, tMeth, tMake, tSl, tPart, tNoPart, tFld, sFld, sFldAug, L2.rAdd, L2.rSub, L2.start, decide_eq_true_eq, List.map_cons, List.map_nil, List.length_cons, List.length_nil, Nat.sub_self, Nat.reduceAdd, Nat.reduceSub, List.replicate_zero, List.replicate_succ, List.replicate, List.append_nil, List.cons_append, List.nil_append, List.getElem?_cons_zero, List.getElem?_cons_succ, List.set_cons_zero, List.set_cons_succ, Option.some.injEq, V.int.injEq, V.bl.injEq, V.str.injEq, V.ref.injEq, scal_int, scal_str, Bool.false_eq_true, if_false, if_true, List.cons.injEq, and_true, true_and, exists_and_left, exists_eq_left', exists_eq_left, exists_eq_right, exists_eq_right', exists_eq, exists_eq', exists_const, and_assoc]
  refine ⟨_, rfl, fun H1 s1 => ⟨_, rfl, ?_⟩⟩
  split
  · rename_i h1
    have q := q H1 s1
    rw [if_pos h1] at q
    exact q
  · rename_i h1
    refine ⟨_, rfl, fun H2 s2 => ⟨_, rfl, ?_⟩⟩
    have q := q H2 (s1.trans s2)
    rw [if_neg h1] at q
    split
    · rename_i h2
      rw [if_pos h2] at q
      exact q
    · rename_i h2
      rw [if_neg h2] at q
      split
      · rename_i h3
        rw [if_pos (by omega)] at q
        exact q
      · rename_i h3
        rw [if_neg (by omega)] at q
        exact q
/-! ### names -/
theorem tw_look {q : Nat → Bool} (hq : q 256 = false) (r : List Nat) (j : Nat) (hj : j ≤ (r.takeWhile q).length) : q (at_ r j) = true ↔ j < (r.takeWhile q).length := by
  constructor
  · intro h
    apply Classical.byContradiction
    intro z
    have e : j = (r.takeWhile q).length := by omega
    subst e
    unfold at_ at h
    cases hx : r[(r.takeWhile q).length]? with
    | none => rw [hx] at h; rw [show (none : Option Nat).getD 256 = 256 from rfl, hq] at h; cases h
    | some x => rw [hx] at h; rw [show (some x).getD 256 = x from rfl, tw_end r x hx] at h; cases h
  · intro h
    obtain ⟨x, h1, h2⟩ := tw_at r j h
    unfold at_
    rw [h1]
    exact h2
theorem at_go (l : List Nat) (n j : Nat) : at_ (l.drop (n + j)) 0 = at_ (l.drop n) j := by
  rw [at_drop, at_drop, Nat.add_zero]
theorem cut_mid {l : List Nat} {n m : Nat} (h1 : n ≤ m) (h2 : m ≤ l.length) : cutV (l.map fun c => V.int (c : Nat)) (some (n : Int)) (some (m : Int)) = ((l.drop n).take (m - n)).map fun c => V.int (c : Nat) := by
  unfold cutV
  rw [HT.sIx_nat, HT.sIx_nat, List.length_map, Nat.min_eq_left h2, Nat.min_eq_left (Nat.le_trans h1 h2), ← List.map_drop, ← List.map_take]
theorem take_tw {q : Nat → Bool} : ∀ (r : List Nat), r.take (r.takeWhile q).length = r.takeWhile q
  | [] => rfl
  | c :: r => by
    rw [List.takeWhile_cons]
    split
    · rw [List.length_cons, List.take_succ_cons, take_tw r]
    · rfl
theorem drop_le {S : Sc} {t : Nat} (h : t ≤ (S.l.drop S.n).length) (h0 : S.n ≤ S.l.length) : S.n + t ≤ S.l.length := by
  rw [List.length_drop] at h
  omega
def byteVs (b : List Nat) : List V := b.map fun c => V.int (c : Nat)
def nameAt (S : Sc) : List Nat := (S.l.drop S.n).takeWhile Rd24.inName
def spName (K : PySem.W.Frag) (C : Addr) : Sp := fun vs H Q _ => ∃ p S, vs = [.ref p] ∧ ScAt K C H p S ∧
  (32 < (nameAt S).length → ∀ H', ScAt K C H' p (S.to (S.n + (nameAt S).length)) → Chg p H H' → Q .non H') ∧
  (¬ 32 < (nameAt S).length → ∀ H' r, ScAt K C H' p (S.to (S.n + (nameAt S).length)) → Chg p H H' → H r = none → H' r = some (.tup (byteVs (nameAt S))) → Q (.ref r) H')
theorem m_Scanner_read_name (T : Txt w K mg a) : Mth P w K mg base CX0 a.c_Scanner 3 "read_name" ["self"] (spName K a.c_Scanner) := by
  refine mth_of T.f_Scanner_read_name sc_Scanner_read_name (fun _ _ _ _ _ _ us hl => match us, hl with | [_], _ => rfl) (fun vs H Q E h => by obtain ⟨p, S, rfl, _⟩ := h; rfl) fun f cdv A outer s H vs Q E hr h => ?_
  obtain ⟨p, S, rfl, hS, q1, q2⟩ := h
  refine ⟨_, (pss_cons (ps_set (i := 1) sc_Scanner_read_name.nd rfl (Or.inl rfl) (pe_fld (pv 0) rfl))
      (pss_cons (ps_while PassesOwn.never (pt_val (pe_dfn (d_is_name_byte T) (hr.mono (by decide)) pass0 (pa_cons (pe_mth (pv 0) T.c_Scanner (m_Scanner_byte_ahead T) (hr.mono (by decide)) pass0 (pa_cons pe_int pa_nil)) pa_nil))) (pss_one (ps_fldaug (pv 0) pe_int in_add)))
      (pss_cons (ps_if (pt_cmpR op_gt (pe_op op_sub (pe_fld (pv 0) rfl) (pv 1)) (pe_gv T.g_LONGEST_NAME) (nomark _)) (pss_one (ps_ret pe_non)) pss_nil)
      (pss_one (ps_ret (pe_callTy call_tuple_of (by rfl) T.n_tuple (by decide +kernel) (pa_cons (pe_slice sl_list (pe_fld (pv 0) rfl) (po_some (pv 1)) (po_some (pe_fld (pv 0) rfl))) pa_nil))))))), ?_⟩
  obtain ⟨dx, hp⟩ := hS.ob
  have hle := drop_le (tw_le (q := Rd24.inName) (S.l.drop S.n)) hS.le
  have hls := hS.ls
  refine ⟨_, rfl, fldq hp T.c_Scanner T.na_Scanner_place lk_Scanner_place ?_⟩
  refine ⟨fun m σ H' => ∃ j, j ≤ (nameAt S).length ∧ m = (nameAt S).length - j ∧ σ = [some (.ref p), some (.int S.n)] ∧ ScAt K a.c_Scanner H' p (S.to (S.n + j)) ∧ Chg p H H', ⟨_, 0, Nat.zero_le _, rfl, rfl, hS, Chg.refl⟩, ?_⟩
  rintro m σ H1 ⟨j, hj, rfl, rfl, h1, c1⟩
  obtain ⟨dx1, hp1⟩ := h1.ob
  refine ⟨_, rfl, p, dx1, _, rfl, hp1, no_Scanner_byte_ahead, p, _, 0, rfl, h1, _, rfl, fun H2 s2 => ⟨_, rfl, ?_⟩⟩
  have h2 := h1.same s2
  have c2 : Chg p H H2 := c1.trans (Chg.of s2)
  obtain ⟨dx2, hp2⟩ := h2.ob
  have look := tw_look (q := Rd24.inName) (by decide) (S.l.drop S.n) j hj
  rw [show at_ ((S.to (S.n + j)).l.drop (S.to (S.n + j)).n) 0 = at_ (S.l.drop S.n) j from at_go _ _ _]
  by_cases c : j < (nameAt S).length
  · refine if_yes (look.mpr c) ?_
    refine ⟨fun σ' H' => σ' = [some (.ref p), some (.int S.n)] ∧ ScAt K a.c_Scanner H' p (S.to (S.n + (j + 1))) ∧ Chg p H H', fun σ' H' ⟨e1, e2, e3⟩ => ⟨_, by omega, j + 1, by omega, rfl, e1, e2, e3⟩, ?_⟩
    simp only [cx_K, cx_w, cx_P, tSeq, tAsg, gName, tRet, tRetN, tNext, tDrop, tIfS, tIf, tAnd, tOr, tNot, tAndV, tOrV, tNotV, tTest, tB, tOp, tUn, tC, tVar, rI0, rI, rU, rEq, rNe, tCons, tNil, tCB, tCall, tMeth, tMake, tSl, tPart, tNoPart, tFld, sFld, sFldAug, L2.rAdd, L2.rSub, L2.start, decide_eq_true_eq, List.map_cons, List.map_nil, List.length_cons, List.length_nil, Nat.sub_self, Nat.reduceAdd, Nat.reduceSub, List.replicate_zero, List.replicate_succ, List.replicate, List.append_nil, List.cons_append, List.nil_append, List.getElem?_cons_zero, List.getElem?_cons_succ, List.set_cons_zero, List.set_cons_succ, Option.some.injEq, V.int.injEq, V.bl.injEq, V.str.injEq, V.ref.injEq, scal_int, scal_str, Bool.false_eq_true, if_false, if_true, List.cons.injEq, and_true, true_and, exists_and_left, exists_eq_left', exists_eq_left, exists_eq_right, exists_eq_right', exists_eq, exists_eq', exists_const, and_assoc, HO.ins.injEq, upd_same, T.c_Token, T.na_Token_kind, lk_Token_kind, put_Token_kind, ini_Token_kind, T.na_Token_value, lk_Token_value, put_Token_value, ini_Token_value, T.na_Token_line, lk_Token_line, put_Token_line, ini_Token_line, T.na_Token_column, lk_Token_column, put_Token_column, ini_Token_column, T.c_Scanner, T.na_Scanner_text, lk_Scanner_text, put_Scanner_text, ini_Scanner_text, T.na_Scanner_place, lk_Scanner_place, put_Scanner_place, ini_Scanner_place, T.na_Scanner_line, lk_Scanner_line, put_Scanner_line, ini_Scanner_line, T.na_Scanner_line_start, lk_Scanner_line_start, put_Scanner_line_start, ini_Scanner_line_start, T.na_Scanner_words, lk_Scanner_words, put_Scanner_words, ini_Scanner_words, no_Scanner_byte_ahead, no_Scanner_skip_remark, no_Scanner_skip_blank, no_Scanner_skip_to_token, no_Scanner_read_token, no_Scanner_kind_here, no_Scanner_read_value, no_Scanner_read_name, no_Scanner_read_number, no_Scanner_read_hex_number, no_Scanner_read_decimal_number, no_Scanner_read_string, no_Scanner_read_string_byte, no_Scanner_read_escape, no_Scanner_read_sign, hp2]
    exact ⟨by decide, h2.set (S.to (S.n + (j + 1))) (by unfold nameAt at c; show S.n + (j + 1) ≤ S.l.length; omega) (by show S.ls ≤ S.n + (j + 1); omega), c2.trans Chg.upd⟩
  · refine if_no (fun z => c (look.mp z)) ?_
    have ej : j = (nameAt S).length := by omega
    subst ej
    simp only [cx_K, cx_w, cx_P, tSeq, tAsg, gName, tRet, tRetN, tNext, tDrop, tIfS, tIf, tAnd, tOr, tNot, tAndV, tOrV, tNotV, tTest, tB, tOp, tUn, tC, tVar, rI0, rI, rU, rEq, rNe, tCons, tNil, tCB, tCall, tMeth, tMake, tSl, tPart, tNoPart, tFld, sFld, sFldAug, L2.rAdd, L2.rSub, L2.start, decide_eq_true_eq, List.map_cons, List.map_nil, List.length_cons, List.length_nil, Nat.sub_self, Nat.reduceAdd, Nat.reduceSub, List.replicate_zero, List.replicate_succ, List.replicate, List.append_nil, List.cons_append, List.nil_append, List.getElem?_cons_zero, List.getElem?_cons_succ, List.set_cons_zero, List.set_cons_succ, Option.some.injEq, V.int.injEq, V.bl.injEq, V.str.injEq, V.ref.injEq, scal_int, scal_str, Bool.false_eq_true, if_false, if_true, List.cons.injEq, and_true, true_and, exists_and_left, exists_eq_left', exists_eq_left, exists_eq_right, exists_eq_right', exists_eq, exists_eq', exists_const, and_assoc, HO.ins.injEq, upd_same, T.c_Token, T.na_Token_kind, lk_Token_kind, put_Token_kind, ini_Token_kind, T.na_Token_value, lk_Token_value, put_Token_value, ini_Token_value, T.na_Token_line, lk_Token_line, put_Token_line, ini_Token_line, T.na_Token_column, lk_Token_column, put_Token_column, ini_Token_column, T.c_Scanner, T.na_Scanner_text, lk_Scanner_text, put_Scanner_text, ini_Scanner_text, T.na_Scanner_place, lk_Scanner_place, put_Scanner_place, ini_Scanner_place, T.na_Scanner_line, lk_Scanner_line, put_Scanner_line, ini_Scanner_line, T.na_Scanner_line_start, lk_Scanner_line_start, put_Scanner_line_start, ini_Scanner_line_start, T.na_Scanner_words, lk_Scanner_words, put_Scanner_words, ini_Scanner_words, no_Scanner_byte_ahead, no_Scanner_skip_remark, no_Scanner_skip_blank, no_Scanner_skip_to_token, no_Scanner_read_token, no_Scanner_kind_here, no_Scanner_read_value, no_Scanner_read_name, no_Scanner_read_number, no_Scanner_read_hex_number, no_Scanner_read_decimal_number, no_Scanner_read_string, no_Scanner_read_string_byte, no_Scanner_read_escape, no_Scanner_read_sign, hp2]
    by_cases c32 : 32 < (nameAt S).length
    · rw [if_pos (by show (32 : Int) < ((S.n + (nameAt S).length : Nat) : Int) - S.n; omega)]
      exact q1 c32 _ h2 c2
    · rw [if_neg (by show ¬ (32 : Int) < ((S.n + (nameAt S).length : Nat) : Int) - S.n; omega)]
      refine ⟨S.ta, _, rfl, h2.tx, fun l1 n1 => ⟨l1, rfl, _, .inl ⟨SqL.of upd_same, fun l2 n2 => ?_⟩⟩⟩
      have s3 := fun o => (Same.new n1).trans (Same.new (o := o) n2)
      refine q2 c32 _ l2 (h2.same (s3 _)) (c2.trans (Chg.of (s3 _))) (c2.free ((Same.new n1).free n2)) ?_
      rw [upd_same]
      show some (HO.tup (cutV (S.l.map fun c => V.int (c : Nat)) (some (S.n : Int)) (some ((S.n + (nameAt S).length : Nat) : Int)))) = _
      rw [cut_mid (m := S.n + (nameAt S).length) (Nat.le_add_right _ _) hle, Nat.add_sub_cancel_left, show (S.l.drop S.n).take (nameAt S).length = nameAt S from take_tw _]
      rfl
/-! ### numbers -/
theorem tw_take_isHex (r : List Nat) (j : Nat) (hj : j ≤ (hex16 r).length) : (Rd24.hexOf (at_ r j)).isSome = true ∧ j < 16 ↔ j < (hex16 r).length := by
  have hl : (hex16 r).length = min 16 (r.takeWhile Rd24.isHex).length := by unfold hex16; rw [List.length_take]
  have hj2 : j ≤ (r.takeWhile Rd24.isHex).length := by omega
  have look := tw_look (q := Rd24.isHex) (by decide) r j hj2
  unfold Rd24.isHex at look
  rw [look]
  show j < (r.takeWhile Rd24.isHex).length ∧ j < 16 ↔ _
  omega
theorem hex16_at {r : List Nat} {j : Nat} (h : j < (hex16 r).length) : ∃ d, Rd24.hexOf (at_ r j) = some d ∧ d < 16 ∧ (hex16 r)[j]? = some (at_ r j) := by
  have h1 := (tw_take_isHex r j (Nat.le_of_lt h)).mpr h
  obtain ⟨d, hd⟩ := Option.isSome_iff_exists.mp h1.1
  refine ⟨d, hd, ?_, ?_⟩
  · unfold Rd24.hexOf Rd24.digit at hd
    split at hd
    · rename_i z
      simp at z
      cases hd
      omega
    · split at hd
      · cases hd
        omega
      · split at hd
        · cases hd
          omega
        · cases hd
  · have hl : (hex16 r).length = min 16 (r.takeWhile Rd24.isHex).length := by unfold hex16; rw [List.length_take]
    have hlt : j < (r.takeWhile Rd24.isHex).length := by omega
    obtain ⟨x, e1, _⟩ := tw_at (p := Rd24.isHex) r j hlt
    unfold hex16
    rw [List.getElem?_take, if_pos h1.2, ← take_tw (q := Rd24.isHex) r, List.getElem?_take, if_pos hlt, e1]
    unfold at_
    rw [e1]
    rfl
theorem value_more {base : Nat} {h : List Nat} {j c d : Nat} (h1 : h[j]? = some c) (h2 : Rd24.hexOf c = some d) : Rd24.valueOf base (h.take (j + 1)) = base * Rd24.valueOf base (h.take j) + d := by
  unfold Rd24.valueOf
  rw [List.take_add_one, h1, Option.toList_some, List.foldl_append, List.foldl_cons, List.foldl_nil, h2]
  rfl
theorem value16_lt {h : List Nat} : ∀ j, j ≤ h.length → (∀ i, i < h.length → ∃ c d, h[i]? = some c ∧ Rd24.hexOf c = some d ∧ d < 16) → Rd24.valueOf 16 (h.take j) < 16 ^ j
  | 0, _, _ => by show Rd24.valueOf 16 [] < 1; decide
  | j + 1, hj, all => by
    obtain ⟨c, d, e1, e2, e3⟩ := all j hj
    have ih := value16_lt j (by omega) all
    rw [value_more e1 e2, Nat.pow_succ]
    omega
/-- the rest behind 0x -/
def hexRest (S : Sc) : List Nat := S.l.drop (S.n + 2)
def hexV (h : List Nat) : V := if h.isEmpty = true then .non else .int (Rd24.signed (Rd24.valueOf 16 h))
def spHexN (K : PySem.W.Frag) (C : Addr) : Sp := fun vs H Q _ => ∃ p S, vs = [.ref p] ∧ ScAt K C H p S ∧ S.n + 2 ≤ S.l.length ∧
  ∀ H', ScAt K C H' p (S.to (S.n + 2 + (hex16 (hexRest S)).length)) → Chg p H H' → Q (hexV (hex16 (hexRest S))) H'
theorem m_Scanner_read_hex_number (T : Txt w K mg a) : Mth P w K mg base CX0 a.c_Scanner 3 "read_hex_number" ["self"] (spHexN K a.c_Scanner) := by
  refine mth_of T.f_Scanner_read_hex_number sc_Scanner_read_hex_number (fun _ _ _ _ _ _ us hl => match us, hl with | [_], _ => rfl) (fun vs H Q E h => by obtain ⟨p, S, rfl, _⟩ := h; rfl) fun f cdv A outer s H vs Q E hr h => ?_
  obtain ⟨p, S, rfl, hS, h2, q⟩ := h
  refine ⟨_, (pss_cons (ps_fldaug (pv 0) pe_int in_add)
      (pss_cons (ps_set (i := 1) sc_Scanner_read_hex_number.nd rfl (Or.inl rfl) (pe_fld (pv 0) rfl))
      (pss_cons (ps_set (i := 2) sc_Scanner_read_hex_number.nd rfl (Or.inl rfl) pe_int)
      (pss_cons (ps_set (i := 3) sc_Scanner_read_hex_number.nd rfl (Or.inl rfl) (pe_dfn (d_hex_worth T) (hr.mono (by decide)) pass0 (pa_cons (pe_mth (pv 0) T.c_Scanner (m_Scanner_byte_ahead T) (hr.mono (by decide)) pass0 (pa_cons pe_int pa_nil)) pa_nil)))
      (pss_cons (ps_while PassesOwn.never (PW.pt (pw_and (pt_cmpR op_notN (pv 3) pe_non (nomark _)) (pw_and1 (pt_cmpR op_lt (pe_op op_sub (pe_fld (pv 0) rfl) (pv 1)) (pe_gv T.g_MOST_HEX_DIGITS) (nomark _))))) (pss_cons (ps_set (i := 2) sc_Scanner_read_hex_number.nd rfl (Or.inl rfl) (pe_op op_add (pe_op op_mul (pv 2) pe_int) (pv 3)))
      (pss_cons (ps_fldaug (pv 0) pe_int in_add)
      (pss_one (ps_set (i := 3) sc_Scanner_read_hex_number.nd rfl (Or.inl rfl) (pe_dfn (d_hex_worth T) (hr.mono (by decide)) pass0 (pa_cons (pe_mth (pv 0) T.c_Scanner (m_Scanner_byte_ahead T) (hr.mono (by decide)) pass0 (pa_cons pe_int pa_nil)) pa_nil)))))))
      (pss_one (ps_ret (pe_ifExp (pt_cmpR op_eq (pe_fld (pv 0) rfl) (pv 1) (nomark _)) pe_non (pe_dfn (d_signed_worth T) (hr.mono (by decide)) pass0 (pa_cons (pv 2) pa_nil)))))))))), ?_⟩
  obtain ⟨dx, hp⟩ := hS.ob
  have hls := hS.ls
  generalize hr0 : hexRest S = r at q
  have hle : S.n + 2 + (hex16 r).length ≤ S.l.length := by
    have h1 : (hex16 r).length ≤ r.length := by
      have := tw_le (q := Rd24.isHex) r
      unfold hex16
      rw [List.length_take]
      omega
    have h3 : r.length = S.l.length - (S.n + 2) := by rw [← hr0]; unfold hexRest; rw [List.length_drop]
    omega
  refine aug_place T hS 2 h2 rfl fun H1 h1 c1 => ?_
  obtain ⟨dx1, hp1⟩ := h1.ob
  refine ⟨_, rfl, fldq hp1 T.c_Scanner T.na_Scanner_place lk_Scanner_place ?_⟩
  refine ⟨_, rfl, p, dx1, _, rfl, hp1, no_Scanner_byte_ahead, p, _, 0, rfl, h1, _, rfl, fun H2 s2 => ?_⟩
  have h2 := h1.same s2
  have c2 : Chg p H H2 := c1.trans (Chg.of s2)
  refine ⟨fun m σ H' => ∃ j, j ≤ (hex16 r).length ∧ m = (hex16 r).length - j ∧ σ = [some (.ref p), some (.int ((S.n + 2 : Nat) : Int)), some (.int (Rd24.valueOf 16 ((hex16 r).take j) : Nat)), some (optN (Rd24.hexOf (at_ r j)))] ∧ ScAt K a.c_Scanner H' p (S.to (S.n + 2 + j)) ∧ Chg p H H',
    ⟨_, 0, Nat.zero_le _, rfl, ?_, h2, c2⟩, ?_⟩
  · rw [← hr0]
    rfl
  rintro m σ H3 ⟨j, hj, rfl, rfl, h3, c3⟩
  obtain ⟨dx3, hp3⟩ := h3.ob
  simp only [cx_K, cx_w, cx_P, tSeq, tAsg, gName, tRet, tRetN, tNext, tDrop, tIfS, tIf, tAnd, tOr, tNot, tAndV, tOrV, tNotV, tTest, tB, tOp, tUn, tC, tVar, rI0, rI, rU, rEq, rNe, tCons, tNil, tCB, tCall, tMeth, tMake, tSl, tPart, tNoPart, tFld, sFld, sFldAug, L2.rAdd, L2.rSub, L2.start, decide_eq_true_eq, List.map_cons, List.map_nil, List.length_cons, List.length_nil, Nat.sub_self, Nat.reduceAdd, Nat.reduceSub, List.replicate_zero, List.replicate_succ, List.replicate, List.append_nil, List.cons_append, List.nil_append, List.getElem?_cons_zero, List.getElem?_cons_succ, List.set_cons_zero, List.set_cons_succ, Option.some.injEq, V.int.injEq, V.bl.injEq, V.str.injEq, V.ref.injEq, scal_int, scal_str, Bool.false_eq_true, if_false, if_true, List.cons.injEq, and_true, true_and, exists_and_left, exists_eq_left', exists_eq_left, exists_eq_right, exists_eq_right', exists_eq, exists_eq', exists_const, and_assoc, HO.ins.injEq, upd_same, T.c_Token, T.na_Token_kind, lk_Token_kind, put_Token_kind, ini_Token_kind, T.na_Token_value, lk_Token_value, put_Token_value, ini_Token_value, T.na_Token_line, lk_Token_line, put_Token_line, ini_Token_line, T.na_Token_column, lk_Token_column, put_Token_column, ini_Token_column, T.c_Scanner, T.na_Scanner_text, lk_Scanner_text, put_Scanner_text, ini_Scanner_text, T.na_Scanner_place, lk_Scanner_place, put_Scanner_place, ini_Scanner_place, T.na_Scanner_line, lk_Scanner_line, put_Scanner_line, ini_Scanner_line, T.na_Scanner_line_start, lk_Scanner_line_start, put_Scanner_line_start, ini_Scanner_line_start, T.na_Scanner_words, lk_Scanner_words, put_Scanner_words, ini_Scanner_words, no_Scanner_byte_ahead, no_Scanner_skip_remark, no_Scanner_skip_blank, no_Scanner_skip_to_token, no_Scanner_read_token, no_Scanner_kind_here, no_Scanner_read_value, no_Scanner_read_name, no_Scanner_read_number, no_Scanner_read_hex_number, no_Scanner_read_decimal_number, no_Scanner_read_string, no_Scanner_read_string_byte, no_Scanner_read_escape, no_Scanner_read_sign, hp3]
  have at3 : at_ ((S.to (S.n + 2 + (j + 1))).l.drop (S.to (S.n + 2 + (j + 1))).n) 0 = at_ r (j + 1) := by
    rw [← hr0]
    exact at_go S.l (S.n + 2) (j + 1)
  by_cases c : j < (hex16 r).length
  · obtain ⟨d, hd, d16, hat⟩ := hex16_at c
    have c16 := ((tw_take_isHex r j hj).mpr c).2
    rw [hd]
    refine if_yes rfl (if_yes (by show ((S.n + 2 + j : Nat) : Int) - ((S.n + 2 : Nat) : Int) < 16; omega) ?_)
    refine ⟨_, fun σ' H' z => z, .inr ⟨by decide, by decide⟩, (d : Int), rfl, by decide, ?_⟩
    have h4 := h3.set (dx := dx3) (S.to (S.n + 2 + (j + 1))) (by show S.n + 2 + (j + 1) ≤ S.l.length; omega) (by show S.ls ≤ S.n + 2 + (j + 1); omega)
    refine ⟨p, _, 0, rfl, h4, _, rfl, fun H5 s5 => ?_⟩
    refine ⟨_, by omega, j + 1, by omega, rfl, ?_, h4.same s5, c3.trans (Chg.upd.trans (Chg.of s5))⟩
    rw [at3, value_more hat hd, show (((Rd24.valueOf 16 ((hex16 r).take j) : Nat) : Int) * 16 + (d : Int)) = ((16 * Rd24.valueOf 16 ((hex16 r).take j) + d : Nat) : Int) by omega]
  · have ej : j = (hex16 r).length := by omega
    subst ej
    have fin : if ((S.n + 2 + (hex16 r).length : Nat) : Int) = ((S.n + 2 : Nat) : Int) then Q V.non H3 else spSigned [V.int ↑(Rd24.valueOf 16 ((hex16 r).take (hex16 r).length))] H3 Q E0 := by
      have k := q _ h3 c3
      unfold hexV at k
      by_cases e : (hex16 r).length = 0
      · rw [if_pos (by omega)]
        rw [if_pos (by rw [List.isEmpty_iff]; exact List.eq_nil_of_length_eq_zero e)] at k
        exact k
      · rw [if_neg (by omega)]
        rw [if_neg (by rw [List.isEmpty_iff]; exact fun z => e (by rw [z]; rfl))] at k
        refine ⟨_, rfl, ?_, ?_⟩
        · have b := value16_lt (h := hex16 r) (hex16 r).length (Nat.le_refl _) fun i hi => by
            obtain ⟨d, e1, e2, e3⟩ := hex16_at hi
            exact ⟨_, d, e3, e1, e2⟩
          have l16 : (hex16 r).length ≤ 16 := by unfold hex16; rw [List.length_take]; omega
          have := Nat.pow_le_pow_right (n := 16) (by decide) l16
          have e16 : (16 : Nat) ^ 16 = 2 ^ 64 := by decide
          omega
        · rw [List.take_length]
          exact k
    have stop : ¬ ((Rd24.hexOf (at_ r (hex16 r).length)).isSome = true ∧ (hex16 r).length < 16) := fun z => c ((tw_take_isHex r _ hj).mp z)
    cases hh : Rd24.hexOf (at_ r (hex16 r).length) with
    | none =>
      rw [hh] at stop
      exact if_no (by decide) fin
    | some d =>
      rw [hh] at stop
      refine if_yes rfl (if_no ?_ fin)
      show ¬ ((S.n + 2 + (hex16 r).length : Nat) : Int) - ((S.n + 2 : Nat) : Int) < 16
      have : ¬ (hex16 r).length < 16 := fun z => stop ⟨rfl, z⟩
      omega
/-! ### decimal numbers -/
def decAt (S : Sc) : List Nat := (S.l.drop S.n).takeWhile Rd24.digit
theorem dec_at {r : List Nat} {j : Nat} (h : j < (r.takeWhile Rd24.digit).length) : (r.takeWhile Rd24.digit)[j]? = some (at_ r j) ∧ 48 ≤ at_ r j ∧ at_ r j ≤ 57 := by
  obtain ⟨x, e1, e2⟩ := tw_at (p := Rd24.digit) r j h
  have ea : at_ r j = x := by unfold at_; rw [e1]; rfl
  rw [ea]
  refine ⟨?_, ?_⟩
  · rw [← take_tw (q := Rd24.digit) r, List.getElem?_take, if_pos h, e1]
  · unfold Rd24.digit at e2
    simpa using e2
def decV (d : List Nat) : V := if 9223372036854775807 < Rd24.valueOf 10 d then .non else .int (Rd24.valueOf 10 d : Nat)
def spDecN (K : PySem.W.Frag) (C : Addr) : Sp := fun vs H Q _ => ∃ p S, vs = [.ref p] ∧ ScAt K C H p S ∧ ∀ H', ScAt K C H' p (S.to (S.n + (decAt S).length)) → Chg p H H' → Q (decV (decAt S)) H'
theorem m_Scanner_read_decimal_number (T : Txt w K mg a) : Mth P w K mg base CX0 a.c_Scanner 3 "read_decimal_number" ["self"] (spDecN K a.c_Scanner) := by
  refine mth_of T.f_Scanner_read_decimal_number sc_Scanner_read_decimal_number (fun _ _ _ _ _ _ us hl => match us, hl with | [_], _ => rfl) (fun vs H Q E h => by obtain ⟨p, S, rfl, _⟩ := h; rfl) fun f cdv A outer s H vs Q E hr h => ?_
  obtain ⟨p, S, rfl, hS, q⟩ := h
  refine ⟨_, (pss_cons (ps_set (i := 1) sc_Scanner_read_decimal_number.nd rfl (Or.inl rfl) pe_int)
      (pss_cons (ps_while PassesOwn.never (pt_val (pe_dfn (d_is_digit T) (hr.mono (by decide)) pass0 (pa_cons (pe_mth (pv 0) T.c_Scanner (m_Scanner_byte_ahead T) (hr.mono (by decide)) pass0 (pa_cons pe_int pa_nil)) pa_nil))) (pss_cons (ps_set (i := 1) sc_Scanner_read_decimal_number.nd rfl (Or.inl rfl) (pe_callB (call_min2 rfl) (by rfl) T.n_min (by decide +kernel) (pa_cons (pe_op op_sub (pe_op op_add (pe_op op_mul (pv 1) pe_int) (pe_mth (pv 0) T.c_Scanner (m_Scanner_byte_ahead T) (hr.mono (by decide)) pass0 (pa_cons pe_int pa_nil))) pe_int) (pa_cons (pe_op op_add (pe_gv T.g_GREATEST_NUMBER) pe_int) pa_nil))))
      (pss_one (ps_fldaug (pv 0) pe_int in_add))))
      (pss_one (ps_ret (pe_ifExp (pt_cmpR op_gt (pv 1) (pe_gv T.g_GREATEST_NUMBER) (nomark _)) pe_non (pv 1)))))), ?_⟩
  have hle := drop_le (tw_le (q := Rd24.digit) (S.l.drop S.n)) hS.le
  have hls := hS.ls
  refine ⟨fun m σ H' => ∃ j, j ≤ (decAt S).length ∧ m = (decAt S).length - j ∧ σ = [some (.ref p), some (.int (((decAt S).take j).foldl decStep 0 : Nat))] ∧ ScAt K a.c_Scanner H' p (S.to (S.n + j)) ∧ Chg p H H', ⟨_, 0, Nat.zero_le _, rfl, rfl, hS, Chg.refl⟩, ?_⟩
  rintro m σ H1 ⟨j, hj, rfl, rfl, h1, c1⟩
  obtain ⟨dx1, hp1⟩ := h1.ob
  refine ⟨_, rfl, p, dx1, _, rfl, hp1, no_Scanner_byte_ahead, p, _, 0, rfl, h1, _, rfl, fun H2 s2 => ⟨_, rfl, ?_⟩⟩
  have h2 := h1.same s2
  have c2 : Chg p H H2 := c1.trans (Chg.of s2)
  obtain ⟨dx2, hp2⟩ := h2.ob
  have look := tw_look (q := Rd24.digit) (by decide) (S.l.drop S.n) j hj
  have ea : at_ ((S.to (S.n + j)).l.drop (S.to (S.n + j)).n) 0 = at_ (S.l.drop S.n) j := at_go _ _ _
  rw [ea]
  by_cases c : j < (decAt S).length
  · refine if_yes (look.mpr c) ?_
    obtain ⟨g1, g2, g3⟩ := dec_at (r := S.l.drop S.n) c
    refine ⟨_, fun σ' H' z => z, ?_⟩
    refine ⟨_, rfl, _, _, rfl, rfl, .inr ⟨by decide, by decide⟩, _, rfl, p, dx2, _, rfl, hp2, no_Scanner_byte_ahead, p, _, 0, rfl, h2, _, _, rfl, rfl, _, _, rfl, rfl, _, _, rfl, rfl, _, _, rfl, ?_⟩
    rw [ea]
    refine aug_place T h2 1 (by unfold decAt at c; show S.n + j + 1 ≤ S.l.length; omega) rfl fun H3 h3 c3 => ?_
    refine ⟨_, by omega, j + 1, by omega, rfl, ?_, h3, c2.trans c3⟩
    have e1 : (decAt S).take (j + 1) = (decAt S).take j ++ [at_ (S.l.drop S.n) j] := by
      rw [List.take_add_one, show (decAt S)[j]? = _ from g1]
      rfl
    rw [e1, List.foldl_append, List.foldl_cons, List.foldl_nil]
    generalize (List.foldl decStep 0 ((decAt S).take j)) = v
    generalize at_ (S.l.drop S.n) j = x at g2 g3
    have e2 : (if (9223372036854775807 : Int) + 1 < (v : Int) * 10 + (x : Int) - 48 then (9223372036854775807 : Int) + 1 else (v : Int) * 10 + (x : Int) - 48) = ((decStep v x : Nat) : Int) := by
      unfold decStep G
      split <;> omega
    rw [← e2]
    rfl
  · refine if_no (fun z => c (look.mp z)) ?_
    have ej : j = (decAt S).length := by omega
    subst ej
    have k := q _ h2 c2
    have all : ∀ c ∈ decAt S, Rd24.digit c = true := fun x hx => by
      obtain ⟨i, hi⟩ := List.getElem?_of_mem hx
      have hlt := (List.getElem?_eq_some_iff.mp hi).1
      obtain ⟨g1, g2, g3⟩ := dec_at (r := S.l.drop S.n) hlt
      rw [show (decAt S)[i]? = _ from g1] at hi
      cases hi
      unfold Rd24.digit
      simp
      omega
    rw [List.take_length, clamp0 all]
    unfold decV at k
    simp only [cx_K, cx_w, cx_P, tSeq, tAsg, gName, tRet, tRetN, tNext, tDrop, tIfS, tIf, tAnd, tOr, tNot, tAndV, tOrV, tNotV, tTest, tB, tOp, tUn, tC, tVar, rI0, rI, rU, rEq, rNe, tCons, tNil, tCB, tCall, tMeth, tMake, tSl, tPart, tNoPart, tFld, sFld, sFldAug, L2.rAdd, L2.rSub, L2.start, decide_eq_true_eq, List.map_cons, List.map_nil, List.length_cons, List.length_nil, Nat.sub_self, Nat.reduceAdd, Nat.reduceSub, List.replicate_zero, List.replicate_succ, List.replicate, List.append_nil, List.cons_append, List.nil_append, List.getElem?_cons_zero, List.getElem?_cons_succ, List.set_cons_zero, List.set_cons_succ, Option.some.injEq, V.int.injEq, V.bl.injEq, V.str.injEq, V.ref.injEq, scal_int, scal_str, Bool.false_eq_true, if_false, if_true, List.cons.injEq, and_true, true_and, exists_and_left, exists_eq_left', exists_eq_left, exists_eq_right, exists_eq_right', exists_eq, exists_eq', exists_const, and_assoc]
    generalize Rd24.valueOf 10 (decAt S) = v at k
    by_cases cv : 9223372036854775807 < v
    · rw [if_pos cv] at k
      rw [if_pos (by unfold G; omega)]
      exact k
    · rw [if_neg cv] at k
      rw [if_neg (by unfold G; omega), show min v (G + 1) = v by unfold G; omega]
      exact k
end
end Prog
namespace Prog
open PySem PySem.Spec PyProof.Rows L2 Own Tk
section
variable {P : Program} {w : World} {K : PySem.W.Frag} {mg : Str → Option Value} {base : Heap} {a : Ads} {C p : Addr} {H H' : Hp} {S S' : Sc}
/-- the token that is here -/
def tokS (S : Sc) : Option (Rd24.Tok × Nat) := Rd24.tokenOf (S.l.drop S.n) S.line (S.n - S.ls + 1)
theorem big_at {r : List Nat} {k : Nat} (h : at_ r k ≠ 256) : k < r.length := by
  apply Classical.byContradiction
  intro z
  exact h (by unfold at_; rw [List.getElem?_eq_none (by omega)]; rfl)
def spNum (K : PySem.W.Frag) (C : Addr) : Sp := fun vs H Q _ => ∃ p S x, vs = [.ref p] ∧ ScAt K C H p S ∧ S.l[S.n]? = some x ∧ Rd24.digit x = true ∧ (tokS S = none → ∀ H', Chg p H H' → Q .non H') ∧
  (∀ t k, tokS S = some (t, k) → ∀ H', ScAt K C H' p (S.to (S.n + k)) → Chg p H H' → Q (.int t.n) H')
theorem m_Scanner_read_number (T : Txt w K mg a) : Mth P w K mg base CX0 a.c_Scanner 4 "read_number" ["self"] (spNum K a.c_Scanner) := by
  refine mth_of T.f_Scanner_read_number sc_Scanner_read_number (fun _ _ _ _ _ _ us hl => match us, hl with | [_], _ => rfl) (fun vs H Q E h => by obtain ⟨p, S, x, rfl, _⟩ := h; rfl) fun f cdv A outer s H vs Q E hr h => ?_
  obtain ⟨p, S, x, rfl, hS, hx, hd, q1, q2⟩ := h
  refine ⟨_, (pss_cons (ps_if (PW.pt (pw_and (pt_cmpR op_eq (pe_mth (pv 0) T.c_Scanner (m_Scanner_byte_ahead T) (hr.mono (by decide)) pass0 (pa_cons pe_int pa_nil)) pe_int (nomark _)) (pw_and1 (pt_cmpR op_eq (pe_mth (pv 0) T.c_Scanner (m_Scanner_byte_ahead T) (hr.mono (by decide)) pass0 (pa_cons pe_int pa_nil)) (pe_gv T.g_LOWER_X) (nomark _))))) (pss_one (ps_set (i := 1) sc_Scanner_read_number.nd rfl (Or.inl rfl) (pe_mth0 (pv 0) T.c_Scanner (m_Scanner_read_hex_number T) (hr.mono (by decide)) pass0))) (pss_one (ps_set (i := 1) sc_Scanner_read_number.nd rfl (Or.inl rfl) (pe_mth0 (pv 0) T.c_Scanner (m_Scanner_read_decimal_number T) (hr.mono (by decide)) pass0))))
      (pss_one (ps_ret (pe_ifExp (pt_val (pe_dfn (d_is_name_byte T) (hr.mono (by decide)) pass0 (pa_cons (pe_mth (pv 0) T.c_Scanner (m_Scanner_byte_ahead T) (hr.mono (by decide)) pass0 (pa_cons pe_int pa_nil)) pa_nil))) pe_non (pv 1))))), ?_⟩
  obtain ⟨dx, hp⟩ := hS.ob
  have dc := drop_cons hx
  -- the end: is a letter right behind?
  have fin : ∀ (H1 : Hp) (S1 : Sc) (v : V), ScAt K a.c_Scanner H1 p S1 → Chg p H H1 → (Rd24.inName (at_ (S1.l.drop S1.n) 0) = true → tokS S = none) → (Rd24.inName (at_ (S1.l.drop S1.n) 0) = false → ∀ H', ScAt K a.c_Scanner H' p S1 → Chg p H H' → Q v H') →
      tRet (tIf (tB (tCall (spTest Rd24.inName) [] E0 (tCons (tMeth a.c_Scanner "byte_ahead" (spAhead K a.c_Scanner) [] E0 (tVar 0) (tCons (tC (.int 0)) tNil)) tNil))) (tC .non) (tVar 1)) { nx := fun _ H' => Q .non H', rt := Q } [some (.ref p), some v] H1 := by
    intro H1 S1 v h1 c1 k1 k2
    obtain ⟨dx1, hp1⟩ := h1.ob
    refine ⟨_, rfl, p, dx1, _, rfl, hp1, no_Scanner_byte_ahead, p, S1, 0, rfl, h1, _, rfl, fun H2 s2 => ⟨_, rfl, ?_⟩⟩
    by_cases c : Rd24.inName (at_ (S1.l.drop S1.n) 0) = true
    · exact if_yes c (q1 (k1 c) _ (c1.trans (Chg.of s2)))
    · exact if_no c ⟨_, rfl, k2 (Bool.not_eq_true _ |>.mp c) _ (h1.same s2) (c1.trans (Chg.of s2))⟩
  refine ⟨_, rfl, p, dx, _, rfl, hp, no_Scanner_byte_ahead, p, S, 0, rfl, hS, rfl, _, rfl, ?_⟩
  have edrop : S.l.drop (S.n + 2) = (S.l.drop (S.n + 1)).drop 1 := by rw [List.drop_drop]
  have decB : ¬ (x = 48 ∧ at_ (S.l.drop S.n) 1 = 120) → tMeth a.c_Scanner "read_decimal_number" (spDecN K a.c_Scanner) [] E0 (tVar 0) tNil [some (.ref p), none] H (fun v H1 =>
      tRet (tIf (tB (tCall (spTest Rd24.inName) [] E0 (tCons (tMeth a.c_Scanner "byte_ahead" (spAhead K a.c_Scanner) [] E0 (tVar 0) (tCons (tC (.int 0)) tNil)) tNil))) (tC .non) (tVar 1)) { nx := fun _ H' => Q .non H', rt := Q } [some (.ref p), some v] H1) := by
    intro hn
    refine ⟨_, rfl, p, dx, _, rfl, hp, no_Scanner_read_decimal_number, p, S, rfl, hS, fun H1 h1 c1 => ?_⟩
    have e := tok_dec (c := x) (r := S.l.drop (S.n + 1)) (line := S.line) (col := S.n - S.ls + 1) hd (by rw [← dc]; exact hn)
    rw [← dc] at e
    have ea : at_ ((S.to (S.n + (decAt S).length)).l.drop (S.to (S.n + (decAt S).length)).n) 0 = at_ (S.l.drop S.n) (decAt S).length := at_go _ _ _
    refine fin H1 _ _ h1 c1 (fun z => ?_) (fun z H' h' c' => ?_)
    · unfold tokS
      rw [ea] at z
      rw [e, if_pos (.inr z)]
    · rw [ea] at z
      unfold decV
      by_cases big : 9223372036854775807 < Rd24.valueOf 10 (decAt S)
      · rw [if_pos big]
        exact q1 (by unfold tokS; rw [e, if_pos (.inl big)]) _ c'
      · rw [if_neg big]
        exact q2 ⟨2, decAt S, ((Rd24.valueOf 10 (decAt S) : Nat) : Int), S.line, S.n - S.ls + 1⟩ (decAt S).length (by unfold tokS; rw [e, if_neg (fun y => y.elim big fun y => by rw [show (S.l.drop S.n).takeWhile Rd24.digit = decAt S from rfl, z] at y; cases y)]; rfl) _ h' c'
  rw [at_some hx]
  by_cases e1 : x = 48
  · subst e1
    refine if_yes (by decide) ?_
    refine ⟨_, rfl, p, dx, _, rfl, hp, no_Scanner_byte_ahead, p, S, 1, rfl, hS, rfl, _, rfl, ?_⟩
    by_cases e2 : at_ (S.l.drop S.n) 1 = 120
    · have h2 : S.n + 2 ≤ S.l.length := by
        have := big_at (r := S.l.drop S.n) (k := 1) (by rw [e2]; decide)
        rw [List.length_drop] at this
        omega
      refine if_yes (by rw [e2]; decide) ?_
      refine ⟨_, rfl, p, dx, _, rfl, hp, no_Scanner_read_hex_number, p, S, rfl, hS, h2, fun H1 h1 c1 => ?_⟩
      have e := tok_hex (r := S.l.drop (S.n + 1)) (line := S.line) (col := S.n - S.ls + 1) (by rw [← dc]; exact e2)
      rw [← dc, ← edrop] at e
      have ea : at_ ((S.to (S.n + 2 + (hex16 (hexRest S)).length)).l.drop (S.to (S.n + 2 + (hex16 (hexRest S)).length)).n) 0 = at_ (S.l.drop S.n) (2 + (hex16 (hexRest S)).length) := by
        show at_ (S.l.drop (S.n + 2 + (hex16 (hexRest S)).length)) 0 = _
        rw [Nat.add_assoc]
        exact at_go _ _ _
      refine fin H1 _ _ h1 c1 (fun z => ?_) (fun z H' h' c' => ?_)
      · unfold tokS
        rw [ea] at z
        rw [e, if_pos (.inr z)]
      · rw [ea] at z
        unfold hexV
        by_cases em : (hex16 (hexRest S)).isEmpty = true
        · rw [if_pos em]
          exact q1 (by unfold tokS; rw [e, if_pos (.inl em)]) _ c'
        · rw [if_neg em]
          refine q2 _ (2 + (hex16 (hexRest S)).length) (by unfold tokS; rw [e, if_neg (fun y => y.elim em fun y => by rw [show S.l.drop (S.n + 2) = hexRest S from rfl, z] at y; cases y)]; rfl) _ ?_ c'
          rw [← Nat.add_assoc]
          exact h'
    · refine if_no (by simp; omega) ?_
      exact decB (fun z => e2 z.2)
  · refine if_no (by simp; omega) ?_
    exact decB (fun z => e1 z.1)
/-! ### strings -/
theorem one_of {r : List Nat} : oneByte r = none ∨ ∃ y, oneByte r = some y := by
  cases oneByte r with
  | none => exact .inl rfl
  | some y => exact .inr ⟨y, rfl⟩
/-- one byte of a string's inside is read; where it can't be, the scanner is of no more use -/
def spOne (K : PySem.W.Frag) (C : Addr) (ok : Sc → Prop) : Sp := fun vs H Q _ => ∃ p S, vs = [.ref p] ∧ ScAt K C H p S ∧ ok S ∧ (oneByte (S.l.drop S.n) = none → ∀ H', Chg p H H' → Q .non H') ∧
  (∀ y, oneByte (S.l.drop S.n) = some y → ∀ H', ScAt K C H' p (S.to (S.n + y.2)) → Chg p H H' → Q (.int (y.1 : Nat)) H')
theorem esc_get (c : Nat) : valV tab_ESCAPES (Sum.inl (c : Int)) = if c = 110 then some (.int 10) else if c = 116 then some (.int 9) else if c = 92 then some (.int 92) else if c = 34 then some (.int 34) else none := by
  unfold tab_ESCAPES
  by_cases h1 : c = 110
  · subst h1; decide
  · by_cases h2 : c = 116
    · subst h2; decide
    · by_cases h3 : c = 92
      · subst h3; decide
      · by_cases h4 : c = 34
        · subst h4; decide
        · rw [if_neg h1, if_neg h2, if_neg h3, if_neg h4]
          rw [valV_neg (by simp; omega), valV_neg (by simp; omega), valV_neg (by simp; omega), valV_neg (by simp; omega)]
          rfl
/-- self.place += k, wherever that is -/
theorem aug_any (T : Txt w K mg a) (hS : ScAt K a.c_Scanner H p S) (k : Nat) {D : Ends} {σ : L2.St} (hσ : σ[0]? = some (some (.ref p))) (q : ∀ H', (S.n + k ≤ S.l.length → ScAt K a.c_Scanner H' p (S.to (S.n + k))) → Chg p H H' → D.nx σ H') :
    sFldAug K (tVar 0) (tC (.int k)) L2.rAdd "place" D σ H := by
  obtain ⟨dx, hp⟩ := hS.ob
  refine ⟨_, hσ, p, a.c_Scanner, dx, _, _, rfl, hp, T.c_Scanner, T.na_Scanner_place, lk_Scanner_place, _, _, rfl, rfl, dx, _, hp, (by show 5 < 1000; decide), ?_⟩
  rw [put_Scanner_place]
  have := hS.ls
  exact q _ (fun hle => hS.set (S.to (S.n + k)) hle (by show S.ls ≤ S.n + k; omega)) Chg.upd
theorem m_Scanner_read_escape (T : Txt w K mg a) : Mth P w K mg base CX0 a.c_Scanner 3 "read_escape" ["self"] (spOne K a.c_Scanner fun S => at_ (S.l.drop S.n) 0 = 92) := by
  refine mth_of T.f_Scanner_read_escape sc_Scanner_read_escape (fun _ _ _ _ _ _ us hl => match us, hl with | [_], _ => rfl) (fun vs H Q E h => by obtain ⟨p, S, rfl, _⟩ := h; rfl) fun f cdv A outer s H vs Q E hr h => ?_
  obtain ⟨p, S, rfl, hS, h92, q1, q2⟩ := h
  refine ⟨_, (pss_cons (ps_if (pt_cmpR op_ne (pe_mth (pv 0) T.c_Scanner (m_Scanner_byte_ahead T) (hr.mono (by decide)) pass0 (pa_cons pe_int pa_nil)) (pe_gv T.g_LOWER_X) (nomark _)) (pss_cons (ps_set (i := 1) sc_Scanner_read_escape.nd rfl (Or.inl rfl) (pe_tabget (pe_gv T.g_ESCAPES) (pe_mth (pv 0) T.c_Scanner (m_Scanner_byte_ahead T) (hr.mono (by decide)) pass0 (pa_cons pe_int pa_nil)) ⟨rfl, rfl, rfl, rfl⟩))
      (pss_cons (ps_fldaug (pv 0) pe_int in_add)
      (pss_one (ps_ret (pv 1))))) pss_nil)
      (pss_cons (ps_set (i := 2) sc_Scanner_read_escape.nd rfl (Or.inl rfl) (pe_dfn (d_hex_worth T) (hr.mono (by decide)) pass0 (pa_cons (pe_mth (pv 0) T.c_Scanner (m_Scanner_byte_ahead T) (hr.mono (by decide)) pass0 (pa_cons pe_int pa_nil)) pa_nil)))
      (pss_cons (ps_set (i := 3) sc_Scanner_read_escape.nd rfl (Or.inl rfl) (pe_dfn (d_hex_worth T) (hr.mono (by decide)) pass0 (pa_cons (pe_mth (pv 0) T.c_Scanner (m_Scanner_byte_ahead T) (hr.mono (by decide)) pass0 (pa_cons pe_int pa_nil)) pa_nil)))
      (pss_cons (ps_fldaug (pv 0) pe_int in_add)
      (pss_one (ps_ret (pe_ifExp (PW.pt (pw_or (pt_cmpR op_isN (pv 2) pe_non (nomark _)) (pw_or1 (pt_cmpR op_isN (pv 3) pe_non (nomark _))))) pe_non (pe_op op_add (pe_op op_mul (pv 2) pe_int) (pv 3))))))))), ?_⟩
  obtain ⟨dx, hp⟩ := hS.ob
  have bnd : ∀ y, oneByte (S.l.drop S.n) = some y → S.n + y.2 ≤ S.l.length := fun y e => by
    have := one_len e
    rw [List.length_drop] at this
    have := hS.le
    omega
  refine ⟨_, rfl, p, dx, _, rfl, hp, no_Scanner_byte_ahead, p, S, 1, rfl, hS, rfl, _, rfl, ?_⟩
  by_cases cx : at_ (S.l.drop S.n) 1 = 120
  · refine if_no (by rw [cx]; decide) ?_
    refine ⟨_, rfl, p, dx, _, rfl, hp, no_Scanner_byte_ahead, p, S, 2, rfl, hS, _, rfl, fun H1 s1 => ?_⟩
    have h1 := hS.same s1
    obtain ⟨dx1, hp1⟩ := h1.ob
    refine ⟨_, rfl, p, dx1, _, rfl, hp1, no_Scanner_byte_ahead, p, S, 3, rfl, h1, _, rfl, fun H2 s2 => ?_⟩
    have h2 := h1.same s2
    refine aug_any T h2 4 rfl fun H3 h3 c3 => ?_
    have e := one_hex (p := Rd24.hexOf (at_ (S.l.drop S.n) 2)) (q := Rd24.hexOf (at_ (S.l.drop S.n) 3)) h92 cx rfl rfl
    have c4 : Chg p H H3 := (Chg.of (s1.trans s2)).trans c3
    cases hh : Rd24.hexOf (at_ (S.l.drop S.n) 2) with
    | none =>
      rw [hh] at e
      simp only [cx_K, cx_w, cx_P, tSeq, tAsg, gName, tRet, tRetN, tNext, tDrop, tIfS, tIf, tAnd, tOr, tNot, tAndV, tOrV, tNotV, tTest, tB, tOp, tUn, tC, tVar, rI0, rI, rU, rEq, rNe, tCons, tNil, tCB, tCall, tMeth, tMake, tSl, tPart, tNoPart, tFld, sFld, sFldAug, L2.rAdd, L2.rSub, L2.start, decide_eq_true_eq, List.map_cons, List.map_nil, List.length_cons, List.length_nil, Nat.sub_self, Nat.reduceAdd, Nat.reduceSub, List.replicate_zero, List.replicate_succ, List.replicate, List.append_nil, List.cons_append, List.nil_append, List.getElem?_cons_zero, List.getElem?_cons_succ, List.set_cons_zero, List.set_cons_succ, Option.some.injEq, V.int.injEq, V.bl.injEq, V.str.injEq, V.ref.injEq, scal_int, scal_str, Bool.false_eq_true, if_false, if_true, List.cons.injEq, and_true, true_and, exists_and_left, exists_eq_left', exists_eq_left, exists_eq_right, exists_eq_right', exists_eq, exists_eq', exists_const, and_assoc]
      refine if_yes rfl ?_
      exact q1 e _ c4
    | some x =>
      cases hl : Rd24.hexOf (at_ (S.l.drop S.n) 3) with
      | none =>
        rw [hh, hl] at e
        simp only [cx_K, cx_w, cx_P, tSeq, tAsg, gName, tRet, tRetN, tNext, tDrop, tIfS, tIf, tAnd, tOr, tNot, tAndV, tOrV, tNotV, tTest, tB, tOp, tUn, tC, tVar, rI0, rI, rU, rEq, rNe, tCons, tNil, tCB, tCall, tMeth, tMake, tSl, tPart, tNoPart, tFld, sFld, sFldAug, L2.rAdd, L2.rSub, L2.start, decide_eq_true_eq, List.map_cons, List.map_nil, List.length_cons, List.length_nil, Nat.sub_self, Nat.reduceAdd, Nat.reduceSub, List.replicate_zero, List.replicate_succ, List.replicate, List.append_nil, List.cons_append, List.nil_append, List.getElem?_cons_zero, List.getElem?_cons_succ, List.set_cons_zero, List.set_cons_succ, Option.some.injEq, V.int.injEq, V.bl.injEq, V.str.injEq, V.ref.injEq, scal_int, scal_str, Bool.false_eq_true, if_false, if_true, List.cons.injEq, and_true, true_and, exists_and_left, exists_eq_left', exists_eq_left, exists_eq_right, exists_eq_right', exists_eq, exists_eq', exists_const, and_assoc]
        refine if_no (by simp [optN]) (if_yes rfl ?_)
        exact q1 e _ c4
      | some y =>
        rw [hh, hl] at e
        simp only [cx_K, cx_w, cx_P, tSeq, tAsg, gName, tRet, tRetN, tNext, tDrop, tIfS, tIf, tAnd, tOr, tNot, tAndV, tOrV, tNotV, tTest, tB, tOp, tUn, tC, tVar, rI0, rI, rU, rEq, rNe, tCons, tNil, tCB, tCall, tMeth, tMake, tSl, tPart, tNoPart, tFld, sFld, sFldAug, L2.rAdd, L2.rSub, L2.start, decide_eq_true_eq, List.map_cons, List.map_nil, List.length_cons, List.length_nil, Nat.sub_self, Nat.reduceAdd, Nat.reduceSub, List.replicate_zero, List.replicate_succ, List.replicate, List.append_nil, List.cons_append, List.nil_append, List.getElem?_cons_zero, List.getElem?_cons_succ, List.set_cons_zero, List.set_cons_succ, Option.some.injEq, V.int.injEq, V.bl.injEq, V.str.injEq, V.ref.injEq, scal_int, scal_str, Bool.false_eq_true, if_false, if_true, List.cons.injEq, and_true, true_and, exists_and_left, exists_eq_left', exists_eq_left, exists_eq_right, exists_eq_right', exists_eq, exists_eq', exists_const, and_assoc]
        refine if_no (by simp [optN]) (if_no (by simp [optN]) ⟨_, rfl, .inr ⟨by decide, by decide⟩, _, rfl, ?_⟩)
        exact q2 _ e _ (h3 (bnd _ e)) c4
  · refine if_yes (by simp; omega) ?_
    refine ⟨a.v_ESCAPES, tab_ESCAPES, T.t_ESCAPES, rfl, _, rfl, p, dx, _, rfl, hp, no_Scanner_byte_ahead, p, S, 1, rfl, hS, Sum.inl _, rfl, ?_⟩
    rw [esc_get]
    refine aug_any T hS 2 rfl fun H3 h3 c3 => ⟨_, rfl, ?_⟩
    have e : oneByte (S.l.drop S.n) = (if at_ (S.l.drop S.n) 1 = 110 then some (10, 2) else if at_ (S.l.drop S.n) 1 = 116 then some (9, 2) else if at_ (S.l.drop S.n) 1 = 92 then some (92, 2) else if at_ (S.l.drop S.n) 1 = 34 then some (34, 2) else none) := by
      unfold oneByte
      rw [if_pos h92, if_pos cx]
    generalize at_ (S.l.drop S.n) 1 = c at e cx
    by_cases k1 : c = 110
    · rw [if_pos k1] at e ⊢
      exact q2 _ e _ (h3 (bnd _ e)) c3
    · rw [if_neg k1] at e ⊢
      by_cases k2 : c = 116
      · rw [if_pos k2] at e ⊢
        exact q2 _ e _ (h3 (bnd _ e)) c3
      · rw [if_neg k2] at e ⊢
        by_cases k3 : c = 92
        · rw [if_pos k3] at e ⊢
          exact q2 _ e _ (h3 (bnd _ e)) c3
        · rw [if_neg k3] at e ⊢
          by_cases k4 : c = 34
          · rw [if_pos k4] at e ⊢
            exact q2 _ e _ (h3 (bnd _ e)) c3
          · rw [if_neg k4] at e ⊢
            exact q1 e _ c3
theorem m_Scanner_read_string_byte (T : Txt w K mg a) : Mth P w K mg base CX0 a.c_Scanner 4 "read_string_byte" ["self"] (spOne K a.c_Scanner fun S => True) := by
  refine mth_of T.f_Scanner_read_string_byte sc_Scanner_read_string_byte (fun _ _ _ _ _ _ us hl => match us, hl with | [_], _ => rfl) (fun vs H Q E h => by obtain ⟨p, S, rfl, _⟩ := h; rfl) fun f cdv A outer s H vs Q E hr h => ?_
  obtain ⟨p, S, rfl, hS, _, q1, q2⟩ := h
  refine ⟨_, (pss_cons (ps_set (i := 1) sc_Scanner_read_string_byte.nd rfl (Or.inl rfl) (pe_mth (pv 0) T.c_Scanner (m_Scanner_byte_ahead T) (hr.mono (by decide)) pass0 (pa_cons pe_int pa_nil)))
      (pss_cons (ps_if (pt_cmpR op_eq (pv 1) (pe_gv T.g_BACKSLASH) (nomark _)) (pss_one (ps_ret (pe_mth0 (pv 0) T.c_Scanner (m_Scanner_read_escape T) (hr.mono (by decide)) pass0))) pss_nil)
      (pss_cons (ps_fldaug (pv 0) pe_int in_add)
      (pss_one (ps_ret (pe_ifExp (PW.pt (pw_and (pt_cmpR op_le pe_int (pv 1) (nomark _)) (pw_and1 (pt_cmpR op_le (pv 1) pe_int (nomark _))))) (pv 1) pe_non)))))), ?_⟩
  obtain ⟨dx, hp⟩ := hS.ob
  refine ⟨_, rfl, p, dx, _, rfl, hp, no_Scanner_byte_ahead, p, S, 0, rfl, hS, ?_⟩
  by_cases c : at_ (S.l.drop S.n) 0 = 92
  · simp only [cx_K, cx_w, cx_P, tSeq, tAsg, gName, tRet, tRetN, tNext, tDrop, tIfS, tIf, tAnd, tOr, tNot, tAndV, tOrV, tNotV, tTest, tB, tOp, tUn, tC, tVar, rI0, rI, rU, rEq, rNe, tCons, tNil, tCB, tCall, tMeth, tMake, tSl, tPart, tNoPart, tFld, sFld, sFldAug, L2.rAdd, L2.rSub, L2.start, decide_eq_true_eq, List.map_cons, List.map_nil, List.length_cons, List.length_nil, Nat.sub_self, Nat.reduceAdd, Nat.reduceSub, List.replicate_zero, List.replicate_succ, List.replicate, List.append_nil, List.cons_append, List.nil_append, List.getElem?_cons_zero, List.getElem?_cons_succ, List.set_cons_zero, List.set_cons_succ, Option.some.injEq, V.int.injEq, V.bl.injEq, V.str.injEq, V.ref.injEq, scal_int, scal_str, Bool.false_eq_true, if_false, if_true, List.cons.injEq, and_true, true_and, exists_and_left, exists_eq_left', exists_eq_left, exists_eq_right, exists_eq_right', exists_eq, exists_eq', exists_const, and_assoc, HO.ins.injEq, upd_same, T.c_Token, T.na_Token_kind, lk_Token_kind, put_Token_kind, ini_Token_kind, T.na_Token_value, lk_Token_value, put_Token_value, ini_Token_value, T.na_Token_line, lk_Token_line, put_Token_line, ini_Token_line, T.na_Token_column, lk_Token_column, put_Token_column, ini_Token_column, T.c_Scanner, T.na_Scanner_text, lk_Scanner_text, put_Scanner_text, ini_Scanner_text, T.na_Scanner_place, lk_Scanner_place, put_Scanner_place, ini_Scanner_place, T.na_Scanner_line, lk_Scanner_line, put_Scanner_line, ini_Scanner_line, T.na_Scanner_line_start, lk_Scanner_line_start, put_Scanner_line_start, ini_Scanner_line_start, T.na_Scanner_words, lk_Scanner_words, put_Scanner_words, ini_Scanner_words, no_Scanner_byte_ahead, no_Scanner_skip_remark, no_Scanner_skip_blank, no_Scanner_skip_to_token, no_Scanner_read_token, no_Scanner_kind_here, no_Scanner_read_value, no_Scanner_read_name, no_Scanner_read_number, no_Scanner_read_hex_number, no_Scanner_read_decimal_number, no_Scanner_read_string, no_Scanner_read_string_byte, no_Scanner_read_escape, no_Scanner_read_sign, hp]
    refine if_yes (by omega) ?_
    exact ⟨p, S, rfl, hS, c, q1, q2⟩
  · refine ⟨_, rfl, rfl, _, rfl, ?_⟩
    refine if_no (by simp; omega) ?_
    refine aug_any T hS 1 rfl fun H3 h3 c3 => ?_
    have e : oneByte (S.l.drop S.n) = if 32 ≤ at_ (S.l.drop S.n) 0 ∧ at_ (S.l.drop S.n) 0 ≤ 126 then some (at_ (S.l.drop S.n) 0, 1) else none := by
      unfold oneByte
      rw [if_neg c]
    have b : ∀ y, oneByte (S.l.drop S.n) = some y → S.n + y.2 ≤ S.l.length := fun y e => by
      have := one_len e
      rw [List.length_drop] at this
      have := hS.le
      omega
    simp only [cx_K, cx_w, cx_P, tSeq, tAsg, gName, tRet, tRetN, tNext, tDrop, tIfS, tIf, tAnd, tOr, tNot, tAndV, tOrV, tNotV, tTest, tB, tOp, tUn, tC, tVar, rI0, rI, rU, rEq, rNe, tCons, tNil, tCB, tCall, tMeth, tMake, tSl, tPart, tNoPart, tFld, sFld, sFldAug, L2.rAdd, L2.rSub, L2.start, decide_eq_true_eq, List.map_cons, List.map_nil, List.length_cons, List.length_nil, Nat.sub_self, Nat.reduceAdd, Nat.reduceSub, List.replicate_zero, List.replicate_succ, List.replicate, List.append_nil, List.cons_append, List.nil_append, List.getElem?_cons_zero, List.getElem?_cons_succ, List.set_cons_zero, List.set_cons_succ, Option.some.injEq, V.int.injEq, V.bl.injEq, V.str.injEq, V.ref.injEq, scal_int, scal_str, Bool.false_eq_true, if_false, if_true, List.cons.injEq, and_true, true_and, exists_and_left, exists_eq_left', exists_eq_left, exists_eq_right, exists_eq_right', exists_eq, exists_eq', exists_const, and_assoc]
    generalize at_ (S.l.drop S.n) 0 = x at e
    by_cases k1 : 32 ≤ x ∧ x ≤ 126
    · rw [if_pos k1] at e
      refine if_yes (by omega) (if_yes (by omega) ?_)
      exact q2 _ e _ (h3 (b _ e)) c3
    · rw [if_neg k1] at e
      by_cases k2 : 32 ≤ x
      · exact if_yes (by omega) (if_no (by omega) (q1 e _ c3))
      · exact if_no (by omega) (q1 e _ c3)
end
end Prog
namespace Prog
open PySem PySem.Spec PyProof.Rows L2 Own Tk
section
variable {P : Program} {w : World} {K : PySem.W.Frag} {mg : Str → Option Value} {base : Heap} {a : Ads} {C p : Addr} {H H' : Hp} {S S' : Sc}
def spStr (K : PySem.W.Frag) (C : Addr) : Sp := fun vs H Q _ => ∃ p S, vs = [.ref p] ∧ ScAt K C H p S ∧ S.l[S.n]? = some 34 ∧ (tokS S = none → ∀ H', Chg p H H' → Q .non H') ∧
  (∀ t k, tokS S = some (t, k) → ∀ H' r, ScAt K C H' p (S.to (S.n + k)) → Chg p H H' → H r = none → H' r = some (.tup (byteVs t.b)) → Q (.ref r) H')
theorem m_Scanner_read_string (T : Txt w K mg a) : Mth P w K mg base CX0 a.c_Scanner 5 "read_string" ["self"] (spStr K a.c_Scanner) := by
  refine mth_of T.f_Scanner_read_string sc_Scanner_read_string (fun _ _ _ _ _ _ us hl => match us, hl with | [_], _ => rfl) (fun vs H Q E h => by obtain ⟨p, S, rfl, _⟩ := h; rfl) fun f cdv A outer s H vs Q E hr h => ?_
  obtain ⟨p, S, rfl, hS, hx, q1, q2⟩ := h
  refine ⟨_, (pss_cons (ps_fldaug (pv 0) pe_int in_add)
      (pss_cons (ps_set (i := 1) sc_Scanner_read_string.nd rfl (Or.inl rfl) (pe_lst pa_nil))
      (pss_cons (ps_while PassesOwn.never (pt_cmpR op_ne (pe_mth (pv 0) T.c_Scanner (m_Scanner_byte_ahead T) (hr.mono (by decide)) pass0 (pa_cons pe_int pa_nil)) (pe_gv T.g_QUOTE) (nomark _)) (pss_cons (ps_set (i := 2) sc_Scanner_read_string.nd rfl (Or.inl rfl) (pe_mth0 (pv 0) T.c_Scanner (m_Scanner_read_string_byte T) (hr.mono (by decide)) pass0))
      (pss_cons (ps_if (PW.pt (pw_or (pt_cmpR op_isN (pv 2) pe_non (nomark _)) (pw_or1 (pt_cmpR op_eq (pe_callB call_len_seq (by rfl) T.n_len PySem.boot_len (pa_cons (pv 1) pa_nil)) (pe_gv T.g_LONGEST_STRING) (nomark _))))) (pss_one (ps_ret pe_non)) pss_nil)
      (pss_one (ps_expr (pe_bm PySem.F.plainAttrs_list PySem.F.slot_list_append PySem.F.type_list_append mt_append (pv 1) (pa_cons (pv 2) pa_nil)))))))
      (pss_cons (ps_fldaug (pv 0) pe_int in_add)
      (pss_one (ps_ret (pe_callTy call_tuple_of (by rfl) T.n_tuple (by decide +kernel) (pa_cons (pv 1) pa_nil)))))))), ?_⟩
  have hlt := (List.getElem?_eq_some_iff.mp hx).1
  have dc := drop_cons hx
  have tokE : ∀ o, Rd24.tokenOf (34 :: S.l.drop (S.n + 1)) S.line (S.n - S.ls + 1) = o → tokS S = o := fun o e => by unfold tokS; rw [dc]; exact e
  generalize hr0 : S.l.drop (S.n + 1) = r at dc tokE
  have rlen : r.length = S.l.length - (S.n + 1) := by rw [← hr0, List.length_drop]
  refine aug_place T hS 1 hlt rfl fun H1 h1 c1 => ?_
  obtain ⟨dx1, hp1⟩ := h1.ob
  refine ⟨by decide, fun L nL => ?_⟩
  have nL0 : H L = none := c1.free nL
  have sL := Same.new (o := .lst []) nL
  have hpL : p ≠ L := ne_of_none hp1 nL
  refine ⟨fun m σ H' => ∃ acc k v, m = r.length - k ∧ σ = [some (.ref p), some (.ref L), v] ∧ H' L = some (.lst (byteVs acc)) ∧ acc.length ≤ 1024 ∧ Ins r acc k ∧ ScAt K a.c_Scanner H' p (S.to (S.n + 1 + k)) ∧ Chg p H H',
    ⟨_, [], 0, none, rfl, rfl, upd_same, by decide, ins_zero r, h1.same sL, c1.trans (Chg.of sL)⟩, ?_⟩
  rintro m σ H2 ⟨acc, k, v, rfl, rfl, hL, hacc, I, h2, c2⟩
  obtain ⟨dx2, hp2⟩ := h2.ob
  have ed : (S.to (S.n + 1 + k)).l.drop (S.to (S.n + 1 + k)).n = r.drop k := by
    rw [← hr0, List.drop_drop]
    rfl
  refine ⟨_, rfl, p, dx2, _, rfl, hp2, no_Scanner_byte_ahead, p, _, 0, rfl, h2, rfl, _, rfl, ?_⟩
  rw [ed]
  by_cases cq : at_ (r.drop k) 0 = 34
  · refine if_no (by simp; omega) ?_
    have e := tokE _ (ins_end (line := S.line) (col := S.n - S.ls + 1) I cq hacc)
    have klt : k < r.length := by
      have := big_at (r := r.drop k) (k := 0) (by rw [cq]; decide)
      rw [List.length_drop] at this
      omega
    refine aug_place T h2 1 (by show S.n + 1 + k + 1 ≤ S.l.length; omega) rfl fun H3 h3 c3 => ?_
    obtain ⟨dx3, hp3⟩ := h3.ob
    have hL3 : H3 L = some (.lst (byteVs acc)) := c3.at hpL.symm hL
    refine ⟨_, rfl, L, _, rfl, .inl ⟨SqL.of hL3, fun t nt => ?_⟩⟩
    refine q2 _ _ e _ t ?_ ((c2.trans c3).trans (Chg.of (Same.new nt))) ((c2.trans c3).free nt) upd_same
    have h4 := h3.same (Same.new (o := .tup (byteVs acc)) nt)
    rw [show S.n + (k + 2) = S.n + 1 + k + 1 by omega]
    exact h4
  · refine if_yes (by simp; omega) ?_
    refine ⟨_, fun σ' H' z => z, ?_⟩
    have bad : tokS S = none → ∀ H' , Chg p H2 H' → Q .non H' := fun e H' c => q1 e _ (c2.trans c)
    refine ⟨_, rfl, p, dx2, _, rfl, hp2, no_Scanner_read_string_byte, p, _, rfl, h2, trivial, ?_, ?_⟩
    · rw [ed]
      intro e H3 c3
      have tn := tokE _ (bad_string (line := S.line) (col := S.n - S.ls + 1) (ins_bad I cq e))
      simp only [cx_K, cx_w, cx_P, tSeq, tAsg, gName, tRet, tRetN, tNext, tDrop, tIfS, tIf, tAnd, tOr, tNot, tAndV, tOrV, tNotV, tTest, tB, tOp, tUn, tC, tVar, rI0, rI, rU, rEq, rNe, tCons, tNil, tCB, tCall, tMeth, tMake, tSl, tPart, tNoPart, tFld, sFld, sFldAug, L2.rAdd, L2.rSub, L2.start, decide_eq_true_eq, List.map_cons, List.map_nil, List.length_cons, List.length_nil, Nat.sub_self, Nat.reduceAdd, Nat.reduceSub, List.replicate_zero, List.replicate_succ, List.replicate, List.append_nil, List.cons_append, List.nil_append, List.getElem?_cons_zero, List.getElem?_cons_succ, List.set_cons_zero, List.set_cons_succ, Option.some.injEq, V.int.injEq, V.bl.injEq, V.str.injEq, V.ref.injEq, scal_int, scal_str, Bool.false_eq_true, if_false, if_true, List.cons.injEq, and_true, true_and, exists_and_left, exists_eq_left', exists_eq_left, exists_eq_right, exists_eq_right', exists_eq, exists_eq', exists_const, and_assoc]
      exact bad tn _ c3
    · rw [ed]
      intro y e H3 h3 c3
      have hL3 : H3 L = some (.lst (byteVs acc)) := c3.at hpL.symm hL
      obtain ⟨dx3, hp3⟩ := h3.ob
      have J := ins_more I cq e
      have l1 := one_len e
      rw [List.length_drop] at l1
      refine ⟨_, rfl, rfl, _, rfl, ?_⟩
      refine if_no (by simp) ?_
      refine ⟨_, rfl, L, _, rfl, .inl (SqL.of hL3), rfl, _, rfl, ?_⟩
      have blen : (byteVs acc).length = acc.length := List.length_map _
      rw [blen]
      by_cases full : acc.length = 1024
      · refine if_yes (by simp; omega) ?_
        exact bad (tokE _ (ins_long (line := S.line) (col := S.n - S.ls + 1) I cq e full)) _ c3
      · refine if_no (by simp; omega) ?_
        refine ⟨_, rfl, .inl ⟨rfl, _, SqL.of hL3⟩, _, rfl, L, _, _, rfl, rfl, hL3, ?_, ?_⟩
        · rw [blen]
          have : (1024 : Nat) < sizeLine := by decide
          omega
        · have cu : Chg p H (upd H3 L (.lst (byteVs acc ++ [V.int (y.1 : Nat)]))) := by
            refine ⟨fun b o nb eb => ?_, fun o e => ⟨_, by rw [upd_ne hpL]; exact hp3⟩⟩
            rw [upd_ne (ne_of_none eb nL0)]
            exact (c2.trans c3).at nb eb
          refine ⟨_, by have := l1.1; have := I.1; omega, acc ++ [y.1], k + y.2, _, rfl, rfl, ?_, by rw [List.length_append]; simp; omega, J, ?_, cu⟩
          · rw [upd_same]
            unfold byteVs
            rw [List.map_append]
            rfl
          · have e5 : S.n + 1 + (k + y.2) = S.n + 1 + k + y.2 := by omega
            rw [e5]
            exact hS.chg cu (S' := S.to (S.n + 1 + k + y.2)) (dx := dx3) (by rw [upd_ne hpL]; exact hp3) rfl rfl rfl h3.le h3.ls
/-! ### signs -/
/-- a sign's text in the program -/
def signStr (b : List Nat) : Str := if b = [37] then "rem" else ⟨b.toArray⟩
theorem two_get (c : Nat) : valV tab_SIGNS_WITH_EQUALS (Sum.inl (c : Int)) = if c = 61 ∨ c = 33 ∨ c = 60 ∨ c = 62 then some (.str (signStr [c, 61])) else none := by
  unfold tab_SIGNS_WITH_EQUALS
  by_cases h1 : c = 61
  · subst h1; decide +kernel
  · by_cases h2 : c = 33
    · subst h2; decide +kernel
    · by_cases h3 : c = 60
      · subst h3; decide +kernel
      · by_cases h4 : c = 62
        · subst h4; decide +kernel
        · rw [if_neg (by omega), valV_neg (by simp; omega), valV_neg (by simp; omega), valV_neg (by simp; omega), valV_neg (by simp; omega)]
          rfl
theorem one_get (c : Nat) : valV tab_SIGNS (Sum.inl (c : Int)) = if Rd24.ONE.contains c = true then some (.str (signStr [c])) else none := by
  have e : Rd24.ONE = [40, 41, 123, 125, 91, 93, 44, 59, 58, 46, 61, 60, 62, 43, 45, 42, 47, 37] := by decide
  have all : ∀ x ∈ Rd24.ONE, valV tab_SIGNS (Sum.inl (x : Int)) = some (.str (signStr [x])) := by decide +kernel
  by_cases h : Rd24.ONE.contains c = true
  · rw [if_pos h]
    exact all c (List.contains_iff_mem.mp h)
  · rw [if_neg h]
    have hn : ¬ c ∈ ([40, 41, 123, 125, 91, 93, 44, 59, 58, 46, 61, 60, 62, 43, 45, 42, 47, 37] : List Nat) := fun z => h (List.contains_iff_mem.mpr (by rw [e]; exact z))
    simp only [List.mem_cons, List.not_mem_nil, or_false, not_or] at hn
    unfold tab_SIGNS
    repeat rw [valV_neg (by simp; omega)]
    rfl
def spSign (K : PySem.W.Frag) (C : Addr) : Sp := fun vs H Q _ => ∃ p S x, vs = [.ref p] ∧ ScAt K C H p S ∧ S.l[S.n]? = some x ∧ Rd24.letter x = false ∧ Rd24.digit x = false ∧ x ≠ 34 ∧ (tokS S = none → ∀ H', Chg p H H' → Q .non H') ∧
  (∀ t k, tokS S = some (t, k) → ∀ H', ScAt K C H' p (S.to (S.n + k)) → Chg p H H' → Q (.str (signStr t.b)) H')
theorem m_Scanner_read_sign (T : Txt w K mg a) : Mth P w K mg base CX0 a.c_Scanner 3 "read_sign" ["self"] (spSign K a.c_Scanner) := by
  refine mth_of T.f_Scanner_read_sign sc_Scanner_read_sign (fun _ _ _ _ _ _ us hl => match us, hl with | [_], _ => rfl) (fun vs H Q E h => by obtain ⟨p, S, x, rfl, _⟩ := h; rfl) fun f cdv A outer s H vs Q E hr h => ?_
  obtain ⟨p, S, x, rfl, hS, hx, hl, hd, hq, q1, q2⟩ := h
  refine ⟨_, (pss_cons (ps_set (i := 1) sc_Scanner_read_sign.nd rfl (Or.inl rfl) (pe_mth (pv 0) T.c_Scanner (m_Scanner_byte_ahead T) (hr.mono (by decide)) pass0 (pa_cons pe_int pa_nil)))
      (pss_cons (ps_if (PW.pt (pw_and (pt_cmpR op_in_tab (pv 1) (pe_gv T.g_SIGNS_WITH_EQUALS) rfl) (pw_and1 (pt_cmpR op_eq (pe_mth (pv 0) T.c_Scanner (m_Scanner_byte_ahead T) (hr.mono (by decide)) pass0 (pa_cons pe_int pa_nil)) (pe_gv T.g_EQUALS) (nomark _))))) (pss_cons (ps_fldaug (pv 0) pe_int in_add)
      (pss_one (ps_ret (pe_ix ix_tab (pe_gv T.g_SIGNS_WITH_EQUALS) (pv 1) (fun _ _ => rfl))))) pss_nil)
      (pss_cons (ps_fldaug (pv 0) pe_int in_add)
      (pss_one (ps_ret (pe_tabget (pe_gv T.g_SIGNS) (pv 1) ⟨rfl, rfl, rfl, rfl⟩)))))), ?_⟩
  have hlt := (List.getElem?_eq_some_iff.mp hx).1
  have dc := drop_cons hx
  obtain ⟨dx, hp⟩ := hS.ob
  refine ⟨_, rfl, p, dx, _, rfl, hp, no_Scanner_byte_ahead, p, S, 0, rfl, hS, ?_⟩
  rw [at_some hx]
  -- one sign alone
  have lone : ¬ ((x = 61 ∨ x = 33 ∨ x = 60 ∨ x = 62) ∧ at_ (S.l.drop S.n) 1 = 61) → sFldAug K (tVar 0) (tC (.int ((1 : Nat) : Int))) L2.rAdd "place" { nx := tRet (tTabGet K w (tC (.ref a.v_SIGNS)) (tVar 1)) { nx := fun _ H' => Q .non H', rt := Q }, rt := Q } [some (.ref p), some (.int (x : Nat))] H := by
    intro hn
    refine aug_place T hS 1 hlt rfl fun H1 h1 c1 => ?_
    refine ⟨a.v_SIGNS, tab_SIGNS, T.t_SIGNS, rfl, _, rfl, Sum.inl _, rfl, ?_⟩
    have e := tok_one (c := x) (r := S.l.drop (S.n + 1)) (line := S.line) (col := S.n - S.ls + 1) (by rw [hl]; exact Bool.false_ne_true) (by rw [hd]; exact Bool.false_ne_true) hq (by rw [← dc]; exact hn)
    rw [← dc] at e
    rw [one_get]
    by_cases c : Rd24.ONE.contains x = true
    · rw [if_pos c] at e ⊢
      exact q2 _ _ e _ h1 c1
    · rw [if_neg c] at e ⊢
      exact q1 e _ c1
  refine ⟨_, rfl, a.v_SIGNS_WITH_EQUALS, tab_SIGNS_WITH_EQUALS, Sum.inl _, T.t_SIGNS_WITH_EQUALS, rfl, rfl, _, rfl, ?_⟩
  have tg := two_get x
  by_cases c1 : x = 61 ∨ x = 33 ∨ x = 60 ∨ x = 62
  · rw [if_pos c1] at tg
    refine if_yes (by rw [tg]; rfl) ?_
    refine ⟨_, rfl, p, dx, _, rfl, hp, no_Scanner_byte_ahead, p, S, 1, rfl, hS, rfl, _, rfl, ?_⟩
    by_cases c2 : at_ (S.l.drop S.n) 1 = 61
    · refine if_yes (by rw [c2]; decide) ?_
      have e := tok_two (c := x) (r := S.l.drop (S.n + 1)) (line := S.line) (col := S.n - S.ls + 1) c1 (by rw [← dc]; exact c2)
      rw [← dc] at e
      have b := big_at (r := S.l.drop S.n) (k := 1) (by rw [c2]; decide)
      rw [List.length_drop] at b
      refine aug_place T hS 2 (by omega) rfl fun H1 h1 c1 => ?_
      refine ⟨_, rfl, a.v_SIGNS_WITH_EQUALS, tab_SIGNS_WITH_EQUALS, Sum.inl _, _, T.t_SIGNS_WITH_EQUALS, rfl, rfl, tg, ?_⟩
      exact q2 _ _ e _ h1 c1
    · refine if_no (by simp; omega) ?_
      exact lone fun z => c2 z.2
  · rw [if_neg c1] at tg
    refine if_no (by rw [tg]; simp) ?_
    exact lone fun z => c1 z.1
end
end Prog
namespace Prog
open PySem PySem.Spec PyProof.Rows L2 Own Tk
section
variable {P : Program} {w : World} {K : PySem.W.Frag} {mg : Str → Option Value} {base : Heap} {a : Ads} {C p : Addr} {H H' : Hp} {S S' : Sc}
/-! ### words -/
def keyHash0 : Key → Int
  | .inl i => hashInt i
  | .inr _ => 0
theorem words_hash : ∀ q ∈ wordsTab, tupleKeyHash (mixKind P w) q.1 ≠ noneHash := by
  have h : (wordsTab.all fun q => q.1.all (fun k => k.isLeft) && decide (reduceHash (Builtin.Tuple.tupleHashOf (q.1.map keyHash0)) ≠ noneHash)) = true := by decide +kernel
  intro q hq
  have z := List.all_eq_true.mp h q hq
  rw [Bool.and_eq_true] at z
  have e : q.1.map (mixKind P w).hash = q.1.map keyHash0 := List.map_congr_left fun k hk => by
    have l := List.all_eq_true.mp z.1 k hk
    cases k with
    | inl i => rfl
    | inr x => cases l
  unfold tupleKeyHash
  rw [e]
  exact of_decide_eq_true z.2
def keysOf (b : List Nat) : List Key := b.map fun c => Sum.inl ((c : Nat) : Int)
theorem keysOf_inj : ∀ {b c : List Nat}, keysOf b = keysOf c → b = c
  | [], [], _ => rfl
  | [], _ :: _, e => nomatch e
  | _ :: _, [], e => nomatch e
  | x :: b, y :: c, e => by
    have e : (Sum.inl ((x : Nat) : Int) : Key) :: keysOf b = Sum.inl ((y : Nat) : Int) :: keysOf c := e
    injection e with e1 e2
    injection e1 with e1
    rw [keysOf_inj e2, show x = y by omega]
theorem words_get (b : List Nat) : valV wordsTab (keysOf b) = if Rd24.WORDS.contains b = true then some (.str ⟨b.toArray⟩) else none := by
  have all : ∀ c ∈ Rd24.WORDS, valV wordsTab (keysOf c) = some (.str ⟨c.toArray⟩) := by decide +kernel
  have keys : wordsTab.map (·.1) = Rd24.WORDS.map keysOf := by decide +kernel
  by_cases h : Rd24.WORDS.contains b = true
  · rw [if_pos h]
    exact all b (List.contains_iff_mem.mp h)
  · rw [if_neg h]
    cases e : valV wordsTab (keysOf b) with
    | none => rfl
    | some v =>
      have hm := valV_in e
      rw [keys] at hm
      obtain ⟨c, hc, ec⟩ := List.mem_map.mp hm
      rw [keysOf_inj ec] at hc
      exact absurd (List.contains_iff_mem.mpr hc) h
theorem byteVs_keys (b : List Nat) : byteVs b = (keysOf b).map kV := by
  unfold byteVs keysOf
  rw [List.map_map]
  rfl
/-! ### a token's value -/
/-- what stands for a token's value, as it's read -/
def RawV (H H' : Hp) (t : Rd24.Tok) (v : V) : Prop :=
  ((t.kind = 0 ∨ t.kind = 1 ∨ t.kind = 3) ∧ ∃ r, v = .ref r ∧ H r = none ∧ H' r = some (.tup (byteVs t.b))) ∨ (t.kind = 2 ∧ v = .int t.n) ∨ (t.kind = 4 ∧ v = .str (signStr t.b) ∧ t.b.length ≤ 2)
def spValue (K : PySem.W.Frag) (C : Addr) : Sp := fun vs H Q _ => ∃ p S x, vs = [.ref p, .str (kindStr x)] ∧ ScAt K C H p S ∧ S.l[S.n]? = some x ∧
  (tokS S = none → ∀ H', (Rd24.letter x = true → ∃ S', ScAt K C H' p S' ∧ S'.wa = S.wa) → Chg p H H' → Q .non H') ∧
  (∀ t k, tokS S = some (t, k) → ∀ H' v, ScAt K C H' p (S.to (S.n + k)) → Chg p H H' → RawV H H' t v → Q v H')
theorem m_Scanner_read_value (T : Txt w K mg a) : Mth P w K mg base CX0 a.c_Scanner 6 "read_value" ["self", "kind"] (spValue K a.c_Scanner) := by
  refine mth_of T.f_Scanner_read_value sc_Scanner_read_value (fun _ _ _ _ _ _ us hl => match us, hl with | [_, _], _ => rfl) (fun vs H Q E h => by obtain ⟨p, S, x, rfl, _⟩ := h; rfl) fun f cdv A outer s H vs Q E hr h => ?_
  obtain ⟨p, S, x, rfl, hS, hx, q1, q2⟩ := h
  refine ⟨_, (pss_cons (ps_if (pt_cmpR op_eq (pv 1) pe_str (nomark _)) (pss_one (ps_ret (pe_mth0 (pv 0) T.c_Scanner (m_Scanner_read_name T) (hr.mono (by decide)) pass0))) pss_nil)
      (pss_cons (ps_if (pt_cmpR op_eq (pv 1) pe_str (nomark _)) (pss_one (ps_ret (pe_mth0 (pv 0) T.c_Scanner (m_Scanner_read_number T) (hr.mono (by decide)) pass0))) pss_nil)
      (pss_one (ps_ret (pe_ifExp (pt_cmpR op_eq (pv 1) pe_str (nomark _)) (pe_mth0 (pv 0) T.c_Scanner (m_Scanner_read_string T) (hr.mono (by decide)) pass0) (pe_mth0 (pv 0) T.c_Scanner (m_Scanner_read_sign T) (hr.mono (by decide)) pass0)))))), ?_⟩
  have dc := drop_cons hx
  obtain ⟨dx, hp⟩ := hS.ob
  unfold kindStr
  by_cases c1 : Rd24.letter x = true
  · rw [if_pos c1]
    refine ⟨_, rfl, rfl, _, rfl, if_yes (by decide +kernel) ?_⟩
    have e := tok_name (r := S.l.drop (S.n + 1)) (line := S.line) (col := S.n - S.ls + 1) c1
    rw [← dc] at e
    refine ⟨_, rfl, p, dx, _, rfl, hp, no_Scanner_read_name, p, S, rfl, hS, fun big H1 h1 c => ?_, fun big H1 r h1 c nr hr => ?_⟩
    · exact q1 (by unfold tokS; rw [e]; exact if_pos big) _ (fun _ => ⟨_, h1, rfl⟩) c
    · refine q2 ⟨if Rd24.WORDS.contains (nameAt S) = true then 1 else 0, nameAt S, 0, S.line, S.n - S.ls + 1⟩ (nameAt S).length (by unfold tokS; rw [e]; exact if_neg big) _ _ h1 c (.inl ⟨?_, r, rfl, nr, hr⟩)
      show (if _ then 1 else 0) = 0 ∨ (if _ then 1 else 0) = 1 ∨ _
      split
      · exact .inr (.inl rfl)
      · exact .inl rfl
  · rw [if_neg c1]
    by_cases c2 : Rd24.digit x = true
    · rw [if_pos c2]
      refine ⟨_, rfl, rfl, _, rfl, if_no (by decide +kernel) ?_⟩
      refine ⟨_, rfl, rfl, _, rfl, if_yes (by decide +kernel) ?_⟩
      refine ⟨_, rfl, p, dx, _, rfl, hp, no_Scanner_read_number, p, S, x, rfl, hS, hx, c2, fun e H1 c => q1 e _ (fun z => absurd z c1) c, fun t k e H1 h1 c => q2 t k e _ _ h1 c (.inr (.inl ⟨?_, rfl⟩))⟩
      unfold tokS at e
      rw [dc] at e
      by_cases z : x = 48 ∧ at_ (x :: S.l.drop (S.n + 1)) 1 = 120
      · obtain ⟨rfl, z2⟩ := z
        rw [tok_hex z2] at e
        split at e
        · cases e
        · cases e; rfl
      · rw [tok_dec c2 z] at e
        split at e
        · cases e
        · cases e; rfl
    · rw [if_neg c2]
      by_cases c3 : x = 34
      · subst c3
        rw [if_pos rfl]
        refine ⟨_, rfl, rfl, _, rfl, if_no (by decide +kernel) ?_⟩
        refine ⟨_, rfl, rfl, _, rfl, if_no (by decide +kernel) ?_⟩
        refine ⟨_, rfl, rfl, _, rfl, if_yes (by decide +kernel) ?_⟩
        refine ⟨_, rfl, p, dx, _, rfl, hp, no_Scanner_read_string, p, S, rfl, hS, hx, fun e H1 c => q1 e _ (fun z => absurd z c1) c, fun t k e H1 r h1 c nr hr => q2 t k e _ _ h1 c (.inl ⟨.inr (.inr ?_), r, rfl, nr, hr⟩)⟩
        unfold tokS at e
        rw [dc, tok_string, Option.bind_eq_some_iff] at e
        obtain ⟨y, _, e⟩ := e
        split at e
        · cases e
        · cases e; rfl
      · rw [if_neg c3]
        refine ⟨_, rfl, rfl, _, rfl, if_no (by decide +kernel) ?_⟩
        refine ⟨_, rfl, rfl, _, rfl, if_no (by decide +kernel) ?_⟩
        refine ⟨_, rfl, rfl, _, rfl, if_no (by decide +kernel) ?_⟩
        refine ⟨_, rfl, p, dx, _, rfl, hp, no_Scanner_read_sign, p, S, x, rfl, hS, hx, Bool.not_eq_true _ |>.mp c1, Bool.not_eq_true _ |>.mp c2, c3, fun e H1 c => q1 e _ (fun z => absurd z c1) c, fun t k e H1 h1 c => q2 t k e _ _ h1 c (.inr (.inr ?_))⟩
        unfold tokS at e
        rw [dc] at e
        by_cases z : (x = 61 ∨ x = 33 ∨ x = 60 ∨ x = 62) ∧ at_ (x :: S.l.drop (S.n + 1)) 1 = 61
        · rw [tok_two z.1 z.2] at e
          cases e; exact ⟨rfl, rfl, Nat.le_refl 2⟩
        · rw [tok_one c1 c2 c3 z] at e
          split at e
          · cases e; exact ⟨rfl, rfl, by show 1 ≤ 2; decide⟩
          · cases e
/-! ### tokens as objects -/
def spTokIni (C : Addr) : Sp := fun vs H Q _ => ∃ p dx k v l c, vs = [.ref p, k, v, l, c] ∧ H p = some (.ins C dx []) ∧ ∀ H', H' p = some (.ins C dx [("kind", k), ("value", v), ("line", l), ("column", c)]) → Chg p H H' → Q .non H'
theorem i_Token (T : Txt w K mg a) : Ini P w K mg base CX0 a.c_Token 1 ["self", "kind", "value", "line", "column"] (spTokIni a.c_Token) := by
  refine ini_of T.f_Token_init sc_Token_init (fun _ _ _ _ _ _ us hl => match us, hl with | [_, _, _, _, _], _ => rfl) (fun vs H Q E h => by obtain ⟨p, dx, k, v, l, c, rfl, _⟩ := h; rfl) fun f cdv A outer s H vs Q E hr h => ?_
  obtain ⟨p, dx, k, v, l, c, rfl, hp, q⟩ := h
  refine ⟨_, (pss_cons (ps_fld (pv 0) (pv 1) rfl)
      (pss_cons (ps_fld (pv 0) (pv 2) rfl)
      (pss_cons (ps_fld (pv 0) (pv 3) rfl)
      (pss_one (ps_fld (pv 0) (pv 4) rfl))))), ?_⟩
  simp only [cx_K, cx_w, cx_P, tSeq, tAsg, gName, tRet, tRetN, tNext, tDrop, tIfS, tIf, tAnd, tOr, tNot, tAndV, tOrV, tNotV, tTest, tB, tOp, tUn, tC, tVar, rI0, rI, rU, rEq, rNe, tCons, tNil, tCB, tCall, tMeth, tMake, tSl, tPart, tNoPart, tFld, sFld, sFldAug, L2.rAdd, L2.rSub, L2.start, decide_eq_true_eq, List.map_cons, List.map_nil, List.length_cons, List.length_nil, Nat.sub_self, Nat.reduceAdd, Nat.reduceSub, List.replicate_zero, List.replicate_succ, List.replicate, List.append_nil, List.cons_append, List.nil_append, List.getElem?_cons_zero, List.getElem?_cons_succ, List.set_cons_zero, List.set_cons_succ, Option.some.injEq, V.int.injEq, V.bl.injEq, V.str.injEq, V.ref.injEq, scal_int, scal_str, Bool.false_eq_true, if_false, if_true, List.cons.injEq, and_true, true_and, exists_and_left, exists_eq_left', exists_eq_left, exists_eq_right, exists_eq_right', exists_eq, exists_eq', exists_const, and_assoc, HO.ins.injEq, upd_same, T.c_Token, T.na_Token_kind, lk_Token_kind, put_Token_kind, ini_Token_kind, T.na_Token_value, lk_Token_value, put_Token_value, ini_Token_value, T.na_Token_line, lk_Token_line, put_Token_line, ini_Token_line, T.na_Token_column, lk_Token_column, put_Token_column, ini_Token_column, T.c_Scanner, T.na_Scanner_text, lk_Scanner_text, put_Scanner_text, ini_Scanner_text, T.na_Scanner_place, lk_Scanner_place, put_Scanner_place, ini_Scanner_place, T.na_Scanner_line, lk_Scanner_line, put_Scanner_line, ini_Scanner_line, T.na_Scanner_line_start, lk_Scanner_line_start, put_Scanner_line_start, ini_Scanner_line_start, T.na_Scanner_words, lk_Scanner_words, put_Scanner_words, ini_Scanner_words, no_Scanner_byte_ahead, no_Scanner_skip_remark, no_Scanner_skip_blank, no_Scanner_skip_to_token, no_Scanner_read_token, no_Scanner_kind_here, no_Scanner_read_value, no_Scanner_read_name, no_Scanner_read_number, no_Scanner_read_hex_number, no_Scanner_read_decimal_number, no_Scanner_read_string, no_Scanner_read_string_byte, no_Scanner_read_escape, no_Scanner_read_sign, hp]
  refine ⟨by decide, by decide, by decide, by decide, q _ upd_same ?_⟩
  simp only [upd_upd]
  exact Chg.upd
def spScIni (K : PySem.W.Frag) (C : Addr) : Sp := fun vs H Q _ => ∃ p dx ta l, vs = [.ref p, .ref ta] ∧ H p = some (.ins C dx []) ∧ SqL K H ta (byteVs l) ∧ l.length ≤ 65536 ∧ ∀ H' wa, ScAt K C H' p ⟨ta, wa, l, 0, 1, 0⟩ → H wa = none → Chg p H H' → Q .non H'
theorem i_Scanner (T : Txt w K mg a) : Ini P w K mg base CX0 a.c_Scanner 2 ["self", "text"] (spScIni K a.c_Scanner) := by
  refine ini_of T.f_Scanner_init sc_Scanner_init (fun _ _ _ _ _ _ us hl => match us, hl with | [_, _], _ => rfl) (fun vs H Q E h => by obtain ⟨p, dx, ta, l, rfl, _⟩ := h; rfl) fun f cdv A outer s H vs Q E hr h => ?_
  obtain ⟨p, dx, ta, l, rfl, hp, ht, hl, q⟩ := h
  refine ⟨_, (pss_cons (ps_fld (pv 0) (pv 1) rfl)
      (pss_cons (ps_fld (pv 0) pe_int rfl)
      (pss_cons (ps_fld (pv 0) pe_int rfl)
      (pss_cons (ps_fld (pv 0) pe_int rfl)
      (pss_one (ps_fld (pv 0) (pe_dfn0 (d_words_by_bytes T) (hr.mono (by decide)) pass0) rfl)))))), ?_⟩
  simp only [cx_K, cx_w, cx_P, tSeq, tAsg, gName, tRet, tRetN, tNext, tDrop, tIfS, tIf, tAnd, tOr, tNot, tAndV, tOrV, tNotV, tTest, tB, tOp, tUn, tC, tVar, rI0, rI, rU, rEq, rNe, tCons, tNil, tCB, tCall, tMeth, tMake, tSl, tPart, tNoPart, tFld, sFld, sFldAug, L2.rAdd, L2.rSub, L2.start, decide_eq_true_eq, List.map_cons, List.map_nil, List.length_cons, List.length_nil, Nat.sub_self, Nat.reduceAdd, Nat.reduceSub, List.replicate_zero, List.replicate_succ, List.replicate, List.append_nil, List.cons_append, List.nil_append, List.getElem?_cons_zero, List.getElem?_cons_succ, List.set_cons_zero, List.set_cons_succ, Option.some.injEq, V.int.injEq, V.bl.injEq, V.str.injEq, V.ref.injEq, scal_int, scal_str, Bool.false_eq_true, if_false, if_true, List.cons.injEq, and_true, true_and, exists_and_left, exists_eq_left', exists_eq_left, exists_eq_right, exists_eq_right', exists_eq, exists_eq', exists_const, and_assoc, HO.ins.injEq, upd_same, T.c_Token, T.na_Token_kind, lk_Token_kind, put_Token_kind, ini_Token_kind, T.na_Token_value, lk_Token_value, put_Token_value, ini_Token_value, T.na_Token_line, lk_Token_line, put_Token_line, ini_Token_line, T.na_Token_column, lk_Token_column, put_Token_column, ini_Token_column, T.c_Scanner, T.na_Scanner_text, lk_Scanner_text, put_Scanner_text, ini_Scanner_text, T.na_Scanner_place, lk_Scanner_place, put_Scanner_place, ini_Scanner_place, T.na_Scanner_line, lk_Scanner_line, put_Scanner_line, ini_Scanner_line, T.na_Scanner_line_start, lk_Scanner_line_start, put_Scanner_line_start, ini_Scanner_line_start, T.na_Scanner_words, lk_Scanner_words, put_Scanner_words, ini_Scanner_words, no_Scanner_byte_ahead, no_Scanner_skip_remark, no_Scanner_skip_blank, no_Scanner_skip_to_token, no_Scanner_read_token, no_Scanner_kind_here, no_Scanner_read_value, no_Scanner_read_name, no_Scanner_read_number, no_Scanner_read_hex_number, no_Scanner_read_decimal_number, no_Scanner_read_string, no_Scanner_read_string_byte, no_Scanner_read_escape, no_Scanner_read_sign, hp]
  refine ⟨by decide, by decide, by decide, by decide, ?_⟩
  simp only [upd_upd]
  refine ⟨rfl, fun H2 d s2 nd hd => ?_⟩
  have hp2 := s2 _ _ upd_same
  simp only [cx_K, cx_w, cx_P, tSeq, tAsg, gName, tRet, tRetN, tNext, tDrop, tIfS, tIf, tAnd, tOr, tNot, tAndV, tOrV, tNotV, tTest, tB, tOp, tUn, tC, tVar, rI0, rI, rU, rEq, rNe, tCons, tNil, tCB, tCall, tMeth, tMake, tSl, tPart, tNoPart, tFld, sFld, sFldAug, L2.rAdd, L2.rSub, L2.start, decide_eq_true_eq, List.map_cons, List.map_nil, List.length_cons, List.length_nil, Nat.sub_self, Nat.reduceAdd, Nat.reduceSub, List.replicate_zero, List.replicate_succ, List.replicate, List.append_nil, List.cons_append, List.nil_append, List.getElem?_cons_zero, List.getElem?_cons_succ, List.set_cons_zero, List.set_cons_succ, Option.some.injEq, V.int.injEq, V.bl.injEq, V.str.injEq, V.ref.injEq, scal_int, scal_str, Bool.false_eq_true, if_false, if_true, List.cons.injEq, and_true, true_and, exists_and_left, exists_eq_left', exists_eq_left, exists_eq_right, exists_eq_right', exists_eq, exists_eq', exists_const, and_assoc, HO.ins.injEq, upd_same, T.c_Token, T.na_Token_kind, lk_Token_kind, put_Token_kind, ini_Token_kind, T.na_Token_value, lk_Token_value, put_Token_value, ini_Token_value, T.na_Token_line, lk_Token_line, put_Token_line, ini_Token_line, T.na_Token_column, lk_Token_column, put_Token_column, ini_Token_column, T.c_Scanner, T.na_Scanner_text, lk_Scanner_text, put_Scanner_text, ini_Scanner_text, T.na_Scanner_place, lk_Scanner_place, put_Scanner_place, ini_Scanner_place, T.na_Scanner_line, lk_Scanner_line, put_Scanner_line, ini_Scanner_line, T.na_Scanner_line_start, lk_Scanner_line_start, put_Scanner_line_start, ini_Scanner_line_start, T.na_Scanner_words, lk_Scanner_words, put_Scanner_words, ini_Scanner_words, no_Scanner_byte_ahead, no_Scanner_skip_remark, no_Scanner_skip_blank, no_Scanner_skip_to_token, no_Scanner_read_token, no_Scanner_kind_here, no_Scanner_read_value, no_Scanner_read_name, no_Scanner_read_number, no_Scanner_read_hex_number, no_Scanner_read_decimal_number, no_Scanner_read_string, no_Scanner_read_string_byte, no_Scanner_read_escape, no_Scanner_read_sign, hp2]
  have c2 : Chg p H H2 := Chg.upd.trans (Chg.of s2)
  have nd0 : H d = none := by
    rw [upd_ne (fun z => by rw [z, upd_same] at nd; cases nd)] at nd
    exact nd
  have hdp : d ≠ p := fun z => by rw [z, hp] at nd0; cases nd0
  have cu := c2.trans (Chg.upd (o := .ins a.c_Scanner dx [("text", .ref ta), ("place", .int 0), ("line", .int 1), ("line_start", .int 0), ("words", .ref d)]))
  refine ⟨by decide, q _ d ⟨⟨dx, upd_same⟩, seq_chg cu (.inr ⟨_, _, _, hp⟩) ht, ?_, Nat.zero_le _, Nat.le_refl _, hl⟩ nd0 cu⟩
  show upd H2 p _ d = _
  rw [upd_ne hdp]
  exact hd
/-! ### one token -/
def kindName : Nat → Str
  | 0 => "name"
  | 1 => "word"
  | 2 => "number"
  | 3 => "string"
  | 4 => "sign"
  | 5 => "end"
  | _ => "bad"
theorem kn0 : kindName 0 = ("name" : Str) := rfl
theorem kn1 : kindName 1 = ("word" : Str) := rfl
theorem kn5 : kindName 5 = ("end" : Str) := rfl
theorem kn6 : kindName 6 = ("bad" : Str) := rfl
def TokVal (H : Hp) (t : Rd24.Tok) (v : V) : Prop :=
  ((t.kind = 0 ∨ t.kind = 3) ∧ ∃ r, v = .ref r ∧ H r = some (.tup (byteVs t.b))) ∨ (t.kind = 1 ∧ v = .str ⟨t.b.toArray⟩ ∧ Rd24.WORDS.contains t.b = true) ∨ (t.kind = 2 ∧ v = .int t.n) ∨ (t.kind = 4 ∧ v = .str (signStr t.b) ∧ t.b.length ≤ 2) ∨ ((t.kind = 5 ∨ t.kind = 6) ∧ v = .non)
def TokAt (C : Addr) (H : Hp) (q : Addr) (t : Rd24.Tok) : Prop := ∃ dx v, H q = some (.ins C dx [("kind", .str (kindName t.kind)), ("value", v), ("line", .int (t.line : Nat)), ("column", .int (t.col : Nat))]) ∧ TokVal H t v
theorem tok_of {x : Nat} {r : List Nat} {line col k : Nat} {t : Rd24.Tok} (e : Rd24.tokenOf (x :: r) line col = some (t, k)) : t.line = line ∧ t.col = col ∧
    ((Rd24.letter x = true ∧ t.kind = if Rd24.WORDS.contains t.b = true then 1 else 0) ∨ (Rd24.letter x = false ∧ kindStr x = kindName t.kind ∧ (t.kind = 2 ∨ t.kind = 3 ∨ t.kind = 4))) := by
  unfold kindStr
  by_cases c1 : Rd24.letter x = true
  · rw [tok_name c1] at e
    split at e
    · cases e
    · cases e
      exact ⟨rfl, rfl, .inl ⟨c1, rfl⟩⟩
  · rw [if_neg c1]
    have c1' : Rd24.letter x = false := Bool.not_eq_true _ |>.mp c1
    by_cases c2 : Rd24.digit x = true
    · rw [if_pos c2]
      by_cases z : x = 48 ∧ at_ (x :: r) 1 = 120
      · obtain ⟨rfl, z2⟩ := z
        rw [tok_hex z2] at e
        split at e
        · cases e
        · cases e
          exact ⟨rfl, rfl, .inr ⟨c1', rfl, .inl rfl⟩⟩
      · rw [tok_dec c2 z] at e
        split at e
        · cases e
        · cases e
          exact ⟨rfl, rfl, .inr ⟨c1', rfl, .inl rfl⟩⟩
    · rw [if_neg c2]
      by_cases c3 : x = 34
      · subst c3
        rw [tok_string, Option.bind_eq_some_iff] at e
        obtain ⟨y, _, e⟩ := e
        split at e
        · cases e
        · cases e
          exact ⟨rfl, rfl, .inr ⟨c1', rfl, .inr (.inl rfl)⟩⟩
      · rw [if_neg c3]
        by_cases z : (x = 61 ∨ x = 33 ∨ x = 60 ∨ x = 62) ∧ at_ (x :: r) 1 = 61
        · rw [tok_two z.1 z.2] at e
          cases e
          exact ⟨rfl, rfl, .inr ⟨c1', rfl, .inr (.inr rfl)⟩⟩
        · rw [tok_one c1 c2 c3 z] at e
          split at e
          · cases e
            exact ⟨rfl, rfl, .inr ⟨c1', rfl, .inr (.inr rfl)⟩⟩
          · cases e
def spRead (K : PySem.W.Frag) (C CT : Addr) : Sp := fun vs H Q _ => ∃ p S, vs = [.ref p] ∧ ScAt K C H p S ∧ ∀ H' q t, TokAt CT H' q t → H q = none → Chg p H H' →
  ((t.kind ≤ 4 ∧ ∃ S', ScAt K C H' p S' ∧ S'.ta = S.ta ∧ S'.wa = S.wa ∧ S'.l = S.l ∧ S.n < S'.n ∧ TKs S = t :: TKs S') ∨ ((t.kind = 5 ∨ t.kind = 6) ∧ TKs S = [t])) → Q (.ref q) H'
/-- Token(kind, value, line, column): a new one -/
theorem mk_tok {C : Addr} {Q : VK} {H : Hp} {k v l c : V} (h : ∀ H' q dx, H q = none → Same H H' → H' q = some (.ins C dx [("kind", k), ("value", v), ("line", l), ("column", c)]) → Q (.ref q) H') :
    ∀ x dx, H x = none → H dx = none → dx ≠ x → spTokIni C [.ref x, k, v, l, c] (upd (upd H dx (.own x)) x (.ins C dx [])) (fun v H2 => v = .non ∧ Q (.ref x) H2) E0 := by
  intro x dx nx ndx ne
  refine ⟨x, dx, k, v, l, c, rfl, upd_same, fun H' hx cx => ⟨rfl, h H' x dx nx (fun b o e => ?_) hx⟩⟩
  refine cx.at (ne_of_none e nx) ?_
  rw [upd_ne (ne_of_none e nx), upd_ne (ne_of_none e ndx)]
  exact e
theorem m_Scanner_read_token (T : Txt w K mg a) : Mth P w K mg base CX0 a.c_Scanner 7 "read_token" ["self"] (spRead K a.c_Scanner a.c_Token) := by
  refine mth_of T.f_Scanner_read_token sc_Scanner_read_token (fun _ _ _ _ _ _ us hl => match us, hl with | [_], _ => rfl) (fun vs H Q E h => by obtain ⟨p, S, rfl, _⟩ := h; rfl) fun f cdv A outer s H vs Q E hr h => ?_
  obtain ⟨p, S, rfl, hS, q⟩ := h
  have hu := hu_of hr
  refine ⟨_, (pss_cons (ps_expr (pe_mth0 (pv 0) T.c_Scanner (m_Scanner_skip_to_token T) (hr.mono (by decide)) pass0))
      (pss_cons (ps_set (i := 1) sc_Scanner_read_token.nd rfl (Or.inl rfl) (pe_fld (pv 0) rfl))
      (pss_cons (ps_set (i := 2) sc_Scanner_read_token.nd rfl (Or.inl rfl) (pe_op op_add (pe_op op_sub (pe_fld (pv 0) rfl) (pe_fld (pv 0) rfl)) pe_int))
      (pss_cons (ps_if (pt_cmpR op_eq (pe_fld (pv 0) rfl) (pe_callB call_len_seq (by rfl) T.n_len PySem.boot_len (pa_cons (pe_fld (pv 0) rfl) pa_nil)) (nomark _)) (pss_one (ps_ret (pe_new T.k_Token (i_Token T) (hr.mono (by decide)) pass0 (pa_cons pe_str (pa_cons pe_non (pa_cons (pv 1) (pa_cons (pv 2) pa_nil))))))) pss_nil)
      (pss_cons (ps_set (i := 3) sc_Scanner_read_token.nd rfl (Or.inl rfl) (pe_mth0 (pv 0) T.c_Scanner (m_Scanner_kind_here T) (hr.mono (by decide)) pass0))
      (pss_cons (ps_set (i := 4) sc_Scanner_read_token.nd rfl (Or.inl rfl) (pe_mth (pv 0) T.c_Scanner (m_Scanner_read_value T) (hr.mono (by decide)) pass0 (pa_cons (pv 3) pa_nil)))
      (pss_cons (ps_if (PW.pt (pw_and (pt_cmpR op_eq (pv 3) pe_str (nomark _)) (pw_and1 (pt_cmpR (op_inT hu) (pv 4) (pe_fld (pv 0) rfl) rfl)))) (pss_one (ps_ret (pe_new T.k_Token (i_Token T) (hr.mono (by decide)) pass0 (pa_cons pe_str (pa_cons (pe_dget hu (pe_fld (pv 0) rfl) (pv 4) (fun _ _ => rfl)) (pa_cons (pv 1) (pa_cons (pv 2) pa_nil))))))) pss_nil)
      (pss_one (ps_ret (pe_new T.k_Token (i_Token T) (hr.mono (by decide)) pass0 (pa_cons (pe_ifExp (pt_cmpR op_isN (pv 4) pe_non (nomark _)) pe_str (pv 3)) (pa_cons (pv 4) (pa_cons (pv 1) (pa_cons (pv 2) pa_nil)))))))))))))), ?_⟩
  obtain ⟨dx, hp⟩ := hS.ob
  refine ⟨_, rfl, p, dx, _, rfl, hp, no_Scanner_skip_to_token, p, S, rfl, hS, fun H1 S1 h1 f1 f2 f3 f4 f5 at1 c1 => ?_⟩
  obtain ⟨dx1, hp1⟩ := h1.ob
  have hls := h1.ls
  simp only [cx_K, cx_w, cx_P, tSeq, tAsg, gName, tRet, tRetN, tNext, tDrop, tIfS, tIf, tAnd, tOr, tNot, tAndV, tOrV, tNotV, tTest, tB, tOp, tUn, tC, tVar, rI0, rI, rU, rEq, rNe, tCons, tNil, tCB, tCall, tMeth, tMake, tSl, tPart, tNoPart, tFld, sFld, sFldAug, L2.rAdd, L2.rSub, L2.start, decide_eq_true_eq, List.map_cons, List.map_nil, List.length_cons, List.length_nil, Nat.sub_self, Nat.reduceAdd, Nat.reduceSub, List.replicate_zero, List.replicate_succ, List.replicate, List.append_nil, List.cons_append, List.nil_append, List.getElem?_cons_zero, List.getElem?_cons_succ, List.set_cons_zero, List.set_cons_succ, Option.some.injEq, V.int.injEq, V.bl.injEq, V.str.injEq, V.ref.injEq, scal_int, scal_str, Bool.false_eq_true, if_false, if_true, List.cons.injEq, and_true, true_and, exists_and_left, exists_eq_left', exists_eq_left, exists_eq_right, exists_eq_right', exists_eq, exists_eq', exists_const, and_assoc, HO.ins.injEq, upd_same, T.c_Token, T.na_Token_kind, lk_Token_kind, put_Token_kind, ini_Token_kind, T.na_Token_value, lk_Token_value, put_Token_value, ini_Token_value, T.na_Token_line, lk_Token_line, put_Token_line, ini_Token_line, T.na_Token_column, lk_Token_column, put_Token_column, ini_Token_column, T.c_Scanner, T.na_Scanner_text, lk_Scanner_text, put_Scanner_text, ini_Scanner_text, T.na_Scanner_place, lk_Scanner_place, put_Scanner_place, ini_Scanner_place, T.na_Scanner_line, lk_Scanner_line, put_Scanner_line, ini_Scanner_line, T.na_Scanner_line_start, lk_Scanner_line_start, put_Scanner_line_start, ini_Scanner_line_start, T.na_Scanner_words, lk_Scanner_words, put_Scanner_words, ini_Scanner_words, no_Scanner_byte_ahead, no_Scanner_skip_remark, no_Scanner_skip_blank, no_Scanner_skip_to_token, no_Scanner_read_token, no_Scanner_kind_here, no_Scanner_read_value, no_Scanner_read_name, no_Scanner_read_number, no_Scanner_read_hex_number, no_Scanner_read_decimal_number, no_Scanner_read_string, no_Scanner_read_string_byte, no_Scanner_read_escape, no_Scanner_read_sign, hp1]
  have ecol : (S1.n : Int) - (S1.ls : Int) + 1 = ((S1.n - S1.ls + 1 : Nat) : Int) := by omega
  rw [ecol]
  refine ⟨_, .inl h1.tx, ?_⟩
  rw [List.length_map]
  by_cases ce : S1.n = S1.l.length
  · refine if_yes (by rw [ce]) ?_
    have e : TKs S = [⟨5, [], 0, S1.line, S1.n - S1.ls + 1⟩] := by
      rw [← f5]
      unfold TKs
      rw [List.drop_of_length_le (by omega), tk_nil]
    refine mk_tok fun H2 q2 dx2 n2 s2 h2 => ?_
    exact q H2 q2 ⟨5, [], 0, S1.line, S1.n - S1.ls + 1⟩ ⟨dx2, .non, kn5 ▸ h2, .inr (.inr (.inr (.inr ⟨.inl rfl, rfl⟩)))⟩ (c1.free n2) (c1.trans (Chg.of s2)) (.inr ⟨.inl rfl, e⟩)
  · refine if_no (by omega) ?_
    have hlt : S1.n < S1.l.length := by have := h1.le; omega
    have hx : S1.l[S1.n]? = some S1.l[S1.n] := List.getElem?_eq_getElem hlt
    generalize S1.l[S1.n] = x at hx
    have dc := drop_cons hx
    obtain ⟨nb, n35⟩ := at1 x hx
    have hn : ¬ (x = 10 ∨ x = 32 ∨ x = 9 ∨ x = 13 ∨ x = 35) := by
      unfold blank at nb
      simp at nb
      omega
    refine ⟨p, S1, x, rfl, h1, hx, fun H2 s2 => ?_⟩
    have h2 := h1.same s2
    have c2 : Chg p H H2 := c1.trans (Chg.of s2)
    obtain ⟨dx2, hp2⟩ := h2.ob
    refine ⟨dx2, _, hp2, no_Scanner_read_value, p, S1, x, rfl, h2, hx, fun e H3 hw c3 => ⟨rfl, ?_⟩, fun t k e H3 v h3 c3 rv => ⟨rfl, ?_⟩⟩
    · -- it can't be
      have et : TKs S = [⟨6, [], 0, S1.line, S1.n - S1.ls + 1⟩] := by
        rw [← f5]
        unfold TKs
        unfold tokS at e
        rw [dc] at e ⊢
        exact tk_none hn e
      have bad : ∀ x dx, H3 x = none → H3 dx = none → dx ≠ x → spTokIni a.c_Token [V.ref x, V.str (Str.ofString "bad"), V.non, V.int ↑S1.line, V.int ((S1.n - S1.ls + 1 : Nat) : Int)]
          (upd (upd H3 dx (HO.own x)) x (HO.ins a.c_Token dx [])) (fun v H2 => v = V.non ∧ Q (V.ref x) H2) E0 := by
        refine mk_tok fun H4 q4 dx4 n4 s4 h4 => ?_
        exact q H4 q4 ⟨6, [], 0, S1.line, S1.n - S1.ls + 1⟩ ⟨dx4, .non, kn6 ▸ h4, .inr (.inr (.inr (.inr ⟨.inr rfl, rfl⟩)))⟩ ((c2.trans c3).free n4) ((c2.trans c3).trans (Chg.of s4)) (.inr ⟨.inr rfl, et⟩)
      by_cases cl : Rd24.letter x = true
      · refine if_yes (by unfold kindStr; rw [if_pos cl]) ?_
        obtain ⟨S3, h3, w3⟩ := hw cl
        obtain ⟨dx3, hp3⟩ := h3.ob
        refine ⟨a.c_Scanner, dx3, _, hp3, T.c_Scanner, T.na_Scanner_words, _, lk_Scanner_words, .inl ⟨S3.wa, _, rfl, rfl, .inl h3.wd, words_hash, ?_⟩⟩
        simp only [cx_K, cx_w, cx_P, tSeq, tAsg, gName, tRet, tRetN, tNext, tDrop, tIfS, tIf, tAnd, tOr, tNot, tAndV, tOrV, tNotV, tTest, tB, tOp, tUn, tC, tVar, rI0, rI, rU, rEq, rNe, tCons, tNil, tCB, tCall, tMeth, tMake, tSl, tPart, tNoPart, tFld, sFld, sFldAug, L2.rAdd, L2.rSub, L2.start, decide_eq_true_eq, List.map_cons, List.map_nil, List.length_cons, List.length_nil, Nat.sub_self, Nat.reduceAdd, Nat.reduceSub, List.replicate_zero, List.replicate_succ, List.replicate, List.append_nil, List.cons_append, List.nil_append, List.getElem?_cons_zero, List.getElem?_cons_succ, List.set_cons_zero, List.set_cons_succ, Option.some.injEq, V.int.injEq, V.bl.injEq, V.str.injEq, V.ref.injEq, scal_int, scal_str, Bool.false_eq_true, if_false, if_true, List.cons.injEq, and_true, true_and, exists_and_left, exists_eq_left', exists_eq_left, exists_eq_right, exists_eq_right', exists_eq, exists_eq', exists_const, and_assoc]
        exact bad
      · refine if_no ?_ bad
        unfold kindStr
        rw [if_neg cl]
        split
        · decide +kernel
        · split <;> decide +kernel
    · -- it is t
      obtain ⟨dx3, hp3⟩ := h3.ob
      have c4 : Chg p H H3 := c2.trans c3
      have et : TKs S = t :: TKs (S1.to (S1.n + k)) := by
        rw [← f5]
        unfold TKs
        unfold tokS at e
        rw [dc] at e ⊢
        rw [tk_some hn e, ← dc]
        show t :: TK S1.line (S1.n - S1.ls + 1 + k) ((S1.l.drop S1.n).drop k) = t :: TK S1.line (S1.n + k - S1.ls + 1) (S1.l.drop (S1.n + k))
        rw [List.drop_drop, show S1.n + k - S1.ls + 1 = S1.n - S1.ls + 1 + k by omega]
      have k1 : 1 ≤ k := by
        unfold tokS at e
        rw [dc] at e
        exact tok_len e
      have good : ∀ (H5 : Hp) (q5 : Addr), TokAt a.c_Token H5 q5 t → H q5 = none → Same H3 H5 → t.kind ≤ 4 → Q (.ref q5) H5 := fun H5 q5 ha hn s5 hk =>
        q H5 q5 t ha hn (c4.trans (Chg.of s5)) (.inl ⟨hk, S1.to (S1.n + k), h3.same s5, f1, f2, f3, by show S.n < S1.n + k; omega, et⟩)
      unfold tokS at e
      rw [dc] at e
      obtain ⟨el, ec, ek⟩ := tok_of e
      have hnon : ∀ r : Addr, ¬ V.ref r = V.non := fun _ z => nomatch z
      rcases ek with ⟨cl, ek⟩ | ⟨cl, ek, hk⟩
      · -- a name or a word
        have hk01 : t.kind = 0 ∨ t.kind = 1 := by
          rw [ek]
          split
          · exact .inr rfl
          · exact .inl rfl
        obtain ⟨r, rfl, nr, hr3⟩ : ∃ r, v = .ref r ∧ H2 r = none ∧ H3 r = some (.tup (byteVs t.b)) := by
          rcases rv with ⟨_, z⟩ | ⟨z, _⟩ | ⟨z, _⟩
          · exact z
          · omega
          · omega
        refine if_yes (by unfold kindStr; rw [if_pos cl]) ?_
        have hg : DGet H3 S1.wa (.ref r) (valV wordsTab (keysOf t.b)) := DGet.t h3.wd (by rw [← byteVs_keys]; exact hr3)
        rw [words_get] at hg
        refine ⟨a.c_Scanner, dx3, _, hp3, T.c_Scanner, T.na_Scanner_words, _, lk_Scanner_words, .inr ⟨S1.wa, _, rfl, hg, _, rfl, ?_⟩⟩
        by_cases cw : Rd24.WORDS.contains t.b = true
        · rw [if_pos cw] at hg ek ⊢
          refine if_yes rfl ?_
          refine ⟨_, rfl, p, a.c_Scanner, dx3, _, _, rfl, hp3, T.c_Scanner, T.na_Scanner_words, lk_Scanner_words, _, rfl, S1.wa, _, rfl, hg, ?_⟩
          refine mk_tok fun H5 q5 dx5 n5 s5 h5 => ?_
          refine good H5 q5 ⟨dx5, _, ?_, .inr (.inl ⟨ek, rfl, cw⟩)⟩ (c4.free n5) s5 (by omega)
          rw [h5, ek, el, ec, kn1]
        · rw [if_neg cw] at hg ek ⊢
          refine if_no (by simp) (if_no (hnon r) ?_)
          refine mk_tok fun H5 q5 dx5 n5 s5 h5 => ?_
          refine good H5 q5 ⟨dx5, _, ?_, .inl ⟨.inl ek, r, rfl, s5 _ _ hr3⟩⟩ (c4.free n5) s5 (by omega)
          rw [h5, ek, el, ec, kn0]
          unfold kindStr
          rw [if_pos cl]
      · -- a number, a string, a sign
        have hvn : ¬ v = V.non := by
          rcases rv with ⟨_, r, z, _⟩ | ⟨_, z⟩ | ⟨_, z, _⟩ <;> (rw [z]; exact fun z => nomatch z)
        refine if_no ?_ (if_no hvn ?_)
        · rw [ek]
          rcases hk with z | z | z <;> (rw [z]; decide +kernel)
        · refine mk_tok fun H5 q5 dx5 n5 s5 h5 => ?_
          refine good H5 q5 ⟨dx5, v, ?_, ?_⟩ (c4.free n5) s5 (by omega)
          · rw [h5, ek, el, ec]
          · rcases rv with ⟨z, r, e1, e2, e3⟩ | ⟨z, e1⟩ | ⟨z, e1⟩
            · exact .inl ⟨.inr (by omega), r, e1, s5 _ _ e3⟩
            · exact .inr (.inr (.inl ⟨z, e1⟩))
            · exact .inr (.inr (.inr (.inl ⟨z, e1⟩)))
end
end Prog
namespace Prog
open PySem PySem.Spec PyProof.Rows L2 Own Tk
section
variable {P : Program} {w : World} {K : PySem.W.Frag} {mg : Str → Option Value} {base : Heap} {a : Ads} {C p q : Addr} {H H' : Hp} {S S' : Sc} {t : Rd24.Tok}
/-! ### tokens in a heap that goes on -/
theorem TokVal.keeps {v : V} (h : TokVal H t v) (c : ∀ r xs, H r = some (.tup xs) → H' r = some (.tup xs)) : TokVal H' t v := by
  rcases h with ⟨h1, r, h2, h3⟩ | h | h | h | h
  · exact .inl ⟨h1, r, h2, c _ _ h3⟩
  · exact .inr (.inl h)
  · exact .inr (.inr (.inl h))
  · exact .inr (.inr (.inr (.inl h)))
  · exact .inr (.inr (.inr (.inr h)))
theorem TokAt.same (h : TokAt C H q t) (s : Same H H') : TokAt C H' q t := by
  obtain ⟨dx, v, h1, h2⟩ := h
  exact ⟨dx, v, s _ _ h1, h2.keeps fun r xs e => s _ _ e⟩
/-- a list's change leaves tokens as they are -/
theorem TokAt.chg {L : Addr} {xs : List V} (h : TokAt C H q t) (hL : H L = some (.lst xs)) (c : Chg L H H') : TokAt C H' q t := by
  obtain ⟨dx, v, h1, h2⟩ := h
  exact ⟨dx, v, c.at (ne_of h1 hL (fun z => nomatch z)) h1, h2.keeps fun r xs e => c.at (ne_of e hL (fun z => nomatch z)) e⟩
abbrev Toks (C : Addr) (H : Hp) : List Addr → List Rd24.Tok → Prop := Paired (fun q t => TokAt C H q t)
theorem Toks.mono {qs : List Addr} {ts : List Rd24.Tok} (h : Toks C H qs ts) (f : ∀ q t, TokAt C H q t → TokAt C H' q t) : Toks C H' qs ts := Paired.mapP h f
theorem Toks.at {qs : List Addr} {ts : List Rd24.Tok} (h : Toks C H qs ts) : ∀ {i : Nat} {q : Addr}, qs[i]? = some q → ∃ t, ts[i]? = some t ∧ TokAt C H q t := by
  induction h with
  | nil => intro i q e; simp at e
  | cons r _ ih =>
    intro i q e
    cases i with
    | zero => simp at e; subst e; exact ⟨_, rfl, r⟩
    | succ i => exact ih (by simpa using e)
theorem Toks.snoc {qs : List Addr} {ts : List Rd24.Tok} (h : Toks C H qs ts) (r : TokAt C H q t) : Toks C H (qs ++ [q]) (ts ++ [t]) := Paired.snoc h r
theorem atI_last {α : Type} {xs : List α} {v : α} : atI (xs ++ [v]) (-1) = some v := by
  unfold atI ixN
  rw [if_neg (by decide), if_pos (by simp; omega)]
  show (xs ++ [v])[((-1 : Int) + ((xs ++ [v]).length : Nat)).toNat]? = some v
  rw [show ((-1 : Int) + ((xs ++ [v]).length : Nat)).toNat = xs.length by simp; omega]
  simp
/-! ### scan -/
def spScan (K : PySem.W.Frag) (CT : Addr) : Sp := fun vs H Q _ => ∃ ta l, vs = [.ref ta] ∧ SqL K H ta (byteVs l) ∧ l.length ≤ 65536 ∧
  ∀ H' L qs, H L = none → H' L = some (.lst (qs.map V.ref)) → Toks CT H' qs (Rd24.tokensOf l) → Same H H' → Q (.ref L) H'
/-- of the tokens up to here: all, or those ahead of the scanner's place -/
def Ahead (K : PySem.W.Frag) (C : Addr) (H : Hp) (p : Addr) (S0 : Sc) (ts : List Rd24.Tok) (last : Rd24.Tok) (m : Nat) : Prop :=
  (last.kind ≤ 4 ∧ ∃ S', ScAt K C H p S' ∧ S'.ta = S0.ta ∧ S'.wa = S0.wa ∧ S'.l = S0.l ∧ m = S0.l.length + 1 - S'.n ∧ TKs S0 = ts ++ [last] ++ TKs S') ∨ ((last.kind = 5 ∨ last.kind = 6) ∧ m = 0 ∧ TKs S0 = ts ++ [last])
theorem d_scan (T : Txt w K mg a) : Dfn P w K mg base CX0 8 "scan" ["text"] (spScan K a.c_Token) := by
  refine dfn_of T.f_scan sc_scan (fun _ _ _ _ _ _ us hl => match us, hl with | [_], _ => rfl) (fun vs H Q E h => by obtain ⟨ta, l, rfl, _⟩ := h; rfl) fun f cdv A outer s H vs Q E hr h => ?_
  obtain ⟨ta, l, rfl, ht, hl, q⟩ := h
  refine ⟨_, (pss_cons (ps_set (i := 1) sc_scan.nd rfl (Or.inl rfl) (pe_new T.k_Scanner (i_Scanner T) (hr.mono (by decide)) pass0 (pa_cons (pv 0) pa_nil)))
      (pss_cons (ps_set (i := 2) sc_scan.nd rfl (Or.inl rfl) (pe_lst (pa_cons (pe_mth0 (pv 1) T.c_Scanner (m_Scanner_read_token T) (hr.mono (by decide)) pass0) pa_nil)))
      (pss_cons (ps_while PassesOwn.never (pt_cmpR op_notIn_seq (pe_fld (pe_ix ix_list (pv 2) (pe_un un_neg pe_int) (fun _ _ => rfl)) rfl) (pe_tup (pa_cons pe_str (pa_cons pe_str pa_nil))) rfl) (pss_one (ps_expr (pe_bm PySem.F.plainAttrs_list PySem.F.slot_list_append PySem.F.type_list_append mt_append (pv 2) (pa_cons (pe_mth0 (pv 1) T.c_Scanner (m_Scanner_read_token T) (hr.mono (by decide)) pass0) pa_nil)))))
      (pss_one (ps_ret (pv 2)))))), ?_⟩
  -- scanner = Scanner(text)
  refine ⟨_, rfl, fun p dx np ndx nep => ⟨p, dx, ta, l, rfl, upd_same, ?_, hl, fun H1 wa h1 nwa c1 => ⟨rfl, ?_⟩⟩⟩
  · refine Same.seq (fun b o e => ?_) ht
    rw [upd_ne (ne_of_none e np), upd_ne (ne_of_none e ndx)]
    exact e
  have s1 : Same H H1 := by
    refine Chg.same (fun b o e => ?_) c1 np
    rw [upd_ne (ne_of_none e np), upd_ne (ne_of_none e ndx)]
    exact e
  obtain ⟨dx1, hp1⟩ := h1.ob
  generalize hS0 : (⟨ta, wa, l, 0, 1, 0⟩ : Sc) = S0 at h1 hp1
  have eTK : TKs S0 = Rd24.tokensOf l := by
    rw [← hS0]
    rfl
  -- found = [scanner.read_token()]
  refine ⟨_, rfl, p, dx1, _, rfl, hp1, no_Scanner_read_token, p, S0, rfl, h1, fun H2 q2 t2 a2 n2 c2 k2 => ⟨(by show 1 ≤ sizeLine; decide), fun L nL => ?_⟩⟩
  have s2 : Same H H2 := Chg.same s1 c2 np
  have sL := Same.new (o := .lst [V.ref q2]) nL
  have s3 : Same H (upd H2 L (.lst [V.ref q2])) := s2.trans sL
  have nL0 : H L = none := s2.free nL
  have first : ∃ m, Ahead K a.c_Scanner (upd H2 L (.lst [V.ref q2])) p S0 [] t2 m := by
    rcases k2 with ⟨k, S', g1, g2, g3, g4, g5, g6⟩ | ⟨k, g6⟩
    · exact ⟨_, .inl ⟨k, S', g1.same sL, g2, g3, g4, rfl, g6⟩⟩
    · exact ⟨0, .inr ⟨k, rfl, g6⟩⟩
  obtain ⟨m0, first⟩ := first
  refine ⟨fun m σ H' => ∃ qs ts q t, σ = [some (.ref ta), some (.ref p), some (.ref L)] ∧ H' L = some (.lst ((qs ++ [q]).map V.ref)) ∧ Toks a.c_Token H' (qs ++ [q]) (ts ++ [t]) ∧ Same H H' ∧ Ahead K a.c_Scanner H' p S0 ts t m,
    ⟨m0, [], [], q2, t2, rfl, upd_same, .cons (a2.same sL) .nil, s3, first⟩, ?_⟩
  rintro m σ H3 ⟨qs, ts, q3, t3, rfl, hL3, tk3, s3, k3⟩
  obtain ⟨t3', e3, a3⟩ := tk3.at (i := qs.length) (q := q3) (by simp)
  have el : (ts ++ [t3]).length = (qs ++ [q3]).length := (Paired.length tk3).symm
  have e3 : t3' = t3 := by
    rw [List.length_append, List.length_append] at el
    rw [List.getElem?_append_right (by simp at el; omega)] at e3
    have : qs.length - ts.length = 0 := by simp at el; omega
    rw [this] at e3
    exact (Option.some.inj e3).symm
  subst e3
  have a3k := a3
  obtain ⟨dx3, v3, hq3, val3⟩ := a3
  refine ⟨_, rfl, _, rfl, L, _, _, _, rfl, rfl, SqL.of hL3, (by rw [List.map_append]; exact atI_last), q3, a.c_Token, dx3, _, _, rfl, hq3, T.c_Token, T.na_Token_kind, lk_Token_kind, (by show 2 ≤ sizeLine; decide), fun u nu => ⟨u, _, rfl, .inr (SqT.of upd_same), rfl, rfl, _, rfl, ?_⟩⟩
  have su := Same.new (o := .tup [V.str "end", V.str "bad"]) nu
  have s4 := s3.trans su
  have hL4 := su _ _ hL3
  have tk4 := tk3.mono fun q t h => h.same su
  rcases k3 with ⟨k, S3, g1, g2, g3, g4, g5, g6⟩ | ⟨k, g5, g6⟩
  · refine if_yes ?_ ?_
    · have hk : t3'.kind = 0 ∨ t3'.kind = 1 ∨ t3'.kind = 2 ∨ t3'.kind = 3 ∨ t3'.kind = 4 := by omega
      rcases hk with z | z | z | z | z <;> (rw [z]; decide +kernel)
    · refine ⟨_, fun σ' H' z => z, ?_⟩
      have g1 := g1.same su
      obtain ⟨dx4, hp4⟩ := g1.ob
      have lp : L ≠ p := ne_of hL4 hp4 (fun z => nomatch z)
      refine ⟨_, rfl, .inl ⟨rfl, _, SqL.of hL4⟩, _, rfl, p, dx4, _, rfl, hp4, no_Scanner_read_token, p, S3, rfl, g1, fun H5 q5 t5 a5 n5 c5 k5 => ?_⟩
      have hL5 := c5.at lp hL4
      have s5 : Same H H5 := Chg.same s4 c5 np
      have len : (ts ++ [t3']).length ≤ 65537 := by
        have b := (tell_len l.length l 1 1 (Nat.le_refl _)).2
        have e : Rd24.tokensOf l = TK 1 1 l := rfl
        rw [← e, ← eTK, g6, List.length_append] at b
        omega
      refine ⟨L, _, _, rfl, rfl, hL5, ?_, ?_⟩
      · rw [List.length_map, ← el]
        have : (65537 : Nat) < sizeLine := by decide
        omega
      · have cu : Chg L H5 (upd H5 L (.lst ((qs ++ [q3]).map V.ref ++ [V.ref q5]))) := Chg.upd
        have s6 : Same H (upd H5 L (.lst ((qs ++ [q3]).map V.ref ++ [V.ref q5]))) := Chg.same s5 cu nL0
        have tk5 : Toks a.c_Token H5 (qs ++ [q3]) (ts ++ [t3']) := by
          refine tk4.mono fun q t h => ?_
          obtain ⟨dxx, v, e1, e2⟩ := h
          have qp : q ≠ p := fun z => by
            subst z
            rw [hp4] at e1
            injection Option.some.inj e1 with _ _ e
            injection e with e _
            injection e with e _
            exact absurd e (by decide +kernel)
          exact ⟨dxx, v, c5.at qp e1, e2.keeps fun r xs e => c5.at (ne_of e hp4 (fun z => nomatch z)) e⟩
        have tk6 := (tk5.snoc a5).mono fun q t h => h.chg hL5 cu
        have nxt : ∃ m', m' < m ∧ Ahead K a.c_Scanner (upd H5 L (.lst ((qs ++ [q3]).map V.ref ++ [V.ref q5]))) p S0 (ts ++ [t3']) t5 m' := by
          rcases k5 with ⟨k, S5, j1, j2, j3, j4, j5, j6⟩ | ⟨k, j6⟩
          · have sc : ScAt K a.c_Scanner (upd H5 L (.lst ((qs ++ [q3]).map V.ref ++ [V.ref q5]))) p S5 := by
              obtain ⟨⟨dxx, i1⟩, i2, i3, i4, i5, i6⟩ := j1
              refine ⟨⟨dxx, cu.at lp.symm i1⟩, ?_, cu.at (ne_of i3 hL5 (fun z => nomatch z)) i3, i4, i5, i6⟩
              have e1 : S5.ta = ta := by rw [j2, g2, ← hS0]
              have e2 : S5.l = l := by rw [j4, g4, ← hS0]
              rw [e1, e2]
              exact s6.seq ht
            refine ⟨_, ?_, .inl ⟨k, S5, sc, j2.trans g2, j3.trans g3, j4.trans g4, rfl, ?_⟩⟩
            · have := j1.le
              rw [j4, g4] at this
              omega
            · rw [g6, j6]
              simp
          · refine ⟨0, ?_, .inr ⟨k, rfl, ?_⟩⟩
            · have := g1.le
              rw [g4] at this
              omega
            · rw [g6, j6]
        obtain ⟨m', hm, ah⟩ := nxt
        exact ⟨m', hm, qs ++ [q3], ts ++ [t3'], q5, t5, rfl, by rw [upd_same]; simp, tk6, s6, ah⟩
  · refine if_no ?_ ?_
    · rcases k with z | z <;> (rw [z]; decide +kernel)
    · refine ⟨_, rfl, q _ L (qs ++ [q3]) nL0 hL4 ?_ s4⟩
      rw [← eTK, g6]
      exact tk4
/-! ### told -/
/-- what is told of a token behind its place -/
def tokVs (t : Rd24.Tok) : List V := if t.kind = 2 then [.int t.n] else byteVs t.b
theorem ords_bytes (b : List Nat) : ords ⟨b.toArray⟩ = byteVs b := by
  unfold ords byteVs
  simp
theorem word_bytes {b : List Nat} (h : Rd24.WORDS.contains b = true) : textBytes ⟨b.toArray⟩ = byteVs b ∧ b.length ≤ 1000 := by
  have all : ∀ c ∈ Rd24.WORDS, ¬ ((⟨c.toArray⟩ : Str) = "rem") ∧ c.length ≤ 1000 := by decide +kernel
  obtain ⟨h1, h2⟩ := all b (List.contains_iff_mem.mp h)
  refine ⟨?_, h2⟩
  unfold textBytes
  rw [if_neg h1, ords_bytes]
theorem sign_bytes {b : List Nat} (h : b.length ≤ 2) : textBytes (signStr b) = byteVs b ∧ (signStr b).cps.size ≤ 1000 := by
  unfold signStr
  by_cases e : b = [37]
  · rw [if_pos e, e]
    exact ⟨by decide +kernel, by decide +kernel⟩
  · rw [if_neg e]
    refine ⟨?_, by show b.toArray.size ≤ 1000; simp; omega⟩
    unfold textBytes
    rw [if_neg, ords_bytes]
    intro z
    have z2 := congrArg (fun s : Str => s.cps.size) z
    have e3 : (Str.ofString "rem").cps.size = 3 := by decide +kernel
    have z3 : b.length = 3 := by rw [← e3]; simpa using z2
    omega
def spTokBytes (K : PySem.W.Frag) (CT : Addr) : Sp := fun vs H Q _ => ∃ q t, vs = [.ref q] ∧ TokAt CT H q t ∧ t.kind ≤ 4 ∧ ∀ H' r, Same H H' → (SqL K H' r (tokVs t) ∨ SqT K H' r (tokVs t)) → Q (.ref r) H'
theorem d_token_bytes (T : Txt w K mg a) : Dfn P w K mg base CX0 2 "token_bytes" ["token"] (spTokBytes K a.c_Token) := by
  refine dfn_of T.f_token_bytes sc_token_bytes (fun _ _ _ _ _ _ us hl => match us, hl with | [_], _ => rfl) (fun vs H Q E h => by obtain ⟨q, t, rfl, _⟩ := h; rfl) fun f cdv A outer s H vs Q E hr h => ?_
  obtain ⟨q, t, rfl, ⟨dx, v, hq, val⟩, hk, k⟩ := h
  refine ⟨_, (pss_cons (ps_if (pt_cmpR op_eq (pe_fld (pv 0) rfl) pe_str (nomark _)) (pss_one (ps_ret (pe_lst (pa_cons (pe_fld (pv 0) rfl) pa_nil)))) pss_nil)
      (pss_one (ps_ret (pe_ifExp (pt_cmpR op_in_seq (pe_fld (pv 0) rfl) (pe_tup (pa_cons pe_str (pa_cons pe_str pa_nil))) rfl) (pe_dfn (d_written_bytes T) (hr.mono (by decide)) pass0 (pa_cons (pe_fld (pv 0) rfl) pa_nil)) (pe_fld (pv 0) rfl))))), ?_⟩
  unfold tokVs at k
  simp only [cx_K, cx_w, cx_P, tSeq, tAsg, gName, tRet, tRetN, tNext, tDrop, tIfS, tIf, tAnd, tOr, tNot, tAndV, tOrV, tNotV, tTest, tB, tOp, tUn, tC, tVar, rI0, rI, rU, rEq, rNe, tCons, tNil, tCB, tCall, tMeth, tMake, tSl, tPart, tNoPart, tFld, sFld, sFldAug, L2.rAdd, L2.rSub, L2.start, decide_eq_true_eq, List.map_cons, List.map_nil, List.length_cons, List.length_nil, Nat.sub_self, Nat.reduceAdd, Nat.reduceSub, List.replicate_zero, List.replicate_succ, List.replicate, List.append_nil, List.cons_append, List.nil_append, List.getElem?_cons_zero, List.getElem?_cons_succ, List.set_cons_zero, List.set_cons_succ, Option.some.injEq, V.int.injEq, V.bl.injEq, V.str.injEq, V.ref.injEq, scal_int, scal_str, Bool.false_eq_true, if_false, if_true, List.cons.injEq, and_true, true_and, exists_and_left, exists_eq_left', exists_eq_left, exists_eq_right, exists_eq_right', exists_eq, exists_eq', exists_const, and_assoc, HO.ins.injEq, upd_same, T.c_Token, T.na_Token_kind, lk_Token_kind, put_Token_kind, ini_Token_kind, T.na_Token_value, lk_Token_value, put_Token_value, ini_Token_value, T.na_Token_line, lk_Token_line, put_Token_line, ini_Token_line, T.na_Token_column, lk_Token_column, put_Token_column, ini_Token_column, T.c_Scanner, T.na_Scanner_text, lk_Scanner_text, put_Scanner_text, ini_Scanner_text, T.na_Scanner_place, lk_Scanner_place, put_Scanner_place, ini_Scanner_place, T.na_Scanner_line, lk_Scanner_line, put_Scanner_line, ini_Scanner_line, T.na_Scanner_line_start, lk_Scanner_line_start, put_Scanner_line_start, ini_Scanner_line_start, T.na_Scanner_words, lk_Scanner_words, put_Scanner_words, ini_Scanner_words, no_Scanner_byte_ahead, no_Scanner_skip_remark, no_Scanner_skip_blank, no_Scanner_skip_to_token, no_Scanner_read_token, no_Scanner_kind_here, no_Scanner_read_value, no_Scanner_read_name, no_Scanner_read_number, no_Scanner_read_hex_number, no_Scanner_read_decimal_number, no_Scanner_read_string, no_Scanner_read_string_byte, no_Scanner_read_escape, no_Scanner_read_sign, hq, tLst, tTup]
  rcases val with ⟨z, r, rfl, hr⟩ | ⟨z, rfl, zw⟩ | ⟨z, rfl⟩ | ⟨z, rfl, zl⟩ | ⟨z, rfl⟩
  · have k := k
    rw [if_neg (by omega)] at k
    refine if_no (by rcases z with z | z <;> (rw [z]; decide +kernel)) ⟨by decide, fun u nu => ⟨u, _, rfl, .inr (SqT.of upd_same), rfl, rfl, ?_⟩⟩
    have su := Same.new (o := .tup [V.str "word", V.str "sign"]) nu
    have hq' := su _ _ hq
    simp only [cx_K, cx_w, cx_P, tSeq, tAsg, gName, tRet, tRetN, tNext, tDrop, tIfS, tIf, tAnd, tOr, tNot, tAndV, tOrV, tNotV, tTest, tB, tOp, tUn, tC, tVar, rI0, rI, rU, rEq, rNe, tCons, tNil, tCB, tCall, tMeth, tMake, tSl, tPart, tNoPart, tFld, sFld, sFldAug, L2.rAdd, L2.rSub, L2.start, decide_eq_true_eq, List.map_cons, List.map_nil, List.length_cons, List.length_nil, Nat.sub_self, Nat.reduceAdd, Nat.reduceSub, List.replicate_zero, List.replicate_succ, List.replicate, List.append_nil, List.cons_append, List.nil_append, List.getElem?_cons_zero, List.getElem?_cons_succ, List.set_cons_zero, List.set_cons_succ, Option.some.injEq, V.int.injEq, V.bl.injEq, V.str.injEq, V.ref.injEq, scal_int, scal_str, Bool.false_eq_true, if_false, if_true, List.cons.injEq, and_true, true_and, exists_and_left, exists_eq_left', exists_eq_left, exists_eq_right, exists_eq_right', exists_eq, exists_eq', exists_const, and_assoc, HO.ins.injEq, upd_same, T.c_Token, T.na_Token_kind, lk_Token_kind, put_Token_kind, ini_Token_kind, T.na_Token_value, lk_Token_value, put_Token_value, ini_Token_value, T.na_Token_line, lk_Token_line, put_Token_line, ini_Token_line, T.na_Token_column, lk_Token_column, put_Token_column, ini_Token_column, T.c_Scanner, T.na_Scanner_text, lk_Scanner_text, put_Scanner_text, ini_Scanner_text, T.na_Scanner_place, lk_Scanner_place, put_Scanner_place, ini_Scanner_place, T.na_Scanner_line, lk_Scanner_line, put_Scanner_line, ini_Scanner_line, T.na_Scanner_line_start, lk_Scanner_line_start, put_Scanner_line_start, ini_Scanner_line_start, T.na_Scanner_words, lk_Scanner_words, put_Scanner_words, ini_Scanner_words, no_Scanner_byte_ahead, no_Scanner_skip_remark, no_Scanner_skip_blank, no_Scanner_skip_to_token, no_Scanner_read_token, no_Scanner_kind_here, no_Scanner_read_value, no_Scanner_read_name, no_Scanner_read_number, no_Scanner_read_hex_number, no_Scanner_read_decimal_number, no_Scanner_read_string, no_Scanner_read_string_byte, no_Scanner_read_escape, no_Scanner_read_sign, hq']
    refine if_no (by rcases z with z | z <;> (rw [z]; decide +kernel)) ?_
    exact k _ r su (.inr (SqT.of (su _ _ hr)))
  · rw [if_neg (by omega)] at k
    refine if_no (by rw [z]; decide +kernel) ⟨by decide, fun u nu => ⟨u, _, rfl, .inr (SqT.of upd_same), rfl, rfl, ?_⟩⟩
    have su := Same.new (o := .tup [V.str "word", V.str "sign"]) nu
    have hq' := su _ _ hq
    simp only [cx_K, cx_w, cx_P, tSeq, tAsg, gName, tRet, tRetN, tNext, tDrop, tIfS, tIf, tAnd, tOr, tNot, tAndV, tOrV, tNotV, tTest, tB, tOp, tUn, tC, tVar, rI0, rI, rU, rEq, rNe, tCons, tNil, tCB, tCall, tMeth, tMake, tSl, tPart, tNoPart, tFld, sFld, sFldAug, L2.rAdd, L2.rSub, L2.start, decide_eq_true_eq, List.map_cons, List.map_nil, List.length_cons, List.length_nil, Nat.sub_self, Nat.reduceAdd, Nat.reduceSub, List.replicate_zero, List.replicate_succ, List.replicate, List.append_nil, List.cons_append, List.nil_append, List.getElem?_cons_zero, List.getElem?_cons_succ, List.set_cons_zero, List.set_cons_succ, Option.some.injEq, V.int.injEq, V.bl.injEq, V.str.injEq, V.ref.injEq, scal_int, scal_str, Bool.false_eq_true, if_false, if_true, List.cons.injEq, and_true, true_and, exists_and_left, exists_eq_left', exists_eq_left, exists_eq_right, exists_eq_right', exists_eq, exists_eq', exists_const, and_assoc, HO.ins.injEq, upd_same, T.c_Token, T.na_Token_kind, lk_Token_kind, put_Token_kind, ini_Token_kind, T.na_Token_value, lk_Token_value, put_Token_value, ini_Token_value, T.na_Token_line, lk_Token_line, put_Token_line, ini_Token_line, T.na_Token_column, lk_Token_column, put_Token_column, ini_Token_column, T.c_Scanner, T.na_Scanner_text, lk_Scanner_text, put_Scanner_text, ini_Scanner_text, T.na_Scanner_place, lk_Scanner_place, put_Scanner_place, ini_Scanner_place, T.na_Scanner_line, lk_Scanner_line, put_Scanner_line, ini_Scanner_line, T.na_Scanner_line_start, lk_Scanner_line_start, put_Scanner_line_start, ini_Scanner_line_start, T.na_Scanner_words, lk_Scanner_words, put_Scanner_words, ini_Scanner_words, no_Scanner_byte_ahead, no_Scanner_skip_remark, no_Scanner_skip_blank, no_Scanner_skip_to_token, no_Scanner_read_token, no_Scanner_kind_here, no_Scanner_read_value, no_Scanner_read_name, no_Scanner_read_number, no_Scanner_read_hex_number, no_Scanner_read_decimal_number, no_Scanner_read_string, no_Scanner_read_string_byte, no_Scanner_read_escape, no_Scanner_read_sign, hq']
    refine if_yes (by rw [z]; decide +kernel) ?_
    obtain ⟨w1, w2⟩ := word_bytes zw
    refine ⟨_, rfl, by simpa using w2, fun H' r s1 n1 h1 => k _ r (su.trans s1) (.inl (SqL.of ?_))⟩
    rw [h1, w1]
  · rw [if_pos z] at k
    refine if_yes (by rw [z]; decide +kernel) ?_
    exact ⟨by decide, fun u nu => k _ u (Same.new nu) (.inl (SqL.of upd_same))⟩
  · rw [if_neg (by omega)] at k
    refine if_no (by rw [z]; decide +kernel) ⟨by decide, fun u nu => ⟨u, _, rfl, .inr (SqT.of upd_same), rfl, rfl, ?_⟩⟩
    have su := Same.new (o := .tup [V.str "word", V.str "sign"]) nu
    have hq' := su _ _ hq
    simp only [cx_K, cx_w, cx_P, tSeq, tAsg, gName, tRet, tRetN, tNext, tDrop, tIfS, tIf, tAnd, tOr, tNot, tAndV, tOrV, tNotV, tTest, tB, tOp, tUn, tC, tVar, rI0, rI, rU, rEq, rNe, tCons, tNil, tCB, tCall, tMeth, tMake, tSl, tPart, tNoPart, tFld, sFld, sFldAug, L2.rAdd, L2.rSub, L2.start, decide_eq_true_eq, List.map_cons, List.map_nil, List.length_cons, List.length_nil, Nat.sub_self, Nat.reduceAdd, Nat.reduceSub, List.replicate_zero, List.replicate_succ, List.replicate, List.append_nil, List.cons_append, List.nil_append, List.getElem?_cons_zero, List.getElem?_cons_succ, List.set_cons_zero, List.set_cons_succ, Option.some.injEq, V.int.injEq, V.bl.injEq, V.str.injEq, V.ref.injEq, scal_int, scal_str, Bool.false_eq_true, if_false, if_true, List.cons.injEq, and_true, true_and, exists_and_left, exists_eq_left', exists_eq_left, exists_eq_right, exists_eq_right', exists_eq, exists_eq', exists_const, and_assoc, HO.ins.injEq, upd_same, T.c_Token, T.na_Token_kind, lk_Token_kind, put_Token_kind, ini_Token_kind, T.na_Token_value, lk_Token_value, put_Token_value, ini_Token_value, T.na_Token_line, lk_Token_line, put_Token_line, ini_Token_line, T.na_Token_column, lk_Token_column, put_Token_column, ini_Token_column, T.c_Scanner, T.na_Scanner_text, lk_Scanner_text, put_Scanner_text, ini_Scanner_text, T.na_Scanner_place, lk_Scanner_place, put_Scanner_place, ini_Scanner_place, T.na_Scanner_line, lk_Scanner_line, put_Scanner_line, ini_Scanner_line, T.na_Scanner_line_start, lk_Scanner_line_start, put_Scanner_line_start, ini_Scanner_line_start, T.na_Scanner_words, lk_Scanner_words, put_Scanner_words, ini_Scanner_words, no_Scanner_byte_ahead, no_Scanner_skip_remark, no_Scanner_skip_blank, no_Scanner_skip_to_token, no_Scanner_read_token, no_Scanner_kind_here, no_Scanner_read_value, no_Scanner_read_name, no_Scanner_read_number, no_Scanner_read_hex_number, no_Scanner_read_decimal_number, no_Scanner_read_string, no_Scanner_read_string_byte, no_Scanner_read_escape, no_Scanner_read_sign, hq']
    refine if_yes (by rw [z]; decide +kernel) ?_
    obtain ⟨w1, w2⟩ := sign_bytes zl
    refine ⟨_, rfl, w2, fun H' r s1 n1 h1 => k _ r (su.trans s1) (.inl (SqL.of ?_))⟩
    rw [h1, w1]
  · omega
theorem kinds_get {k : Nat} (h : k ≤ 4) : valV tab_KINDS (Sum.inr (kindName k)) = some (.int (k : Nat)) := by
  have hk : k = 0 ∨ k = 1 ∨ k = 2 ∨ k = 3 ∨ k = 4 := by omega
  rcases hk with rfl | rfl | rfl | rfl | rfl <;> decide +kernel
def toldOf (t : Rd24.Tok) : List V := [.int (t.kind : Nat), .int (t.line : Nat), .int (t.col : Nat)] ++ (.int ((tokVs t).length : Nat) :: tokVs t)
theorem toldOf_is (t : Rd24.Tok) : toldOf t = (Rd24.tellTok t).map V.int := by
  unfold toldOf Rd24.tellTok tokVs
  split
  · rfl
  · unfold Rd24.row_ Rd24.nats byteVs
    simp
def spToldAll (CT : Addr) : Sp := fun vs H Q _ => ∃ L qs ts last, vs = [.ref L] ∧ H L = some (.lst (qs.map V.ref)) ∧ Toks CT H qs (ts ++ [last]) ∧ (∀ t ∈ ts, t.kind ≤ 4) ∧ (ts.flatMap Rd24.tellTok).length ≤ 1000000 ∧
  ∀ H' r, H' r = some (.lst (.int (ts.length : Nat) :: (ts.flatMap Rd24.tellTok).map V.int)) → Q (.ref r) H'
theorem d_told_tokens (T : Txt w K mg a) : Dfn P w K mg base CX0 3 "told_tokens" ["found"] (spToldAll a.c_Token) := by
  refine dfn_of T.f_told_tokens sc_told_tokens (fun _ _ _ _ _ _ us hl => match us, hl with | [_], _ => rfl) (fun vs H Q E h => by obtain ⟨L, qs, ts, last, rfl, _⟩ := h; rfl) fun f cdv A outer s H vs Q E hr h => ?_
  obtain ⟨L, qs, ts, last, rfl, hL, tk, hk, hsz, k⟩ := h
  refine ⟨_, (pss_cons (ps_set (i := 1) sc_told_tokens.nd rfl (Or.inl rfl) (pe_lst (pa_cons (pe_op op_sub (pe_callB call_len_seq (by rfl) T.n_len PySem.boot_len (pa_cons (pv 0) pa_nil)) pe_int) pa_nil)))
      (pss_cons (ps_for PassesOwn.never rfl (pi_list (pe_slice sl_list (pv 0) po_none (po_some (pe_un un_neg pe_int)))) (pg_name (i := 2) sc_told_tokens.nd rfl (Or.inl rfl)) (pss_cons (ps_expr (pe_bm PySem.F.plainAttrs_list PySem.F.slot_list_extend PySem.F.type_list_extend mt_extend (pv 1) (pa_cons (pe_lst (pa_cons (pe_ix ix_tab (pe_gv T.g_KINDS) (pe_fld (pv 2) rfl) (fun _ _ => rfl)) (pa_cons (pe_fld (pv 2) rfl) (pa_cons (pe_fld (pv 2) rfl) pa_nil)))) pa_nil)))
      (pss_one (ps_expr (pe_bm PySem.F.plainAttrs_list PySem.F.slot_list_extend PySem.F.type_list_extend mt_extend (pv 1) (pa_cons (pe_dfn (d_told_bytes T) (hr.mono (by decide)) pass0 (pa_cons (pe_dfn (d_token_bytes T) (hr.mono (by decide)) pass0 (pa_cons (pv 2) pa_nil)) pa_nil)) pa_nil))))))
      (pss_one (ps_ret (pv 1))))), ?_⟩
  have ql : qs.length = ts.length + 1 := by
    have := Paired.length tk
    simpa using this
  refine ⟨_, rfl, L, _, rfl, .inl (SqL.of hL), _, _, rfl, rfl, (by show 1 ≤ sizeLine; decide), fun r nr => ?_⟩
  have e0 : (((qs.map V.ref).length : Nat) : Int) - 1 = ((ts.length : Nat) : Int) := by
    rw [List.length_map, ql]
    omega
  have sr := fun o => Same.new (o := o) nr
  -- found[:-1]
  refine ⟨_, rfl, _, rfl, _, rfl, L, _, rfl, SqL.of (sr _ _ _ hL), fun M nM => ?_⟩
  have eM : cutV (qs.map V.ref) none (some (-1)) = (qs.take ts.length).map V.ref := by
    unfold cutV
    rw [HT.sIx_none, List.length_map, List.drop_zero, ql]
    have : HT.sIx (ts.length + 1) (ts.length + 1) (some (-1)) = ts.length := by
      show (if (-1 : Int) < 0 then ((-1 : Int) + ((ts.length + 1 : Nat) : Int)).toNat else min (-1 : Int).toNat (ts.length + 1)) = _
      rw [if_pos (by decide)]
      omega
    rw [this, Nat.sub_zero, List.map_take]
  have eM2 : cutV (qs.map V.ref) none (some (-(1 : Int))) = (qs.take ts.length).map V.ref := eM
  have nr1 : r ≠ M := fun z => by rw [← z, upd_same] at nM; cases nM
  have nM0 : H M = none := Same.free (sr _) nM
  refine ⟨M, rfl, ⟨_, SqL.of upd_same⟩, for_list (K := K) (a := M) (xs := (qs.take ts.length).map V.ref) (fun i σ H' => ∃ v : Option V, σ = [some (.ref L), some (.ref r), v] ∧ Same H H' ∧ H' M = some (.lst ((qs.take ts.length).map V.ref)) ∧
      H' r = some (.lst (.int (ts.length : Nat) :: ((ts.take i).flatMap Rd24.tellTok).map V.int)))
    ⟨none, rfl, (sr _).trans (Same.new nM), by rw [upd_same]; exact congrArg (fun x => some (HO.lst x)) eM2, by rw [upd_ne nr1, upd_same]; show some (HO.lst [V.int ((((qs.map V.ref).length : Nat) : Int) - 1)]) = _; rw [e0]; rfl⟩ (fun i σ H' _ ⟨_, _, _, hM, _⟩ => SqL.of hM) ?_ ?_⟩
  · rintro i y σ H' hi ⟨v, rfl, s1, hM1, hr1⟩
    rw [List.getElem?_map, List.getElem?_take] at hi
    by_cases hlt : i < ts.length
    · rw [if_pos hlt] at hi
      cases eq : qs[i]? with
      | none => rw [eq] at hi; cases hi
      | some q =>
        rw [eq] at hi
        cases hi
        obtain ⟨t, et, ta⟩ := tk.at eq
        rw [List.getElem?_append_left hlt] at et
        have kt := hk t (List.mem_of_getElem? et)
        have ta1 := ta.same s1
        have ta2 := ta1
        obtain ⟨dx, v, hq, val⟩ := ta2
        have step : (ts.take (i + 1)).flatMap Rd24.tellTok = (ts.take i).flatMap Rd24.tellTok ++ Rd24.tellTok t := by
          rw [List.take_add_one, et, List.flatMap_append]
          simp
        have szi : ((ts.take (i + 1)).flatMap Rd24.tellTok).length ≤ 1000000 := by
          have e : ts.flatMap Rd24.tellTok = (ts.take (i + 1)).flatMap Rd24.tellTok ++ (ts.drop (i + 1)).flatMap Rd24.tellTok := by
            rw [← List.flatMap_append, List.take_append_drop]
          rw [e, List.length_append] at hsz
          omega
        have tl : (toldOf t).length = (Rd24.tellTok t).length := by rw [toldOf_is, List.length_map]
        have tl2 : (toldOf t).length = 4 + (tokVs t).length := by
          unfold toldOf
          simp
          omega
        rw [step, List.length_append] at szi
        have big : (1000010 : Nat) ≤ sizeLine := by decide
        have rM : r ≠ M := ne_of hr1 hM1 (by
          intro z
          injection z with z
          have := congrArg List.head? z
          cases hq0 : (qs.take ts.length) with
          | nil => rw [hq0] at this; cases this
          | cons a b => rw [hq0] at this; cases this)
        -- the first three
        refine ⟨_, rfl, .inl ⟨rfl, _, SqL.of hr1⟩, _, rfl, q, a.c_Token, dx, _, _, rfl, hq, T.c_Token, T.na_Token_kind, lk_Token_kind, a.v_KINDS, tab_KINDS, Sum.inr (kindName t.kind), _, T.t_KINDS, rfl, rfl, kinds_get kt,
          _, rfl, q, a.c_Token, dx, _, _, rfl, hq, T.c_Token, T.na_Token_line, lk_Token_line, _, rfl, q, a.c_Token, dx, _, _, rfl, hq, T.c_Token, T.na_Token_column, lk_Token_column, (by show 3 ≤ sizeLine; decide), fun l nl => ?_⟩
        have sl := Same.new (o := .lst [V.int (t.kind : Nat), V.int (t.line : Nat), V.int (t.col : Nat)]) nl
        have hr2 := sl _ _ hr1
        have acc : ∀ xs : List V, xs.length ≤ 1000000 → xs.length < sizeLine := fun xs h => by omega
        refine ⟨r, l, _, _, rfl, rfl, hr2, upd_same, by simp only [List.length_append, List.length_cons, List.length_nil, List.length_map]; omega, ?_⟩
        -- the bytes
        have c2 : Chg r _ _ := Chg.upd (p := r) (H := upd H' l (.lst [V.int (t.kind : Nat), V.int (t.line : Nat), V.int (t.col : Nat)])) (o := .lst ((.int (ts.length : Nat) :: ((ts.take i).flatMap Rd24.tellTok).map V.int) ++ [V.int (t.kind : Nat), V.int (t.line : Nat), V.int (t.col : Nat)]))
        have s2 : Same H _ := Chg.same (s1.trans sl) c2 nr
        have hM2 := c2.at rM.symm (sl _ _ hM1)
        have ta2 := (ta1.same sl).chg hr2 c2
        refine ⟨_, rfl, .inl ⟨rfl, _, SqL.of upd_same⟩, _, rfl, q, t, rfl, ta2, kt, fun H3 r3 s3 sq3 => ⟨r3, _, rfl, sq3, by omega, fun H4 r4 s4 n4 h4 => ?_⟩⟩
        have hr4 := s4 _ _ (s3 _ _ (upd_same (H := upd H' l (.lst [V.int (t.kind : Nat), V.int (t.line : Nat), V.int (t.col : Nat)])) (a := r) (o := .lst ((.int (ts.length : Nat) :: ((ts.take i).flatMap Rd24.tellTok).map V.int) ++ [V.int (t.kind : Nat), V.int (t.line : Nat), V.int (t.col : Nat)]))))
        have hM4 := s4 _ _ (s3 _ _ hM2)
        refine ⟨r, r4, _, _, rfl, rfl, hr4, h4, by simp only [List.length_append, List.length_cons, List.length_nil, List.length_map]; omega, ?_⟩
        refine ⟨some (.ref q), rfl, Chg.same (s2.trans (s3.trans s4)) Chg.upd nr, ?_, ?_⟩
        · rw [upd_ne rM.symm]
          exact hM4
        · rw [upd_same, step, List.map_append, ← toldOf_is]
          unfold toldOf
          simp
    · rw [if_neg hlt] at hi
      cases hi
  · rintro σ H' ⟨v, rfl, s1, hM1, hr1⟩
    refine ⟨_, rfl, k _ r ?_⟩
    rw [hr1, List.length_map, List.length_take, Nat.min_eq_left (by omega), List.take_of_length_le (Nat.le_refl _)]
/-! ### tokens -/
def spTokens (K : PySem.W.Frag) : Sp := fun vs H Q _ => ∃ ta l, vs = [.ref ta] ∧ SqL K H ta (byteVs l) ∧ l.length ≤ 20000 ∧ (∀ c ∈ l, c < 256) ∧ ∀ H' r, H' r = some (.lst (((Rd24.answer (.tokens l)).value :: (Rd24.answer (.tokens l)).out).map V.int)) → Q (.ref r) H'
theorem b_tokens (T : Txt w K mg a) : BodyOk P w K mg base ["text", "found", "last"] "tokens" s_tokens 8 (spTokens K) := by
  intro f cdv A outer s H vs Q E hr h
  obtain ⟨ta, l, rfl, ht, hl, h256, k⟩ := h
  refine ⟨_, (pss_cons (ps_if (pt_cmpR op_gt (pe_callB call_len_seq (by rfl) T.n_len PySem.boot_len (pa_cons (pv 0) pa_nil)) (pe_gv T.g_LONGEST_TEXT) (nomark _)) (pss_one (ps_ret (pe_lst (pa_cons (pe_un un_neg pe_int) pa_nil)))) pss_nil)
      (pss_cons (ps_set (i := 1) sc_tokens.nd rfl (Or.inl rfl) (pe_dfn (d_scan T) (hr.mono (by decide)) pass0 (pa_cons (pv 0) pa_nil)))
      (pss_cons (ps_set (i := 2) sc_tokens.nd rfl (Or.inl rfl) (pe_ix ix_list (pv 1) (pe_un un_neg pe_int) (fun _ _ => rfl)))
      (pss_cons (ps_if (pt_cmpR op_eq (pe_fld (pv 2) rfl) pe_str (nomark _)) (pss_one (ps_ret (pe_lst (pa_cons (pe_un un_neg pe_int) (pa_cons (pe_fld (pv 2) rfl) (pa_cons (pe_fld (pv 2) rfl) pa_nil)))))) pss_nil)
      (pss_one (ps_ret (pe_dfn (d_told_tokens T) (hr.mono (by decide)) pass0 (pa_cons (pv 1) pa_nil)))))))), ?_⟩
  have ok : Rd24.okText l = true := by
    unfold Rd24.okText
    rw [Bool.and_eq_true]
    exact ⟨decide_eq_true (by omega), List.all_eq_true.mpr fun c hc => decide_eq_true (h256 c hc)⟩
  have bl : (byteVs l).length = l.length := List.length_map _
  refine ⟨_, rfl, ta, _, rfl, .inl ht, _, _, rfl, rfl, _, rfl, ?_⟩
  refine if_no (by rw [bl]; simp; omega) ?_
  refine ⟨_, rfl, ta, l, rfl, ht, by omega, fun H1 L qs nL hL tk s1 => ?_⟩
  obtain ⟨pre, last, e, h4, h56⟩ := tk_shape l.length l 1 1 (Nat.le_refl _)
  have e : Rd24.tokensOf l = pre ++ [last] := e
  rw [e] at tk
  -- the last
  obtain ⟨qs', q, rfl⟩ : ∃ qs' q, qs = qs' ++ [q] := by
    refine ⟨qs.dropLast, qs.getLast (fun z => ?_), (List.dropLast_concat_getLast _).symm⟩
    have := Paired.length tk
    rw [z] at this
    simp at this
  have ql : qs'.length = pre.length := by
    have := Paired.length tk
    simpa using this
  obtain ⟨t, et, ta⟩ := tk.at (i := qs'.length) (q := q) (by simp)
  rw [ql, List.getElem?_append_right (Nat.le_refl _), Nat.sub_self] at et
  have et : last = t := Option.some.inj et
  subst et
  obtain ⟨dx, v, hq, val⟩ := ta
  refine ⟨_, rfl, _, rfl, L, _, _, _, rfl, rfl, SqL.of hL, (by rw [List.map_append]; exact atI_last), ?_⟩
  have hq0 := hq
  simp only [cx_K, cx_w, cx_P, tSeq, tAsg, gName, tRet, tRetN, tNext, tDrop, tIfS, tIf, tAnd, tOr, tNot, tAndV, tOrV, tNotV, tTest, tB, tOp, tUn, tC, tVar, rI0, rI, rU, rEq, rNe, tCons, tNil, tCB, tCall, tMeth, tMake, tSl, tPart, tNoPart, tFld, sFld, sFldAug, L2.rAdd, L2.rSub, L2.start, decide_eq_true_eq, List.map_cons, List.map_nil, List.length_cons, List.length_nil, Nat.sub_self, Nat.reduceAdd, Nat.reduceSub, List.replicate_zero, List.replicate_succ, List.replicate, List.append_nil, List.cons_append, List.nil_append, List.getElem?_cons_zero, List.getElem?_cons_succ, List.set_cons_zero, List.set_cons_succ, Option.some.injEq, V.int.injEq, V.bl.injEq, V.str.injEq, V.ref.injEq, scal_int, scal_str, Bool.false_eq_true, if_false, if_true, List.cons.injEq, and_true, true_and, exists_and_left, exists_eq_left', exists_eq_left, exists_eq_right, exists_eq_right', exists_eq, exists_eq', exists_const, and_assoc, HO.ins.injEq, upd_same, T.c_Token, T.na_Token_kind, lk_Token_kind, put_Token_kind, ini_Token_kind, T.na_Token_value, lk_Token_value, put_Token_value, ini_Token_value, T.na_Token_line, lk_Token_line, put_Token_line, ini_Token_line, T.na_Token_column, lk_Token_column, put_Token_column, ini_Token_column, T.c_Scanner, T.na_Scanner_text, lk_Scanner_text, put_Scanner_text, ini_Scanner_text, T.na_Scanner_place, lk_Scanner_place, put_Scanner_place, ini_Scanner_place, T.na_Scanner_line, lk_Scanner_line, put_Scanner_line, ini_Scanner_line, T.na_Scanner_line_start, lk_Scanner_line_start, put_Scanner_line_start, ini_Scanner_line_start, T.na_Scanner_words, lk_Scanner_words, put_Scanner_words, ini_Scanner_words, no_Scanner_byte_ahead, no_Scanner_skip_remark, no_Scanner_skip_blank, no_Scanner_skip_to_token, no_Scanner_read_token, no_Scanner_kind_here, no_Scanner_read_value, no_Scanner_read_name, no_Scanner_read_number, no_Scanner_read_hex_number, no_Scanner_read_decimal_number, no_Scanner_read_string, no_Scanner_read_string_byte, no_Scanner_read_escape, no_Scanner_read_sign, hq]
  rcases h56 with k5 | k6
  · rw [if_neg (by rw [k5]; decide +kernel)]
    have ag := answer_good ok e h4 k5
    have tl := (tell_len l.length l 1 1 (Nat.le_refl _)).1
    have e' : TK 1 1 l = pre ++ [last] := e
    rw [e', List.dropLast_concat] at tl
    refine ⟨L, qs' ++ [q], pre, last, rfl, hL, tk, h4, by omega, fun H' r hr => k H' r ?_⟩
    rw [hr, ag]
    rfl
  · rw [if_pos (by rw [k6]; decide +kernel)]
    have ab := answer_bad ok e h4 k6
    simp only [cx_K, cx_w, cx_P, tSeq, tAsg, gName, tRet, tRetN, tNext, tDrop, tIfS, tIf, tAnd, tOr, tNot, tAndV, tOrV, tNotV, tTest, tB, tOp, tUn, tC, tVar, rI0, rI, rU, rEq, rNe, tCons, tNil, tCB, tCall, tMeth, tMake, tSl, tPart, tNoPart, tFld, sFld, sFldAug, L2.rAdd, L2.rSub, L2.start, decide_eq_true_eq, List.map_cons, List.map_nil, List.length_cons, List.length_nil, Nat.sub_self, Nat.reduceAdd, Nat.reduceSub, List.replicate_zero, List.replicate_succ, List.replicate, List.append_nil, List.cons_append, List.nil_append, List.getElem?_cons_zero, List.getElem?_cons_succ, List.set_cons_zero, List.set_cons_succ, Option.some.injEq, V.int.injEq, V.bl.injEq, V.str.injEq, V.ref.injEq, scal_int, scal_str, Bool.false_eq_true, if_false, if_true, List.cons.injEq, and_true, true_and, exists_and_left, exists_eq_left', exists_eq_left, exists_eq_right, exists_eq_right', exists_eq, exists_eq', exists_const, and_assoc, HO.ins.injEq, upd_same, T.c_Token, T.na_Token_kind, lk_Token_kind, put_Token_kind, ini_Token_kind, T.na_Token_value, lk_Token_value, put_Token_value, ini_Token_value, T.na_Token_line, lk_Token_line, put_Token_line, ini_Token_line, T.na_Token_column, lk_Token_column, put_Token_column, ini_Token_column, T.c_Scanner, T.na_Scanner_text, lk_Scanner_text, put_Scanner_text, ini_Scanner_text, T.na_Scanner_place, lk_Scanner_place, put_Scanner_place, ini_Scanner_place, T.na_Scanner_line, lk_Scanner_line, put_Scanner_line, ini_Scanner_line, T.na_Scanner_line_start, lk_Scanner_line_start, put_Scanner_line_start, ini_Scanner_line_start, T.na_Scanner_words, lk_Scanner_words, put_Scanner_words, ini_Scanner_words, no_Scanner_byte_ahead, no_Scanner_skip_remark, no_Scanner_skip_blank, no_Scanner_skip_to_token, no_Scanner_read_token, no_Scanner_kind_here, no_Scanner_read_value, no_Scanner_read_name, no_Scanner_read_number, no_Scanner_read_hex_number, no_Scanner_read_decimal_number, no_Scanner_read_string, no_Scanner_read_string_byte, no_Scanner_read_escape, no_Scanner_read_sign, hq, tLst]
    refine ⟨by decide, fun r nr => k _ r ?_⟩
    rw [upd_same, ab]
    rfl
end
/-! ### behind the top -/
section
variable {P : Program} {w : World} {K : PySem.W.Frag} {h : Heap} {mg : Str → Option Value} {x m q : Str} {st : Stmt} {f C d : Addr} {od an : Option Addr} {sl : Array (Option Value)} {oc kV dc pm cd ct : Value}
theorem dfn_at (X : K.In h) (G : h.Ns mainGlobals mg) (a1 : PySem.W.nsIn K mainGlobals x = some (some (.ref f))) (l1 : K.lookup f = some ⟨oc, od, .func (PySem.W.fnOf x x (defArgs st) (defBody st) (defScope st) .none kV dc pm an cd ct), sl⟩) (c1 : PySem.W.codeIn K cd x = true) (k1 : PySem.W.keepIn K (.ref f) = true) : DfnAt K mg x st :=
  ⟨f, _, PySem.W.mg_of X G a1, fun_mk l1 c1 k1⟩
theorem mth_at (a1 : PySem.W.findIn K (.ref C) m = some (some (.ref f))) (i1 : PySem.W.isFn K (.ref f) = true) (l1 : K.lookup f = some ⟨oc, od, .func (PySem.W.fnOf m q (defArgs st) (defBody st) (defScope st) .none kV dc pm an cd ct), sl⟩) (c1 : PySem.W.codeIn K cd q = true) (k1 : PySem.W.keepIn K (.ref f) = true) : MthAt K C m q st :=
  ⟨f, _, ⟨a1, i1, k1⟩, fun_mk l1 c1 k1⟩
theorem ini_at (a1 : PySem.W.findIn K (.ref C) "__init__" = some (some (.ref f))) (i1 : PySem.W.isFn K (.ref f) = true) (l1 : K.lookup f = some ⟨oc, od, .func (PySem.W.fnOf "__init__" q (defArgs st) (defBody st) (defScope st) .none kV dc pm an cd ct), sl⟩) (c1 : PySem.W.codeIn K cd q = true) (k1 : PySem.W.keepIn K (.ref f) = true)
    (mk : PySem.W.makesIn K C = true) (kc : PySem.W.keepIn K (.ref C) = true) : IniAt K C q st := ⟨f, _, ⟨mk, a1, i1, kc⟩, fun_mk l1 c1 k1⟩
theorem int_at {n : Int} {t : PySem.Tok} (X : K.In h) (G : h.Ns mainGlobals mg) (a1 : PySem.W.nsIn K mainGlobals x = some (some (.int n t))) : ∃ u, mg x = some u ∧ RelV (.int n) u := ⟨_, PySem.W.mg_of X G a1, t, rfl⟩
theorem ref_at (X : K.In h) (G : h.Ns mainGlobals mg) (a1 : PySem.W.nsIn K mainGlobals x = some (some (.ref d))) : ∃ u, mg x = some u ∧ RelV (.ref d) u := ⟨_, PySem.W.mg_of X G a1, rfl⟩
theorem tab_at {es : Array DictEntry} {n : Nat} {tab : List (Key × V)} (l1 : K.lookup d = some ⟨.type "dict", none, .dict es n, #[]⟩) (p : Paired (EntOk w) tab es.toList) (low : (d == sysModules) = false) : KTab K w d tab := ⟨⟨es, n, l1, p⟩, low⟩
theorem tup_at {its : Array Value} {n : Nat} {dd : Option Addr} {xs : List V} (l1 : K.lookup d = some ⟨.type "tuple", dd, .seq its n, sl⟩) (z : its.size ≤ sizeLine) (p : Vals xs its.toList) : ∀ H, SqT K H d xs := fun H => .inr ⟨_, its, n, l1, rfl, rfl, z, p⟩
theorem cls_at (pg : PySem.W.plainGet K C Str.empty = true) (hd : PySem.W.hasDictIn K C = true) (po : PySem.W.plainOver K C = true) (sa : PySem.W.findIn K (.ref C) "__setattr__" = some (some (.builtin "object.__setattr__"))) : Cls K C := ⟨pg, hd, po, sa⟩
theorem bytes_back : ∀ {l : List Int}, (∀ x ∈ l, 0 ≤ x) → byteVs (l.map Int.toNat) = l.map V.int
  | [], _ => rfl
  | x :: l, h => by
    show V.int ((x.toNat : Nat) : Int) :: byteVs (l.map Int.toNat) = V.int x :: l.map V.int
    rw [bytes_back fun y hy => h y (List.mem_cons_of_mem _ hy), Int.toNat_of_nonneg (h x List.mem_cons_self)]
theorem txt_mk {w : World} {K : PySem.W.Frag} {h : Heap} {mg : Str → Option Value} (X : K.In h) (G : h.Ns mainGlobals mg)
    {v_KINDS : Addr} {v_WORDS : Addr} {v_SIGNS : Addr} {v_SIGNS_WITH_EQUALS : Addr} {v_ESCAPES : Addr} {c_Token : Addr} {c_Scanner : Addr} {es_KINDS : Array DictEntry} {nn_KINDS : Nat} {tk_PERCENT : PySem.Tok} {tk_LONGEST_NAME : PySem.Tok} {tk_LONGEST_STRING : PySem.Tok} {tk_GREATEST_NUMBER : PySem.Tok} {tk_MOST_HEX_DIGITS : PySem.Tok} {tk_LINE_FEED : PySem.Tok} {tk_QUOTE : PySem.Tok} {tk_HASH : PySem.Tok} {tk_EQUALS : PySem.Tok} {tk_BACKSLASH : PySem.Tok} {tk_LOWER_X : PySem.Tok} {tk_NO_BYTE : PySem.Tok} {it_WORDS : Array Value} {nn_WORDS : Nat} {dd_WORDS : Option Addr} {so_WORDS : Array (Option Value)} {es_SIGNS : Array DictEntry} {nn_SIGNS : Nat} {es_SIGNS_WITH_EQUALS : Array DictEntry} {nn_SIGNS_WITH_EQUALS : Nat} {es_ESCAPES : Array DictEntry} {nn_ESCAPES : Nat} {tk_LONGEST_TEXT : PySem.Tok} {od_told_bytes an_told_bytes : Option Addr} {sl_told_bytes : Array (Option Value)} {oc_told_bytes kV_told_bytes dc_told_bytes pm_told_bytes cd_told_bytes ct_told_bytes : Value} {fa_told_bytes : Addr} {od_written_bytes an_written_bytes : Option Addr} {sl_written_bytes : Array (Option Value)} {oc_written_bytes kV_written_bytes dc_written_bytes pm_written_bytes cd_written_bytes ct_written_bytes : Value} {fa_written_bytes : Addr} {od_token_bytes an_token_bytes : Option Addr} {sl_token_bytes : Array (Option Value)} {oc_token_bytes kV_token_bytes dc_token_bytes pm_token_bytes cd_token_bytes ct_token_bytes : Value} {fa_token_bytes : Addr} {od_told_tokens an_told_tokens : Option Addr} {sl_told_tokens : Array (Option Value)} {oc_told_tokens kV_told_tokens dc_told_tokens pm_told_tokens cd_told_tokens ct_told_tokens : Value} {fa_told_tokens : Addr} {od_Token_init an_Token_init : Option Addr} {sl_Token_init : Array (Option Value)} {oc_Token_init kV_Token_init dc_Token_init pm_Token_init cd_Token_init ct_Token_init : Value} {fa_Token_init : Addr} {od_is_blank an_is_blank : Option Addr} {sl_is_blank : Array (Option Value)} {oc_is_blank kV_is_blank dc_is_blank pm_is_blank cd_is_blank ct_is_blank : Value} {fa_is_blank : Addr} {od_is_digit an_is_digit : Option Addr} {sl_is_digit : Array (Option Value)} {oc_is_digit kV_is_digit dc_is_digit pm_is_digit cd_is_digit ct_is_digit : Value} {fa_is_digit : Addr} {od_is_letter an_is_letter : Option Addr} {sl_is_letter : Array (Option Value)} {oc_is_letter kV_is_letter dc_is_letter pm_is_letter cd_is_letter ct_is_letter : Value} {fa_is_letter : Addr} {od_is_name_byte an_is_name_byte : Option Addr} {sl_is_name_byte : Array (Option Value)} {oc_is_name_byte kV_is_name_byte dc_is_name_byte pm_is_name_byte cd_is_name_byte ct_is_name_byte : Value} {fa_is_name_byte : Addr} {od_hex_worth an_hex_worth : Option Addr} {sl_hex_worth : Array (Option Value)} {oc_hex_worth kV_hex_worth dc_hex_worth pm_hex_worth cd_hex_worth ct_hex_worth : Value} {fa_hex_worth : Addr} {od_words_by_bytes an_words_by_bytes : Option Addr} {sl_words_by_bytes : Array (Option Value)} {oc_words_by_bytes kV_words_by_bytes dc_words_by_bytes pm_words_by_bytes cd_words_by_bytes ct_words_by_bytes : Value} {fa_words_by_bytes : Addr} {od_signed_worth an_signed_worth : Option Addr} {sl_signed_worth : Array (Option Value)} {oc_signed_worth kV_signed_worth dc_signed_worth pm_signed_worth cd_signed_worth ct_signed_worth : Value} {fa_signed_worth : Addr} {od_Scanner_init an_Scanner_init : Option Addr} {sl_Scanner_init : Array (Option Value)} {oc_Scanner_init kV_Scanner_init dc_Scanner_init pm_Scanner_init cd_Scanner_init ct_Scanner_init : Value} {fa_Scanner_init : Addr} {od_Scanner_byte_ahead an_Scanner_byte_ahead : Option Addr} {sl_Scanner_byte_ahead : Array (Option Value)} {oc_Scanner_byte_ahead kV_Scanner_byte_ahead dc_Scanner_byte_ahead pm_Scanner_byte_ahead cd_Scanner_byte_ahead ct_Scanner_byte_ahead : Value} {fa_Scanner_byte_ahead : Addr} {od_Scanner_skip_remark an_Scanner_skip_remark : Option Addr} {sl_Scanner_skip_remark : Array (Option Value)} {oc_Scanner_skip_remark kV_Scanner_skip_remark dc_Scanner_skip_remark pm_Scanner_skip_remark cd_Scanner_skip_remark ct_Scanner_skip_remark : Value} {fa_Scanner_skip_remark : Addr} {od_Scanner_skip_blank an_Scanner_skip_blank : Option Addr} {sl_Scanner_skip_blank : Array (Option Value)} {oc_Scanner_skip_blank kV_Scanner_skip_blank dc_Scanner_skip_blank pm_Scanner_skip_blank cd_Scanner_skip_blank ct_Scanner_skip_blank : Value} {fa_Scanner_skip_blank : Addr} {od_Scanner_skip_to_token an_Scanner_skip_to_token : Option Addr} {sl_Scanner_skip_to_token : Array (Option Value)} {oc_Scanner_skip_to_token kV_Scanner_skip_to_token dc_Scanner_skip_to_token pm_Scanner_skip_to_token cd_Scanner_skip_to_token ct_Scanner_skip_to_token : Value} {fa_Scanner_skip_to_token : Addr} {od_Scanner_read_token an_Scanner_read_token : Option Addr} {sl_Scanner_read_token : Array (Option Value)} {oc_Scanner_read_token kV_Scanner_read_token dc_Scanner_read_token pm_Scanner_read_token cd_Scanner_read_token ct_Scanner_read_token : Value} {fa_Scanner_read_token : Addr} {od_Scanner_kind_here an_Scanner_kind_here : Option Addr} {sl_Scanner_kind_here : Array (Option Value)} {oc_Scanner_kind_here kV_Scanner_kind_here dc_Scanner_kind_here pm_Scanner_kind_here cd_Scanner_kind_here ct_Scanner_kind_here : Value} {fa_Scanner_kind_here : Addr} {od_Scanner_read_value an_Scanner_read_value : Option Addr} {sl_Scanner_read_value : Array (Option Value)} {oc_Scanner_read_value kV_Scanner_read_value dc_Scanner_read_value pm_Scanner_read_value cd_Scanner_read_value ct_Scanner_read_value : Value} {fa_Scanner_read_value : Addr} {od_Scanner_read_name an_Scanner_read_name : Option Addr} {sl_Scanner_read_name : Array (Option Value)} {oc_Scanner_read_name kV_Scanner_read_name dc_Scanner_read_name pm_Scanner_read_name cd_Scanner_read_name ct_Scanner_read_name : Value} {fa_Scanner_read_name : Addr} {od_Scanner_read_number an_Scanner_read_number : Option Addr} {sl_Scanner_read_number : Array (Option Value)} {oc_Scanner_read_number kV_Scanner_read_number dc_Scanner_read_number pm_Scanner_read_number cd_Scanner_read_number ct_Scanner_read_number : Value} {fa_Scanner_read_number : Addr} {od_Scanner_read_hex_number an_Scanner_read_hex_number : Option Addr} {sl_Scanner_read_hex_number : Array (Option Value)} {oc_Scanner_read_hex_number kV_Scanner_read_hex_number dc_Scanner_read_hex_number pm_Scanner_read_hex_number cd_Scanner_read_hex_number ct_Scanner_read_hex_number : Value} {fa_Scanner_read_hex_number : Addr} {od_Scanner_read_decimal_number an_Scanner_read_decimal_number : Option Addr} {sl_Scanner_read_decimal_number : Array (Option Value)} {oc_Scanner_read_decimal_number kV_Scanner_read_decimal_number dc_Scanner_read_decimal_number pm_Scanner_read_decimal_number cd_Scanner_read_decimal_number ct_Scanner_read_decimal_number : Value} {fa_Scanner_read_decimal_number : Addr} {od_Scanner_read_string an_Scanner_read_string : Option Addr} {sl_Scanner_read_string : Array (Option Value)} {oc_Scanner_read_string kV_Scanner_read_string dc_Scanner_read_string pm_Scanner_read_string cd_Scanner_read_string ct_Scanner_read_string : Value} {fa_Scanner_read_string : Addr} {od_Scanner_read_string_byte an_Scanner_read_string_byte : Option Addr} {sl_Scanner_read_string_byte : Array (Option Value)} {oc_Scanner_read_string_byte kV_Scanner_read_string_byte dc_Scanner_read_string_byte pm_Scanner_read_string_byte cd_Scanner_read_string_byte ct_Scanner_read_string_byte : Value} {fa_Scanner_read_string_byte : Addr} {od_Scanner_read_escape an_Scanner_read_escape : Option Addr} {sl_Scanner_read_escape : Array (Option Value)} {oc_Scanner_read_escape kV_Scanner_read_escape dc_Scanner_read_escape pm_Scanner_read_escape cd_Scanner_read_escape ct_Scanner_read_escape : Value} {fa_Scanner_read_escape : Addr} {od_Scanner_read_sign an_Scanner_read_sign : Option Addr} {sl_Scanner_read_sign : Array (Option Value)} {oc_Scanner_read_sign kV_Scanner_read_sign dc_Scanner_read_sign pm_Scanner_read_sign cd_Scanner_read_sign ct_Scanner_read_sign : Value} {fa_Scanner_read_sign : Addr} {od_scan an_scan : Option Addr} {sl_scan : Array (Option Value)} {oc_scan kV_scan dc_scan pm_scan cd_scan ct_scan : Value} {fa_scan : Addr} {od_tokens an_tokens : Option Addr} {sl_tokens : Array (Option Value)} {oc_tokens kV_tokens dc_tokens pm_tokens cd_tokens ct_tokens : Value} {fa_tokens : Addr}
    (xg_KINDS : PySem.W.nsIn K mainGlobals "KINDS" = some (some (.ref v_KINDS)))
    (xl_KINDS : K.lookup v_KINDS = some ⟨.type "dict", none, .dict es_KINDS nn_KINDS, #[]⟩)
    (xp_KINDS : Paired (EntOk w) tab_KINDS es_KINDS.toList)
    (xw_KINDS : (v_KINDS == sysModules) = false)
    (xg_PERCENT : PySem.W.nsIn K mainGlobals "PERCENT" = some (some (.int 37 tk_PERCENT)))
    (xg_LONGEST_NAME : PySem.W.nsIn K mainGlobals "LONGEST_NAME" = some (some (.int 32 tk_LONGEST_NAME)))
    (xg_LONGEST_STRING : PySem.W.nsIn K mainGlobals "LONGEST_STRING" = some (some (.int 1024 tk_LONGEST_STRING)))
    (xg_GREATEST_NUMBER : PySem.W.nsIn K mainGlobals "GREATEST_NUMBER" = some (some (.int 9223372036854775807 tk_GREATEST_NUMBER)))
    (xg_MOST_HEX_DIGITS : PySem.W.nsIn K mainGlobals "MOST_HEX_DIGITS" = some (some (.int 16 tk_MOST_HEX_DIGITS)))
    (xg_LINE_FEED : PySem.W.nsIn K mainGlobals "LINE_FEED" = some (some (.int 10 tk_LINE_FEED)))
    (xg_QUOTE : PySem.W.nsIn K mainGlobals "QUOTE" = some (some (.int 34 tk_QUOTE)))
    (xg_HASH : PySem.W.nsIn K mainGlobals "HASH" = some (some (.int 35 tk_HASH)))
    (xg_EQUALS : PySem.W.nsIn K mainGlobals "EQUALS" = some (some (.int 61 tk_EQUALS)))
    (xg_BACKSLASH : PySem.W.nsIn K mainGlobals "BACKSLASH" = some (some (.int 92 tk_BACKSLASH)))
    (xg_LOWER_X : PySem.W.nsIn K mainGlobals "LOWER_X" = some (some (.int 120 tk_LOWER_X)))
    (xg_NO_BYTE : PySem.W.nsIn K mainGlobals "NO_BYTE" = some (some (.int 256 tk_NO_BYTE)))
    (xg_WORDS : PySem.W.nsIn K mainGlobals "WORDS" = some (some (.ref v_WORDS)))
    (xl_WORDS : K.lookup v_WORDS = some ⟨.type "tuple", dd_WORDS, .seq it_WORDS nn_WORDS, so_WORDS⟩)
    (xz_WORDS : it_WORDS.size ≤ sizeLine)
    (xp_WORDS : Vals seq_WORDS it_WORDS.toList)
    (xg_SIGNS : PySem.W.nsIn K mainGlobals "SIGNS" = some (some (.ref v_SIGNS)))
    (xl_SIGNS : K.lookup v_SIGNS = some ⟨.type "dict", none, .dict es_SIGNS nn_SIGNS, #[]⟩)
    (xp_SIGNS : Paired (EntOk w) tab_SIGNS es_SIGNS.toList)
    (xw_SIGNS : (v_SIGNS == sysModules) = false)
    (xg_SIGNS_WITH_EQUALS : PySem.W.nsIn K mainGlobals "SIGNS_WITH_EQUALS" = some (some (.ref v_SIGNS_WITH_EQUALS)))
    (xl_SIGNS_WITH_EQUALS : K.lookup v_SIGNS_WITH_EQUALS = some ⟨.type "dict", none, .dict es_SIGNS_WITH_EQUALS nn_SIGNS_WITH_EQUALS, #[]⟩)
    (xp_SIGNS_WITH_EQUALS : Paired (EntOk w) tab_SIGNS_WITH_EQUALS es_SIGNS_WITH_EQUALS.toList)
    (xw_SIGNS_WITH_EQUALS : (v_SIGNS_WITH_EQUALS == sysModules) = false)
    (xg_ESCAPES : PySem.W.nsIn K mainGlobals "ESCAPES" = some (some (.ref v_ESCAPES)))
    (xl_ESCAPES : K.lookup v_ESCAPES = some ⟨.type "dict", none, .dict es_ESCAPES nn_ESCAPES, #[]⟩)
    (xp_ESCAPES : Paired (EntOk w) tab_ESCAPES es_ESCAPES.toList)
    (xw_ESCAPES : (v_ESCAPES == sysModules) = false)
    (xg_LONGEST_TEXT : PySem.W.nsIn K mainGlobals "LONGEST_TEXT" = some (some (.int 65536 tk_LONGEST_TEXT)))
    (xk_Token : PySem.W.nsIn K mainGlobals "Token" = some (some (.ref c_Token)))
    (xq1_Token : PySem.W.plainGet K c_Token Str.empty = true)
    (xq2_Token : PySem.W.hasDictIn K c_Token = true)
    (xq3_Token : PySem.W.plainOver K c_Token = true)
    (xq4_Token : PySem.W.findIn K (.ref c_Token) "__setattr__" = some (some (.builtin "object.__setattr__")))
    (xn_Token_kind : PySem.W.findIn K (.ref c_Token) "kind" = some none)
    (xn_Token_value : PySem.W.findIn K (.ref c_Token) "value" = some none)
    (xn_Token_line : PySem.W.findIn K (.ref c_Token) "line" = some none)
    (xn_Token_column : PySem.W.findIn K (.ref c_Token) "column" = some none)
    (xk_Scanner : PySem.W.nsIn K mainGlobals "Scanner" = some (some (.ref c_Scanner)))
    (xq1_Scanner : PySem.W.plainGet K c_Scanner Str.empty = true)
    (xq2_Scanner : PySem.W.hasDictIn K c_Scanner = true)
    (xq3_Scanner : PySem.W.plainOver K c_Scanner = true)
    (xq4_Scanner : PySem.W.findIn K (.ref c_Scanner) "__setattr__" = some (some (.builtin "object.__setattr__")))
    (xn_Scanner_text : PySem.W.findIn K (.ref c_Scanner) "text" = some none)
    (xn_Scanner_place : PySem.W.findIn K (.ref c_Scanner) "place" = some none)
    (xn_Scanner_line : PySem.W.findIn K (.ref c_Scanner) "line" = some none)
    (xn_Scanner_line_start : PySem.W.findIn K (.ref c_Scanner) "line_start" = some none)
    (xn_Scanner_words : PySem.W.findIn K (.ref c_Scanner) "words" = some none)
    (xb_len : PySem.W.nsIn K mainGlobals "len" = some none)
    (xb_list : PySem.W.nsIn K mainGlobals "list" = some none)
    (xb_min : PySem.W.nsIn K mainGlobals "min" = some none)
    (xb_ord : PySem.W.nsIn K mainGlobals "ord" = some none)
    (xb_tuple : PySem.W.nsIn K mainGlobals "tuple" = some none)
    (xa_told_bytes : PySem.W.nsIn K mainGlobals "told_bytes" = some (some (.ref fa_told_bytes)))
    (xl_told_bytes : K.lookup fa_told_bytes = some ⟨oc_told_bytes, od_told_bytes, .func (PySem.W.fnOf "told_bytes" "told_bytes" (defArgs s_told_bytes) (defBody s_told_bytes) (defScope s_told_bytes) .none kV_told_bytes dc_told_bytes pm_told_bytes an_told_bytes cd_told_bytes ct_told_bytes), sl_told_bytes⟩)
    (xc_told_bytes : PySem.W.codeIn K cd_told_bytes "told_bytes" = true)
    (xk_told_bytes : PySem.W.keepIn K (.ref fa_told_bytes) = true)
    (xa_written_bytes : PySem.W.nsIn K mainGlobals "written_bytes" = some (some (.ref fa_written_bytes)))
    (xl_written_bytes : K.lookup fa_written_bytes = some ⟨oc_written_bytes, od_written_bytes, .func (PySem.W.fnOf "written_bytes" "written_bytes" (defArgs s_written_bytes) (defBody s_written_bytes) (defScope s_written_bytes) .none kV_written_bytes dc_written_bytes pm_written_bytes an_written_bytes cd_written_bytes ct_written_bytes), sl_written_bytes⟩)
    (xc_written_bytes : PySem.W.codeIn K cd_written_bytes "written_bytes" = true)
    (xk_written_bytes : PySem.W.keepIn K (.ref fa_written_bytes) = true)
    (xa_token_bytes : PySem.W.nsIn K mainGlobals "token_bytes" = some (some (.ref fa_token_bytes)))
    (xl_token_bytes : K.lookup fa_token_bytes = some ⟨oc_token_bytes, od_token_bytes, .func (PySem.W.fnOf "token_bytes" "token_bytes" (defArgs s_token_bytes) (defBody s_token_bytes) (defScope s_token_bytes) .none kV_token_bytes dc_token_bytes pm_token_bytes an_token_bytes cd_token_bytes ct_token_bytes), sl_token_bytes⟩)
    (xc_token_bytes : PySem.W.codeIn K cd_token_bytes "token_bytes" = true)
    (xk_token_bytes : PySem.W.keepIn K (.ref fa_token_bytes) = true)
    (xa_told_tokens : PySem.W.nsIn K mainGlobals "told_tokens" = some (some (.ref fa_told_tokens)))
    (xl_told_tokens : K.lookup fa_told_tokens = some ⟨oc_told_tokens, od_told_tokens, .func (PySem.W.fnOf "told_tokens" "told_tokens" (defArgs s_told_tokens) (defBody s_told_tokens) (defScope s_told_tokens) .none kV_told_tokens dc_told_tokens pm_told_tokens an_told_tokens cd_told_tokens ct_told_tokens), sl_told_tokens⟩)
    (xc_told_tokens : PySem.W.codeIn K cd_told_tokens "told_tokens" = true)
    (xk_told_tokens : PySem.W.keepIn K (.ref fa_told_tokens) = true)
    (xa_Token_init : PySem.W.findIn K (.ref c_Token) "__init__" = some (some (.ref fa_Token_init)))
    (xi_Token_init : PySem.W.isFn K (.ref fa_Token_init) = true)
    (xl_Token_init : K.lookup fa_Token_init = some ⟨oc_Token_init, od_Token_init, .func (PySem.W.fnOf "__init__" "Token.__init__" (defArgs s_Token_init) (defBody s_Token_init) (defScope s_Token_init) .none kV_Token_init dc_Token_init pm_Token_init an_Token_init cd_Token_init ct_Token_init), sl_Token_init⟩)
    (xc_Token_init : PySem.W.codeIn K cd_Token_init "Token.__init__" = true)
    (xk_Token_init : PySem.W.keepIn K (.ref fa_Token_init) = true)
    (xm_Token_init : PySem.W.makesIn K c_Token = true)
    (xd_Token_init : PySem.W.keepIn K (.ref c_Token) = true)
    (xa_is_blank : PySem.W.nsIn K mainGlobals "is_blank" = some (some (.ref fa_is_blank)))
    (xl_is_blank : K.lookup fa_is_blank = some ⟨oc_is_blank, od_is_blank, .func (PySem.W.fnOf "is_blank" "is_blank" (defArgs s_is_blank) (defBody s_is_blank) (defScope s_is_blank) .none kV_is_blank dc_is_blank pm_is_blank an_is_blank cd_is_blank ct_is_blank), sl_is_blank⟩)
    (xc_is_blank : PySem.W.codeIn K cd_is_blank "is_blank" = true)
    (xk_is_blank : PySem.W.keepIn K (.ref fa_is_blank) = true)
    (xa_is_digit : PySem.W.nsIn K mainGlobals "is_digit" = some (some (.ref fa_is_digit)))
    (xl_is_digit : K.lookup fa_is_digit = some ⟨oc_is_digit, od_is_digit, .func (PySem.W.fnOf "is_digit" "is_digit" (defArgs s_is_digit) (defBody s_is_digit) (defScope s_is_digit) .none kV_is_digit dc_is_digit pm_is_digit an_is_digit cd_is_digit ct_is_digit), sl_is_digit⟩)
    (xc_is_digit : PySem.W.codeIn K cd_is_digit "is_digit" = true)
    (xk_is_digit : PySem.W.keepIn K (.ref fa_is_digit) = true)
    (xa_is_letter : PySem.W.nsIn K mainGlobals "is_letter" = some (some (.ref fa_is_letter)))
    (xl_is_letter : K.lookup fa_is_letter = some ⟨oc_is_letter, od_is_letter, .func (PySem.W.fnOf "is_letter" "is_letter" (defArgs s_is_letter) (defBody s_is_letter) (defScope s_is_letter) .none kV_is_letter dc_is_letter pm_is_letter an_is_letter cd_is_letter ct_is_letter), sl_is_letter⟩)
    (xc_is_letter : PySem.W.codeIn K cd_is_letter "is_letter" = true)
    (xk_is_letter : PySem.W.keepIn K (.ref fa_is_letter) = true)
    (xa_is_name_byte : PySem.W.nsIn K mainGlobals "is_name_byte" = some (some (.ref fa_is_name_byte)))
    (xl_is_name_byte : K.lookup fa_is_name_byte = some ⟨oc_is_name_byte, od_is_name_byte, .func (PySem.W.fnOf "is_name_byte" "is_name_byte" (defArgs s_is_name_byte) (defBody s_is_name_byte) (defScope s_is_name_byte) .none kV_is_name_byte dc_is_name_byte pm_is_name_byte an_is_name_byte cd_is_name_byte ct_is_name_byte), sl_is_name_byte⟩)
    (xc_is_name_byte : PySem.W.codeIn K cd_is_name_byte "is_name_byte" = true)
    (xk_is_name_byte : PySem.W.keepIn K (.ref fa_is_name_byte) = true)
    (xa_hex_worth : PySem.W.nsIn K mainGlobals "hex_worth" = some (some (.ref fa_hex_worth)))
    (xl_hex_worth : K.lookup fa_hex_worth = some ⟨oc_hex_worth, od_hex_worth, .func (PySem.W.fnOf "hex_worth" "hex_worth" (defArgs s_hex_worth) (defBody s_hex_worth) (defScope s_hex_worth) .none kV_hex_worth dc_hex_worth pm_hex_worth an_hex_worth cd_hex_worth ct_hex_worth), sl_hex_worth⟩)
    (xc_hex_worth : PySem.W.codeIn K cd_hex_worth "hex_worth" = true)
    (xk_hex_worth : PySem.W.keepIn K (.ref fa_hex_worth) = true)
    (xa_words_by_bytes : PySem.W.nsIn K mainGlobals "words_by_bytes" = some (some (.ref fa_words_by_bytes)))
    (xl_words_by_bytes : K.lookup fa_words_by_bytes = some ⟨oc_words_by_bytes, od_words_by_bytes, .func (PySem.W.fnOf "words_by_bytes" "words_by_bytes" (defArgs s_words_by_bytes) (defBody s_words_by_bytes) (defScope s_words_by_bytes) .none kV_words_by_bytes dc_words_by_bytes pm_words_by_bytes an_words_by_bytes cd_words_by_bytes ct_words_by_bytes), sl_words_by_bytes⟩)
    (xc_words_by_bytes : PySem.W.codeIn K cd_words_by_bytes "words_by_bytes" = true)
    (xk_words_by_bytes : PySem.W.keepIn K (.ref fa_words_by_bytes) = true)
    (xa_signed_worth : PySem.W.nsIn K mainGlobals "signed_worth" = some (some (.ref fa_signed_worth)))
    (xl_signed_worth : K.lookup fa_signed_worth = some ⟨oc_signed_worth, od_signed_worth, .func (PySem.W.fnOf "signed_worth" "signed_worth" (defArgs s_signed_worth) (defBody s_signed_worth) (defScope s_signed_worth) .none kV_signed_worth dc_signed_worth pm_signed_worth an_signed_worth cd_signed_worth ct_signed_worth), sl_signed_worth⟩)
    (xc_signed_worth : PySem.W.codeIn K cd_signed_worth "signed_worth" = true)
    (xk_signed_worth : PySem.W.keepIn K (.ref fa_signed_worth) = true)
    (xa_Scanner_init : PySem.W.findIn K (.ref c_Scanner) "__init__" = some (some (.ref fa_Scanner_init)))
    (xi_Scanner_init : PySem.W.isFn K (.ref fa_Scanner_init) = true)
    (xl_Scanner_init : K.lookup fa_Scanner_init = some ⟨oc_Scanner_init, od_Scanner_init, .func (PySem.W.fnOf "__init__" "Scanner.__init__" (defArgs s_Scanner_init) (defBody s_Scanner_init) (defScope s_Scanner_init) .none kV_Scanner_init dc_Scanner_init pm_Scanner_init an_Scanner_init cd_Scanner_init ct_Scanner_init), sl_Scanner_init⟩)
    (xc_Scanner_init : PySem.W.codeIn K cd_Scanner_init "Scanner.__init__" = true)
    (xk_Scanner_init : PySem.W.keepIn K (.ref fa_Scanner_init) = true)
    (xm_Scanner_init : PySem.W.makesIn K c_Scanner = true)
    (xd_Scanner_init : PySem.W.keepIn K (.ref c_Scanner) = true)
    (xa_Scanner_byte_ahead : PySem.W.findIn K (.ref c_Scanner) "byte_ahead" = some (some (.ref fa_Scanner_byte_ahead)))
    (xi_Scanner_byte_ahead : PySem.W.isFn K (.ref fa_Scanner_byte_ahead) = true)
    (xl_Scanner_byte_ahead : K.lookup fa_Scanner_byte_ahead = some ⟨oc_Scanner_byte_ahead, od_Scanner_byte_ahead, .func (PySem.W.fnOf "byte_ahead" "Scanner.byte_ahead" (defArgs s_Scanner_byte_ahead) (defBody s_Scanner_byte_ahead) (defScope s_Scanner_byte_ahead) .none kV_Scanner_byte_ahead dc_Scanner_byte_ahead pm_Scanner_byte_ahead an_Scanner_byte_ahead cd_Scanner_byte_ahead ct_Scanner_byte_ahead), sl_Scanner_byte_ahead⟩)
    (xc_Scanner_byte_ahead : PySem.W.codeIn K cd_Scanner_byte_ahead "Scanner.byte_ahead" = true)
    (xk_Scanner_byte_ahead : PySem.W.keepIn K (.ref fa_Scanner_byte_ahead) = true)
    (xa_Scanner_skip_remark : PySem.W.findIn K (.ref c_Scanner) "skip_remark" = some (some (.ref fa_Scanner_skip_remark)))
    (xi_Scanner_skip_remark : PySem.W.isFn K (.ref fa_Scanner_skip_remark) = true)
    (xl_Scanner_skip_remark : K.lookup fa_Scanner_skip_remark = some ⟨oc_Scanner_skip_remark, od_Scanner_skip_remark, .func (PySem.W.fnOf "skip_remark" "Scanner.skip_remark" (defArgs s_Scanner_skip_remark) (defBody s_Scanner_skip_remark) (defScope s_Scanner_skip_remark) .none kV_Scanner_skip_remark dc_Scanner_skip_remark pm_Scanner_skip_remark an_Scanner_skip_remark cd_Scanner_skip_remark ct_Scanner_skip_remark), sl_Scanner_skip_remark⟩)
    (xc_Scanner_skip_remark : PySem.W.codeIn K cd_Scanner_skip_remark "Scanner.skip_remark" = true)
    (xk_Scanner_skip_remark : PySem.W.keepIn K (.ref fa_Scanner_skip_remark) = true)
    (xa_Scanner_skip_blank : PySem.W.findIn K (.ref c_Scanner) "skip_blank" = some (some (.ref fa_Scanner_skip_blank)))
    (xi_Scanner_skip_blank : PySem.W.isFn K (.ref fa_Scanner_skip_blank) = true)
    (xl_Scanner_skip_blank : K.lookup fa_Scanner_skip_blank = some ⟨oc_Scanner_skip_blank, od_Scanner_skip_blank, .func (PySem.W.fnOf "skip_blank" "Scanner.skip_blank" (defArgs s_Scanner_skip_blank) (defBody s_Scanner_skip_blank) (defScope s_Scanner_skip_blank) .none kV_Scanner_skip_blank dc_Scanner_skip_blank pm_Scanner_skip_blank an_Scanner_skip_blank cd_Scanner_skip_blank ct_Scanner_skip_blank), sl_Scanner_skip_blank⟩)
    (xc_Scanner_skip_blank : PySem.W.codeIn K cd_Scanner_skip_blank "Scanner.skip_blank" = true)
    (xk_Scanner_skip_blank : PySem.W.keepIn K (.ref fa_Scanner_skip_blank) = true)
    (xa_Scanner_skip_to_token : PySem.W.findIn K (.ref c_Scanner) "skip_to_token" = some (some (.ref fa_Scanner_skip_to_token)))
    (xi_Scanner_skip_to_token : PySem.W.isFn K (.ref fa_Scanner_skip_to_token) = true)
    (xl_Scanner_skip_to_token : K.lookup fa_Scanner_skip_to_token = some ⟨oc_Scanner_skip_to_token, od_Scanner_skip_to_token, .func (PySem.W.fnOf "skip_to_token" "Scanner.skip_to_token" (defArgs s_Scanner_skip_to_token) (defBody s_Scanner_skip_to_token) (defScope s_Scanner_skip_to_token) .none kV_Scanner_skip_to_token dc_Scanner_skip_to_token pm_Scanner_skip_to_token an_Scanner_skip_to_token cd_Scanner_skip_to_token ct_Scanner_skip_to_token), sl_Scanner_skip_to_token⟩)
    (xc_Scanner_skip_to_token : PySem.W.codeIn K cd_Scanner_skip_to_token "Scanner.skip_to_token" = true)
    (xk_Scanner_skip_to_token : PySem.W.keepIn K (.ref fa_Scanner_skip_to_token) = true)
    (xa_Scanner_read_token : PySem.W.findIn K (.ref c_Scanner) "read_token" = some (some (.ref fa_Scanner_read_token)))
    (xi_Scanner_read_token : PySem.W.isFn K (.ref fa_Scanner_read_token) = true)
    (xl_Scanner_read_token : K.lookup fa_Scanner_read_token = some ⟨oc_Scanner_read_token, od_Scanner_read_token, .func (PySem.W.fnOf "read_token" "Scanner.read_token" (defArgs s_Scanner_read_token) (defBody s_Scanner_read_token) (defScope s_Scanner_read_token) .none kV_Scanner_read_token dc_Scanner_read_token pm_Scanner_read_token an_Scanner_read_token cd_Scanner_read_token ct_Scanner_read_token), sl_Scanner_read_token⟩)
    (xc_Scanner_read_token : PySem.W.codeIn K cd_Scanner_read_token "Scanner.read_token" = true)
    (xk_Scanner_read_token : PySem.W.keepIn K (.ref fa_Scanner_read_token) = true)
    (xa_Scanner_kind_here : PySem.W.findIn K (.ref c_Scanner) "kind_here" = some (some (.ref fa_Scanner_kind_here)))
    (xi_Scanner_kind_here : PySem.W.isFn K (.ref fa_Scanner_kind_here) = true)
    (xl_Scanner_kind_here : K.lookup fa_Scanner_kind_here = some ⟨oc_Scanner_kind_here, od_Scanner_kind_here, .func (PySem.W.fnOf "kind_here" "Scanner.kind_here" (defArgs s_Scanner_kind_here) (defBody s_Scanner_kind_here) (defScope s_Scanner_kind_here) .none kV_Scanner_kind_here dc_Scanner_kind_here pm_Scanner_kind_here an_Scanner_kind_here cd_Scanner_kind_here ct_Scanner_kind_here), sl_Scanner_kind_here⟩)
    (xc_Scanner_kind_here : PySem.W.codeIn K cd_Scanner_kind_here "Scanner.kind_here" = true)
    (xk_Scanner_kind_here : PySem.W.keepIn K (.ref fa_Scanner_kind_here) = true)
    (xa_Scanner_read_value : PySem.W.findIn K (.ref c_Scanner) "read_value" = some (some (.ref fa_Scanner_read_value)))
    (xi_Scanner_read_value : PySem.W.isFn K (.ref fa_Scanner_read_value) = true)
    (xl_Scanner_read_value : K.lookup fa_Scanner_read_value = some ⟨oc_Scanner_read_value, od_Scanner_read_value, .func (PySem.W.fnOf "read_value" "Scanner.read_value" (defArgs s_Scanner_read_value) (defBody s_Scanner_read_value) (defScope s_Scanner_read_value) .none kV_Scanner_read_value dc_Scanner_read_value pm_Scanner_read_value an_Scanner_read_value cd_Scanner_read_value ct_Scanner_read_value), sl_Scanner_read_value⟩)
    (xc_Scanner_read_value : PySem.W.codeIn K cd_Scanner_read_value "Scanner.read_value" = true)
    (xk_Scanner_read_value : PySem.W.keepIn K (.ref fa_Scanner_read_value) = true)
    (xa_Scanner_read_name : PySem.W.findIn K (.ref c_Scanner) "read_name" = some (some (.ref fa_Scanner_read_name)))
    (xi_Scanner_read_name : PySem.W.isFn K (.ref fa_Scanner_read_name) = true)
    (xl_Scanner_read_name : K.lookup fa_Scanner_read_name = some ⟨oc_Scanner_read_name, od_Scanner_read_name, .func (PySem.W.fnOf "read_name" "Scanner.read_name" (defArgs s_Scanner_read_name) (defBody s_Scanner_read_name) (defScope s_Scanner_read_name) .none kV_Scanner_read_name dc_Scanner_read_name pm_Scanner_read_name an_Scanner_read_name cd_Scanner_read_name ct_Scanner_read_name), sl_Scanner_read_name⟩)
    (xc_Scanner_read_name : PySem.W.codeIn K cd_Scanner_read_name "Scanner.read_name" = true)
    (xk_Scanner_read_name : PySem.W.keepIn K (.ref fa_Scanner_read_name) = true)
    (xa_Scanner_read_number : PySem.W.findIn K (.ref c_Scanner) "read_number" = some (some (.ref fa_Scanner_read_number)))
    (xi_Scanner_read_number : PySem.W.isFn K (.ref fa_Scanner_read_number) = true)
    (xl_Scanner_read_number : K.lookup fa_Scanner_read_number = some ⟨oc_Scanner_read_number, od_Scanner_read_number, .func (PySem.W.fnOf "read_number" "Scanner.read_number" (defArgs s_Scanner_read_number) (defBody s_Scanner_read_number) (defScope s_Scanner_read_number) .none kV_Scanner_read_number dc_Scanner_read_number pm_Scanner_read_number an_Scanner_read_number cd_Scanner_read_number ct_Scanner_read_number), sl_Scanner_read_number⟩)
    (xc_Scanner_read_number : PySem.W.codeIn K cd_Scanner_read_number "Scanner.read_number" = true)
    (xk_Scanner_read_number : PySem.W.keepIn K (.ref fa_Scanner_read_number) = true)
    (xa_Scanner_read_hex_number : PySem.W.findIn K (.ref c_Scanner) "read_hex_number" = some (some (.ref fa_Scanner_read_hex_number)))
    (xi_Scanner_read_hex_number : PySem.W.isFn K (.ref fa_Scanner_read_hex_number) = true)
    (xl_Scanner_read_hex_number : K.lookup fa_Scanner_read_hex_number = some ⟨oc_Scanner_read_hex_number, od_Scanner_read_hex_number, .func (PySem.W.fnOf "read_hex_number" "Scanner.read_hex_number" (defArgs s_Scanner_read_hex_number) (defBody s_Scanner_read_hex_number) (defScope s_Scanner_read_hex_number) .none kV_Scanner_read_hex_number dc_Scanner_read_hex_number pm_Scanner_read_hex_number an_Scanner_read_hex_number cd_Scanner_read_hex_number ct_Scanner_read_hex_number), sl_Scanner_read_hex_number⟩)
    (xc_Scanner_read_hex_number : PySem.W.codeIn K cd_Scanner_read_hex_number "Scanner.read_hex_number" = true)
    (xk_Scanner_read_hex_number : PySem.W.keepIn K (.ref fa_Scanner_read_hex_number) = true)
    (xa_Scanner_read_decimal_number : PySem.W.findIn K (.ref c_Scanner) "read_decimal_number" = some (some (.ref fa_Scanner_read_decimal_number)))
    (xi_Scanner_read_decimal_number : PySem.W.isFn K (.ref fa_Scanner_read_decimal_number) = true)
    (xl_Scanner_read_decimal_number : K.lookup fa_Scanner_read_decimal_number = some ⟨oc_Scanner_read_decimal_number, od_Scanner_read_decimal_number, .func (PySem.W.fnOf "read_decimal_number" "Scanner.read_decimal_number" (defArgs s_Scanner_read_decimal_number) (defBody s_Scanner_read_decimal_number) (defScope s_Scanner_read_decimal_number) .none kV_Scanner_read_decimal_number dc_Scanner_read_decimal_number pm_Scanner_read_decimal_number an_Scanner_read_decimal_number cd_Scanner_read_decimal_number ct_Scanner_read_decimal_number), sl_Scanner_read_decimal_number⟩)
    (xc_Scanner_read_decimal_number : PySem.W.codeIn K cd_Scanner_read_decimal_number "Scanner.read_decimal_number" = true)
    (xk_Scanner_read_decimal_number : PySem.W.keepIn K (.ref fa_Scanner_read_decimal_number) = true)
    (xa_Scanner_read_string : PySem.W.findIn K (.ref c_Scanner) "read_string" = some (some (.ref fa_Scanner_read_string)))
    (xi_Scanner_read_string : PySem.W.isFn K (.ref fa_Scanner_read_string) = true)
    (xl_Scanner_read_string : K.lookup fa_Scanner_read_string = some ⟨oc_Scanner_read_string, od_Scanner_read_string, .func (PySem.W.fnOf "read_string" "Scanner.read_string" (defArgs s_Scanner_read_string) (defBody s_Scanner_read_string) (defScope s_Scanner_read_string) .none kV_Scanner_read_string dc_Scanner_read_string pm_Scanner_read_string an_Scanner_read_string cd_Scanner_read_string ct_Scanner_read_string), sl_Scanner_read_string⟩)
    (xc_Scanner_read_string : PySem.W.codeIn K cd_Scanner_read_string "Scanner.read_string" = true)
    (xk_Scanner_read_string : PySem.W.keepIn K (.ref fa_Scanner_read_string) = true)
    (xa_Scanner_read_string_byte : PySem.W.findIn K (.ref c_Scanner) "read_string_byte" = some (some (.ref fa_Scanner_read_string_byte)))
    (xi_Scanner_read_string_byte : PySem.W.isFn K (.ref fa_Scanner_read_string_byte) = true)
    (xl_Scanner_read_string_byte : K.lookup fa_Scanner_read_string_byte = some ⟨oc_Scanner_read_string_byte, od_Scanner_read_string_byte, .func (PySem.W.fnOf "read_string_byte" "Scanner.read_string_byte" (defArgs s_Scanner_read_string_byte) (defBody s_Scanner_read_string_byte) (defScope s_Scanner_read_string_byte) .none kV_Scanner_read_string_byte dc_Scanner_read_string_byte pm_Scanner_read_string_byte an_Scanner_read_string_byte cd_Scanner_read_string_byte ct_Scanner_read_string_byte), sl_Scanner_read_string_byte⟩)
    (xc_Scanner_read_string_byte : PySem.W.codeIn K cd_Scanner_read_string_byte "Scanner.read_string_byte" = true)
    (xk_Scanner_read_string_byte : PySem.W.keepIn K (.ref fa_Scanner_read_string_byte) = true)
    (xa_Scanner_read_escape : PySem.W.findIn K (.ref c_Scanner) "read_escape" = some (some (.ref fa_Scanner_read_escape)))
    (xi_Scanner_read_escape : PySem.W.isFn K (.ref fa_Scanner_read_escape) = true)
    (xl_Scanner_read_escape : K.lookup fa_Scanner_read_escape = some ⟨oc_Scanner_read_escape, od_Scanner_read_escape, .func (PySem.W.fnOf "read_escape" "Scanner.read_escape" (defArgs s_Scanner_read_escape) (defBody s_Scanner_read_escape) (defScope s_Scanner_read_escape) .none kV_Scanner_read_escape dc_Scanner_read_escape pm_Scanner_read_escape an_Scanner_read_escape cd_Scanner_read_escape ct_Scanner_read_escape), sl_Scanner_read_escape⟩)
    (xc_Scanner_read_escape : PySem.W.codeIn K cd_Scanner_read_escape "Scanner.read_escape" = true)
    (xk_Scanner_read_escape : PySem.W.keepIn K (.ref fa_Scanner_read_escape) = true)
    (xa_Scanner_read_sign : PySem.W.findIn K (.ref c_Scanner) "read_sign" = some (some (.ref fa_Scanner_read_sign)))
    (xi_Scanner_read_sign : PySem.W.isFn K (.ref fa_Scanner_read_sign) = true)
    (xl_Scanner_read_sign : K.lookup fa_Scanner_read_sign = some ⟨oc_Scanner_read_sign, od_Scanner_read_sign, .func (PySem.W.fnOf "read_sign" "Scanner.read_sign" (defArgs s_Scanner_read_sign) (defBody s_Scanner_read_sign) (defScope s_Scanner_read_sign) .none kV_Scanner_read_sign dc_Scanner_read_sign pm_Scanner_read_sign an_Scanner_read_sign cd_Scanner_read_sign ct_Scanner_read_sign), sl_Scanner_read_sign⟩)
    (xc_Scanner_read_sign : PySem.W.codeIn K cd_Scanner_read_sign "Scanner.read_sign" = true)
    (xk_Scanner_read_sign : PySem.W.keepIn K (.ref fa_Scanner_read_sign) = true)
    (xa_scan : PySem.W.nsIn K mainGlobals "scan" = some (some (.ref fa_scan)))
    (xl_scan : K.lookup fa_scan = some ⟨oc_scan, od_scan, .func (PySem.W.fnOf "scan" "scan" (defArgs s_scan) (defBody s_scan) (defScope s_scan) .none kV_scan dc_scan pm_scan an_scan cd_scan ct_scan), sl_scan⟩)
    (xc_scan : PySem.W.codeIn K cd_scan "scan" = true)
    (xk_scan : PySem.W.keepIn K (.ref fa_scan) = true)
    (xa_tokens : PySem.W.nsIn K mainGlobals "tokens" = some (some (.ref fa_tokens)))
    (xl_tokens : K.lookup fa_tokens = some ⟨oc_tokens, od_tokens, .func (PySem.W.fnOf "tokens" "tokens" (defArgs s_tokens) (defBody s_tokens) (defScope s_tokens) .none kV_tokens dc_tokens pm_tokens an_tokens cd_tokens ct_tokens), sl_tokens⟩)
    (xc_tokens : PySem.W.codeIn K cd_tokens "tokens" = true)
    (xk_tokens : PySem.W.keepIn K (.ref fa_tokens) = true) :
    Txt w K mg ⟨v_KINDS, v_WORDS, v_SIGNS, v_SIGNS_WITH_EQUALS, v_ESCAPES, c_Token, c_Scanner⟩ :=
  ⟨⟨_, PySem.W.mg_of X G xg_KINDS, rfl⟩,
   tab_at xl_KINDS xp_KINDS xw_KINDS,
   ⟨_, PySem.W.mg_of X G xg_PERCENT, _, rfl⟩,
   ⟨_, PySem.W.mg_of X G xg_LONGEST_NAME, _, rfl⟩,
   ⟨_, PySem.W.mg_of X G xg_LONGEST_STRING, _, rfl⟩,
   ⟨_, PySem.W.mg_of X G xg_GREATEST_NUMBER, _, rfl⟩,
   ⟨_, PySem.W.mg_of X G xg_MOST_HEX_DIGITS, _, rfl⟩,
   ⟨_, PySem.W.mg_of X G xg_LINE_FEED, _, rfl⟩,
   ⟨_, PySem.W.mg_of X G xg_QUOTE, _, rfl⟩,
   ⟨_, PySem.W.mg_of X G xg_HASH, _, rfl⟩,
   ⟨_, PySem.W.mg_of X G xg_EQUALS, _, rfl⟩,
   ⟨_, PySem.W.mg_of X G xg_BACKSLASH, _, rfl⟩,
   ⟨_, PySem.W.mg_of X G xg_LOWER_X, _, rfl⟩,
   ⟨_, PySem.W.mg_of X G xg_NO_BYTE, _, rfl⟩,
   ⟨_, PySem.W.mg_of X G xg_WORDS, rfl⟩,
   tup_at xl_WORDS xz_WORDS xp_WORDS,
   ⟨_, PySem.W.mg_of X G xg_SIGNS, rfl⟩,
   tab_at xl_SIGNS xp_SIGNS xw_SIGNS,
   ⟨_, PySem.W.mg_of X G xg_SIGNS_WITH_EQUALS, rfl⟩,
   tab_at xl_SIGNS_WITH_EQUALS xp_SIGNS_WITH_EQUALS xw_SIGNS_WITH_EQUALS,
   ⟨_, PySem.W.mg_of X G xg_ESCAPES, rfl⟩,
   tab_at xl_ESCAPES xp_ESCAPES xw_ESCAPES,
   ⟨_, PySem.W.mg_of X G xg_LONGEST_TEXT, _, rfl⟩,
   ⟨xq1_Token, xq2_Token, xq3_Token, xq4_Token⟩,
   PySem.W.mg_of X G xk_Token,
   xn_Token_kind,
   xn_Token_value,
   xn_Token_line,
   xn_Token_column,
   ⟨xq1_Scanner, xq2_Scanner, xq3_Scanner, xq4_Scanner⟩,
   PySem.W.mg_of X G xk_Scanner,
   xn_Scanner_text,
   xn_Scanner_place,
   xn_Scanner_line,
   xn_Scanner_line_start,
   xn_Scanner_words,
   PySem.W.mg_none_of X G xb_len,
   PySem.W.mg_none_of X G xb_list,
   PySem.W.mg_none_of X G xb_min,
   PySem.W.mg_none_of X G xb_ord,
   PySem.W.mg_none_of X G xb_tuple,
   dfn_at X G xa_told_bytes xl_told_bytes xc_told_bytes xk_told_bytes,
   dfn_at X G xa_written_bytes xl_written_bytes xc_written_bytes xk_written_bytes,
   dfn_at X G xa_token_bytes xl_token_bytes xc_token_bytes xk_token_bytes,
   dfn_at X G xa_told_tokens xl_told_tokens xc_told_tokens xk_told_tokens,
   ini_at xa_Token_init xi_Token_init xl_Token_init xc_Token_init xk_Token_init xm_Token_init xd_Token_init,
   dfn_at X G xa_is_blank xl_is_blank xc_is_blank xk_is_blank,
   dfn_at X G xa_is_digit xl_is_digit xc_is_digit xk_is_digit,
   dfn_at X G xa_is_letter xl_is_letter xc_is_letter xk_is_letter,
   dfn_at X G xa_is_name_byte xl_is_name_byte xc_is_name_byte xk_is_name_byte,
   dfn_at X G xa_hex_worth xl_hex_worth xc_hex_worth xk_hex_worth,
   dfn_at X G xa_words_by_bytes xl_words_by_bytes xc_words_by_bytes xk_words_by_bytes,
   dfn_at X G xa_signed_worth xl_signed_worth xc_signed_worth xk_signed_worth,
   ini_at xa_Scanner_init xi_Scanner_init xl_Scanner_init xc_Scanner_init xk_Scanner_init xm_Scanner_init xd_Scanner_init,
   mth_at xa_Scanner_byte_ahead xi_Scanner_byte_ahead xl_Scanner_byte_ahead xc_Scanner_byte_ahead xk_Scanner_byte_ahead,
   mth_at xa_Scanner_skip_remark xi_Scanner_skip_remark xl_Scanner_skip_remark xc_Scanner_skip_remark xk_Scanner_skip_remark,
   mth_at xa_Scanner_skip_blank xi_Scanner_skip_blank xl_Scanner_skip_blank xc_Scanner_skip_blank xk_Scanner_skip_blank,
   mth_at xa_Scanner_skip_to_token xi_Scanner_skip_to_token xl_Scanner_skip_to_token xc_Scanner_skip_to_token xk_Scanner_skip_to_token,
   mth_at xa_Scanner_read_token xi_Scanner_read_token xl_Scanner_read_token xc_Scanner_read_token xk_Scanner_read_token,
   mth_at xa_Scanner_kind_here xi_Scanner_kind_here xl_Scanner_kind_here xc_Scanner_kind_here xk_Scanner_kind_here,
   mth_at xa_Scanner_read_value xi_Scanner_read_value xl_Scanner_read_value xc_Scanner_read_value xk_Scanner_read_value,
   mth_at xa_Scanner_read_name xi_Scanner_read_name xl_Scanner_read_name xc_Scanner_read_name xk_Scanner_read_name,
   mth_at xa_Scanner_read_number xi_Scanner_read_number xl_Scanner_read_number xc_Scanner_read_number xk_Scanner_read_number,
   mth_at xa_Scanner_read_hex_number xi_Scanner_read_hex_number xl_Scanner_read_hex_number xc_Scanner_read_hex_number xk_Scanner_read_hex_number,
   mth_at xa_Scanner_read_decimal_number xi_Scanner_read_decimal_number xl_Scanner_read_decimal_number xc_Scanner_read_decimal_number xk_Scanner_read_decimal_number,
   mth_at xa_Scanner_read_string xi_Scanner_read_string xl_Scanner_read_string xc_Scanner_read_string xk_Scanner_read_string,
   mth_at xa_Scanner_read_string_byte xi_Scanner_read_string_byte xl_Scanner_read_string_byte xc_Scanner_read_string_byte xk_Scanner_read_string_byte,
   mth_at xa_Scanner_read_escape xi_Scanner_read_escape xl_Scanner_read_escape xc_Scanner_read_escape xk_Scanner_read_escape,
   mth_at xa_Scanner_read_sign xi_Scanner_read_sign xl_Scanner_read_sign xc_Scanner_read_sign xk_Scanner_read_sign,
   dfn_at X G xa_scan xl_scan xc_scan xk_scan,
   dfn_at X G xa_tokens xl_tokens xc_tokens xk_tokens⟩

theorem all_mk {fa : Addr} {a : Ads} (hfa : mg "tokens" = some (.ref fa)) (T : Txt w K mg a) :
    ∃ fd : FuncData, (∀ (s : Shared) (us : List Value), us.length = (["text"] : List Str).length → BindsTo s fd ⟨us, []⟩ ((["text"] : List Str).zip us)) ∧ ∀ base : Heap, K.In base → base.Ns mainGlobals mg → FnOk P w K mg base CX0 9 fa fd ["text"] (spTokens K) := by
  obtain ⟨f, fd, h1, F⟩ := T.f_tokens
  cases hfa.symm.trans h1
  refine ⟨fd, fun s us hu => ?_, fun base _ _ => F.ok sc_tokens (fun vs H Q E h => by obtain ⟨ta, l, rfl, _⟩ := h; rfl) (b_tokens T fa)⟩
  obtain ⟨oc, od, kV, doc, pm, an, cdv, ct, osl, rfl, lk, hcd⟩ := F.ex
  exact match us, hu with | [_], _ => .of_eq rfl
end
end Prog
open PySem PySem.W PyProof.Rows Prog
set_option maxRecDepth 100000 in
set_option maxHeartbeats 8000000 in
theorem PySem.Challenge.cw_madeimage_s02_tokens_holds : PySem.Challenge.rw_madeimage_s02_tokens.Holds := by
  w_on; k_headS; (case hw => exact ⟨[.list []], by decide +kernel, by decide +kernel⟩)
  k_fillS
  refine L2.walk_specK (r := PySem.Challenge.rw_madeimage_s02_tokens) (k := 9) (CX := L2.CX0) (ps := ["text"]) (sp := Prog.spTokens) (by decide +kernel) rfl rfl ⟨rfl, by decide, by decide⟩ (fun w h Y => PySem.W.kIn_of Y) ?F ?S (fun _ _ _ _ z => z)
  case F =>
    intro w mg fa h Y KX G hmg
    refine' Prog.all_mk hmg (Prog.txt_mk KX G ?xg_KINDS ?xl_KINDS ?xp_KINDS ?xw_KINDS ?xg_PERCENT ?xg_LONGEST_NAME ?xg_LONGEST_STRING ?xg_GREATEST_NUMBER ?xg_MOST_HEX_DIGITS ?xg_LINE_FEED ?xg_QUOTE ?xg_HASH ?xg_EQUALS ?xg_BACKSLASH ?xg_LOWER_X ?xg_NO_BYTE ?xg_WORDS ?xl_WORDS ?xz_WORDS ?xp_WORDS ?xg_SIGNS ?xl_SIGNS ?xp_SIGNS ?xw_SIGNS ?xg_SIGNS_WITH_EQUALS ?xl_SIGNS_WITH_EQUALS ?xp_SIGNS_WITH_EQUALS ?xw_SIGNS_WITH_EQUALS ?xg_ESCAPES ?xl_ESCAPES ?xp_ESCAPES ?xw_ESCAPES ?xg_LONGEST_TEXT ?xk_Token ?xq1_Token ?xq2_Token ?xq3_Token ?xq4_Token ?xn_Token_kind ?xn_Token_value ?xn_Token_line ?xn_Token_column ?xk_Scanner ?xq1_Scanner ?xq2_Scanner ?xq3_Scanner ?xq4_Scanner ?xn_Scanner_text ?xn_Scanner_place ?xn_Scanner_line ?xn_Scanner_line_start ?xn_Scanner_words ?xb_len ?xb_list ?xb_min ?xb_ord ?xb_tuple ?xa_told_bytes ?xl_told_bytes ?xc_told_bytes ?xk_told_bytes ?xa_written_bytes ?xl_written_bytes ?xc_written_bytes ?xk_written_bytes ?xa_token_bytes ?xl_token_bytes ?xc_token_bytes ?xk_token_bytes ?xa_told_tokens ?xl_told_tokens ?xc_told_tokens ?xk_told_tokens ?xa_Token_init ?xi_Token_init ?xl_Token_init ?xc_Token_init ?xk_Token_init ?xm_Token_init ?xd_Token_init ?xa_is_blank ?xl_is_blank ?xc_is_blank ?xk_is_blank ?xa_is_digit ?xl_is_digit ?xc_is_digit ?xk_is_digit ?xa_is_letter ?xl_is_letter ?xc_is_letter ?xk_is_letter ?xa_is_name_byte ?xl_is_name_byte ?xc_is_name_byte ?xk_is_name_byte ?xa_hex_worth ?xl_hex_worth ?xc_hex_worth ?xk_hex_worth ?xa_words_by_bytes ?xl_words_by_bytes ?xc_words_by_bytes ?xk_words_by_bytes ?xa_signed_worth ?xl_signed_worth ?xc_signed_worth ?xk_signed_worth ?xa_Scanner_init ?xi_Scanner_init ?xl_Scanner_init ?xc_Scanner_init ?xk_Scanner_init ?xm_Scanner_init ?xd_Scanner_init ?xa_Scanner_byte_ahead ?xi_Scanner_byte_ahead ?xl_Scanner_byte_ahead ?xc_Scanner_byte_ahead ?xk_Scanner_byte_ahead ?xa_Scanner_skip_remark ?xi_Scanner_skip_remark ?xl_Scanner_skip_remark ?xc_Scanner_skip_remark ?xk_Scanner_skip_remark ?xa_Scanner_skip_blank ?xi_Scanner_skip_blank ?xl_Scanner_skip_blank ?xc_Scanner_skip_blank ?xk_Scanner_skip_blank ?xa_Scanner_skip_to_token ?xi_Scanner_skip_to_token ?xl_Scanner_skip_to_token ?xc_Scanner_skip_to_token ?xk_Scanner_skip_to_token ?xa_Scanner_read_token ?xi_Scanner_read_token ?xl_Scanner_read_token ?xc_Scanner_read_token ?xk_Scanner_read_token ?xa_Scanner_kind_here ?xi_Scanner_kind_here ?xl_Scanner_kind_here ?xc_Scanner_kind_here ?xk_Scanner_kind_here ?xa_Scanner_read_value ?xi_Scanner_read_value ?xl_Scanner_read_value ?xc_Scanner_read_value ?xk_Scanner_read_value ?xa_Scanner_read_name ?xi_Scanner_read_name ?xl_Scanner_read_name ?xc_Scanner_read_name ?xk_Scanner_read_name ?xa_Scanner_read_number ?xi_Scanner_read_number ?xl_Scanner_read_number ?xc_Scanner_read_number ?xk_Scanner_read_number ?xa_Scanner_read_hex_number ?xi_Scanner_read_hex_number ?xl_Scanner_read_hex_number ?xc_Scanner_read_hex_number ?xk_Scanner_read_hex_number ?xa_Scanner_read_decimal_number ?xi_Scanner_read_decimal_number ?xl_Scanner_read_decimal_number ?xc_Scanner_read_decimal_number ?xk_Scanner_read_decimal_number ?xa_Scanner_read_string ?xi_Scanner_read_string ?xl_Scanner_read_string ?xc_Scanner_read_string ?xk_Scanner_read_string ?xa_Scanner_read_string_byte ?xi_Scanner_read_string_byte ?xl_Scanner_read_string_byte ?xc_Scanner_read_string_byte ?xk_Scanner_read_string_byte ?xa_Scanner_read_escape ?xi_Scanner_read_escape ?xl_Scanner_read_escape ?xc_Scanner_read_escape ?xk_Scanner_read_escape ?xa_Scanner_read_sign ?xi_Scanner_read_sign ?xl_Scanner_read_sign ?xc_Scanner_read_sign ?xk_Scanner_read_sign ?xa_scan ?xl_scan ?xc_scan ?xk_scan ?xa_tokens ?xl_tokens ?xc_tokens ?xk_tokens)
    (case xg_KINDS => k_is)
    (case xl_KINDS => k_is)
    (case xp_KINDS => exact .cons ⟨L2.keyIs_str _ _, rfl, ⟨_, rfl⟩⟩ (.cons ⟨L2.keyIs_str _ _, rfl, ⟨_, rfl⟩⟩ (.cons ⟨L2.keyIs_str _ _, rfl, ⟨_, rfl⟩⟩ (.cons ⟨L2.keyIs_str _ _, rfl, ⟨_, rfl⟩⟩ (.cons ⟨L2.keyIs_str _ _, rfl, ⟨_, rfl⟩⟩ (.nil))))))
    (case xw_KINDS => rfl)
    (case xg_PERCENT => k_is)
    (case xg_LONGEST_NAME => k_is)
    (case xg_LONGEST_STRING => k_is)
    (case xg_GREATEST_NUMBER => k_is)
    (case xg_MOST_HEX_DIGITS => k_is)
    (case xg_LINE_FEED => k_is)
    (case xg_QUOTE => k_is)
    (case xg_HASH => k_is)
    (case xg_EQUALS => k_is)
    (case xg_BACKSLASH => k_is)
    (case xg_LOWER_X => k_is)
    (case xg_NO_BYTE => k_is)
    (case xg_WORDS => k_is)
    (case xl_WORDS => k_is)
    (case xz_WORDS => exact (by decide : 32 ≤ 16777216))
    (case xp_WORDS => exact .cons ⟨_, rfl⟩ (.cons ⟨_, rfl⟩ (.cons ⟨_, rfl⟩ (.cons ⟨_, rfl⟩ (.cons ⟨_, rfl⟩ (.cons ⟨_, rfl⟩ (.cons ⟨_, rfl⟩ (.cons ⟨_, rfl⟩ (.cons ⟨_, rfl⟩ (.cons ⟨_, rfl⟩ (.cons ⟨_, rfl⟩ (.cons ⟨_, rfl⟩ (.cons ⟨_, rfl⟩ (.cons ⟨_, rfl⟩ (.cons ⟨_, rfl⟩ (.cons ⟨_, rfl⟩ (.cons ⟨_, rfl⟩ (.cons ⟨_, rfl⟩ (.cons ⟨_, rfl⟩ (.cons ⟨_, rfl⟩ (.cons ⟨_, rfl⟩ (.cons ⟨_, rfl⟩ (.cons ⟨_, rfl⟩ (.cons ⟨_, rfl⟩ (.cons ⟨_, rfl⟩ (.cons ⟨_, rfl⟩ (.cons ⟨_, rfl⟩ (.cons ⟨_, rfl⟩ (.cons ⟨_, rfl⟩ (.cons ⟨_, rfl⟩ (.cons ⟨_, rfl⟩ (.cons ⟨_, rfl⟩ (.nil)))))))))))))))))))))))))))))))))
    (case xg_SIGNS => k_is)
    (case xl_SIGNS => k_is)
    (case xp_SIGNS => exact .cons ⟨L2.keyIs_int _ _, rfl, ⟨_, rfl⟩⟩ (.cons ⟨L2.keyIs_int _ _, rfl, ⟨_, rfl⟩⟩ (.cons ⟨L2.keyIs_int _ _, rfl, ⟨_, rfl⟩⟩ (.cons ⟨L2.keyIs_int _ _, rfl, ⟨_, rfl⟩⟩ (.cons ⟨L2.keyIs_int _ _, rfl, ⟨_, rfl⟩⟩ (.cons ⟨L2.keyIs_int _ _, rfl, ⟨_, rfl⟩⟩ (.cons ⟨L2.keyIs_int _ _, rfl, ⟨_, rfl⟩⟩ (.cons ⟨L2.keyIs_int _ _, rfl, ⟨_, rfl⟩⟩ (.cons ⟨L2.keyIs_int _ _, rfl, ⟨_, rfl⟩⟩ (.cons ⟨L2.keyIs_int _ _, rfl, ⟨_, rfl⟩⟩ (.cons ⟨L2.keyIs_int _ _, rfl, ⟨_, rfl⟩⟩ (.cons ⟨L2.keyIs_int _ _, rfl, ⟨_, rfl⟩⟩ (.cons ⟨L2.keyIs_int _ _, rfl, ⟨_, rfl⟩⟩ (.cons ⟨L2.keyIs_int _ _, rfl, ⟨_, rfl⟩⟩ (.cons ⟨L2.keyIs_int _ _, rfl, ⟨_, rfl⟩⟩ (.cons ⟨L2.keyIs_int _ _, rfl, ⟨_, rfl⟩⟩ (.cons ⟨L2.keyIs_int _ _, rfl, ⟨_, rfl⟩⟩ (.cons ⟨L2.keyIs_int _ _, rfl, ⟨_, rfl⟩⟩ (.nil)))))))))))))))))))
    (case xw_SIGNS => rfl)
    (case xg_SIGNS_WITH_EQUALS => k_is)
    (case xl_SIGNS_WITH_EQUALS => k_is)
    (case xp_SIGNS_WITH_EQUALS => exact .cons ⟨L2.keyIs_int _ _, rfl, ⟨_, rfl⟩⟩ (.cons ⟨L2.keyIs_int _ _, rfl, ⟨_, rfl⟩⟩ (.cons ⟨L2.keyIs_int _ _, rfl, ⟨_, rfl⟩⟩ (.cons ⟨L2.keyIs_int _ _, rfl, ⟨_, rfl⟩⟩ (.nil)))))
    (case xw_SIGNS_WITH_EQUALS => rfl)
    (case xg_ESCAPES => k_is)
    (case xl_ESCAPES => k_is)
    (case xp_ESCAPES => exact .cons ⟨L2.keyIs_int _ _, rfl, ⟨_, rfl⟩⟩ (.cons ⟨L2.keyIs_int _ _, rfl, ⟨_, rfl⟩⟩ (.cons ⟨L2.keyIs_int _ _, rfl, ⟨_, rfl⟩⟩ (.cons ⟨L2.keyIs_int _ _, rfl, ⟨_, rfl⟩⟩ (.nil)))))
    (case xw_ESCAPES => rfl)
    (case xg_LONGEST_TEXT => k_is)
    (case xk_Token => k_is)
    (case xq1_Token => k_is)
    (case xq2_Token => k_is)
    (case xq3_Token => k_is)
    (case xq4_Token => k_is)
    (case xn_Token_kind => k_is)
    (case xn_Token_value => k_is)
    (case xn_Token_line => k_is)
    (case xn_Token_column => k_is)
    (case xk_Scanner => k_is)
    (case xq1_Scanner => k_is)
    (case xq2_Scanner => k_is)
    (case xq3_Scanner => k_is)
    (case xq4_Scanner => k_is)
    (case xn_Scanner_text => k_is)
    (case xn_Scanner_place => k_is)
    (case xn_Scanner_line => k_is)
    (case xn_Scanner_line_start => k_is)
    (case xn_Scanner_words => k_is)
    (case xb_len => k_is)
    (case xb_list => k_is)
    (case xb_min => k_is)
    (case xb_ord => k_is)
    (case xb_tuple => k_is)
    (case xa_told_bytes => k_is)
    (case xl_told_bytes => k_is)
    (case xc_told_bytes => k_is)
    (case xk_told_bytes => k_is)
    (case xa_written_bytes => k_is)
    (case xl_written_bytes => k_is)
    (case xc_written_bytes => k_is)
    (case xk_written_bytes => k_is)
    (case xa_token_bytes => k_is)
    (case xl_token_bytes => k_is)
    (case xc_token_bytes => k_is)
    (case xk_token_bytes => k_is)
    (case xa_told_tokens => k_is)
    (case xl_told_tokens => k_is)
    (case xc_told_tokens => k_is)
    (case xk_told_tokens => k_is)
    (case xa_Token_init => k_is)
    (case xi_Token_init => k_is)
    (case xl_Token_init => k_is)
    (case xc_Token_init => k_is)
    (case xk_Token_init => k_is)
    (case xm_Token_init => k_is)
    (case xd_Token_init => k_is)
    (case xa_is_blank => k_is)
    (case xl_is_blank => k_is)
    (case xc_is_blank => k_is)
    (case xk_is_blank => k_is)
    (case xa_is_digit => k_is)
    (case xl_is_digit => k_is)
    (case xc_is_digit => k_is)
    (case xk_is_digit => k_is)
    (case xa_is_letter => k_is)
    (case xl_is_letter => k_is)
    (case xc_is_letter => k_is)
    (case xk_is_letter => k_is)
    (case xa_is_name_byte => k_is)
    (case xl_is_name_byte => k_is)
    (case xc_is_name_byte => k_is)
    (case xk_is_name_byte => k_is)
    (case xa_hex_worth => k_is)
    (case xl_hex_worth => k_is)
    (case xc_hex_worth => k_is)
    (case xk_hex_worth => k_is)
    (case xa_words_by_bytes => k_is)
    (case xl_words_by_bytes => k_is)
    (case xc_words_by_bytes => k_is)
    (case xk_words_by_bytes => k_is)
    (case xa_signed_worth => k_is)
    (case xl_signed_worth => k_is)
    (case xc_signed_worth => k_is)
    (case xk_signed_worth => k_is)
    (case xa_Scanner_init => k_is)
    (case xi_Scanner_init => k_is)
    (case xl_Scanner_init => k_is)
    (case xc_Scanner_init => k_is)
    (case xk_Scanner_init => k_is)
    (case xm_Scanner_init => k_is)
    (case xd_Scanner_init => k_is)
    (case xa_Scanner_byte_ahead => k_is)
    (case xi_Scanner_byte_ahead => k_is)
    (case xl_Scanner_byte_ahead => k_is)
    (case xc_Scanner_byte_ahead => k_is)
    (case xk_Scanner_byte_ahead => k_is)
    (case xa_Scanner_skip_remark => k_is)
    (case xi_Scanner_skip_remark => k_is)
    (case xl_Scanner_skip_remark => k_is)
    (case xc_Scanner_skip_remark => k_is)
    (case xk_Scanner_skip_remark => k_is)
    (case xa_Scanner_skip_blank => k_is)
    (case xi_Scanner_skip_blank => k_is)
    (case xl_Scanner_skip_blank => k_is)
    (case xc_Scanner_skip_blank => k_is)
    (case xk_Scanner_skip_blank => k_is)
    (case xa_Scanner_skip_to_token => k_is)
    (case xi_Scanner_skip_to_token => k_is)
    (case xl_Scanner_skip_to_token => k_is)
    (case xc_Scanner_skip_to_token => k_is)
    (case xk_Scanner_skip_to_token => k_is)
    (case xa_Scanner_read_token => k_is)
    (case xi_Scanner_read_token => k_is)
    (case xl_Scanner_read_token => k_is)
    (case xc_Scanner_read_token => k_is)
    (case xk_Scanner_read_token => k_is)
    (case xa_Scanner_kind_here => k_is)
    (case xi_Scanner_kind_here => k_is)
    (case xl_Scanner_kind_here => k_is)
    (case xc_Scanner_kind_here => k_is)
    (case xk_Scanner_kind_here => k_is)
    (case xa_Scanner_read_value => k_is)
    (case xi_Scanner_read_value => k_is)
    (case xl_Scanner_read_value => k_is)
    (case xc_Scanner_read_value => k_is)
    (case xk_Scanner_read_value => k_is)
    (case xa_Scanner_read_name => k_is)
    (case xi_Scanner_read_name => k_is)
    (case xl_Scanner_read_name => k_is)
    (case xc_Scanner_read_name => k_is)
    (case xk_Scanner_read_name => k_is)
    (case xa_Scanner_read_number => k_is)
    (case xi_Scanner_read_number => k_is)
    (case xl_Scanner_read_number => k_is)
    (case xc_Scanner_read_number => k_is)
    (case xk_Scanner_read_number => k_is)
    (case xa_Scanner_read_hex_number => k_is)
    (case xi_Scanner_read_hex_number => k_is)
    (case xl_Scanner_read_hex_number => k_is)
    (case xc_Scanner_read_hex_number => k_is)
    (case xk_Scanner_read_hex_number => k_is)
    (case xa_Scanner_read_decimal_number => k_is)
    (case xi_Scanner_read_decimal_number => k_is)
    (case xl_Scanner_read_decimal_number => k_is)
    (case xc_Scanner_read_decimal_number => k_is)
    (case xk_Scanner_read_decimal_number => k_is)
    (case xa_Scanner_read_string => k_is)
    (case xi_Scanner_read_string => k_is)
    (case xl_Scanner_read_string => k_is)
    (case xc_Scanner_read_string => k_is)
    (case xk_Scanner_read_string => k_is)
    (case xa_Scanner_read_string_byte => k_is)
    (case xi_Scanner_read_string_byte => k_is)
    (case xl_Scanner_read_string_byte => k_is)
    (case xc_Scanner_read_string_byte => k_is)
    (case xk_Scanner_read_string_byte => k_is)
    (case xa_Scanner_read_escape => k_is)
    (case xi_Scanner_read_escape => k_is)
    (case xl_Scanner_read_escape => k_is)
    (case xc_Scanner_read_escape => k_is)
    (case xk_Scanner_read_escape => k_is)
    (case xa_Scanner_read_sign => k_is)
    (case xi_Scanner_read_sign => k_is)
    (case xl_Scanner_read_sign => k_is)
    (case xc_Scanner_read_sign => k_is)
    (case xk_Scanner_read_sign => k_is)
    (case xa_scan => k_is)
    (case xl_scan => k_is)
    (case xc_scan => k_is)
    (case xk_scan => k_is)
    (case xa_tokens => k_is)
    (case xl_tokens => k_is)
    (case xc_tokens => k_is)
    (case xk_tokens => k_is)
  case S =>
    intro K H xs a hO hwi hask hx
    cases hx with
    | cons h1 h2 =>
      cases h2
      cases h1 with
      | lst hs ha =>
        have e := L2.ints_dw a.1 _ ha
        subst e
        have q : ((Codec.inLen 0 20000 a.1 && a.1.all (Codec.inInt 0 255)) && true) = true := hwi
        rw [Bool.and_true, Bool.and_eq_true] at q
        have b : ∀ x ∈ a.1, 0 ≤ x ∧ x ≤ 255 := fun x hx => Codec.inInt_iff.mp (List.all_eq_true.mp q.2 x hx)
        refine ⟨_, a.1.map Int.toNat, rfl, ?_, ?_, ?_, fun H' p hp => .lst (L2.SqL.of hp) (L2.dw_ints _)⟩
        · rw [Prog.bytes_back fun x hx => (b x hx).1]
          exact hs
        · rw [List.length_map]
          exact (Codec.inNat_iff.mp q.1).2
        · intro c hc
          obtain ⟨x, hx, rfl⟩ := List.mem_map.mp hc
          have h1 : (0 : Int) ≤ x := (b x hx).1
          have h2 : (x : Int) ≤ 255 := (b x hx).2
          show Int.toNat x < 256
          omega
#print axioms PySem.Challenge.cw_madeimage_s02_tokens_holds
