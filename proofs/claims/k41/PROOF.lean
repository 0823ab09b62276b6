import PyProof.Rows.All
import Wide.All
import OpenK.AllK
import Wide.FinOn
import HandS.AnyAll
import HandS.EndTab
import HandS.ForSpec
import HandS.ForMost
import HandS.Flow
import HandS.HeadWalk
import HandS.HeadHook4
import HandS.Head0
import HandS.Head1
import HandS.Head2
import HandS.HeadEnd
import HandS.IsInst
import HandS.FStr
import HandS.StrMore
import HandS.Wide
import HandS.Codes
import HandS.DeepEq
import HandS.Star
import HandS.Deep
import PySem.Challenge.RW_authsync_k41_entries_that_are_refused
import HandS.ExcInit
import HandS.ExcField
import HandS.TryOnly
import HandS.CallSlots
import HandS.Defaults
import HandS.TupSets
import KE.DataCmp
import KE.DataEq
import KE.SortData
import KE.GoesEnumKw
import HandS.More
import HandS.Style
import HandS.Walk
import HandS.ExcOwn
import HandS.ExcIs
import KE.KExcIs
set_option Elab.async false
set_option linter.all false
set_option maxRecDepth 100000
set_option maxHeartbeats 2000000
namespace AS
open PySem PySem.Spec PyProof.Rows L2 GxR

/-- an element of a generator expression over signs that may read the module's names -/
def EltM (X : Cx) (scope : Scope) (x : Str) (elt : Expr) (pb : Nat → Bool) : Prop :=
  ∀ (ce : Env) (B : Around) (F : Value → Shared → Prop) (c : Nat) (t : Tok) (u : Shared) (m : Str → Option Value),
    ce.scope = scope → ce.globals = mainGlobals → u.heap.Ns mainGlobals X.mg → u.heap.Ns ce.locals m →
    m x = some (.str ⟨#[c]⟩ t) →
    wpAny (model X.prog X.w) B (eval elt ce) (fun y v => y = .bool (pb c) ∧ Keeps u v) F u

section
variable {X : Cx} {pins : List (Addr × Obj)} {σ : L2.St} {H : Hp} {s : Shared}

/-- x in NAME, NAME a text of the module's top -/
theorem elt_in {scope : Scope} {x g k : Str} {tk : Tok} {p1 p2 p3 : Pos}
    (hk : scope.kind = .function) (hl : scope.names.lookup x = some .local)
    (hg : scope.names.lookup g = some .globalImplicit) (hm : X.mg g = some (.str k tk))
    (hd : (x == ("__debug__" : Str)) = false := by decide) (hd2 : (g == ("__debug__" : Str)) = false := by decide) :
    EltM X scope x (.Compare (.Name x p1) [.In] [.Name g p2] p3)
      (fun c => decide (c ∈ k.cps.toList)) := by
  intro ce B F c t u m hs hgl hM hn hx
  refine wpAny_Compare1 ?_
  refine wpAny_Name (wpAny_loadName_local (by rw [hs]; exact hk)
    (show ce.scope.names.lookup x = some .local by rw [hs]; exact hl) hn hx ?_) hd
  refine Calls.Name_function_global (by rw [hs]; exact hk)
    (show ce.scope.names.lookup g = some .globalImplicit by rw [hs]; exact hg)
    (Calls.loadGlobal_global (by rw [hgl]; exact hM) hm ?_) hd2
  exact PySem.P.in_str ⟨congrArg Value.bool (PySem.StrLaws.found_one k c), keeps_tok _ _⟩

/-- what the walk's state is behind the iterator's making and the code object's finding: the heap m3 -/
theorem gen_tail {c P : Addr} {elt : Expr} {x : Str} {scope : Scope} {pb : Nat → Bool} {R : Str → Hp → Prop}
    {W' : Value → Shared → Prop} {a : Str} {H1 : Hp} {s1 : Shared} {o : Obj} {St : Nat → Heap → Prop} {ps : Array Value}
    {k : Nat} (hr : Room k X.A) (tb : TabB X.base X.mg c P) (gs : GenS X.env scope x) (hel : EltM X scope x elt pb)
    (J : Inv X pins σ H1 s1) (hP : H1 P = some (.tbl ps)) (hR : R a H1)
    (hW : ∀ a H1 g s5, R a H1 → Ready X pins σ H1 P a pb g s5 → W' (.ref g) s5)
    (wk : ∀ A' : Around, A'.handled = none →
      Walks X.prog X.w A' s1.heap.objs.size [s1.heap.objs.size] [s1.heap.objs.size] a.cps.size (SignAt a) St)
    (hst : St 0 (s1.heap.push o))
    (code : Value) (m3 : Heap) (tk : Nat) (qs : Array Value) (ext : Heap.ExtBut P (s1.heap.push o) m3)
    (grow : (s1.heap.push o).objs.size ≤ m3.objs.size)
    (at3 : m3.get? P = some { cls := .none, data := .fields qs }) (more : ∃ z, qs = ps ++ z) (trip : TriplesOk qs.toList) :
    wpAny (model X.prog X.w) X.A (builtinsFor X.env.globals X.env.builtins) (fun bi s₄ =>
      ∃ J fp wr n₀ Pf S0 pz F, Value.ref s1.heap.objs.size = .ref J ∧
        (∀ A' : Around, A'.handled = none → Walks X.prog X.w A' J fp wr n₀ Pf S0) ∧ S0 0 s₄.heap ∧
        (∀ b ∈ fp, b < s₄.heap.objs.size) ∧ s₄.heap.NoLimit ∧ cStatics ∉ wr ∧
        (∀ rf : Heap, (∀ b o, s₄.heap.get? b = some o → rf.get? b = some o) →
          QuietGen X.prog X.w (genEnv scope (cloFrom X.env.cells scope.names []) s₄.heap.objs.size code bi X.env)
            x [] elt (List.range s₄.heap.objs.size) wr Pf pz F rf) ∧
        (∀ g h₅ t5 st, st.bare = true → s₄.heap.objs.size < g → h₅.objs.size = g + 1 →
          (∀ b o, s₄.heap.get? b = some o → h₅.get? b = some o) →
          WalksS X.prog X.w X.A.in4 g (g :: s₄.heap.objs.size :: List.range s₄.heap.objs.size)
            (s₄.heap.objs.size :: wr) (GenOnlyQ s₄.gens.size) (passing pz n₀ 0).length
            (fun j y => ∃ i, (passing pz n₀ 0)[j]? = some i ∧ F i y)
            (GenAt X.prog X.w X.A.in4 g s₄.gens.size s₄.heap.objs.size (List.range s₄.heap.objs.size) wr pz n₀ F) →
          GenAt X.prog X.w X.A.in4 g s₄.gens.size s₄.heap.objs.size (List.range s₄.heap.objs.size) wr pz n₀ F 0
            { s₄ with gens := s₄.gens.push st, toks := t5, heap := h₅ } →
          W' (.ref g) { s₄ with gens := s₄.gens.push st, toks := t5, heap := h₅ })) X.xe { s1 with heap := m3, toks := tk } := by
  have tabAt : s1.heap.get? P = some { cls := .none, data := .fields ps } := J.hok P _ hP
  have tabLt := Heap.lt_size tabAt
  have lim := J.nolimit.push o
  obtain ⟨_, limNs, _⟩ := J.nolimit
  have stNe : cStatics ≠ P := fun z => by
    obtain ⟨ob, _, _, e, d, _⟩ := limNs
    rw [z, tabAt] at e
    cases e
    cases d
  have stLt := limNs.lt
  have glob1 : s1.heap.Ns mainGlobals X.mg := J.mod.glob.keeps J.bk
  have glob3 : m3.Ns mainGlobals X.mg := (glob1.push o).extBut ext tb.gP
  have szP : (s1.heap.push o).objs.size = s1.heap.objs.size + 1 := Heap.size_push ..
  have kept : ∀ b v, b ≠ P → s1.heap.get? b = some v → m3.get? b = some v :=
    fun b v n e => ext b v n (Heap.get?_push_of_some _ e)
  obtain ⟨bm, bo, b1, b2, b3, b4, b5, b6, b7, b8⟩ := tb.bm
  refine wpAny_builtinsFor (m := X.mg) (by rw [J.ok.glob]; exact glob3) b1 b2 (kept _ _ b4 (J.bk _ _ b5)) b6 b7 b8 ?_
  have one : ∀ b : Addr, b ∈ [s1.heap.objs.size] → b = s1.heap.objs.size := fun b hb => List.mem_singleton.mp hb
  refine ⟨_, _, _, _, _, _, (fun _ => true), (fun i y => ∃ cc, a.cps[i]? = some cc ∧ y = .bool (pb cc)), rfl, wk, ?_, ?_,
    lim.extBut ext stNe, fun z => Nat.ne_of_lt stLt (one _ z), ?_, ?_⟩
  · refine (wk X.A hr.hd).frame _ _ _ hst fun b hb v e => ext b v (fun z => ?_) e
    rw [z] at hb
    exact Nat.ne_of_lt tabLt (one _ hb)
  · intro b hb
    rw [one b hb]
    show s1.heap.objs.size < m3.objs.size
    omega
  · intro rf hrf
    constructor
    · intro A' E' i v s₂ m₂ _ _ _ _ _
      simp only [List.forIn_nil]
      exact wpAny_pure ⟨rfl, keeps_refl _⟩
    · intro A' E' i v s₂ m₂ _ hv _ hn hm hk
      obtain ⟨cc, u, hcc, rfl⟩ := hv
      have g2 : s₂.heap.Ns mainGlobals X.mg := by
        have hlt : mainGlobals < s1.heap.objs.size := glob1.lt
        obtain ⟨og, es, ep, e, r⟩ := glob3
        refine ⟨og, es, ep, hk mainGlobals (List.mem_range.mpr (Heap.lt_size e)) (fun z => Nat.ne_of_lt hlt (one _ z)) og (hrf _ _ e), r⟩
      exact wpAny_mono (hel _ A' E' cc u s₂ m₂ rfl J.ok.glob g2 hn hm) (fun y s3 r => ⟨⟨cc, hcc, r.1⟩, r.2⟩) fun _ _ e => e
  · intro g h5 t5 st bare lt5 sz5 keep5 W5 at5
    have full : passing (fun _ => true) a.cps.size 0 = List.range a.cps.size := passing_true _
    rw [full, List.length_range] at W5
    refine hW a H1 g _ hR ⟨_, _, _, _, _, W5.in4_1, at5, ?_, ?_⟩
    · intro j y sj Qj Ej hy hQj
      obtain ⟨i, hij, cc, hcc, rfl⟩ := hy
      obtain ⟨hj, ej⟩ := List.getElem?_eq_some_iff.mp hij
      rw [List.getElem_range] at ej
      subst ej
      have e9 : a.cps.toList[j]? = some cc := Array.getElem?_toList.trans hcc
      have e8 : trF pb a.cps.toList j = pb cc := trF_some e9
      have hQ2 : Qj (trF pb a.cps.toList j) sj := hQj
      rw [e8] at hQ2
      exact wpAny_truthy_bool hQ2
    · intro s' mv
      obtain ⟨z, ez⟩ := more
      have nw : ∀ b v, s1.heap.get? b = some v → b ∉ m3.objs.size :: [s1.heap.objs.size] := fun b v e hb => by
        have lt := Heap.lt_size e
        rcases List.mem_cons.mp hb with q | q
        · rw [q] at lt
          have l2 : s1.heap.objs.size < m3.objs.size := by omega
          exact Nat.lt_asymm l2 lt
        · rw [one b q] at lt
          exact Nat.lt_irrefl _ lt
      have grown : s'.heap.get? P = some { cls := .none, data := .fields (ps ++ z) } := by
        rw [← ez]
        exact mv.heap P _ (nw P _ tabAt) (keep5 P _ at3)
      have K := inv_tab (more := z) (h' := s'.heap) (g' := s'.gens) (d' := s'.drawn) (t' := s'.toks) J hP
        (fun b v n e => mv.heap b v (nw b v e) (keep5 b v (kept b v n e))) grown (AllBare.movedS (J.bare.push bare) mv)
      rw [sh_eta s1 s' mv.os] at K
      exact ⟨_, ⟨⟨ps ++ z, upd_same, by rw [← ez]; exact trip⟩, fun b n => upd_ne n⟩, K⟩

theorem gen_strM {c P : Addr} {elt iter : Expr} {x : Str} {px gpos : Pos} {scope : Scope} {pb : Nat → Bool}
    {te : TE} {k : Nat} {W' : Value → Shared → Prop} {R : Str → Hp → Prop}
    (hr : Room k X.A) (tb : TabB X.base X.mg c P) (hc : X.env.code = .ref c) (gs : GenS X.env scope x)
    (hi : PE X iter te) (hel : EltM X scope x elt pb) (hs : ∀ v, genFold iter X.env v = pure v)
    (I : Inv X pins σ H s) (h : te σ H fun v H1 => ∃ a : Str, v = .str a ∧ TabG H1 P ∧ R a H1)
    (hW : ∀ a H1 g s5, R a H1 → Ready X pins σ H1 P a pb g s5 → W' (.ref g) s5) :
    wpAny (model X.prog X.w) X.A (eval (.GeneratorExp elt [⟨.Name x px, iter, [], 0⟩] scope gpos) X.env) W' X.xe s := by
  have dp := hr.dp
  refine wpAny_GeneratorExp_walksQ hr.hd gs.co (closure_ok gs.free) gs.cell gs.dot gs.loc gs.kind (by omega) ?_ hs
  refine thn (hi.run pins s σ H _ I h) fun xv s1 r => ?_
  obtain ⟨v, H1, J, rv, a, rfl, ⟨ps, hP, ht⟩, hR⟩ := r
  obtain ⟨t, rfl⟩ := (show ∃ t, xv = Value.str a t from rv)
  refine wpAny_pyIter_str fun o St wk hst => ⟨J.nolimit.push o, ?_⟩
  have tabP : (s1.heap.push o).get? P = some { cls := .none, data := .fields ps } := Heap.get?_push_of_some _ (J.hok P _ hP)
  have cd : PySem.W.CodeHd (s1.heap.push o) c P := tb.code.keeps fun b u e => Heap.get?_push_of_some _ (J.bk b u e)
  have go := @gen_tail X pins σ c P elt x scope pb R W' a H1 s1 o St ps k hr tb gs hel J hP hR hW wk hst
  cases hf : codeAmong gpos ps.toList with
  | some cv =>
    exact wpAny_genexprCode_hit hc (cd.code tabP ht) hf (go cv _ s1.toks ps (Heap.ExtBut.refl _ _) (Nat.le_refl _) tabP ⟨#[], by simp⟩ ht)
  | none =>
    refine wpAny_genexprCodeX hc (cd.code tabP ht) (cd.tab tabP) hf fun c' h' tk hx hge hlt hco' _ htab' _ => ?_
    obtain ⟨o1, vs, f1, tf, fl, tg, inF, tx, tt, op, _, _, _, _, _, _, _, _, _, htr, _⟩ := hco'
    exact go _ h' tk _ hx (Nat.le_trans hge (Nat.le_of_lt hlt)) htab'.2 ⟨_, rfl⟩ htr

/-- all(test for x in e), e a text, the test an EltM -/
theorem pe_allM {c P : Addr} {elt iter : Expr} {x : Str} {px p pos gpos : Pos} {scope : Scope} {pb : Nat → Bool} {te : TE} {k : Nat}
    (hr : Room k X.A) (hg : Gl X "all") (hm : X.mg "all" = none) (tb : TabB X.base X.mg c P) (hc : X.env.code = .ref c)
    (gs : GenS X.env scope x) (hi : PE X iter te) (hel : EltM X scope x elt pb) (hs : ∀ v, genFold iter X.env v = pure v)
    (hb : bootBuiltins "all" = some (.builtin "all") := by decide +kernel)
    (he : starEach [.GeneratorExp elt [⟨.Name x px, iter, [], 0⟩] scope gpos] X.env =
      (false, eval (.GeneratorExp elt [⟨.Name x px, iter, [], 0⟩] scope gpos) X.env) :: starEach [] X.env := by rfl) :
    PE X (.Call (.Name "all" p) [.GeneratorExp elt [⟨.Name x px, iter, [], 0⟩] scope gpos] [] pos) (tAllS P pb te) := by
  constructor
  intro pins s σ H Q I h
  refine wpAny_Call_Name_kw (ld_blt I hg hm hb (PyProof.Rows.callWith_builtin1 ?_ he (by rfl)))
  rw [he]
  show wpAny _ _ (spliced ((false, eval (.GeneratorExp elt [⟨.Name x px, iter, [], 0⟩] scope gpos) X.env) ::
    backTo pos (starEach [] X.env))) _ _ s
  refine Calls.spliced_cons (gen_strM (R := fun a H1 => ∀ H2, Tabbed P H1 H2 → Q (.bl (a.cps.toList.all pb)) H2)
    hr tb hc gs hi hel hs I h fun a H1 g s5 hR hG => Calls.spliced_nil ?_)
  obtain ⟨fp, wr, G, F, St, W, hst, htr, hI⟩ := hG
  refine call_all_walkS (W.self 0 _ _ _ hst ⟨g, fp, wr, G, _, F, St, _, rfl, W, hst, htr, fun s' mv => ?_⟩)
  obtain ⟨H2, hT, J⟩ := hI s' mv
  have q := hR H2 hT
  rw [← all_signs a pb] at q
  exact ⟨.bl _, H2, J, rfl, q⟩
end
end AS

set_option Elab.async false
set_option linter.all false
set_option maxRecDepth 100000
set_option maxHeartbeats 2000000
namespace AS
open PySem PySem.Spec PyProof.Rows L2

/-! ### the facts behind the top, by names -/
structure Names where
  glos : List Str
  frees : List Str
  txts : List (Str × Str)
  nums : List (Str × Int)
  fn : List He.DefD
  tf : List He.Defn
def Names.fa (N : Names) : List He.Fa := N.glos.map .glo ++ (N.frees.map .free ++ (N.txts.map (fun p => .str p.1 p.2) ++ N.nums.map fun p => .int p.1 p.2))
structure Top (N : Names) (K : PySem.W.Frag) (mg : Str → Option Value) (base : Heap) : Prop where
  d : He.SaysD N.fa N.fn K
  g : ∀ x ∈ N.glos, mg x = some (.ref (He.ga K x))
  f : ∀ x ∈ N.frees, mg x = none
  s : ∀ p ∈ N.txts, ∃ t, mg p.1 = some (.str p.2 t)
  i : ∀ p ∈ N.nums, ∃ t, mg p.1 = some (.int p.2 t)
  tb : ∀ p ∈ N.tf, GxR.TabB base mg (He.cT K p).1 (He.cT K p).2

theorem Top.mk' {N : Names} {K : PySem.W.Frag} {mg : Str → Option Value} {base h : Heap} (X : K.In h) (G : h.Ns mainGlobals mg) (c : He.SaysD N.fa N.fn K)
    (tb : ∀ p ∈ N.tf, GxR.TabB base mg (He.cT K p).1 (He.cT K p).2) : Top N K mg base where
  d := c
  tb := tb
  g := fun x hx => He.glo_ok X G (c.facts (f := .glo x) (List.mem_append_left _ (List.mem_map.mpr ⟨x, hx, rfl⟩)))
  f := fun x hx => He.free_ok X G (c.facts (f := .free x) (List.mem_append_right _ (List.mem_append_left _ (List.mem_map.mpr ⟨x, hx, rfl⟩))))
  s := fun p hp => He.str_ok X G (c.facts (f := .str p.1 p.2) (List.mem_append_right _ (List.mem_append_right _ (List.mem_append_left _ (List.mem_map.mpr ⟨p, hp, rfl⟩)))))
  i := fun p hp => He.int_ok X G (c.facts (f := .int p.1 p.2) (List.mem_append_right _ (List.mem_append_right _ (List.mem_append_right _ (List.mem_map.mpr ⟨p, hp, rfl⟩)))))

/-! ### a def that keeps a promise, and its call -/
structure DOk (P : Program) (w : World) (K : PySem.W.Frag) (mg : Str → Option Value) (base : Heap) (CX : CXT) (k : Nat) (x : Str) (ps : List Str) (sp : Sp) : Prop where
  ex : ∃ fd, FnOk P w K mg base CX k (He.ga K x) fd ps sp ∧ Binds K fd ps []
  kp : PySem.W.keepIn K (.ref (He.ga K x)) = true
  gl : mg x = some (.ref (He.ga K x))
section
variable {P : Program} {w : World} {K : PySem.W.Frag} {mg : Str → Option Value} {base : Heap} {N : Names}
theorem DOk.mono {CX : CXT} {j k : Nat} {x : Str} {ps : List Str} {sp : Sp} (G : DOk P w K mg base CX j x ps sp) (h : j ≤ k) : DOk P w K mg base CX k x ps sp := by
  obtain ⟨⟨fd, F, b⟩, kp, gl⟩ := G
  exact ⟨⟨fd, F.mono h, b⟩, kp, gl⟩
/-- THE RULE for a def of the list; it also tells which code object the frame runs -/
theorem Top.ok {CX : CXT} {d : He.DefD} {x : Str} {ps L : List Str} {k : Nat} {sp : Sp} (T : Top N K mg base) (i : Nat) (hi : N.fn[i]? = some d) (hat : d.at_ = (x, none)) (hdf : d.dfl = []) (hkw : d.kwd = []) (hx : x ∈ N.glos)
    (S : FnScope L ps d.scope)
    (hb : ∀ (kV doc pm : Value) (an : Option Addr) (cdv ct : Value) (us : List Value), us.length = ps.length → bindArgs (PySem.W.fnOf d.name d.qual d.params d.body d.scope .none kV doc pm an cdv ct) ⟨us, []⟩ = pure (ps.zip us))
    (len : ∀ vs H Q E, sp vs H Q E → vs.length = ps.length)
    (hbody : ∀ (cdv : Value) (A : Around) (outer : List Env) (s : Shared) (H : Hp) (vs : List V) (Q : VK) (E : XK), cdv = .ref (He.codeOf K (x, none)) → Room k (A.deeper (envOfC d.qual d.scope s.heap.objs.size (He.ga K x) cdv)) → sp vs H Q E →
      ∃ t, PSs (cxOf CX P w K mg base L d.qual d.scope (He.ga K x) cdv A outer s H E) d.body t ∧ t { nx := fun _ H' => Q .non H', rt := Q } (start L vs) H) :
    DOk P w K mg base CX (k + 1) x ps sp := by
  obtain ⟨fd, F⟩ := T.d.def_ i hi
  have e1 : d.dvs K = [] := by unfold He.DefD.dvs; rw [hdf]; rfl
  have e2 : d.kws K = [] := by unfold He.DefD.kws; rw [hkw]; rfl
  have e3 : He.fAd K d.at_ = He.ga K x := by rw [hat]; rfl
  rw [e1, e2, e3] at F
  refine ⟨⟨fd, ?_, F.bindsN hb⟩, F.kp, T.g x hx⟩
  obtain ⟨oc, od, dV, kV, doc, pm, an, cdv, ct, osl, rfl, lk, hcd, hD, _⟩ := F.ex
  obtain ⟨c, ec⟩ := He.codeIn_ref hcd
  have lk2 : K.lookup (He.fAd K (x, none)) = some ⟨oc, od, .func (PySem.W.fnOf d.name d.qual d.params d.body d.scope dV kV doc pm an cdv ct), osl⟩ := lk
  have ek : cdv = .ref (He.codeOf K (x, none)) := by
    rw [He.codeOf_eq lk2 (show (PySem.W.fnOf d.name d.qual d.params d.body d.scope dV kV doc pm an cdv ct).code = .ref c from ec), ec]
  exact fn_of lk hcd S len fun A outer s H vs Q E hr hsp => hbody cdv A outer s H vs Q E ek hr hsp
/-- .. for a def that lets nothing out -/
theorem Top.ok0 {d : He.DefD} {x : Str} {ps L : List Str} {k : Nat} {sp : Sp} (T : Top N K mg base) (i : Nat) (hi : N.fn[i]? = some d) (hat : d.at_ = (x, none)) (hdf : d.dfl = []) (hkw : d.kwd = []) (hx : x ∈ N.glos)
    (S : FnScope L ps d.scope)
    (hb : ∀ (kV doc pm : Value) (an : Option Addr) (cdv ct : Value) (us : List Value), us.length = ps.length → bindArgs (PySem.W.fnOf d.name d.qual d.params d.body d.scope .none kV doc pm an cdv ct) ⟨us, []⟩ = pure (ps.zip us))
    (len : ∀ vs H Q E, sp vs H Q E → vs.length = ps.length)
    (hbody : ∀ (cdv : Value) (A : Around) (outer : List Env) (s : Shared) (H : Hp) (vs : List V) (Q : VK) (E : XK), cdv = .ref (He.codeOf K (x, none)) → Room k (A.deeper (envOfC d.qual d.scope s.heap.objs.size (He.ga K x) cdv)) → sp vs H Q E →
      ∃ t, PSs (cxOf CX0 P w K mg base L d.qual d.scope (He.ga K x) cdv A outer s H E).nox d.body t ∧ t { nx := fun _ H' => Q .non H', rt := Q } (start L vs) H) :
    DOk P w K mg base CX0 (k + 1) x ps sp :=
  T.ok i hi hat hdf hkw hx S hb len fun cdv A outer s H vs Q E ec hr hsp => let ⟨t, h, q⟩ := hbody cdv A outer s H vs Q E ec hr hsp; ⟨t, h.nox, q⟩
end
section
variable {X : Cx} {CX : CXT} {k : Nat} {x : Str} {ps : List Str} {sp : Sp} {p pos : Pos} {e : Expr} {es : List Expr} {t : TA}
/-- f(e, ..) of a def that lets nothing out -/
theorem pe_callD (G : DOk X.prog X.w X.K X.mg X.base CX0 k x ps sp) (hr : Room k X.A) (ha : PA X (e :: es) t) (hg : Gl X x := by rfl) (hdb : (x == ("__debug__" : Str)) = false := by decide)
    (he : starEach (e :: es) X.env = (false, eval e X.env) :: starEach es X.env := by rfl) (hpl : (backTo pos (starEach es X.env)).any (·.1) = false := by rfl) : PE X (.Call (.Name x p) (e :: es) [] pos) (tCall sp [] E0 t) := by
  obtain ⟨fd, F, b⟩ := G.ex
  exact pe_call F hr hg G.gl G.kp b .nil pass0 ha hdb he hpl
end

/-- f(*xs) -/
def tStarCall (K : PySem.W.Frag) (sp : Sp) (te : TE) : TE := fun σ H Q => te σ H fun y H1 => ∃ a xs, y = V.ref a ∧ (SqT K H1 a xs ∨ SqL K H1 a xs) ∧ sp (xs ++ []) H1 Q E0
theorem pe_callStar {X : Cx} {k : Nat} {x : Str} {ps : List Str} {sp : Sp} {p pos ps2 : Pos} {e : Expr} {te : TE} {K : PySem.W.Frag} (G : DOk X.prog X.w X.K X.mg X.base CX0 k x ps sp) (hr : Room k X.A) (he : PE X e te) (hK : X.K = K := by rfl) (hg : Gl X x := by rfl)
    (hd : (x == ("__debug__" : Str)) = false := by decide) : PE X (.Call (.Name x p) [.Starred e ps2] [] pos) (tStarCall K sp te) := by
  subst hK
  obtain ⟨fd, F, b⟩ := G.ex
  exact StX.pe_callS1 (F.raw b .nil) hr G.kp hg G.gl pass0 he hd
section
variable {P : Program} {w : World} {K : PySem.W.Frag} {mg : Str → Option Value} {base : Heap} {N : Names}
/-- the law's own def, its function object given -/
theorem okF {d : He.DefD} {x : Str} {ps L : List Str} {k : Nat} {sp : Sp} {fd : FuncData} (F : FunD K d.name d.qual d.params d.body d.scope [] [] (He.ga K x) fd) (S : FnScope L ps d.scope)
    (len : ∀ vs H Q E, sp vs H Q E → vs.length = ps.length)
    (hbody : ∀ (cdv : Value) (A : Around) (outer : List Env) (s : Shared) (H : Hp) (vs : List V) (Q : VK) (E : XK), Room k (A.deeper (envOfC d.qual d.scope s.heap.objs.size (He.ga K x) cdv)) → sp vs H Q E →
      ∃ t, PSs (cxOf CX0 P w K mg base L d.qual d.scope (He.ga K x) cdv A outer s H E).nox d.body t ∧ t { nx := fun _ H' => Q .non H', rt := Q } (start L vs) H) :
    FnOk P w K mg base CX0 (k + 1) (He.ga K x) fd ps sp := by
  obtain ⟨oc, od, dV, kV, doc, pm, an, cdv, ct, osl, rfl, lk, hcd, hD, _⟩ := F.ex
  exact fn_of lk hcd S len fun A outer s H vs Q E hr hsp => let ⟨t, h, q⟩ := hbody cdv A outer s H vs Q E hr hsp; ⟨t, h.nox, q⟩

/-- the tables of the listed defs -/
def Tabs (K : PySem.W.Frag) (tf : List He.Defn) (H : Hp) : Prop := ∀ p ∈ tf, GxR.TabG H (He.cT K p).2

theorem lawAt {l : PySem.W.OpenLaw} {fa : Addr} {h : Heap} {ex : PySem.W.Frag → Bool} {k n : Nat} {sp : Sp} {d : He.DefD} (X : K.In h) (G : h.Ns mainGlobals mg) (c : He.SaysX N.fa N.fn [] N.tf ex w h K)
    (hfa : mg "law" = some (.ref fa)) (hl : ("law" : Str) ∈ N.glos) (i : Nat) (hi : N.fn[i]? = some d) (hat : d.at_ = (("law" : Str), none)) (hdf : d.dfl = []) (hkw : d.kwd = [])
    (hb : ∀ (kV doc pm : Value) (an : Option Addr) (cdv ct : Value) (us : List Value), us.length = [("script" : Str)].length → bindArgs (PySem.W.fnOf d.name d.qual d.params d.body d.scope .none kV doc pm an cdv ct) ⟨us, []⟩ = pure ([("script" : Str)].zip us))
    (hsp : ∀ (H : Hp) (a : Addr) (ns : List Int), ns.length ≤ n → (∀ z ∈ ns, Builtin.Int.intBits z ≤ 1048576) → Tabs K N.tf H → SqL K H a (ns.map V.int) → sp [.ref a] H (fun v _ => v = .bl true) fun _ _ _ => False)
    (hF : ∀ (base : Heap) (fd : FuncData), Top N K mg base → FunD K d.name d.qual d.params d.body d.scope [] [] (He.ga K "law") fd → FnOk l.prog w K mg base CX0 k (He.ga K "law") fd ["script"] sp) :
    LamX.LawAtS l w K CX0 k n "script" mg fa h := by
  obtain ⟨fd, F⟩ := c.t.d.def_ i hi
  have e1 : d.dvs K = [] := by unfold He.DefD.dvs; rw [hdf]; rfl
  have e2 : d.kws K = [] := by unfold He.DefD.kws; rw [hkw]; rfl
  have e3 : He.fAd K d.at_ = He.ga K "law" := by rw [hat]; rfl
  rw [e1, e2, e3] at F
  have eg : mg "law" = some (.ref (He.ga K "law")) := He.glo_ok X G (c.t.d.facts (f := .glo "law") (List.mem_append_left _ (List.mem_map.mpr ⟨_, hl, rfl⟩)))
  rw [hfa] at eg
  cases eg
  have mem : ∀ p, p ∈ N.tf.map (He.cT K) → ∃ q ∈ N.tf, He.cT K q = p := fun p hp => List.mem_map.mp hp
  refine ⟨fd, N.tf.map (He.cT K), sp, fun p hp => ?_, fun p hp => ?_, fun p hp => ?_, fun s u => FunD.bindsA (ps := [("script" : Str)]) F hb s [u] rfl, fun H a ns hl hbits hT hS => hsp H a ns hl hbits (fun q hq => ⟨_, hT _ (List.mem_map.mpr ⟨q, hq, rfl⟩), trivial⟩) hS, fun base X2 G2 hT => hF base fd (Top.mk' X2 G2 c.t.d fun q hq => have z := hT _ (List.mem_map.mpr ⟨q, hq, rfl⟩); ⟨z.code, z.bm, z.gP⟩) F⟩
  · obtain ⟨q, hq, rfl⟩ := mem p hp
    exact c.empty q hq
  · obtain ⟨q, hq, rfl⟩ := mem p hp
    exact c.out q hq
  · obtain ⟨q, hq, rfl⟩ := mem p hp
    exact PySem.W.codeHd_of_K X (c.hd q hq)
end
end AS

set_option Elab.async false
set_option linter.all false
set_option maxRecDepth 100000
set_option maxHeartbeats 4000000
namespace A7
open PySem PySem.Spec PyProof.Rows L2 AS
def top (i : Nat) : Stmt := PySem.Challenge.pw_authsync_k41_entries_that_are_refused.main.body.getD i (.Pass ⟨0, 0, 0, 0⟩)
abbrev s_wall : Stmt := top 0
def d_wall : He.DefD := ⟨("_wall", none), "_wall", "_wall", defArgs s_wall, defBody s_wall, defScope s_wall, [], []⟩
theorem sc_wall : FnScope ["k"] ["k"] (defScope s_wall) := ⟨rfl, rfl, rfl, by decide +kernel, rfl, by decide +kernel, by decide +kernel⟩
abbrev sRefused_init : Stmt := inClass (top 3) 0
def dRefused_init : He.DefD := ⟨("Refused", some "__init__"), "__init__", "Refused.__init__", defArgs sRefused_init, defBody sRefused_init, defScope sRefused_init, [.int (-1)], []⟩
theorem scRefused_init : FnScope ["self", "what", "index"] ["self", "what", "index"] (defScope sRefused_init) := ⟨rfl, rfl, rfl, by decide +kernel, rfl, by decide +kernel, by decide +kernel⟩
abbrev swithout : Stmt := top 5
def dwithout : He.DefD := ⟨("without", none), "without", "without", defArgs swithout, defBody swithout, defScope swithout, [], []⟩
theorem scwithout : FnScope ["rows", "others"] ["rows", "others"] (defScope swithout) := ⟨rfl, rfl, rfl, by decide +kernel, rfl, by decide +kernel, by decide +kernel⟩
abbrev s_in_both : Stmt := top 6
def d_in_both : He.DefD := ⟨("_in_both", none), "_in_both", "_in_both", defArgs s_in_both, defBody s_in_both, defScope s_in_both, [], []⟩
theorem sc_in_both : FnScope ["grants", "others"] ["grants", "others"] (defScope s_in_both) := ⟨rfl, rfl, rfl, by decide +kernel, rfl, by decide +kernel, by decide +kernel⟩
abbrev sapplies : Stmt := top 7
def dapplies : He.DefD := ⟨("applies", none), "applies", "applies", defArgs sapplies, defBody sapplies, defScope sapplies, [], []⟩
theorem scapplies : FnScope ["grants", "change", "gained", "lost"] ["grants", "change"] (defScope sapplies) := ⟨rfl, rfl, rfl, by decide +kernel, rfl, by decide +kernel, by decide +kernel⟩
abbrev sapply_change : Stmt := top 8
def dapply_change : He.DefD := ⟨("apply_change", none), "apply_change", "apply_change", defArgs sapply_change, defBody sapply_change, defScope sapply_change, [], []⟩
theorem scapply_change : FnScope ["grants", "change", "gained", "lost"] ["grants", "change"] (defScope sapply_change) := ⟨rfl, rfl, rfl, by decide +kernel, rfl, by decide +kernel, by decide +kernel⟩
abbrev s_is_word : Stmt := top 16
def d_is_word : He.DefD := ⟨("_is_word", none), "_is_word", "_is_word", defArgs s_is_word, defBody s_is_word, defScope s_is_word, [], []⟩
theorem sc_is_word : FnScope ["text"] ["text"] (defScope s_is_word) := ⟨rfl, rfl, rfl, by decide +kernel, rfl, by decide +kernel, by decide +kernel⟩
abbrev sis_identifier : Stmt := top 17
def dis_identifier : He.DefD := ⟨("is_identifier", none), "is_identifier", "is_identifier", defArgs sis_identifier, defBody sis_identifier, defScope sis_identifier, [], []⟩
theorem scis_identifier : FnScope ["text"] ["text"] (defScope sis_identifier) := ⟨rfl, rfl, rfl, by decide +kernel, rfl, by decide +kernel, by decide +kernel⟩
abbrev sread_revision : Stmt := top 18
def dread_revision : He.DefD := ⟨("read_revision", none), "read_revision", "read_revision", defArgs sread_revision, defBody sread_revision, defScope sread_revision, [], []⟩
theorem scread_revision : FnScope ["text", "revision"] ["text"] (defScope sread_revision) := ⟨rfl, rfl, rfl, by decide +kernel, rfl, by decide +kernel, by decide +kernel⟩
abbrev stoken_of : Stmt := top 19
def dtoken_of : He.DefD := ⟨("token_of", none), "token_of", "token_of", defArgs stoken_of, defBody stoken_of, defScope stoken_of, [], []⟩
theorem sctoken_of : FnScope ["store", "revision"] ["store", "revision"] (defScope stoken_of) := ⟨rfl, rfl, rfl, by decide +kernel, rfl, by decide +kernel, by decide +kernel⟩
abbrev ssplit_token : Stmt := top 20
def dsplit_token : He.DefD := ⟨("split_token", none), "split_token", "split_token", defArgs ssplit_token, defBody ssplit_token, defScope ssplit_token, [], []⟩
theorem scsplit_token : FnScope ["text", "store", "_", "digits", "revision"] ["text"] (defScope ssplit_token) := ⟨rfl, rfl, rfl, by decide +kernel, rfl, by decide +kernel, by decide +kernel⟩
abbrev srevision_of : Stmt := top 22
def drevision_of : He.DefD := ⟨("revision_of", none), "revision_of", "revision_of", defArgs srevision_of, defBody srevision_of, defScope srevision_of, [], []⟩
theorem screvision_of : FnScope ["token", "store", "told"] ["token", "store"] (defScope srevision_of) := ⟨rfl, rfl, rfl, by decide +kernel, rfl, by decide +kernel, by decide +kernel⟩
abbrev sReplica_init : Stmt := inClass (top 26) 0
def dReplica_init : He.DefD := ⟨("Replica", some "__init__"), "__init__", "Replica.__init__", defArgs sReplica_init, defBody sReplica_init, defScope sReplica_init, [], []⟩
theorem scReplica_init : FnScope ["self", "snapshot", "store", "revision", "grants"] ["self", "snapshot"] (defScope sReplica_init) := ⟨rfl, rfl, rfl, by decide +kernel, rfl, by decide +kernel, by decide +kernel⟩
abbrev sReplica_store_id : Stmt := inClass (top 26) 1
def dReplica_store_id : He.DefD := ⟨("Replica", some "store_id"), "store_id", "Replica.store_id", defArgs sReplica_store_id, defBody sReplica_store_id, defScope sReplica_store_id, [], []⟩
theorem scReplica_store_id : FnScope ["self"] ["self"] (defScope sReplica_store_id) := ⟨rfl, rfl, rfl, by decide +kernel, rfl, by decide +kernel, by decide +kernel⟩
abbrev sReplica_revision : Stmt := inClass (top 26) 2
def dReplica_revision : He.DefD := ⟨("Replica", some "revision"), "revision", "Replica.revision", defArgs sReplica_revision, defBody sReplica_revision, defScope sReplica_revision, [], []⟩
theorem scReplica_revision : FnScope ["self"] ["self"] (defScope sReplica_revision) := ⟨rfl, rfl, rfl, by decide +kernel, rfl, by decide +kernel, by decide +kernel⟩
abbrev sReplica_receive : Stmt := inClass (top 26) 3
def dReplica_receive : He.DefD := ⟨("Replica", some "receive"), "receive", "Replica.receive", defArgs sReplica_receive, defBody sReplica_receive, defScope sReplica_receive, [], []⟩
theorem scReplica_receive : FnScope ["self", "entry", "store", "revision", "gained", "lost", "change"] ["self", "entry"] (defScope sReplica_receive) := ⟨rfl, rfl, rfl, by decide +kernel, rfl, by decide +kernel, by decide +kernel⟩
abbrev sReplica_waiting : Stmt := inClass (top 26) 4
def dReplica_waiting : He.DefD := ⟨("Replica", some "waiting"), "waiting", "Replica.waiting", defArgs sReplica_waiting, defBody sReplica_waiting, defScope sReplica_waiting, [], []⟩
theorem scReplica_waiting : FnScope ["self"] ["self"] (defScope sReplica_waiting) := ⟨rfl, rfl, rfl, by decide +kernel, rfl, by decide +kernel, by decide +kernel⟩
abbrev sReplica_waiting_entries : Stmt := inClass (top 26) 5
def dReplica_waiting_entries : He.DefD := ⟨("Replica", some "waiting_entries"), "waiting_entries", "Replica.waiting_entries", defArgs sReplica_waiting_entries, defBody sReplica_waiting_entries, defScope sReplica_waiting_entries, [], []⟩
theorem scReplica_waiting_entries : FnScope ["self"] ["self"] (defScope sReplica_waiting_entries) := ⟨rfl, rfl, rfl, by decide +kernel, rfl, by decide +kernel, by decide +kernel⟩
abbrev sReplica_check : Stmt := inClass (top 26) 6
def dReplica_check : He.DefD := ⟨("Replica", some "check"), "check", "Replica.check", defArgs sReplica_check, defBody sReplica_check, defScope sReplica_check, [], []⟩
theorem scReplica_check : FnScope ["self", "target", "name", "subject", "at_least"] ["self", "target", "name", "subject", "at_least"] (defScope sReplica_check) := ⟨rfl, rfl, rfl, by decide +kernel, rfl, by decide +kernel, by decide +kernel⟩
abbrev sReplica_snapshot : Stmt := inClass (top 26) 7
def dReplica_snapshot : He.DefD := ⟨("Replica", some "snapshot"), "snapshot", "Replica.snapshot", defArgs sReplica_snapshot, defBody sReplica_snapshot, defScope sReplica_snapshot, [], []⟩
theorem scReplica_snapshot : FnScope ["self"] ["self"] (defScope sReplica_snapshot) := ⟨rfl, rfl, rfl, by decide +kernel, rfl, by decide +kernel, by decide +kernel⟩
abbrev sReplica_waiting_entry : Stmt := inClass (top 26) 8
def dReplica_waiting_entry : He.DefD := ⟨("Replica", some "_waiting_entry"), "_waiting_entry", "Replica._waiting_entry", defArgs sReplica_waiting_entry, defBody sReplica_waiting_entry, defScope sReplica_waiting_entry, [], []⟩
theorem scReplica_waiting_entry : FnScope ["self", "revision"] ["self", "revision"] (defScope sReplica_waiting_entry) := ⟨rfl, rfl, rfl, by decide +kernel, rfl, by decide +kernel, by decide +kernel⟩
abbrev sReplica_check_entry : Stmt := inClass (top 26) 9
def dReplica_check_entry : He.DefD := ⟨("Replica", some "_check_entry"), "_check_entry", "Replica._check_entry", defArgs sReplica_check_entry, defBody sReplica_check_entry, defScope sReplica_check_entry, [], []⟩
theorem scReplica_check_entry : FnScope ["self", "revision", "change"] ["self", "revision", "change"] (defScope sReplica_check_entry) := ⟨rfl, rfl, rfl, by decide +kernel, rfl, by decide +kernel, by decide +kernel⟩
abbrev sReplica_fits : Stmt := inClass (top 26) 10
def dReplica_fits : He.DefD := ⟨("Replica", some "_fits"), "_fits", "Replica._fits", defArgs sReplica_fits, defBody sReplica_fits, defScope sReplica_fits, [], []⟩
theorem scReplica_fits : FnScope ["self", "change", "gained", "lost"] ["self", "change"] (defScope sReplica_fits) := ⟨rfl, rfl, rfl, by decide +kernel, rfl, by decide +kernel, by decide +kernel⟩
abbrev sReplica_take_waiting : Stmt := inClass (top 26) 11
def dReplica_take_waiting : He.DefD := ⟨("Replica", some "_take_waiting"), "_take_waiting", "Replica._take_waiting", defArgs sReplica_take_waiting, defBody sReplica_take_waiting, defScope sReplica_take_waiting, [], []⟩
theorem scReplica_take_waiting : FnScope ["self", "applied", "change"] ["self"] (defScope sReplica_take_waiting) := ⟨rfl, rfl, rfl, by decide +kernel, rfl, by decide +kernel, by decide +kernel⟩
abbrev s_law_cell : Stmt := top 28
def d_law_cell : He.DefD := ⟨("_law_cell", none), "_law_cell", "_law_cell", defArgs s_law_cell, defBody s_law_cell, defScope s_law_cell, [], []⟩
theorem sc_law_cell : FnScope ["script", "k"] ["script", "k"] (defScope s_law_cell) := ⟨rfl, rfl, rfl, by decide +kernel, rfl, by decide +kernel, by decide +kernel⟩
abbrev s_law_draws : Stmt := top 29
def d_law_draws : He.DefD := ⟨("_law_draws", none), "_law_draws", "_law_draws", defArgs s_law_draws, defBody s_law_draws, defScope s_law_draws, [], []⟩
theorem sc_law_draws : FnScope ["cell", "count", "found", "is_wide", "k", "mixed"] ["cell", "count"] (defScope s_law_draws) := ⟨rfl, rfl, rfl, by decide +kernel, rfl, by decide +kernel, by decide +kernel⟩
abbrev s_law_grant : Stmt := top 30
def d_law_grant : He.DefD := ⟨("_law_grant", none), "_law_grant", "_law_grant", defArgs s_law_grant, defBody s_law_grant, defScope s_law_grant, [], []⟩
theorem sc_law_grant : FnScope ["draw"] ["draw"] (defScope s_law_grant) := ⟨rfl, rfl, rfl, by decide +kernel, rfl, by decide +kernel, by decide +kernel⟩
abbrev s_law_once : Stmt := top 31
def d_law_once : He.DefD := ⟨("_law_once", none), "_law_once", "_law_once", defArgs s_law_once, defBody s_law_once, defScope s_law_once, [], []⟩
theorem sc_law_once : FnScope ["things", "found", "thing"] ["things"] (defScope s_law_once) := ⟨rfl, rfl, rfl, by decide +kernel, rfl, by decide +kernel, by decide +kernel⟩
abbrev s_law_entry : Stmt := top 32
def d_law_entry : He.DefD := ⟨("_law_entry", none), "_law_entry", "_law_entry", defArgs s_law_entry, defBody s_law_entry, defScope s_law_entry, [], []⟩
theorem sc_law_entry : FnScope ["cell", "number", "draws", "revision", "gained", "lost", "grant", "k"] ["cell", "number"] (defScope s_law_entry) := ⟨rfl, rfl, rfl, by decide +kernel, rfl, by decide +kernel, by decide +kernel⟩
abbrev s_law_fits : Stmt := top 33
def d_law_fits : He.DefD := ⟨("_law_fits", none), "_law_fits", "_law_fits", defArgs s_law_fits, defBody s_law_fits, defScope s_law_fits, [], []⟩
theorem sc_law_fits : FnScope ["table", "change", "grant"] ["table", "change"] (defScope s_law_fits) := ⟨rfl, rfl, rfl, by decide +kernel, rfl, by decide +kernel, by decide +kernel⟩
abbrev s_law_turned : Stmt := top 34
def d_law_turned : He.DefD := ⟨("_law_turned", none), "_law_turned", "_law_turned", defArgs s_law_turned, defBody s_law_turned, defScope s_law_turned, [], []⟩
theorem sc_law_turned : FnScope ["table", "change", "grant"] ["table", "change"] (defScope s_law_turned) := ⟨rfl, rfl, rfl, by decide +kernel, rfl, by decide +kernel, by decide +kernel⟩
abbrev s_law_due : Stmt := top 35
def d_law_due : He.DefD := ⟨("_law_due", none), "_law_due", "_law_due", defArgs s_law_due, defBody s_law_due, defScope s_law_due, [], []⟩
theorem sc_law_due : FnScope ["state", "entry", "number", "table", "later", "change", "applied"] ["state", "entry"] (defScope s_law_due) := ⟨rfl, rfl, rfl, by decide +kernel, rfl, by decide +kernel, by decide +kernel⟩
abbrev s_law_told : Stmt := top 36
def d_law_told : He.DefD := ⟨("_law_told", none), "_law_told", "_law_told", defArgs s_law_told, defBody s_law_told, defScope s_law_told, [], []⟩
theorem sc_law_told : FnScope ["replica", "entry", "e"] ["replica", "entry"] (defScope s_law_told) := ⟨rfl, rfl, rfl, by decide +kernel, rfl, by decide +kernel, by decide +kernel⟩
abbrev s_law_check : Stmt := top 37
def d_law_check : He.DefD := ⟨("_law_check", none), "_law_check", "_law_check", defArgs s_law_check, defBody s_law_check, defScope s_law_check, [], []⟩
theorem sc_law_check : FnScope ["replica", "token", "e"] ["replica", "token"] (defScope s_law_check) := ⟨rfl, rfl, rfl, by decide +kernel, rfl, by decide +kernel, by decide +kernel⟩
abbrev slaw : Stmt := top 38
def dlaw : He.DefD := ⟨("law", none), "law", "law", defArgs slaw, defBody slaw, defScope slaw, [], []⟩
theorem sclaw : FnScope ["script", "draws", "k", "table", "state", "replica", "entry", "told", "number", "due"] ["script"] (defScope slaw) := ⟨rfl, rfl, rfl, by decide +kernel, rfl, by decide +kernel, by decide +kernel⟩
abbrev i_wall : Nat := 0
abbrev iRefused_init : Nat := 1
abbrev iwithout : Nat := 2
abbrev i_in_both : Nat := 3
abbrev iapplies : Nat := 4
abbrev iapply_change : Nat := 5
abbrev i_is_word : Nat := 6
abbrev iis_identifier : Nat := 7
abbrev iread_revision : Nat := 8
abbrev itoken_of : Nat := 9
abbrev isplit_token : Nat := 10
abbrev irevision_of : Nat := 11
abbrev iReplica_init : Nat := 12
abbrev iReplica_store_id : Nat := 13
abbrev iReplica_revision : Nat := 14
abbrev iReplica_receive : Nat := 15
abbrev iReplica_waiting : Nat := 16
abbrev iReplica_waiting_entries : Nat := 17
abbrev iReplica_check : Nat := 18
abbrev iReplica_snapshot : Nat := 19
abbrev iReplica_waiting_entry : Nat := 20
abbrev iReplica_check_entry : Nat := 21
abbrev iReplica_fits : Nat := 22
abbrev iReplica_take_waiting : Nat := 23
abbrev i_law_cell : Nat := 24
abbrev i_law_draws : Nat := 25
abbrev i_law_grant : Nat := 26
abbrev i_law_once : Nat := 27
abbrev i_law_entry : Nat := 28
abbrev i_law_fits : Nat := 29
abbrev i_law_turned : Nat := 30
abbrev i_law_due : Nat := 31
abbrev i_law_told : Nat := 32
abbrev i_law_check : Nat := 33
abbrev ilaw : Nat := 34
def NN : Names := {
  glos := ["_wall", "AuthError", "Refused", "without", "_in_both", "applies", "apply_change", "_is_word", "is_identifier", "read_revision", "token_of", "split_token", "revision_of", "Replica", "_law_cell", "_law_draws", "_law_grant", "_law_once", "_law_entry", "_law_fits", "_law_turned", "_law_due", "_law_told", "_law_check", "law"],
  frees := ["ValueError", "all", "int", "len", "list", "max", "range", "set", "sorted", "str"],
  txts := [("LETTERS", "abcdefghijklmnopqrstuvwxyz"), ("DIGITS", "0123456789"), ("WORD_SIGNS", "abcdefghijklmnopqrstuvwxyz0123456789_")],
  nums := [("WORD_LIMIT", 20), ("GREATEST_REVISION", 1000), ("REVISION_DIGITS", 4), ("GRANT_LIMIT", 12800), ("AHEAD_LIMIT", 40)],
  fn := [d_wall, dRefused_init, dwithout, d_in_both, dapplies, dapply_change, d_is_word, dis_identifier, dread_revision, dtoken_of, dsplit_token, drevision_of, dReplica_init, dReplica_store_id, dReplica_revision, dReplica_receive, dReplica_waiting, dReplica_waiting_entries, dReplica_check, dReplica_snapshot, dReplica_waiting_entry, dReplica_check_entry, dReplica_fits, dReplica_take_waiting, d_law_cell, d_law_draws, d_law_grant, d_law_once, d_law_entry, d_law_fits, d_law_turned, d_law_due, d_law_told, d_law_check, dlaw],
  tf := [("_is_word", none), ("read_revision", none)] }
end A7

set_option Elab.async false
set_option linter.all false
set_option maxRecDepth 100000
set_option maxHeartbeats 2000000
namespace AS
open PySem PySem.Spec PyProof.Rows L2
/-- what a call leaves: all that stood, but that tables of code objects may have grown -/
structure Sm (H H' : Hp) : Prop where
  keep : ∀ b o, H b = some o → (∀ ps, o ≠ .tbl ps) → H' b = some o
  tab : ∀ b ps, H b = some (.tbl ps) → ∃ qs, H' b = some (.tbl qs) ∧ (TriplesOk ps.toList → TriplesOk qs.toList)
theorem Sm.refl (H : Hp) : Sm H H := ⟨fun _ _ h _ => h, fun _ ps h => ⟨ps, h, fun z => z⟩⟩
theorem Sm.trans {H H1 H2 : Hp} (a : Sm H H1) (b : Sm H1 H2) : Sm H H2 where
  keep := fun c o h n => b.keep c o (a.keep c o h n) n
  tab := fun c ps h => by
    obtain ⟨q1, h1, t1⟩ := a.tab c ps h
    obtain ⟨q2, h2, t2⟩ := b.tab c q1 h1
    exact ⟨q2, h2, fun z => t2 (t1 z)⟩
theorem Sm.free {H H' : Hp} (e : Sm H H') {l : Addr} (h : H' l = none) : H l = none := by
  cases q : H l with
  | none => rfl
  | some o =>
    cases o with
    | tbl ps =>
      obtain ⟨_, h1, _⟩ := e.tab l ps q
      rw [h] at h1
      cases h1
    | _ =>
      have h1 := e.keep l _ q (fun _ z => nomatch z)
      rw [h] at h1
      cases h1
/-- an object that the first heap does not know is laid or written -/
theorem Sm.put {H H' : Hp} (e : Sm H H') {l : Addr} {o : HO} (h : H l = none) : Sm H (upd H' l o) where
  keep := fun c u hc n => by
    rw [upd_ne (ne_of_none hc h)]
    exact e.keep c u hc n
  tab := fun c ps hc => by
    rw [upd_ne (ne_of_none hc h)]
    exact e.tab c ps hc
theorem Sm.new {H : Hp} {l : Addr} {o : HO} (h : H l = none) : Sm H (upd H l o) := (Sm.refl H).put h
theorem Sm.tabbed {H H' : Hp} {P : Addr} (g : GxR.TabG H P) (t : GxR.Tabbed P H H') : Sm H H' where
  keep := fun c u hc n => by
    by_cases h : c = P
    · obtain ⟨ps, hp, _⟩ := g
      rw [h, hp] at hc
      exact absurd (Option.some.inj hc).symm (n ps)
    · rw [t.2 c h]
      exact hc
  tab := fun c ps hc => by
    by_cases h : c = P
    · obtain ⟨qs, hq, z⟩ := t.1
      rw [h]
      exact ⟨qs, hq, fun _ => z⟩
    · rw [t.2 c h]
      exact ⟨ps, hc, fun z => z⟩
theorem Sm.same {H H' : Hp} (e : Same H H') : Sm H H' := ⟨fun b o h _ => e b o h, fun b ps h => ⟨ps, e b _ h, fun z => z⟩⟩
theorem Sm.seq {K : PySem.W.Frag} {H H' : Hp} {a : Addr} {xs : List V} (e : Sm H H') (h : SqL K H a xs) : SqL K H' a xs := by
  rcases h with (h | ⟨o, h⟩) | h
  · exact .inl (.inl (e.keep _ _ h fun _ z => nomatch z))
  · exact .inl (.inr ⟨o, e.keep _ _ h fun _ z => nomatch z⟩)
  · exact .inr h
theorem Sm.seqT {K : PySem.W.Frag} {H H' : Hp} {a : Addr} {xs : List V} (e : Sm H H') (h : SqT K H a xs) : SqT K H' a xs := by
  rcases h with (h | ⟨o, h⟩) | h
  · exact .inl (.inl (e.keep _ _ h fun _ z => nomatch z))
  · exact .inl (.inr ⟨o, e.keep _ _ h fun _ z => nomatch z⟩)
  · exact .inr h
theorem Sm.lst {H H' : Hp} (e : Sm H H') {a : Addr} {xs : List V} (h : H a = some (.lst xs)) : H' a = some (.lst xs) := e.keep _ _ h fun _ z => nomatch z
theorem Sm.tup {H H' : Hp} (e : Sm H H') {a : Addr} {xs : List V} (h : H a = some (.tup xs)) : H' a = some (.tup xs) := e.keep _ _ h fun _ z => nomatch z
theorem Sm.tabs {K : PySem.W.Frag} {tf : List He.Defn} {H H' : Hp} (e : Sm H H') (t : Tabs K tf H) : Tabs K tf H' := fun p hp => by
  obtain ⟨ps, h, z⟩ := t p hp
  obtain ⟨qs, h1, z1⟩ := e.tab _ ps h
  exact ⟨qs, h1, z1 z⟩

/-- a promise: one text, the answer a plain value, nothing changed -/
def sp1 (K : PySem.W.Frag) (tf : List He.Defn) (f : Str → V) : Sp := fun vs H Q _ => ∃ z : Str, vs = [.str z] ∧ z.length ≤ sizeLine ∧ Tabs K tf H ∧ ∀ H', Sm H H' → Q (f z) H'
theorem sp1_len {K : PySem.W.Frag} {tf : List He.Defn} {f : Str → V} {x : Str} : ∀ vs H Q E, sp1 K tf f vs H Q E → vs.length = [x].length := fun vs H Q E h => by
  obtain ⟨z, rfl, _⟩ := h
  rfl
theorem gs_mk {env : Env} {scope : Scope} {x : Str} (h1 : scope.kind = .function) (h2 : scope.isCoroutine = false) (h3 : ∀ y ∈ scope.names, y.2 ≠ .cell) (h4 : scope.names.lookup (".0" : Str) = some NameKind.local)
    (h5 : scope.names.lookup x = some .local) (h6 : ∀ y ∈ scope.names, y.2 ≠ .free) : GxR.GenS env scope x := ⟨h1, h2, h3, h4, h5, fun y hy e => absurd e (h6 y hy)⟩
end AS

set_option Elab.async false
set_option linter.all false
set_option maxRecDepth 100000
set_option maxHeartbeats 2000000
namespace AS
open PySem PySem.Spec PyProof.Rows L2
/-! ### facts of own error classes, as one Bool -/
def oexB (K : PySem.W.Frag) (C : Addr) : Bool := (match K.lookup C with
  | some ⟨.type t, _, .cls cd, sl⟩ => (match cd.mro, sl.toList with
    | .ref C' :: bm, [_, _, _, _, some (.builtin n), _] => decide (t = "type") && (decide (C' = C) && (decide (n = "ValueError.__new__") && (cd.hasDict && (!cd.hasDel && PySem.HandSPX.refsVE bm))))
    | _, _ => false)
  | _ => false) && (He.eqO (PySem.W.findIn K (.ref C) "__setattr__") (some (some (.builtin "object.__setattr__"))) && (decide (PySem.W.subIn K (.ref C) (.type "BaseException") = some true) && (decide (PySem.W.typeIn K (.ref C) = some (.type "type")) && PySem.W.keepIn K (.ref C))))
theorem oexB_ok {K : PySem.W.Frag} {C : Addr} (h : oexB K C = true) : OexC K C := by
  unfold oexB at h
  obtain ⟨h1, h⟩ := He.ba h
  obtain ⟨h2, h⟩ := He.ba h
  obtain ⟨h3, h⟩ := He.ba h
  obtain ⟨h4, h5⟩ := He.ba h
  refine ⟨?_, He.eqO_ok h2, of_decide_eq_true h3, of_decide_eq_true h4, h5⟩
  cases q : K.lookup C with
  | none =>
    rw [q] at h1
    cases h1
  | some o =>
    obtain ⟨oc, od, dt, osl⟩ := o
    rw [q] at h1
    cases oc with
    | type t =>
      cases dt with
      | cls cd =>
        obtain ⟨nm, bs, mro, ns, qn, hd, sn, sb, ab, col, del⟩ := cd
        cases mro with
        | nil => cases h1
        | cons m bm =>
          obtain ⟨l⟩ := osl
          cases m with
          | ref C' =>
            match l, h1 with
            | [k0, k1, k2, k3, some (.builtin n), k5], h1 =>
              obtain ⟨e1, h1⟩ := He.ba (show (decide (t = "type") && (decide (C' = C) && (decide (n = "ValueError.__new__") && (hd && (!del && PySem.HandSPX.refsVE bm))))) = true from h1)
              obtain ⟨e2, h1⟩ := He.ba h1
              obtain ⟨e3, h1⟩ := He.ba h1
              obtain ⟨e4, h1⟩ := He.ba h1
              obtain ⟨e5, e6⟩ := He.ba h1
              have f1 := of_decide_eq_true e1
              have f2 := of_decide_eq_true e2
              have f3 := of_decide_eq_true e3
              have f5 : del = false := by
                cases del with
                | false => rfl
                | true => cases e5
              have f4 : hd = true := e4
              subst f1 f2 f3 f5 f4
              exact ⟨_, _, _, _, bm, _, _, _, _, _, _, _, _, _, _, rfl, e6⟩
          | _ => cases h1
      | _ => cases h1
    | _ => cases dt <;> cases h1
/-- an own class whose __init__ is ValueError's -/
structure VeInit (K : PySem.W.Frag) (C : Addr) : Prop where
  ga : PySem.W.specialIn K (.ref C) "__getattribute__" = some (some (.builtin "type.__getattribute__"))
  rd : PySem.W.readsIn K C (.type "type") = true
  fd : PySem.W.findCls K (.ref C) (.type "type") "__init__" = some (.val (.builtin "ValueError.__init__"))
def isVal (x : Option PySem.W.CFound) (v : Value) : Bool := match x with
  | some (.val u) => decide (u = v)
  | _ => false
theorem isVal_ok {x : Option PySem.W.CFound} {v : Value} (h : isVal x v = true) : x = some (.val v) := by
  cases x with
  | none => cases h
  | some c =>
    cases c with
    | val u => rw [of_decide_eq_true (show decide (u = v) = true from h)]
    | _ => cases h
def veInitB (K : PySem.W.Frag) (C : Addr) : Bool := He.eqO (PySem.W.specialIn K (.ref C) "__getattribute__") (some (some (.builtin "type.__getattribute__"))) && (PySem.W.readsIn K C (.type "type") && isVal (PySem.W.findCls K (.ref C) (.type "type") "__init__") (.builtin "ValueError.__init__"))
theorem veInitB_ok {K : PySem.W.Frag} {C : Addr} (h : veInitB K C = true) : VeInit K C := by
  obtain ⟨h1, h⟩ := He.ba h
  obtain ⟨h2, h3⟩ := He.ba h
  exact ⟨He.eqO_ok h1, h2, isVal_ok h3⟩
section
variable {X : Cx} {e : Expr} {es : List Expr} {ta : TA} {p1 p2 pos : Pos} {x : Str} {C0 : Addr}
/-- Base.__init__(self, ..), Base an own class whose __init__ is ValueError's -/
theorem pe_clsinit {pl : Sem Bool} (hg : Gl X x) (hm : X.mg x = some (.ref C0)) (B : VeInit X.K C0) (ha : PA X (e :: es) ta)
    (hc : eval (.Call (.Attribute (.Name x p1) "__init__" p2) (e :: es) [] pos) X.env = (do
      let ov ← eval (.Name x p1) X.env
      standAt p2.atName
      let (f, first) ← holding [ov] (getMethod ov "__init__" pl)
      callWith pos f first (backTo pos (starEach (e :: es) X.env)) (backToKw pos (keywordEach [] X.env))) := by rfl)
    (hd : (x == ("__debug__" : Str)) = false := by decide)
    (he : starEach (e :: es) X.env = (false, eval e X.env) :: starEach es X.env := by rfl) (hpl : (backTo pos (starEach es X.env)).any (·.1) = false := by rfl) :
    PE X (.Call (.Attribute (.Name x p1) "__init__" p2) (e :: es) [] pos) (tVeI X.K ta) := by
  constructor
  intro pins s σ H Q I h
  refine PySem.W.methodCall_KW (ld_glob I hg hm ?_ hd) hc
  refine PySem.W.method_cls I.kIn B.ga (PySem.W.cls_value I.kIn B.rd B.fd (by decide +kernel) ?_)
  show wpAny _ _ (callWith pos (Value.builtin "ValueError.__init__") [] (backTo pos (starEach (e :: es) X.env)) []) _ _ _
  refine PyProof.Rows.callWith_method1 (thn (ha.run pos pins _ σ H _ (I.tok _) h) fun us s1 hq => ?_) he hpl
  obtain ⟨vs, H1, J, r1, a, C, ws, rfl, hl, T, ea, q⟩ := hq
  cases r1 with
  | @cons _ u0 _ ur ra rw' =>
    obtain rfl : u0 = Value.ref a := ra
    have hlen : ur.length ≤ sizeLine := by
      rw [← Paired.length rw', sizeLine_eq]
      omega
    exact oinit_ok T J ea hlen fun s' J' => ⟨.non, H1, J', rfl, q⟩
end

/-! ### an error class with two fields -/
structure ErrC (K : PySem.W.Frag) (mg : Str → Option Value) (C f1 f2 : Str) : Prop where
  gl : mg C = some (.ref (He.ga K C))
  ox : OexC K (He.ga K C)
  xf : XfC K (He.ga K C)
  no1 : PySem.W.findIn K (.ref (He.ga K C)) f1 = some none
  no2 : PySem.W.findIn K (.ref (He.ga K C)) f2 = some none
  iC : PySem.W.findIn K (.ref (He.ga K C)) "__init__" = some (some (.ref (He.ma K (He.ga K C) "__init__")))
  tI : PySem.W.typeIn K (.ref (He.ma K (He.ga K C) "__init__")) = some (.type "function")
  te : PySem.W.exmOne K (.ref (He.ga K C)) (.ref (He.ga K C)) = some true
def errB (K : PySem.W.Frag) (C f1 f2 : Str) : Bool := oexB K (He.ga K C) && (xfB K (He.ga K C) && (He.eqO (PySem.W.findIn K (.ref (He.ga K C)) f1) (some none) && (He.eqO (PySem.W.findIn K (.ref (He.ga K C)) f2) (some none) &&
  (He.eqO (PySem.W.findIn K (.ref (He.ga K C)) "__init__") (some (some (.ref (He.ma K (He.ga K C) "__init__")))) && (decide (PySem.W.typeIn K (.ref (He.ma K (He.ga K C) "__init__")) = some (.type "function")) && decide (PySem.W.exmOne K (.ref (He.ga K C)) (.ref (He.ga K C)) = some true))))))
theorem errB_ok {K : PySem.W.Frag} {mg : Str → Option Value} {C f1 f2 : Str} (g : mg C = some (.ref (He.ga K C))) (h : errB K C f1 f2 = true) : ErrC K mg C f1 f2 := by
  obtain ⟨h1, h⟩ := He.ba h
  obtain ⟨h2, h⟩ := He.ba h
  obtain ⟨h3, h⟩ := He.ba h
  obtain ⟨h4, h⟩ := He.ba h
  obtain ⟨h5, h⟩ := He.ba h
  obtain ⟨h6, h7⟩ := He.ba h
  exact ⟨g, oexB_ok h1, xfB_ok h2, He.eqO_ok h3, He.eqO_ok h4, He.eqO_ok h5, of_decide_eq_true h6, of_decide_eq_true h7⟩
/-- what __init__ leaves: the two fields -/
def spInit (K : PySem.W.Frag) (f1 f2 : Str) : Sp := fun vs H Q _ => ∃ (a C : Addr) (x y : V), vs = [.ref a, x, y] ∧
  ((∃ n : Int, x = .int n ∧ -1 ≤ n ∧ n ≤ 1000000) ∨ ∃ z : Str, x = .str z ∧ z.length ≤ 1000) ∧ ((∃ n : Int, y = .int n ∧ -1 ≤ n ∧ n ≤ 1000000) ∨ ∃ z : Str, y = .str z ∧ z.length ≤ 1000) ∧
  OexC K C ∧ PySem.W.findIn K (.ref C) f1 = some none ∧ PySem.W.findIn K (.ref C) f2 = some none ∧ H a = some (exo a C none) ∧
  ∀ d, H d = none → d ≠ a → Q .non (upd (upd (upd H d (exd d [(f1, x)])) a (exo a C (some d))) d (exd d [(f2, y), (f1, x)]))
/-- what stood stands, behind a raised error -/
theorem sm_exc {H1 H2 : Hp} {a d : Addr} {fs : List (Str × V)} (h : ∀ b, b ≠ a → b ≠ d → H2 b = H1 b) (ha : H1 a = none) (hd : H1 d = none) : Sm H1 (upd (del H2 a) d (.xd fs)) := by
  have at_ : ∀ b o, H1 b = some o → upd (del H2 a) d (.xd fs) b = some o := fun b o e => by
    have n1 : b ≠ a := ne_of_none e ha
    have n2 : b ≠ d := ne_of_none e hd
    rw [upd_ne n2, del_ne n1, h b n1 n2]
    exact e
  exact ⟨fun b o e _ => at_ b o e, fun b ps e => ⟨ps, at_ b _ e, fun z => z⟩⟩
/-- a field of an error: a number or a short text -/
def Fld (x : V) : Prop := (∃ n : Int, x = .int n ∧ -1 ≤ n ∧ n ≤ 1000000) ∨ ∃ z : Str, x = .str z ∧ z.length ≤ 1000
/-- how the making of such an error reads: what its raising asks -/
theorem mk_read {K : PySem.W.Frag} {mg : Str → Option Value} {c f1 f2 : Str} {W : Value → Option Addr → Hp → Prop} {H1 : Hp} {x y : V} (R : ErrC K mg c f1 f2) (hx : Fld x) (hy : Fld y)
    (q : ∀ d H', Sm H1 H' → H1 d = none → H' d = some (.xd [(f2, y), (f1, x)]) → W (.ref (He.ga K c)) (some d) H') :
    [x, y].length ≤ 1000 ∧ ∀ a, H1 a = none → spInit K f1 f2 (.ref a :: ([x, y] ++ [])) (upd H1 a (exo a (He.ga K c) none))
      (fun v H2 => v = .non ∧ ∃ (d : Addr) (fs : List (Str × V)), H2 a = some (exo a (He.ga K c) (some d)) ∧ H2 d = some (exd d fs) ∧ H1 d = none ∧ W (.ref (He.ga K c)) (some d) (upd (del H2 a) d (.xd fs))) (fun _ _ _ => False) := by
  refine ⟨by show 2 ≤ 1000; decide, fun a ha => ⟨a, He.ga K c, x, y, rfl, hx, hy, R.ox, R.no1, R.no2, upd_same, fun d hd hda => ?_⟩⟩
  have hd1 : H1 d = none := by
    rw [upd_ne hda] at hd
    exact hd
  refine ⟨rfl, d, [(f2, y), (f1, x)], ?_, upd_same, hd1, q d _ (sm_exc (fun b n1 n2 => ?_) ha hd1) hd1 upd_same⟩
  · rw [upd_ne (Ne.symm hda), upd_same]
  · rw [upd_ne n2, upd_ne n1, upd_ne n2, upd_ne n1]
section
variable {P : Program} {w : World} {K : PySem.W.Frag} {mg : Str → Option Value} {base : Heap} {N : Names}
/-- THE RULE for a method of the list -/
theorem Top.okM {CX : CXT} {d : He.DefD} {c m : Str} {ps L : List Str} {k : Nat} {sp : Sp} (T : Top N K mg base) (i : Nat) (hi : N.fn[i]? = some d) (hat : d.at_ = (c, some m)) (hdf : d.dfl = []) (hkw : d.kwd = []) (S : FnScope L ps d.scope)
    (hb : ∀ (kV doc pm : Value) (an : Option Addr) (cdv ct : Value) (us : List Value), us.length = ps.length → bindArgs (PySem.W.fnOf d.name d.qual d.params d.body d.scope .none kV doc pm an cdv ct) ⟨us, []⟩ = pure (ps.zip us))
    (len : ∀ vs H Q E, sp vs H Q E → vs.length = ps.length)
    (hbody : ∀ (cdv : Value) (A : Around) (outer : List Env) (s : Shared) (H : Hp) (vs : List V) (Q : VK) (E : XK), Room k (A.deeper (envOfC d.qual d.scope s.heap.objs.size (He.ma K (He.ga K c) m) cdv)) → sp vs H Q E →
      ∃ t, PSs (cxOf CX P w K mg base L d.qual d.scope (He.ma K (He.ga K c) m) cdv A outer s H E) d.body t ∧ t { nx := fun _ H' => Q .non H', rt := Q } (start L vs) H) :
    ∃ fd, FnOk P w K mg base CX (k + 1) (He.ma K (He.ga K c) m) fd ps sp ∧ Binds K fd ps [] := by
  obtain ⟨fd, F⟩ := T.d.def_ i hi
  have e1 : d.dvs K = [] := by unfold He.DefD.dvs; rw [hdf]; rfl
  have e2 : d.kws K = [] := by unfold He.DefD.kws; rw [hkw]; rfl
  have e3 : He.fAd K d.at_ = He.ma K (He.ga K c) m := by rw [hat]; rfl
  rw [e1, e2, e3] at F
  refine ⟨fd, ?_, F.bindsN hb⟩
  obtain ⟨oc, od, dV, kV, doc, pm, an, cdv, ct, osl, rfl, lk, hcd, hD, _⟩ := F.ex
  exact fn_of lk hcd S len fun A outer s H vs Q E hr hsp => hbody cdv A outer s H vs Q E hr hsp
end
theorem fmt_len {n : Int} (h0 : -1 ≤ n) (h1 : n ≤ 1000000) : (Str.ofString (toString n)).length ≤ 7 := by
  by_cases h : n = -1
  · subst h
    decide +kernel
  · exact PyProof.Rows.toString_length_le (by omega) (by decide) (by omega)
/-- {x}, x a field of an error -/
theorem fmt_fld {x : V} (hx : Fld x) {S : Str → Prop} (q : ∀ y : Str, y.length ≤ 1000 → S y) :
    (∃ y : Str, x = .str y ∧ y.length ≤ sizeLine ∧ S y) ∨ ∃ i : Int, x = .int i ∧ i.natAbs.log2 < 1920 ∧ S (toString i) := by
  have big : (1000 : Nat) ≤ sizeLine := by decide
  rcases hx with ⟨n, rfl, h0, h1⟩ | ⟨z, rfl, hz⟩
  · refine .inr ⟨n, rfl, ?_, q _ (Nat.le_trans (fmt_len h0 h1) (by decide))⟩
    by_cases h : n.natAbs = 0
    · rw [h]
      decide
    · have h2 : n.natAbs.log2 < 64 := (Nat.log2_lt h).mpr (by omega)
      omega
  · exact .inl ⟨z, rfl, Nat.le_trans hz big, q _ hz⟩
end AS

set_option Elab.async false
set_option linter.all false
set_option maxRecDepth 100000
set_option maxHeartbeats 2000000
namespace AS
open PySem PySem.Spec PyProof.Rows L2
section
variable {P : Program} {w : World} {K : PySem.W.Frag} {mg : Str → Option Value} {base : Heap} {N : Names}
/-- THE RULE for a method whose last parameters have defaults, called without them -/
theorem Top.okMD {CX : CXT} {d : He.DefD} {c m : Str} {ps L : List Str} {k : Nat} {sp : Sp} {dv : List V} (T : Top N K mg base) (i : Nat) (hi : N.fn[i]? = some d) (hat : d.at_ = (c, some m)) (hdv : d.dvs K = dv) (hne : dv ≠ []) (S : FnScope L ps d.scope) (n : Nat) (hn : n + dv.length = ps.length)
    (hb : ∀ (U : Addr) (kV doc pm : Value) (an : Option Addr) (cdv ct : Value) (us its : List Value), us.length = n → its.length = dv.length →
      ∃ k, bindArgs (PySem.W.fnOf d.name d.qual d.params d.body d.scope (.ref U) kV doc pm an cdv ct) ⟨us, []⟩ = seqItems? (.ref U) >>= k ∧ k (some its.toArray) = pure (ps.zip (us ++ its)))
    (len : ∀ vs H Q E, sp vs H Q E → vs.length = ps.length)
    (hbody : ∀ (cdv : Value) (A : Around) (outer : List Env) (s : Shared) (H : Hp) (vs : List V) (Q : VK) (E : XK), Room k (A.deeper (envOfC d.qual d.scope s.heap.objs.size (He.ma K (He.ga K c) m) cdv)) → sp vs H Q E →
      ∃ t, PSs (cxOf CX P w K mg base L d.qual d.scope (He.ma K (He.ga K c) m) cdv A outer s H E) d.body t ∧ t { nx := fun _ H' => Q .non H', rt := Q } (start L vs) H) :
    ∃ fd ds, FnOk P w K mg base CX (k + 1) (He.ma K (He.ga K c) m) fd ps sp ∧ Vals dv ds ∧ Binds K fd ps ds := by
  obtain ⟨fd, F⟩ := T.d.def_ i hi
  have e3 : He.fAd K d.at_ = He.ma K (He.ga K c) m := by rw [hat]; rfl
  rw [hdv, e3] at F
  obtain ⟨ds, r, b⟩ := F.binds1 n 0 hne (by rw [Nat.sub_zero]; exact hn) fun U kV doc pm an cdv ct us its h1 h2 => by
    obtain ⟨k, e1, e2⟩ := hb U kV doc pm an cdv ct us its h1 h2
    exact ⟨k, e1, e2⟩
  exact ⟨fd, ds, F.ok S len hbody, r, b⟩
end
end AS

set_option Elab.async false
set_option linter.all false
set_option maxRecDepth 100000
set_option maxHeartbeats 4000000
namespace A7
open PySem PySem.Spec PyProof.Rows L2 AS
section
variable {P : Program} {w : World} {K : PySem.W.Frag} {mg : Str → Option Value} {base : Heap}
theorem ok_Refused_init (T : Top NN K mg base) (B : VeInit K (He.ga K "AuthError")) : ∃ fd ds, FnOk P w K mg base CX0 1 (He.ma K (He.ga K "Refused") "__init__") fd ["self", "what", "index"] (spInit K "what" "index") ∧ Vals [V.int (-1)] ds ∧ Binds K fd ["self", "what", "index"] ds := by
  have gA := T.g "AuthError" (by decide +kernel)
  refine T.okMD (d := dRefused_init) (dv := [V.int (-1)]) iRefused_init rfl rfl rfl (by simp) scRefused_init 2 rfl (fun U kV doc pm an cdv ct us its h1 h2 => ?_) (fun vs H Q E h => ?_) (fun cdv A outer s H vs Q E hr h => ?_)
  · match us, its, h1, h2 with
    | [_, _], [_], _, _ => exact ⟨_, rfl, rfl⟩
  · obtain ⟨a, C, x, y, rfl, _⟩ := h
    rfl
  · obtain ⟨a, C, x, y, rfl, hx, hy, ox, n1, n2, ha, q⟩ := h
    refine ⟨_, PSs.nox (pss_cons (ps_expr (pe_clsinit rfl gA B (pa_cons (pv 0) (pa_cons (pe_joined (PJ.cons (pe_fmt (pv 1)) (PJ.cons pe_str (PJ.cons (pe_fmt (pv 2)) (PJ.cons pe_str PJ.nil))))) pa_nil))))
      (pss_cons (ps_ost (pv 0) (pv 1)) (pss_one (ps_ost (pv 0) (pv 2))))), ?_⟩
    have big : (10000 : Nat) ≤ sizeLine := by decide
    have ex : ∀ (u v : Str) (m n : Nat), u.length ≤ m → v.length ≤ n → (u ++ v).length ≤ m + n := fun u v m n h1 h2 => by
      rw [Str.length_append]
      omega
    refine ⟨.ref a, rfl, x, rfl, ?_⟩
    dsimp only
    refine fmt_fld hx fun l hl => ?_
    have b2 := ex Str.empty l 0 1000 (by decide +kernel) hl
    have b3 := ex _ (" (" : Str) _ 2 b2 (by decide +kernel)
    refine ⟨l, rfl, Nat.le_trans b2 (by omega), _, rfl, Nat.le_trans b3 (by omega), y, rfl, ?_⟩
    dsimp only
    refine fmt_fld hy fun t ht => ?_
    have b4 := ex _ t _ 1000 b3 ht
    have b5 := ex _ (")" : Str) _ 1 b4 (by decide +kernel)
    refine ⟨t, rfl, Nat.le_trans b4 (by omega), _, rfl, Nat.le_trans b5 (by omega), a, C, _, rfl, by show 1 ≤ 1000; decide, ox, ha, ?_⟩
    refine ⟨x, rfl, .ref a, rfl, a, C, rfl, ox, n1, .inl ⟨ha, fun d hd hda => ?_⟩⟩
    refine ⟨y, rfl, .ref a, rfl, a, C, rfl, ox, n2, .inr ⟨d, [("what", x)], upd_same, by rw [upd_ne hda]; exact upd_same, by show 1 ≤ 900; decide, q d hd hda⟩⟩
end
end A7

set_option Elab.async false
set_option linter.all false
set_option maxRecDepth 100000
set_option maxHeartbeats 4000000
namespace A7
open PySem PySem.Spec PyProof.Rows L2 AS
/-! ### the mathematics of names -/
theorem iteB {b : Bool} {A B : Prop} (h1 : b = true → A) (h2 : b = false → B) : if b = true then A else B := by
  cases b with
  | true => exact iteT (h1 rfl)
  | false => exact iteF (h2 rfl)
theorem toBl {Q : VK} {b b' : Bool} {H : Hp} (e : b = b') (h : Q (.bl b') H) : Q (.bl b) H := by
  rw [e]
  exact h
abbrev tl (x : Str) : List Nat := x.cps.toList
def lettersS : Str := "abcdefghijklmnopqrstuvwxyz"
def digitsS : Str := "0123456789"
def signsS : Str := "abcdefghijklmnopqrstuvwxyz0123456789_"
def isWord (z : Str) : Bool := decide (1 ≤ z.length) && (decide (z.length ≤ 20) && (tl z).all fun c => decide (c ∈ tl signsS))
def headIn (z a : Str) : Bool := match tl z with
  | c :: _ => decide (c ∈ tl a)
  | [] => false
def isIdent (z : Str) : Bool := isWord z && headIn z lettersS
section
variable {P : Program} {w : World} {K : PySem.W.Frag} {mg : Str → Option Value} {base : Heap}
abbrev D (P : Program) (w : World) (K : PySem.W.Frag) (mg : Str → Option Value) (base : Heap) (k : Nat) (x : Str) (ps : List Str) (sp : Sp) : Prop := DOk P w K mg base CX0 k x ps sp
theorem ok_is_word (T : Top NN K mg base) : D P w K mg base 1 "_is_word" ["text"] (sp1 K NN.tf fun z => .bl (isWord z)) := by
  refine T.ok0 (d := d_is_word) i_is_word rfl rfl rfl rfl (by decide +kernel) sc_is_word (fun _ _ _ _ _ _ us hl => match us, hl with | [_], _ => rfl) sp1_len (fun cdv A outer s H vs Q E ec hr h => ?_)
  obtain ⟨z, rfl, hz, hT, q⟩ := h
  obtain ⟨t1, m1⟩ := T.i ("WORD_LIMIT", 20) (by decide +kernel)
  obtain ⟨t2, m2⟩ := T.s ("WORD_SIGNS", signsS) (by decide +kernel)
  have nl := T.f "len" (by decide +kernel)
  have na := T.f "all" (by decide +kernel)
  refine ⟨_, pss_one (ps_ret (pe_and (pe_chain op_le op_le pe_int (pe_callB call_len_str (by rfl) nl PySem.boot_len (pa_cons (pv 0) pa_nil)) (pe_glob (v := .int 20) rfl m1 ⟨_, rfl⟩))
    (pe_one (pe_allM (P := (He.cT K ("_is_word", none)).2) hr rfl na (T.tb ("_is_word", none) (by decide +kernel)) ec
      (gs_mk rfl rfl (by decide +kernel) rfl rfl (by decide +kernel)) (pv 0) (elt_in rfl rfl rfl m2) (fun _ => rfl))))), ?_⟩
  refine ⟨.str z, rfl, z, rfl, hz, 1, z.length, rfl, rfl, decide (1 ≤ (z.length : Int)), rfl, ?_⟩
  have e1 : decide (1 ≤ (z.length : Int)) = decide (1 ≤ z.length) := decide_eq_decide.mpr (by omega)
  have e2 : decide ((z.length : Int) ≤ 20) = decide (z.length ≤ 20) := decide_eq_decide.mpr (by omega)
  have fin : ∀ b, isWord z = b → Q (.bl b) H := fun b e => by
    rw [← e]
    exact q H (Sm.refl H)
  refine iteB (fun h1 => ?_) fun h1 => ?_
  · rw [e1] at h1
    refine ⟨z.length, 20, rfl, rfl, decide ((z.length : Int) ≤ 20), rfl, iteB (fun h2 => ?_) fun h2 => ?_⟩
    · rw [e2] at h2
      refine ⟨.str z, rfl, z, rfl, hT _ (by decide +kernel), fun H2 tb => ?_⟩
      have e3 : isWord z = (tl z).all fun c => decide (c ∈ tl signsS) := by
        unfold isWord
        rw [h1, h2]
        rfl
      rw [show (z.cps.toList.all fun c => decide (c ∈ tl signsS)) = isWord z from e3.symm]
      exact q H2 (Sm.tabbed (hT _ (by decide +kernel)) tb)
    · rw [e2] at h2
      exact fin _ (by unfold isWord; rw [h2, Bool.false_and, Bool.and_false])
  · rw [e1] at h1
    exact ⟨false, rfl, iteF (fin _ (by unfold isWord; rw [h1]; rfl))⟩
theorem ok_is_identifier (T : Top NN K mg base) : D P w K mg base 2 "is_identifier" ["text"] (sp1 K NN.tf fun z => .bl (isIdent z)) := by
  refine T.ok0 (d := dis_identifier) iis_identifier rfl rfl rfl rfl (by decide +kernel) scis_identifier (fun _ _ _ _ _ _ us hl => match us, hl with | [_], _ => rfl) sp1_len (fun cdv A outer s H vs Q E ec hr h => ?_)
  obtain ⟨z, rfl, hz, hT, q⟩ := h
  obtain ⟨t2, m2⟩ := T.s ("LETTERS", lettersS) (by decide +kernel)
  have G := ok_is_word (P := P) (w := w) T
  refine ⟨_, pss_one (ps_ret (pe_and (pe_callD G hr (pa_cons (pv 0) pa_nil)) (pe_one (pe_cmpR op_in_sign (pe_ix ix_str (pv 0) pe_int (fun _ _ => rfl)) (pe_glob (v := .str lettersS) rfl m2 ⟨_, rfl⟩) rfl)))), ?_⟩
  refine ⟨.str z, rfl, z, rfl, hz, hT, fun H1 s1 => ⟨isWord z, rfl, iteB (fun h1 => ?_) fun h1 => ?_⟩⟩
  · have h2 := h1
    unfold isWord at h2
    simp only [Bool.and_eq_true, decide_eq_true_eq] at h2
    obtain ⟨h3, _⟩ := h2
    cases e : tl z with
    | nil =>
      have e2 : z.length = (tl z).length := by simp [Str.length]
      rw [e] at e2
      rw [e2] at h3
      exact absurd h3 (by decide)
    | cons c r =>
      refine ⟨.str z, rfl, z, 0, c, rfl, rfl, hz, atI_nat (j := 0) (by show (tl z)[0]? = _; rw [e]; rfl), c, lettersS, rfl, rfl, ?_⟩
      have e3 : isIdent z = decide (c ∈ tl lettersS) := by
        unfold isIdent headIn
        rw [h1, e]
        rfl
      rw [show decide (c ∈ lettersS.cps.toList) = isIdent z from e3.symm]
      exact q H1 s1
  · have e3 : isIdent z = false := by
      unfold isIdent
      rw [h1]
      rfl
    rw [← e3]
    exact q H1 s1
/-! ### partition -/
abbrev colon : Str := ":"
abbrev hash : Str := "#"
abbrev atS : Str := "@"
theorem part_len (z y : Str) : (Txt.partition z y).1.length ≤ z.length ∧ (Txt.partition z y).2.1.length ≤ z.length ∧ (Txt.partition z y).2.2.length ≤ z.length := fact_partition z y
def isObj (z : Str) : Bool := isIdent (Txt.partition z colon).1 && isWord (Txt.partition z colon).2.2
def isRef (z : Str) : Bool := isObj (Txt.partition z hash).1 && (decide ((Txt.partition z hash).2.1 = Str.empty) || isIdent (Txt.partition z hash).2.2)
/-- a promise: one text, a new pair of texts -/
def spPair (K : PySem.W.Frag) (tf : List He.Defn) (f : Str → Str × Str) : Sp := fun vs H Q _ => ∃ z : Str, vs = [.str z] ∧ z.length ≤ sizeLine ∧ Tabs K tf H ∧ ∀ H' p, Sm H H' → H p = none → H' p = some (.tup [.str (f z).1, .str (f z).2]) → Q (.ref p) H'
theorem spPair_len {K : PySem.W.Frag} {tf : List He.Defn} {f : Str → Str × Str} {x : Str} : ∀ vs H Q E, spPair K tf f vs H Q E → vs.length = [x].length := fun vs H Q E h => by
  obtain ⟨z, rfl, _⟩ := h
  rfl
end
end A7

set_option Elab.async false
set_option linter.all false
set_option maxRecDepth 100000
set_option maxHeartbeats 4000000
namespace A7
open PySem PySem.Spec PyProof.Rows L2 AS
/-! ### revisions and tokens -/
def allDig (z : Str) : Bool := (tl z).all fun c => decide (c ∈ tl digitsS)
def zeroHead (z : Str) : Bool := match tl z with
  | c :: _ => decide (c = 48)
  | [] => false
def zeroS : Str := "0"
def readRev (z : Str) : Option Nat :=
  if (decide (1 ≤ z.length) && decide (z.length ≤ 4) && allDig z) = true then
    if (zeroHead z && !decide (z = zeroS)) = true then none else
      if NumText.digitsVal (tl z) ≤ 1000 then some (NumText.digitsVal (tl z)) else none
  else none
def revV : Option Nat → V
  | some n => .int n
  | none => .non
def splitTok (z : Str) : Option (Str × Nat) := match readRev (Txt.partition z atS).2.2 with
  | none => none
  | some n => if isIdent (Txt.partition z atS).1 = true then some ((Txt.partition z atS).1, n) else none
def tokS (s : Str) (n : Int) : Str := s ++ atS ++ toString n
theorem digits_tl : tl digitsS = [48, 49, 50, 51, 52, 53, 54, 55, 56, 57] := by decide +kernel
theorem allDig_digits {z : Str} (h : allDig z = true) : NumText.AllDigits (tl z) := fun c hc => by
  have h1 := of_decide_eq_true (List.all_eq_true.mp h c hc)
  rw [digits_tl] at h1
  simp only [List.mem_cons, List.not_mem_nil, or_false] at h1
  omega
theorem log2_small {n : Nat} (h : n < 2 ^ 64) : n.log2 < 1920 := by
  by_cases h0 : n = 0
  · subst h0
    decide
  · have h1 : n.log2 < 64 := (Nat.log2_lt h0).mpr h
    omega
theorem toZ {Q : VK} {v v' : V} {H : Hp} (e : v = v') (h : Q v' H) : Q v H := by
  rw [e]
  exact h
theorem len_tl (z : Str) : z.length = (tl z).length := by simp [Str.length]
section
variable {P : Program} {w : World} {K : PySem.W.Frag} {mg : Str → Option Value} {base : Heap}
theorem ok_read_revision (T : Top NN K mg base) : D P w K mg base 1 "read_revision" ["text"] (sp1 K NN.tf fun z => revV (readRev z)) := by
  refine T.ok0 (d := dread_revision) iread_revision rfl rfl rfl rfl (by decide +kernel) scread_revision (fun _ _ _ _ _ _ us hl => match us, hl with | [_], _ => rfl) sp1_len (fun cdv A outer s H vs Q E ec hr h => ?_)
  obtain ⟨z, rfl, hz, hT, q⟩ := h
  obtain ⟨t1, m1⟩ := T.i ("REVISION_DIGITS", 4) (by decide +kernel)
  obtain ⟨t2, m2⟩ := T.s ("DIGITS", digitsS) (by decide +kernel)
  obtain ⟨t3, m3⟩ := T.i ("GREATEST_REVISION", 1000) (by decide +kernel)
  have nl := T.f "len" (by decide +kernel)
  have na := T.f "all" (by decide +kernel)
  have ni := T.f "int" (by decide +kernel)
  have mP : GxR.TabG H (He.cT K ("read_revision", none)).2 := hT _ (by decide +kernel)
  refine ⟨_, pss_cons (ps_if (PW.pt (pw_or (pt_not (pt_chain op_le op_le pe_int (pe_callB call_len_str (by rfl) nl PySem.boot_len (pa_cons (pv 0) pa_nil)) (pe_glob (v := .int 4) rfl m1 ⟨_, rfl⟩)))
      (pw_or1 (pt_not (pt_val (pe_allM (P := (He.cT K ("read_revision", none)).2) hr rfl na (T.tb ("read_revision", none) (by decide +kernel)) ec
        (gs_mk rfl rfl (by decide +kernel) rfl rfl (by decide +kernel)) (pv 0) (elt_in rfl rfl rfl m2) (fun _ => rfl))))))) (pss_one (ps_ret pe_non)) pss_nil)
    (pss_cons (ps_if (PW.pt (pw_and (pt_cmpR op_eq (pe_ix ix_str (pv 0) pe_int (fun _ _ => rfl)) pe_str (nomark _)) (pw_and1 (pt_cmpR op_ne (pv 0) pe_str (nomark _))))) (pss_one (ps_ret pe_non)) pss_nil)
    (pss_cons (ps_set (i := 1) scread_revision.nd rfl (.inl rfl) (pe_callTy call_int_str (by rfl) ni (by decide +kernel) (pa_cons (pv 0) pa_nil)))
    (pss_one (ps_ret (pe_ifExp (pt_cmpR op_le (pv 1) (pe_glob (v := .int 1000) rfl m3 ⟨_, rfl⟩) (nomark _)) (pv 1) pe_non))))), ?_⟩
  refine ⟨.str z, rfl, z, rfl, hz, 1, z.length, rfl, rfl, decide (1 ≤ (z.length : Int)), rfl, ?_⟩
  have e1 : decide (1 ≤ (z.length : Int)) = decide (1 ≤ z.length) := decide_eq_decide.mpr (by omega)
  have e2 : decide ((z.length : Int) ≤ 4) = decide (z.length ≤ 4) := decide_eq_decide.mpr (by omega)
  have bad : (decide (1 ≤ z.length) && decide (z.length ≤ 4) && allDig z) = false → readRev z = none := fun e => by
    unfold readRev
    rw [e]
    exact if_neg Bool.false_ne_true
  refine iteB (fun h1 => ?_) fun h1 => ?_
  · rw [e1] at h1
    refine ⟨z.length, 4, rfl, rfl, decide ((z.length : Int) ≤ 4), rfl, ?_⟩
    show if (!decide ((z.length : Int) ≤ 4)) = true then _ else _
    rw [e2]
    refine iteB (fun h2 => ?_) fun h2 => ?_
    · have h3 : decide (z.length ≤ 4) = false := by
        rw [Bool.not_eq_true'] at h2
        exact h2
      exact iteT (toZ (v' := revV (readRev z)) (by rw [bad (by rw [h3, Bool.and_false, Bool.false_and])]; rfl) (q H (Sm.refl H)))
    · have h3 : decide (z.length ≤ 4) = true := by
        rw [Bool.not_eq_false'] at h2
        exact h2
      refine ⟨.str z, rfl, z, rfl, mP, fun H2 tb => ⟨_, rfl, ?_⟩⟩
      have s1 : Sm H H2 := Sm.tabbed mP tb
      show if (!allDig z) = true then _ else _
      refine iteB (fun h4 => ?_) fun h4 => ?_
      · have h5 : allDig z = false := by
          rw [Bool.not_eq_true'] at h4
          exact h4
        exact toZ (v' := revV (readRev z)) (by rw [bad (by rw [h5, Bool.and_false])]; rfl) (q H2 s1)
      · have h5 : allDig z = true := by
          rw [Bool.not_eq_false'] at h4
          exact h4
        have good : (decide (1 ≤ z.length) && decide (z.length ≤ 4) && allDig z) = true := by
          rw [h1, h3, h5]
          rfl
        have h6 : 1 ≤ z.length := of_decide_eq_true h1
        have h7 : z.length ≤ 4 := of_decide_eq_true h3
        obtain ⟨c, r, ez⟩ : ∃ c r, tl z = c :: r := by
          cases e : tl z with
          | nil =>
            rw [len_tl, e] at h6
            exact absurd h6 (by decide)
          | cons c r => exact ⟨c, r, rfl⟩
        -- if text[0] == '0' and text != '0'
        refine ⟨.str z, rfl, z, 0, c, rfl, rfl, hz, atI_nat (j := 0) (by show (tl z)[0]? = _; rw [ez]; rfl), rfl, _, rfl, ?_⟩
        have ec0 : decide (V.str (⟨#[c]⟩ : Str) = V.str zeroS) = zeroHead z := by
          unfold zeroHead
          rw [ez]
          show decide (V.str (⟨#[c]⟩ : Str) = V.str zeroS) = decide (c = 48)
          refine decide_eq_decide.mpr ⟨fun e => ?_, fun e => by rw [e]; rfl⟩
          have e9 := congrArg (fun y : Str => y.cps.toList) (V.str.inj e)
          have e10 : [c] = [48] := e9
          exact List.head_eq_of_cons_eq e10
        have go : (zeroHead z && !decide (z = zeroS)) = true → readRev z = none := fun e => by
          unfold readRev
          rw [if_pos good, if_pos e]
        have rest : (zeroHead z && !decide (z = zeroS)) = false → readRev z = if NumText.digitsVal (tl z) ≤ 1000 then some (NumText.digitsVal (tl z)) else none := fun e => by
          unfold readRev
          rw [if_pos good, if_neg (by rw [e]; exact Bool.false_ne_true)]
        have tail : readRev z = (if NumText.digitsVal (tl z) ≤ 1000 then some (NumText.digitsVal (tl z)) else none) →
            (tSeq (tAsg (tCB (fun xs H Q => ∃ a n, xs = [.str a] ∧ PySem.intText? a = some n ∧ a.length ≤ 640 ∧ Q (.int n) H) (tCons (tVar 0) tNil)) (gName 1)) (tRet (tIf (tTest (tOp (rI0 fun i j => .bl (decide (i ≤ j))) (tVar 1) (tC (.int 1000)))) (tVar 1) (tC .non)))) { nx := fun _ H' => Q .non H', rt := Q } (start ["text", "revision"] [.str z]) H2 := fun e => by
          have hv := intText_digits (x := z) (allDig_digits h5) (by show tl z ≠ []; rw [ez]; simp) (by omega)
          refine ⟨.str z, rfl, z, _, rfl, hv, by omega, ?_⟩
          refine ⟨_, rfl, _, 1000, rfl, rfl, _, rfl, iteB (fun g => ?_) fun g => ?_⟩
          · have g1 := of_decide_eq_true g
            refine ⟨_, rfl, toZ (v' := revV (readRev z)) ?_ (q H2 s1)⟩
            rw [e, if_pos (by exact Int.ofNat_le.mp g1)]
            rfl
          · have g1 := of_decide_eq_false g
            refine toZ (v' := revV (readRev z)) ?_ (q H2 s1)
            rw [e, if_neg (by intro z2; exact g1 (Int.ofNat_le.mpr z2))]
            rfl
        show if decide (V.str (⟨#[c]⟩ : Str) = V.str zeroS) = true then _ else _
        rw [ec0]
        refine iteB (fun g => ?_) fun g => ?_
        · refine ⟨.str z, rfl, rfl, _, rfl, ?_⟩
          have ez0 : decide (V.str z = V.str zeroS) = decide (z = zeroS) := decide_eq_decide.mpr ⟨V.str.inj, fun e => by rw [e]⟩
          show if (!decide (V.str z = V.str zeroS)) = true then _ else _
          rw [ez0]
          refine iteB (fun g2 => ?_) fun g2 => ?_
          · exact toZ (v' := revV (readRev z)) (by rw [go (by rw [g, g2]; rfl)]; rfl) (q H2 s1)
          · exact tail (rest (by rw [g2, Bool.and_false]))
        · exact iteF (tail (rest (by rw [g, Bool.false_and])))
  · rw [e1] at h1
    exact ⟨false, rfl, iteT (iteT (toZ (v' := revV (readRev z)) (by rw [bad (by rw [h1]; rfl)]; rfl) (q H (Sm.refl H))))⟩
/-- a promise: a text and a number, their token -/
def spTok (K : PySem.W.Frag) (tf : List He.Defn) : Sp := fun vs H Q _ => ∃ (z : Str) (n : Nat), vs = [.str z, .int n] ∧ z.length ≤ 100000 ∧ n ≤ 1000000 ∧ Q (.str (tokS z n)) H
theorem num_len {n : Nat} (h : n ≤ 1000000) : (toString (n : Int) : Str).length ≤ 7 := by
  have z := PyProof.Rows.toString_length_le (v := (n : Int)) (by omega) (show 0 < 7 by decide) (by omega)
  exact z
theorem ok_token_of (T : Top NN K mg base) : D P w K mg base 1 "token_of" ["store", "revision"] (spTok K NN.tf) := by
  refine T.ok0 (d := dtoken_of) itoken_of rfl rfl rfl rfl (by decide +kernel) sctoken_of (fun _ _ _ _ _ _ us hl => match us, hl with | [_, _], _ => rfl) (fun vs H Q E h => ?_) (fun cdv A outer s H vs Q E ec hr h => ?_)
  · obtain ⟨z, n, rfl, _⟩ := h
    rfl
  · obtain ⟨z, n, rfl, hz, hn, q⟩ := h
    refine ⟨_, pss_one (ps_ret (pe_joined (PJ.cons (pe_fmt (pv 0)) (PJ.cons pe_str (PJ.cons (pe_fmt (pv 1)) PJ.nil))))), ?_⟩
    have hl := num_len hn
    have big : (100000 : Nat) + 8 ≤ sizeLine := by decide
    have e0 : (Str.empty ++ z).length = z.length := by rw [Str.length_append]; show 0 + z.length = _; omega
    have e1 : (Str.empty ++ z ++ atS).length = z.length + 1 := by rw [Str.length_append, e0]; rfl
    refine ⟨.str z, rfl, .inl ⟨z, rfl, by omega, z, rfl, by omega, atS, rfl, by omega, .int n, rfl, .inr ⟨n, rfl, log2_small (by omega), toString (n : Int), rfl, ?_, ?_⟩⟩⟩
    · rw [Str.length_append, e1]
      omega
    · have e2 : (Str.empty ++ z : Str) = z := TL.ext_tl (by rw [TL.tl_append]; rfl)
      exact toZ (by rw [e2]; rfl) q
end
end A7

set_option Elab.async false
set_option linter.all false
set_option maxRecDepth 100000
set_option maxHeartbeats 4000000
namespace A7
open PySem PySem.Spec PyProof.Rows L2 AS
section
variable {P : Program} {w : World} {K : PySem.W.Frag} {mg : Str → Option Value} {base : Heap}
/-- a promise: one text, None or a new pair of a text and a number -/
def spTokSplit (K : PySem.W.Frag) (tf : List He.Defn) : Sp := fun vs H Q _ => ∃ z : Str, vs = [.str z] ∧ z.length ≤ sizeLine ∧ Tabs K tf H ∧
  (splitTok z = none → ∀ H', Sm H H' → Q .non H') ∧ ∀ a n, splitTok z = some (a, n) → ∀ H' p, Sm H H' → H p = none → H' p = some (.tup [.str a, .int (n : Nat)]) → Q (.ref p) H'
theorem ok_split_token (T : Top NN K mg base) : D P w K mg base 3 "split_token" ["text"] (spTokSplit K NN.tf) := by
  refine T.ok0 (d := dsplit_token) isplit_token rfl rfl rfl rfl (by decide +kernel) scsplit_token (fun _ _ _ _ _ _ us hl => match us, hl with | [_], _ => rfl) (fun vs H Q E h => ?_) (fun cdv A outer s H vs Q E ec hr h => ?_)
  · obtain ⟨z, rfl, _⟩ := h
    rfl
  · obtain ⟨z, rfl, hz, hT, q1, q2⟩ := h
    have G1 := (ok_read_revision (P := P) (w := w) T).mono (show 1 ≤ 2 by decide)
    have G2 := ok_is_identifier (P := P) (w := w) T
    obtain ⟨l1, l2, l3⟩ := part_len z atS
    refine ⟨_, pss_cons (ps_asg (pe_partition (pv 0) pe_str) (pg_tup (by rfl) (pgs_cons (pg_name (i := 1) scsplit_token.nd rfl (.inl rfl)) (pgs_cons (pg_name (i := 2) scsplit_token.nd rfl (.inl rfl)) (pgs_cons (pg_name (i := 3) scsplit_token.nd rfl (.inl rfl)) pgs_nil)))))
      (pss_cons (ps_set (i := 4) scsplit_token.nd rfl (.inl rfl) (pe_callD G1 hr (pa_cons (pv 3) pa_nil)))
      (pss_cons (ps_if (PW.pt (pw_or (pt_cmpR op_isN (pv 4) pe_non (nomark _)) (pw_or1 (pt_not (pt_val (pe_callD G2 hr (pa_cons (pv 1) pa_nil))))))) (pss_one (ps_ret pe_non)) pss_nil)
      (pss_one (ps_ret (pe_tup (pa_cons (pv 1) (pa_cons (pv 4) pa_nil))))))), ?_⟩
    refine ⟨.str z, rfl, ⟨_, rfl⟩, z, atS, rfl, rfl, by decide +kernel, hz, fun p np => ?_⟩
    refine ⟨p, _, rfl, .inl (.inl upd_same), rfl, _, _, rfl, _, _, rfl, _, _, rfl, rfl, ?_⟩
    have s0 := Sm.new (o := .tup [.str (Txt.partition z atS).1, .str (Txt.partition z atS).2.1, .str (Txt.partition z atS).2.2]) np
    refine ⟨.str (Txt.partition z atS).2.2, rfl, _, rfl, Nat.le_trans l3 hz, s0.tabs hT, fun H1 s1 => ?_⟩
    refine ⟨revV (readRev (Txt.partition z atS).2.2), rfl, rfl, _, rfl, ?_⟩
    have s01 := s0.trans s1
    cases e : readRev (Txt.partition z atS).2.2 with
    | none =>
      refine iteT (iteT (q1 ?_ H1 s01))
      unfold splitTok
      rw [e]
    | some n =>
      refine iteF ⟨.str (Txt.partition z atS).1, rfl, _, rfl, Nat.le_trans l1 hz, s01.tabs hT, fun H2 s2 => ⟨_, rfl, ?_⟩⟩
      have s012 := s01.trans s2
      show if (!isIdent (Txt.partition z atS).1) = true then _ else _
      refine iteB (fun h => ?_) fun h => ?_
      · rw [Bool.not_eq_true'] at h
        refine q1 ?_ H2 s012
        unfold splitTok
        rw [e]
        exact if_neg (by rw [h]; exact Bool.false_ne_true)
      · rw [Bool.not_eq_false'] at h
        have ev : V.int n = revV (readRev (Txt.partition z atS).2.2) := by rw [e]; rfl
        refine ⟨.str (Txt.partition z atS).1, rfl, _, rfl, by show 2 ≤ sizeLine; decide, fun r nr => ?_⟩
        refine q2 _ n ?_ _ r (s012.put (s012.free nr)) (s012.free nr) (by rw [ev]; exact upd_same)
        unfold splitTok
        rw [e]
        exact if_pos h
end
end A7

set_option Elab.async false
set_option linter.all false
set_option maxRecDepth 100000
set_option maxHeartbeats 4000000
namespace AS
open PySem PySem.Spec PyProof.Rows L2
/-! ### masks: all that a set of fewer than 64 items comes to, copies too -/
def MK (m : Nat) : Prop := m ∈ [7, 15, 31, 63, 127]
def roundB (m : Nat) : Bool := (lcgN m (m + 1) == 0) && (List.range (m + 1)).all fun y => (List.range (m + 1)).any fun a => lcgN m a == y
theorem round_all : ([7, 15, 31, 63, 127].all roundB) = true := by decide +kernel
theorem MK.rd {m : Nat} (M : MK m) : roundB m = true := List.all_eq_true.mp round_all m M
theorem MK.zero {m : Nat} (M : MK m) : lcgN m (m + 1) = 0 := by
  have z := M.rd
  unfold roundB at z
  exact beq_iff_eq.mp (He.ba z).1
theorem MK.hits {m y : Nat} (M : MK m) (hy : y ≤ m) : ∃ a, a ≤ m ∧ lcgN m a = y := by
  have z := M.rd
  unfold roundB at z
  have z2 := List.all_eq_true.mp (He.ba z).2 y (List.mem_range.mpr (by omega))
  obtain ⟨a, ha, e⟩ := List.any_eq_true.mp z2
  exact ⟨a, by have := List.mem_range.mp ha; omega, beq_iff_eq.mp e⟩
theorem MK.again {m : Nat} (M : MK m) (a : Nat) : lcgN m (m + 1 + a) = lcgN m a := by
  induction a with
  | zero => exact M.zero
  | succ a ih =>
    have e : lcgN m (m + 1 + a + 1) = (lcgN m (m + 1 + a) * 5 + 1) % (m + 1) := rfl
    have e2 : lcgN m (a + 1) = (lcgN m a * 5 + 1) % (m + 1) := rfl
    rw [show m + 1 + (a + 1) = m + 1 + a + 1 by omega, e, ih, e2]
theorem MK.from {m x y : Nat} (M : MK m) (hx : x ≤ m) (hy : y ≤ m) : ∃ a, a ≤ m ∧ lcgI m x a = y := by
  obtain ⟨u, hu, eu⟩ := M.hits hx
  obtain ⟨v, hv, ev⟩ := M.hits hy
  by_cases c : u ≤ v
  · refine ⟨v - u, by omega, ?_⟩
    rw [← eu, lcgN_add, ← ev]
    congr 1
    omega
  · refine ⟨m + 1 + v - u, by omega, ?_⟩
    rw [← eu, lcgN_add, show u + (m + 1 + v - u) = m + 1 + v by omega, M.again, ev]
theorem MK.runs {m y : Nat} (M : MK m) (z : Int) (hy : y ≤ m) : ∃ a, a ≤ m + 12 ∧ runI m (SetTable.bits z) a = y := by
  obtain ⟨a, ha, e⟩ := M.from (runI_le m (SetTable.bits z) 12) hy
  refine ⟨12 + a, by omega, ?_⟩
  rw [runI_tail (bits_lt z), e]
theorem MK.meets {m y : Nat} (M : MK m) (z : Int) (hy : y ≤ m) : ∃ a, a < 10 * SetTable.turns m ∧ way m z a = y := by
  obtain ⟨a, ha, e⟩ := M.runs z hy
  obtain ⟨b, hb, e2⟩ := run_nth m (SetTable.bits z) a
  refine ⟨b, by unfold SetTable.turns; omega, ?_⟩
  show (nth m (runAt m (SetTable.bits z % (m + 1)) (SetTable.bits z)) b).j = y
  rw [e2]
  exact e
theorem MK.odd {m : Nat} (M : MK m) : m % 2 = 1 := by
  have k : ∀ m ∈ [7, 15, 31, 63, 127], m % 2 = 1 := by decide
  exact k m M
theorem MK.le {m : Nat} (M : MK m) : 7 ≤ m ∧ m ≤ 127 := by
  have k : ∀ m ∈ [7, 15, 31, 63, 127], 7 ≤ m ∧ m ≤ 127 := by decide
  exact k m M
theorem way_bd {m : Nat} (z : Int) (a : Nat) : way m z a ≤ m := by
  have e : SetTable.bits z % (m + 1) ≤ m := by
    have := Nat.mod_lt (SetTable.bits z) (show 0 < m + 1 by omega)
    omega
  have h0 : (runAt m (SetTable.bits z % (m + 1)) (SetTable.bits z)).j + (runAt m (SetTable.bits z % (m + 1)) (SetTable.bits z)).more ≤ m := by
    have := runEnd_bd e
    show SetTable.bits z % (m + 1) + (SetTable.runEnd m (SetTable.bits z % (m + 1)) - SetTable.bits z % (m + 1)) ≤ m
    omega
  have := nth_in a _ h0
  show (nth m (runAt m (SetTable.bits z % (m + 1)) (SetTable.bits z)) a).j ≤ m
  omega
/-! ### slots, also given up ones -/
theorem has_iff {xs : Array Nat} (r : Ris xs.toList) (y : Nat) : SetTable.has xs y = true ↔ y ∈ xs.toList := by
  obtain ⟨c1, c2, c3⟩ := below_cut r y
  unfold SetTable.has
  rw [beq_iff_eq]
  constructor
  · intro e
    rw [← Array.getElem?_toList] at e
    exact List.mem_of_getElem? e
  · intro hm
    obtain ⟨i, hi, e⟩ := List.getElem_of_mem hm
    have e2 : xs.toList[i]? = some y := by rw [List.getElem?_eq_getElem hi, e]
    have hb : SetTable.below xs y = i := by
      rcases Nat.lt_trichotomy i (SetTable.below xs y) with k | k | k
      · have := c2 i y e2 k
        omega
      · exact k.symm
      · have hp : SetTable.below xs y < xs.toList.length := by omega
        have h1 := c3 (SetTable.below xs y) _ (List.getElem?_eq_getElem hp) (Nat.le_refl _)
        have h2 := ris_lt r (List.getElem?_eq_getElem hp) e2 k
        omega
    rw [hb, ← Array.getElem?_toList, e2]
def Occ (t : SetTable) (y : Nat) : Prop := y ∈ t.place.toList ∨ y ∈ t.dummies.toList
theorem slot_free {t : SetTable} (r : Ris t.dummies.toList) {y : Nat} (h : ¬ Occ t y) : t.slot y = .empty := by
  have e1 : (t.place[SetTable.below t.place y]? == some y) = false := by
    rw [beq_eq_false_iff_ne]
    intro e
    rw [← Array.getElem?_toList] at e
    exact h (.inl (List.mem_of_getElem? e))
  have e2 : SetTable.has t.dummies y = false := by
    rw [← Bool.not_eq_true, has_iff r]
    exact fun z => h (.inr z)
  show (if (t.place[SetTable.below t.place y]? == some y) = true then _ else if SetTable.has t.dummies y = true then _ else _) = SetTable.Slot.empty
  rw [e1, e2]
  rfl
theorem slot_gone {t : SetTable} (r : Ris t.dummies.toList) {y : Nat} (h : y ∉ t.place.toList) (hd : y ∈ t.dummies.toList) : t.slot y = .dummy := by
  have e1 : (t.place[SetTable.below t.place y]? == some y) = false := by
    rw [beq_eq_false_iff_ne]
    intro e
    rw [← Array.getElem?_toList] at e
    exact h (List.mem_of_getElem? e)
  have e2 : SetTable.has t.dummies y = true := (has_iff r y).mpr hd
  show (if (t.place[SetTable.below t.place y]? == some y) = true then _ else if SetTable.has t.dummies y = true then _ else _) = SetTable.Slot.dummy
  rw [e1, e2]
  rfl
/-- a probe without its dummy -/
def bare (p : SetTable.Probe) : SetTable.Probe := { p with dummy := none }
theorem adv_bare (m : Nat) (p : SetTable.Probe) : bare (adv m p) = adv m (bare p) := by
  unfold adv bare
  by_cases c : p.more > 0
  · rw [if_pos c, if_pos (show p.more > 0 from c)]
  · rw [if_neg c, if_neg (show ¬ p.more > 0 from c)]
theorem adv_dm (m : Nat) (p : SetTable.Probe) : (adv m p).dummy = p.dummy := by
  unfold adv
  split <;> rfl
theorem go_any (t : SetTable) (rp : Ris t.place.toList) (rd : Ris t.dummies.toList) (at_ : Nat → Int) (z : Int) : ∀ (f N : Nat) (p : SetTable.Probe), N < f → (∀ a, a < N → Occ t (nth t.mask (bare p) a).j) → ¬ Occ t (nth t.mask (bare p) N).j →
    (∃ a i q, a < N ∧ t.place.toList[i]? = some (nth t.mask (bare p) a).j ∧ at_ i = z ∧ (∀ a' i', a' < a → t.place.toList[i']? = some (nth t.mask (bare p) a').j → at_ i' ≠ z) ∧ bare q = nth t.mask (bare p) (a + 1) ∧ (t.dummies = #[] → p.dummy = none → q.dummy = none) ∧
      SetTable.probe.go t at_ z f p = some (.candidate (nth t.mask (bare p) a).j i q)) ∨
    ((∀ a' i', a' < N → t.place.toList[i']? = some (nth t.mask (bare p) a').j → at_ i' ≠ z) ∧ ∃ d, (t.dummies = #[] → p.dummy = none → d = none) ∧ SetTable.probe.go t at_ z f p = some (.empty (nth t.mask (bare p) N).j d)) := by
  intro f
  induction f with
  | zero => intro N p h; omega
  | succ f ih =>
    intro N p hN hocc hfree
    have ej : (bare p).j = p.j := rfl
    by_cases c0 : N = 0
    · subst c0
      right
      refine ⟨fun a' i' h => by omega, p.dummy, fun _ h => h, ?_⟩
      have hs : t.slot p.j = .empty := slot_free rd hfree
      unfold SetTable.probe.go
      rw [hs]
      rfl
    · obtain ⟨N', rfl⟩ : ∃ N', N = N' + 1 := ⟨N - 1, by omega⟩
      have h0 : Occ t p.j := hocc 0 (by omega)
      -- the rest, from a probe with the same bare
      have go_on : ∀ p' : SetTable.Probe, bare p' = adv t.mask (bare p) → (t.dummies = #[] → p.dummy = none → p'.dummy = none) → SetTable.probe.go t at_ z (f + 1) p = SetTable.probe.go t at_ z f p' → (∀ i', t.place.toList[i']? = some p.j → at_ i' ≠ z) →
          (∃ a i q, a < N' + 1 ∧ t.place.toList[i]? = some (nth t.mask (bare p) a).j ∧ at_ i = z ∧ (∀ a' i', a' < a → t.place.toList[i']? = some (nth t.mask (bare p) a').j → at_ i' ≠ z) ∧ bare q = nth t.mask (bare p) (a + 1) ∧ (t.dummies = #[] → p.dummy = none → q.dummy = none) ∧
            SetTable.probe.go t at_ z (f + 1) p = some (.candidate (nth t.mask (bare p) a).j i q)) ∨
          ((∀ a' i', a' < N' + 1 → t.place.toList[i']? = some (nth t.mask (bare p) a').j → at_ i' ≠ z) ∧ ∃ d, (t.dummies = #[] → p.dummy = none → d = none) ∧ SetTable.probe.go t at_ z (f + 1) p = some (.empty (nth t.mask (bare p) (N' + 1)).j d)) := by
        intro p' eb ed eg hno
        have step : ∀ a, nth t.mask (bare p') a = nth t.mask (bare p) (a + 1) := fun a => by
          rw [eb]
          rfl
        have r := ih N' p' (by omega) (fun a ha => by rw [step]; exact hocc (a + 1) (by omega)) (by rw [step]; exact hfree)
        rw [eg]
        rcases r with ⟨a, i, q, r1, r2, r3, r4, r5, r6, r7⟩ | ⟨r1, d, r2, r3⟩
        · left
          rw [step] at r2 r5 r7
          refine ⟨a + 1, i, q, by omega, r2, r3, fun a' i' h' e' => ?_, r5, fun x y => r6 x (ed x y), r7⟩
          cases a' with
          | zero => exact hno i' e'
          | succ a' => exact r4 a' i' (by omega) (by rw [step]; exact e')
        · right
          rw [step] at r3
          refine ⟨fun a' i' h' e' => ?_, d, fun x y => r2 x (ed x y), r3⟩
          cases a' with
          | zero => exact hno i' e'
          | succ a' => exact r1 a' i' (by omega) (by rw [step]; exact e')
      by_cases c1 : p.j ∈ t.place.toList
      · obtain ⟨i, hi, e⟩ := List.getElem_of_mem c1
        have e2 : t.place.toList[i]? = some p.j := by rw [List.getElem?_eq_getElem hi, e]
        have hs := slot_live rp e2
        by_cases hz : at_ i = z
        · left
          refine ⟨0, i, adv t.mask p, by omega, e2, hz, fun a' i' h' => by omega, adv_bare _ _, fun _ h => by rw [adv_dm]; exact h, ?_⟩
          unfold SetTable.probe.go
          rw [hs]
          dsimp only
          rw [if_pos (beq_iff_eq.mpr hz)]
          rfl
        · refine go_on (adv t.mask p) (adv_bare _ _) (fun _ h => by rw [adv_dm]; exact h) ?_ fun i' e' => ?_
          · conv => lhs; unfold SetTable.probe.go
            rw [hs]
            dsimp only
            rw [if_neg (by rw [beq_iff_eq]; exact hz)]
            rfl
          · have s1 := slot_live rp e'
            rw [hs] at s1
            injection s1 with s1
            rw [← s1]
            exact hz
      · have hd : p.j ∈ t.dummies.toList := h0.resolve_left c1
        have hs := slot_gone rd c1 hd
        refine go_on (adv t.mask { p with dummy := some p.j }) (by rw [adv_bare]; rfl) (fun h => by rw [h] at hd; cases hd) ?_ fun i' e' => absurd (List.mem_of_getElem? e') c1
        conv => lhs; unfold SetTable.probe.go
        rw [hs]
        rfl
end AS

set_option Elab.async false
set_option linter.all false
set_option maxRecDepth 100000
set_option maxHeartbeats 4000000
namespace AS
open PySem PySem.Spec PyProof.Rows L2
/-! ### tables in which what stands is found, given up slots too -/
structure Tb (t : SetTable) (hs : List Int) : Prop where
  rp : Ris t.place.toList
  rd : Ris t.dummies.toList
  sz : t.place.size = hs.length
  km : MK t.mask
  bp : ∀ x ∈ t.place.toList, x ≤ t.mask
  fl : t.place.size + t.dummies.size ≤ t.mask
  dj : ∀ x ∈ t.place.toList, x ∉ t.dummies.toList
  re : ∀ (i : Nat) (z : Int) (y : Nat), hs[i]? = some z → t.place.toList[i]? = some y → ∃ a, way t.mask z a = y ∧ ∀ a', a' < a → Occ t (way t.mask z a')
theorem Tb.of {t : SetTable} {hs : List Int} (T : TabOk t hs) (hl : hs.length ≤ t.mask) : Tb t hs where
  rp := T.ris
  rd := by
    rw [T.dm]
    exact List.Pairwise.nil
  sz := T.sz
  km := by
    rcases T.mok with e | e | e <;> rw [e] <;> (unfold MK; decide)
  bp := T.bd
  fl := by
    rw [T.dm, T.sz]
    exact hl
  dj := fun x _ => by
    rw [T.dm]
    exact List.not_mem_nil
  re := fun i z y h1 h2 => by
    obtain ⟨a, e, b⟩ := T.reach i z y h1 h2
    exact ⟨a, e, fun a' ha => .inl (b a' ha)⟩
theorem Tb.first {t : SetTable} {hs : List Int} (T : Tb t hs) (z : Int) : ∃ N, N < 10 * SetTable.turns t.mask ∧ ¬ Occ t (way t.mask z N) ∧ ∀ a, a < N → Occ t (way t.mask z a) := by
  have hl : (t.place.toList ++ t.dummies.toList).length < t.mask + 1 := by
    have := T.fl
    rw [List.length_append, Array.length_toList, Array.length_toList]
    omega
  obtain ⟨y, hy, hn⟩ := st_missing _ _ hl
  obtain ⟨a, ha, e⟩ := T.km.meets z (show y ≤ t.mask by omega)
  obtain ⟨N, h1, h2, h3⟩ := st_least (p := fun a => ¬ Occ t (way t.mask z a)) a (fun o => by
    rw [show way t.mask z a = y from e] at o
    exact hn (List.mem_append.mpr o))
  exact ⟨N, by omega, h2, fun a' h' => Classical.byContradiction (h3 a' h')⟩
theorem Tb.near {t : SetTable} {hs : List Int} (T : Tb t hs) {z : Int} {N i y : Nat} (hN : ¬ Occ t (way t.mask z N)) (hi : hs[i]? = some z) (hy : t.place.toList[i]? = some y) : ∃ a, a < N ∧ way t.mask z a = y := by
  obtain ⟨a, e, b⟩ := T.re i z y hi hy
  refine ⟨a, ?_, e⟩
  by_cases c : N ≤ a
  · exfalso
    by_cases c2 : N = a
    · exact hN (.inl (by rw [c2, e]; exact List.mem_of_getElem? hy))
    · exact hN (b N (by omega))
  · omega
/-! ### an entry goes -/
theorem erase_list {α : Type} (xs : Array α) (i : Nat) : (SetTable.eraseAt xs i).toList = xs.toList.eraseIdx i := by
  unfold SetTable.eraseAt
  rw [Array.toList_append, Array.toList_extract, Array.toList_extract, List.eraseIdx_eq_take_drop_succ]
  simp only [List.extract_eq_drop_take, Nat.sub_zero, List.drop_zero]
  rw [List.take_of_length_le (l := List.drop (i + 1) xs.toList) (by rw [List.length_drop, Array.length_toList]; exact Nat.le_refl _)]
theorem ris_sub {l m : List Nat} (h : l.Sublist m) (r : Ris m) : Ris l := List.Pairwise.sublist h r
theorem Tb.drop {t : SetTable} {hs : List Int} (T : Tb t hs) {i : Nat} (hi : i < hs.length) :
    Tb (t.drop i) (hs.eraseIdx i) ∧ (t.drop i).led = t.led ∧ (t.drop i).mask = t.mask ∧ (t.drop i).dummies.size = t.dummies.size + 1 := by
  have hi2 : i < t.place.toList.length := by
    rw [Array.length_toList, T.sz]
    exact hi
  obtain ⟨y, ey⟩ : ∃ y, t.place.toList[i]? = some y := ⟨_, List.getElem?_eq_getElem hi2⟩
  have ey2 : t.place[i]? = some y := by
    rw [← Array.getElem?_toList]
    exact ey
  have ed : t.drop i = { t with place := SetTable.eraseAt t.place i, dummies := SetTable.insertAt t.dummies (SetTable.below t.dummies y) y } := by
    unfold SetTable.drop
    rw [ey2]
  have hyd : y ∉ t.dummies.toList := T.dj y (List.mem_of_getElem? ey)
  have hyn : t.dummies[SetTable.below t.dummies y]? ≠ some y := fun e => by
    rw [← Array.getElem?_toList] at e
    exact hyd (List.mem_of_getElem? e)
  have pl : (SetTable.eraseAt t.place i).toList = t.place.toList.eraseIdx i := erase_list _ _
  have dl : (SetTable.insertAt t.dummies (SetTable.below t.dummies y) y).toList = t.dummies.toList.take (SetTable.below t.dummies y) ++ y :: t.dummies.toList.drop (SetTable.below t.dummies y) := SetTable.toList_insertAt _ _ _
  have mem_d : ∀ x, x ∈ (SetTable.insertAt t.dummies (SetTable.below t.dummies y) y).toList ↔ x = y ∨ x ∈ t.dummies.toList := fun x => by
    rw [dl]
    exact mem_ins
  have nd : t.place.toList.Nodup := List.Pairwise.imp (fun h => Nat.ne_of_lt h) T.rp
  have mem_p : ∀ x, x ∈ (SetTable.eraseAt t.place i).toList ↔ x ∈ t.place.toList ∧ x ≠ y := fun x => by
    rw [pl, List.mem_eraseIdx_iff_getElem?]
    constructor
    · intro z
      obtain ⟨j, hj, e⟩ := z
      refine ⟨List.mem_of_getElem? e, fun q => ?_⟩
      rw [q] at e
      have hj2 : j < t.place.toList.length := (List.getElem?_eq_some_iff.mp e).1
      exact hj (((List.getElem?_inj hj2 nd).mp (e.trans ey.symm)))
    · intro z
      obtain ⟨hm, hne⟩ := z
      obtain ⟨j, hj, e⟩ := List.getElem_of_mem hm
      refine ⟨j, fun q => ?_, by rw [List.getElem?_eq_getElem hj, e]⟩
      subst q
      rw [List.getElem?_eq_getElem hj, e] at ey
      exact hne (Option.some.inj ey)
  have occ : ∀ x, Occ t x → Occ (t.drop i) x := fun x o => by
    rw [ed]
    by_cases c : x = y
    · exact .inr ((mem_d x).mpr (.inl c))
    · rcases o with o | o
      · exact .inl ((mem_p x).mpr ⟨o, c⟩)
      · exact .inr ((mem_d x).mpr (.inr o))
  have szp : (SetTable.eraseAt t.place i).size = t.place.size - 1 := by
    rw [← Array.length_toList, pl, List.length_eraseIdx, if_pos hi2, Array.length_toList]
  have cutl : SetTable.below t.dummies y ≤ t.dummies.toList.length := by
    obtain ⟨c1, _, _⟩ := below_cut T.rd y
    rw [Array.length_toList]
    exact c1
  have szd : (SetTable.insertAt t.dummies (SetTable.below t.dummies y) y).size = t.dummies.size + 1 := by
    rw [← Array.length_toList, dl, len_ins _ cutl, Array.length_toList]
  have pos : 0 < t.place.size := by
    rw [← Array.length_toList]
    omega
  refine ⟨⟨?_, ?_, ?_, ?_, ?_, ?_, ?_, ?_⟩, by rw [ed], by rw [ed], by rw [ed]; exact szd⟩
  · rw [ed]
    show Ris (SetTable.eraseAt t.place i).toList
    rw [pl]
    exact ris_sub (List.eraseIdx_sublist _ _) T.rp
  · rw [ed]
    exact ris_insert T.rd hyn
  · rw [ed]
    show (SetTable.eraseAt t.place i).size = _
    rw [szp, List.length_eraseIdx, if_pos hi, T.sz]
  · rw [ed]
    exact T.km
  · rw [ed]
    exact fun x hx => T.bp x ((mem_p x).mp hx).1
  · rw [ed]
    show (SetTable.eraseAt t.place i).size + (SetTable.insertAt t.dummies (SetTable.below t.dummies y) y).size ≤ t.mask
    have := T.fl
    omega
  · rw [ed]
    intro x hx hd
    obtain ⟨h1, h2⟩ := (mem_p x).mp hx
    rcases (mem_d x).mp hd with e | e
    · exact h2 e
    · exact T.dj x h1 e
  · intro k z x h1 h2
    have em : (t.drop i).mask = t.mask := by rw [ed]
    have h2' : (t.place.toList.eraseIdx i)[k]? = some x := by
      rw [← pl]
      rw [ed] at h2
      exact h2
    rw [em]
    rw [List.getElem?_eraseIdx] at h1 h2'
    by_cases c : k < i
    · rw [if_pos c] at h1 h2'
      obtain ⟨a, e, b⟩ := T.re k z x h1 h2'
      exact ⟨a, e, fun a' h' => occ _ (b a' h')⟩
    · rw [if_neg c] at h1 h2'
      obtain ⟨a, e, b⟩ := T.re (k + 1) z x h1 h2'
      exact ⟨a, e, fun a' h' => occ _ (b a' h')⟩
/-! ### laid anew, for all these masks -/
theorem freeM {m : Nat} (M : MK m) (owner : Array (Option Nat)) (z : Int) {y : Nat} (hy : y ≤ m) (hf : oAt owner y = none) :
    ∃ N, SetTable.layClean.free m owner (SetTable.turns m) (SetTable.bits z % (m + 1)) (SetTable.bits z) = some (way m z N) ∧ oAt owner (way m z N) = none ∧ ∀ a, a < N → oAt owner (way m z a) ≠ none := by
  obtain ⟨r, hr, e⟩ := M.runs z hy
  have e1 : way m z (off m (SetTable.bits z % (m + 1)) (SetTable.bits z) r) = y := by
    show (nth m (runAt m (SetTable.bits z % (m + 1)) (SetTable.bits z)) (off m (SetTable.bits z % (m + 1)) (SetTable.bits z) r)).j = y
    rw [nth_off, itL_run, e]
    rfl
  obtain ⟨N, h1, h2, h3⟩ := st_least (p := fun a => oAt owner (way m z a) = none) (off m (SetTable.bits z % (m + 1)) (SetTable.bits z) r) (by
    show oAt owner (way m z _) = none
    rw [show way m z (off m (SetTable.bits z % (m + 1)) (SetTable.bits z) r) = y from e1, hf])
  refine ⟨N, free_spec m owner _ r _ _ N (by unfold SetTable.turns; omega) h1 (fun a ha => ?_) ?_, h2, h3⟩
  · cases q : oAt owner (nth m (runAt m (SetTable.bits z % (m + 1)) (SetTable.bits z)) a).j with
    | some v => rfl
    | none => exact absurd q (h3 a ha)
  · have q : oAt owner (nth m (runAt m (SetTable.bits z % (m + 1)) (SetTable.bits z)) N).j = none := h2
    rw [q]
    rfl
theorem ownM {m : Nat} (M : MK m) {done : List Int} {owner : Array (Option Nat)} (W : Own m done owner) (hl : done.length ≤ m) (z : Int) :
    ∃ y, SetTable.layClean.free m owner (SetTable.turns m) (SetTable.bits z % (m + 1)) (SetTable.bits z) = some y ∧ Own m (done ++ [z]) (owner.setIfInBounds y (some done.length)) := by
  obtain ⟨ps, lp, hin⟩ := W.ps
  obtain ⟨y0, hy0, hn⟩ := st_missing ps (m + 1) (by omega)
  have free0 : oAt owner y0 = none := by
    rcases q : oAt owner y0 with _ | v
    · rfl
    · exact absurd (hin y0 (by omega) (by rw [q]; exact fun e => nomatch e)) hn
  obtain ⟨N, f1, f2, f3⟩ := freeM M owner z (show y0 ≤ m by omega) free0
  have bd := way_bd (m := m) z N
  have hsz : way m z N < owner.size := by
    rw [W.sz]
    omega
  have self := oAt_set_self (some done.length) hsz
  have keep : ∀ x, oAt owner x ≠ none → oAt (owner.setIfInBounds (way m z N) (some done.length)) x ≠ none := fun x hx => by
    by_cases c : x = way m z N
    · rw [c, self]
      exact fun e => nomatch e
    · rw [oAt_set_ne _ c]
      exact hx
  refine ⟨_, f1, ?_, ?_, ?_, way m z N :: ps, ?_, ?_⟩
  · rw [Array.size_setIfInBounds, W.sz]
  · intro x k hx e
    by_cases c : x = way m z N
    · rw [c, self] at e
      obtain rfl := Option.some.inj e
      exact ⟨z, N, by rw [List.getElem?_append_right (Nat.le_refl _), Nat.sub_self]; rfl, c.symm, fun a ha => keep _ (f3 a ha)⟩
    · rw [oAt_set_ne _ c] at e
      obtain ⟨z', N', g1, g2, g3⟩ := W.at_ x k hx e
      exact ⟨z', N', by rw [List.getElem?_append_left (List.getElem?_eq_some_iff.mp g1).1]; exact g1, g2, fun a ha => keep _ (g3 a ha)⟩
  · intro k hk
    rw [List.length_append] at hk
    by_cases c : k = done.length
    · exact ⟨way m z N, bd, by rw [c]; exact self⟩
    · obtain ⟨x, hx, e⟩ := W.all k (by simp at hk; omega)
      have ne : x ≠ way m z N := fun q => by
        rw [q, f2] at e
        cases e
      exact ⟨x, hx, by rw [oAt_set_ne _ ne]; exact e⟩
  · rw [List.length_append, List.length_cons, lp]
    rfl
  · intro x hx e
    by_cases c : x = way m z N
    · rw [c]
      exact .head _
    · rw [oAt_set_ne _ c] at e
      exact .tail _ (hin x hx e)
theorem foldM {m : Nat} (M : MK m) : ∀ (rest done : List Int) (owner : Array (Option Nat)), Own m done owner → done.length + rest.length ≤ m →
    ∃ o2, rest.foldl (stepF m) (some (owner, done.length)) = some (o2, done.length + rest.length) ∧ Own m (done ++ rest) o2 := by
  intro rest
  induction rest with
  | nil => exact fun done owner W _ => ⟨owner, rfl, by rw [List.append_nil]; exact W⟩
  | cons z rest ih =>
    intro done owner W hl
    rw [List.length_cons] at hl
    obtain ⟨y, e, W2⟩ := ownM M W (by omega) z
    have l2 : (done ++ [z]).length = done.length + 1 := by simp
    obtain ⟨o2, e2, W3⟩ := ih (done ++ [z]) _ W2 (by rw [l2]; omega)
    refine ⟨o2, ?_, ?_⟩
    · rw [List.foldl_cons, stepF_some e, ← l2, e2, l2, List.length_cons]
      congr 2
      omega
    · rw [List.append_assoc] at W3
      exact W3
theorem layM {m : Nat} (M : MK m) {hs : Array Int} (hn : hs.size ≤ m) : ∃ owner, SetTable.layClean m hs = some owner ∧ Own m hs.toList owner := by
  obtain ⟨owner, e, W⟩ := foldM M hs.toList [] _ (Own.init m) (by rw [Array.length_toList]; show 0 + hs.size ≤ m; omega)
  refine ⟨owner, ?_, W⟩
  rw [layClean_eq]
  have e2 : hs.toList.foldl (stepF m) (some (Array.replicate (m + 1) none, 0)) = some (owner, ([] : List Int).length + hs.toList.length) := e
  rw [e2]
  rfl
theorem laidM {m : Nat} (M : MK m) (finger moves : Nat) (led plain : Bool) {hs : Array Int} (hn : hs.size ≤ m) :
    ∃ t order, SetTable.laid m finger moves led plain hs = some (t, order) ∧ order.toList.Perm (List.range hs.size) ∧ Tb t (order.toList.map fun i => hs.getD i 0) ∧ t.mask = m ∧ t.led = led ∧ t.plain = plain ∧ t.dummies = #[] ∧ t.finger = finger ∧ t.moves = moves := by
  obtain ⟨owner, e, W⟩ := layM M hn
  have rl := ris_live (fun y => owner.getD y none) (List.range (m + 1)) (by
    unfold Ris
    first | exact List.pairwise_lt_range | exact List.pairwise_lt_range _)
  have r1 : Ris ((liveOf m owner).map (·.1)) := rl.1
  have r2 : ∀ x ∈ (liveOf m owner).map (·.1), x ≤ m := fun x hx => by
    have := List.mem_range.mp (rl.2 x hx)
    omega
  have ln : (liveOf m owner).length = hs.size := by
    obtain ⟨ps, p1, p2⟩ := W.ps
    have nd1 : ((liveOf m owner).map (·.1)).Nodup := List.Pairwise.imp (fun h => Nat.ne_of_lt h) r1
    have u1 := nat_nodup_len ((liveOf m owner).map (·.1)) ps nd1 fun x hx => by
      obtain ⟨⟨x', k⟩, hq, rfl⟩ := List.mem_map.mp hx
      obtain ⟨b1, b2⟩ := (mem_live W.sz).1 hq
      exact p2 x' b1 (by rw [b2]; exact fun q => nomatch q)
    have u2 := nat_nodup_len (List.range hs.size) ((liveOf m owner).map (·.2)) List.nodup_range fun k hk => by
      obtain ⟨x, b1, b2⟩ := W.all k (by rw [Array.length_toList]; exact List.mem_range.mp hk)
      exact List.mem_map.mpr ⟨(x, k), (mem_live W.sz).2 ⟨b1, b2⟩, rfl⟩
    have hz0 : hs.toList.length = hs.size := rfl
    rw [List.length_map, p1] at u1
    rw [List.length_map, List.length_range] at u2
    omega
  have pm : ((liveOf m owner).map (·.2)).Perm (List.range hs.size) := perm_range hs.size _ (by rw [List.length_map, ln]) fun k hk => by
    obtain ⟨x, b1, b2⟩ := W.all k (by rw [Array.length_toList]; exact hk)
    exact List.mem_map.mpr ⟨(x, k), (mem_live W.sz).2 ⟨b1, b2⟩, rfl⟩
  refine ⟨{ mask := m, place := ((liveOf m owner).map (·.1)).toArray, dummies := #[], finger, led, moves, plain }, ((liveOf m owner).map (·.2)).toArray, ?_, pm, ⟨r1, List.Pairwise.nil, ?_, M, r2, ?_, fun x _ => List.not_mem_nil, ?_⟩, rfl, rfl, rfl, rfl, rfl, rfl⟩
  · show (SetTable.layClean m hs).bind _ = _
    rw [e]
    rfl
  · show ((liveOf m owner).map (·.1)).toArray.size = (((liveOf m owner).map (·.2)).map fun i => hs.getD i 0).length
    simp
  · show ((liveOf m owner).map (·.1)).toArray.size + 0 ≤ m
    have : ((liveOf m owner).map (·.1)).toArray.size = hs.size := by
      rw [List.size_toArray, List.length_map, ln]
    omega
  · intro i z y h1 h2
    have h1' : (((liveOf m owner).map (·.2)).map fun i => hs.getD i 0)[i]? = some z := h1
    have h2' : ((liveOf m owner).map (·.1))[i]? = some y := h2
    rw [List.getElem?_map] at h2'
    obtain ⟨⟨y', k⟩, hq, rfl⟩ := Option.map_eq_some_iff.mp h2'
    rw [List.getElem?_map, List.getElem?_map, hq] at h1'
    have ez : hs.getD k 0 = z := Option.some.inj h1'
    obtain ⟨b1, b2⟩ := (mem_live W.sz).1 (List.mem_of_getElem? hq)
    obtain ⟨z0, N, a1, a2, a3⟩ := W.at_ y' k b1 b2
    have e0 : z0 = z := by
      rw [← ez, Array.getD_eq_getD_getElem?, ← Array.getElem?_toList, a1]
      rfl
    rw [← e0]
    refine ⟨N, a2, fun a ha => .inl ?_⟩
    show way m z0 a ∈ (liveOf m owner).map (·.1)
    rcases q : oAt owner (way m z0 a) with _ | v
    · exact absurd q (a3 a ha)
    · exact List.mem_map.mpr ⟨(way m z0 a, v), (mem_live W.sz).2 ⟨way_bd _ _, q⟩, rfl⟩
end AS

set_option Elab.async false
set_option linter.all false
set_option maxRecDepth 100000
set_option maxHeartbeats 4000000
namespace AS
open PySem PySem.Spec PyProof.Rows L2
/-! ### sets whose items are tuples of texts -/
abbrev nh (P : Program) (w : World) (k : List Str) : Int := tupleKeyHash (strKind P w) k
abbrev IsN (P : Program) (w : World) (h : Heap) (k : List Str) (b : Addr) : Prop := IsTupleKey (strKind P w) h k b
section
variable {P : Program} {w : World} {A : Around} {E : Value → Shared → Prop} {s : Shared}
theorem all_strs {k : List Str} {vs : List Value} (h : ItemsAre (strKind P w) k vs) (v : Value) (hv : v ∈ vs) : ∃ y u, v = .str y u := by
  induction h with
  | nil => cases hv
  | @cons y0 v0 ks vs0 h1 _ ih =>
    rcases List.mem_cons.mp hv with rfl | hv
    · obtain ⟨u, e⟩ := Value.isStrOf_shape h1
      exact ⟨_, u, e⟩
    · exact ih hv
theorem stm_str (n : Nat) (y : Str) (u : Tok) : ofAClassStatement n (.str y u) = pure false := by
  cases n <;> rfl
theorem stm_n {k : List Str} {b : Addr} {Q : Bool → Shared → Prop} (hk : IsN P w s.heap k b) (q : Q false s) : wpAny (model P w) A (ofAClassStatement 8 (.ref b)) Q E s := by
  have ty := hk.typeIs
  obtain ⟨o, its, n, ho, hc, hd, hi⟩ := hk
  unfold ofAClassStatement
  refine wpAny_bind (wpAny_typeOf ty ?_)
  dsimp only
  have e : (("tuple" : String) == "tuple") = true := by decide
  simp only [e, if_true, Bool.not_true, Bool.false_eq_true, if_false]
  try refine wpAny_bind (wpAny_pure ?_)
  try simp only [Bool.not_true, Bool.false_eq_true, if_false]
  show wpAny _ _ (seqItems? (.ref b) >>= _) _ _ s
  refine wpAny_bind (wpAny_seqItems ho hd (wpAny_bind ?_))
  show wpAny _ _ (forIn its _ _) _ _ s
  rw [← Array.forIn_toList]
  refine wpAny_forIn_list _ (fun left r s' => s' = s ∧ r.1 = none ∧ ∀ v ∈ left, ∃ y u, v = Value.str y u) _ ?turn ?fin _ _ ⟨rfl, rfl, all_strs hi⟩
  case turn =>
    rintro v left r s' ⟨rfl, hr, al⟩
    obtain ⟨y, u, rfl⟩ := al v List.mem_cons_self
    rw [stm_str]
    refine wpAny_bind (wpAny_pure ?_)
    simp only [Bool.false_eq_true, if_false]
    exact wpAny_pure ⟨rfl, rfl, fun v' h' => al v' (.tail _ h')⟩
  case fin =>
    rintro ⟨x, z⟩ s' ⟨rfl, hr, _⟩
    simp only at hr
    subst hr
    exact wpAny_pure q
theorem seen_n {k : List Str} {b : Addr} {Q : Bool → Shared → Prop} (hk : IsN P w s.heap k b) {ys : List Value} (hy : ∀ y ∈ ys, ∃ k' c, y = Value.ref c ∧ IsN P w s.heap k' c) (q : Q false s) :
    wpAny (model P w) A (searchCouldBeSeen (.ref b) ys) Q E s := by
  unfold searchCouldBeSeen
  refine wpAny_bind (wpAny_forIn_list _ (fun left r s' => s' = s ∧ r.1 = none ∧ ∀ y ∈ left, ∃ k' c, y = Value.ref c ∧ IsN P w s.heap k' c) _ ?turn ?fin _ _ ⟨rfl, rfl, hy⟩)
  case turn =>
    rintro v left r s' ⟨rfl, hr, al⟩
    obtain ⟨k', c, rfl, hc⟩ := al v List.mem_cons_self
    have al2 : ∀ y ∈ left, ∃ k' c, y = Value.ref c ∧ IsN P w s'.heap k' c := fun y h' => al y (.tail _ h')
    dsimp only
    by_cases hv : (b == c || (carriedByValue (.ref b) && carriedByValue (.ref c))) = true
    · exact wp_if_pos hv (wpAny_pure ⟨rfl, rfl, al2⟩)
    · refine wp_if_neg hv (wpAny_bind (wpAny_eqIsQuiet_tuple hk ?_))
      simp only [Bool.not_true, Bool.false_eq_true, if_false]
      refine wpAny_bind (wpAny_eqIsQuiet_tuple hc ?_)
      simp only [Bool.not_true, Bool.false_eq_true, if_false]
      refine wpAny_bind (stm_n hk ?_)
      simp only [Bool.false_eq_true, if_false]
      refine wpAny_bind (stm_n hc ?_)
      simp only [Bool.false_eq_true, if_false]
      exact wpAny_pure ⟨rfl, rfl, al2⟩
  case fin =>
    rintro ⟨x, z⟩ s' ⟨rfl, hr, _⟩
    simp only at hr
    subst hr
    exact wpAny_pure q
/-- the items of a set, in the order of its table -/
structure SetN (P : Program) (w : World) (h : Heap) (a : Addr) (L : List (Addr × List Str)) (es : Array (Int × Value)) (ep : Nat) (t : SetTable) : Prop where
  ob : ∃ o, h.get? a = some o ∧ o.ExactSet ∧ o.data = .set es ep t
  rows : es.toList = L.map fun p => (nh P w p.2, Value.ref p.1)
  tab : Tb t (L.map fun p => nh P w p.2)
  nd : (L.map (·.2)).Nodup
  tup : ∀ p ∈ L, IsN P w h p.2 p.1
  led : w.params.followText "set-order" = true ∨ t.led = true
  few : L.length < 64
variable {a : Addr} {L : List (Addr × List Str)} {es : Array (Int × Value)} {ep : Nat} {t : SetTable}
theorem SetN.size (S : SetN P w s.heap a L es ep t) : es.size = L.length := by
  have e := congrArg List.length S.rows
  rw [List.length_map] at e
  exact e
theorem SetN.fits (S : SetN P w s.heap a L es ep t) : t.fits es.size = true := by
  have e1 := S.tab.sz
  have e2 := S.tab.fl
  have e3 := S.size
  rw [List.length_map] at e1
  show (t.place.size == es.size && decide (t.place.size + t.dummies.size ≤ t.mask)) = true
  rw [Bool.and_eq_true, beq_iff_eq, decide_eq_true_eq]
  exact ⟨by omega, e2⟩
theorem SetN.at_ (S : SetN P w s.heap a L es ep t) {i : Nat} {p : Addr × List Str} (h : L[i]? = some p) : es[i]? = some (nh P w p.2, Value.ref p.1) := by
  rw [← Array.getElem?_toList, S.rows, List.getElem?_map, h]
  rfl
theorem SetN.gave (S : SetN P w s.heap a L es ep t) : ¬ t.gaveWay = true := by
  show ¬ (t.mask % 2 == 0) = true
  rw [S.tab.km.odd]
  decide
/-- THE SEARCH, from the c-th step of the way on -/
theorem seek (S : SetN P w s.heap a L es ep t) {x : Addr} {k : List Str} (hx : IsN P w s.heap k x) (hu : A.units < cLine) {adding : Bool} (hadd : adding = true → t.dummies = #[]) {N : Nat} (hNf : N < 10 * SetTable.turns t.mask)
    (hN : ¬ Occ t (way t.mask (nh P w k) N)) (hb : ∀ c, c < N → Occ t (way t.mask (nh P w k) c)) {Q : SetFound → Shared → Prop}
    (hin : ∀ (i : Nat) p, L[i]? = some p → p.2 = k → Q (.there (if adding = true then none else some i)) s)
    (hout : k ∉ L.map (·.2) → ∀ (y : Nat) (d : Bool), (t.dummies = #[] → d = false ∧ y = way t.mask (nh P w k) N) → Q (.free y d) s) :
    ∀ (f c : Nat) (st : Option SetTable.Probe), bare (st.getD (t.probeStart (nh P w k))) = nth t.mask (runAt t.mask (SetTable.bits (nh P w k) % (t.mask + 1)) (SetTable.bits (nh P w k))) c → (t.dummies = #[] → (st.getD (t.probeStart (nh P w k))).dummy = none) → c ≤ N → N - c < f →
      (∀ (i : Nat) p, L[i]? = some p → p.2 = k → ∃ c', c ≤ c' ∧ c' < N ∧ t.place.toList[i]? = some (way t.mask (nh P w k) c')) →
      wpAny (model P w) A (setSearchFrom a (.ref x) (nh P w k) adding f st) Q E s := by
  intro f
  induction f with
  | zero => intro c st _ _ _ h; omega
  | succ f ih =>
    intro c st hst hdm hc hf hre
    obtain ⟨o, ho, hex, hd⟩ := S.ob
    rw [setSearchFrom_succ]
    refine wpAny_bind (wpAny_setState_of ho hd S.fits ?_)
    dsimp only
    refine wp_if_neg S.gave ?_
    try refine wpAny_bind (wpAny_pure ?_)
    generalize hst0 : st.getD (t.probeStart (nh P w k)) = p0 at hst hdm ⊢
    have wy : ∀ q, (nth t.mask (bare p0) q).j = way t.mask (nh P w k) (c + q) := fun q => by
      rw [hst, ← nth_add]
    have spec := go_any t S.tab.rp S.tab.rd (fun i => (es[i]?.map (·.1)).getD 0) (nh P w k) (10 * SetTable.turns t.mask) (N - c) p0 (by omega) (fun q hq => by rw [wy]; exact hb _ (by omega)) (by rw [wy, show c + (N - c) = N by omega]; exact hN)
    have hat : ∀ (i : Nat) p, L[i]? = some p → (fun i => (es[i]?.map (·.1)).getD 0) i = nh P w p.2 := fun i p hp => by
      show (es[i]?.map (·.1)).getD 0 = _
      rw [S.at_ hp]
      rfl
    have pr : t.probe (fun i => (es[i]?.map (·.1)).getD 0) (nh P w k) p0 = SetTable.probe.go t (fun i => (es[i]?.map (·.1)).getD 0) (nh P w k) (10 * SetTable.turns t.mask) p0 := rfl
    rw [pr]
    rcases spec with ⟨q, i, nx, hq, hi, hh, hno, hnx, hnd, hgo⟩ | ⟨hno, d, hdd, hgo⟩
    · rw [hgo]
      dsimp only
      rw [wy] at hi
      have hil : i < L.length := by
        have h1 : i < t.place.toList.length := (List.getElem?_eq_some_iff.mp hi).1
        have h2 := S.tab.sz
        rw [List.length_map] at h2
        rw [Array.length_toList] at h1
        omega
      obtain ⟨p, hp⟩ : ∃ p, L[i]? = some p := ⟨_, List.getElem?_eq_getElem hil⟩
      have hm : p ∈ L := List.mem_of_getElem? hp
      rw [wy]
      have rest : wpAny (model P w) A (searchRest a (.ref x) (nh P w k) adding f es t (way t.mask (nh P w k) (c + q)) i nx) Q E s := by
        unfold searchRest
        rw [S.at_ hp]
        dsimp only
        refine wpAny_bind (wpAny_holding (wpAny_eqBool_tuple hu (S.tup p hm) hx (wpAny_bind (wpAny_setState_of ho hd S.fits ?_))))
        dsimp only
        have sl : t.slot (way t.mask (nh P w k) (c + q)) = .live i := slot_live S.tab.rp hi
        by_cases same : p.2 = k
        · have yes := hin i p hp same
          cases had : adding with
          | true =>
            rw [had] at yes
            exact wp_if_pos (by simp [same]) (wpAny_pure yes)
          | false =>
            rw [had] at yes
            refine wp_if_neg (by simp) ?_
            try refine wpAny_bind (wpAny_pure ?_)
            rw [sameMem]
            dsimp only
            simp only [if_true, sl, S.at_ hp]
            refine wpAny_bind (wpAny_isSame_ref_self (wpAny_bind (wpAny_pure ?_)))
            simp only [if_true]
            exact wp_if_pos (by simp [same]) (wpAny_pure yes)
        · refine wp_if_neg (by simp [same]) ?_
          try refine wpAny_bind (wpAny_pure ?_)
          rw [sameMem]
          dsimp only
          simp only [if_true, sl, S.at_ hp]
          refine wpAny_bind (wpAny_isSame_ref_self (wpAny_bind (wpAny_pure ?_)))
          simp only [if_true]
          refine wp_if_neg (by simp [same]) ?_
          refine ih (c + (q + 1)) (some nx) ?_ (fun z => hnd z (hdm z)) (by omega) (by omega) fun i0 p1 h0 hk0 => ?_
          · show bare nx = _
            rw [hnx, hst, ← nth_add]
          · obtain ⟨c', b1, b2, b3⟩ := hre i0 p1 h0 hk0
            refine ⟨c', ?_, b2, b3⟩
            by_cases lt : c' < c + q
            · exfalso
              refine hno (c' - c) i0 (by omega) (by rw [wy, show c + (c' - c) = c' by omega]; exact b3) ?_
              exact (hat i0 p1 h0).trans (congrArg (fun z => nh P w z) hk0)
            · by_cases eq : c' = c + q
              · exfalso
                rw [eq] at b3
                have s2 := slot_live S.tab.rp b3
                rw [sl] at s2
                injection s2 with s2
                rw [← s2, hp] at h0
                exact same (by rw [← hk0]; exact congrArg Prod.snd (Option.some.inj h0))
              · omega
      by_cases hl : t.led = true
      · refine wp_if_neg (by simp [hl]) ?_
        try refine wpAny_bind (wpAny_pure ?_)
        exact rest
      · refine wp_if_pos (by simp [hl]) (wpAny_bind (seen_n hx (fun y hy => ?_) ?_))
        · obtain ⟨e, he, rfl⟩ := List.mem_map.mp hy
          have he1 : e ∈ es ∧ e.1 = nh P w k := by simpa using he
          have he2 : e ∈ es.toList := by simpa using he1.1
          rw [S.rows] at he2
          obtain ⟨p2, hp2, rfl⟩ := List.mem_map.mp he2
          exact ⟨p2.2, p2.1, rfl, S.tup p2 hp2⟩
        · refine wp_if_neg (by decide) ?_
          try refine wpAny_bind (wpAny_pure ?_)
          exact rest
    · rw [hgo, wy, show c + (N - c) = N by omega]
      dsimp only
      have nk : k ∉ L.map (·.2) := fun hm => by
        obtain ⟨p1, h0, hk0⟩ := List.mem_map.mp hm
        obtain ⟨i0, hi0, e0⟩ := List.getElem_of_mem h0
        have h00 : L[i0]? = some p1 := by rw [List.getElem?_eq_getElem hi0, e0]
        obtain ⟨c', b1, b2, b3⟩ := hre i0 p1 h00 hk0
        refine hno (c' - c) i0 (by omega) (by rw [wy, show c + (c' - c) = c' by omega]; exact b3) ?_
        exact (hat i0 p1 h00).trans (congrArg (fun z => nh P w z) hk0)
      cases d with
      | none =>
        dsimp only
        exact wpAny_pure (hout nk _ false fun _ => ⟨rfl, rfl⟩)
      | some d =>
        dsimp only
        have na : adding = false := by
          cases had : adding with
          | false => rfl
          | true =>
            have := hdd (hadd had) (hdm (hadd had))
            cases this
        refine wp_if_neg (by simp [na]) ?_
        try refine wpAny_bind (wpAny_pure ?_)
        exact wpAny_pure (hout nk _ true fun z => by
          have := hdd z (hdm z)
          cases this)
theorem search_n (S : SetN P w s.heap a L es ep t) {x : Addr} {k : List Str} (hx : IsN P w s.heap k x) (hu : A.units < cLine) {adding : Bool} (hadd : adding = true → t.dummies = #[]) {Q : SetFound → Shared → Prop}
    (hin : ∀ (i : Nat) p, L[i]? = some p → p.2 = k → Q (.there (if adding = true then none else some i)) s)
    (hout : ∀ N, ¬ Occ t (way t.mask (nh P w k) N) → (∀ c, c < N → Occ t (way t.mask (nh P w k) c)) → k ∉ L.map (·.2) → ∀ (y : Nat) (d : Bool), (t.dummies = #[] → d = false ∧ y = way t.mask (nh P w k) N) → Q (.free y d) s) :
    wpAny (model P w) A (setSearch a (.ref x) (nh P w k) adding) Q E s := by
  obtain ⟨N, hNf, hN, hb⟩ := S.tab.first (nh P w k)
  have big : N < 100000 := by
    have := S.tab.km.le
    unfold SetTable.turns at hNf
    omega
  unfold setSearch
  refine seek S hx hu hadd hNf hN hb hin (hout N hN hb) 100000 0 none rfl (fun _ => rfl) (Nat.zero_le _) (by omega) fun i p hp hk => ?_
  have h1 : (L.map fun p => nh P w p.2)[i]? = some (nh P w k) := by
    rw [List.getElem?_map, hp, ← hk]
    rfl
  have hil : i < t.place.toList.length := by
    have h2 : i < L.length := (List.getElem?_eq_some_iff.mp hp).1
    have h3 := S.tab.sz
    rw [List.length_map] at h3
    rw [Array.length_toList]
    omega
  obtain ⟨c, hc, e⟩ := S.tab.near hN h1 (List.getElem?_eq_getElem hil)
  exact ⟨c, Nat.zero_le _, hc, by rw [List.getElem?_eq_getElem hil, e]⟩
/-- x in the set -/
theorem find_n (S : SetN P w s.heap a L es ep t) {x : Addr} {k : List Str} (hx : IsN P w s.heap k x) (hu : A.units < cLine) {Q : Option Nat → Shared → Prop}
    (hin : ∀ (i : Nat) p, L[i]? = some p → p.2 = k → Q (some i) s) (hout : k ∉ L.map (·.2) → Q none s) : wpAny (model P w) A (setFind a (.ref x) (nh P w k)) Q E s := by
  obtain ⟨o, ho, hex, hd⟩ := S.ob
  unfold setFind
  show wpAny _ _ (setFindIn a (.ref x) (nh P w k) (99999 + 1)) _ _ _
  unfold setFindIn
  refine wpAny_bind (wpAny_setState_of ho hd S.fits ?_)
  dsimp only
  refine wp_if_neg (by simp [byScan, Value.scannable]) ?_
  try refine wpAny_bind (wpAny_pure ?_)
  refine wpAny_bind (search_n S hx hu (adding := false) (fun z => nomatch z) (fun i p hp hk => ?_) fun N _ _ nk y d _ => ?_)
  · exact wpAny_pure (hin i p hp hk)
  · exact wpAny_pure (hout nk)
end
end AS

set_option Elab.async false
set_option linter.all false
set_option maxRecDepth 100000
set_option maxHeartbeats 4000000
namespace AS
open PySem PySem.Spec PyProof.Rows L2
abbrev rowN (P : Program) (w : World) (p : Addr × List Str) : Int × Value := (nh P w p.2, .ref p.1)
theorem Tb.ok {t : SetTable} {hs : List Int} (T : Tb t hs) (hd : t.dummies = #[]) (hm : MaskOk t.mask) : TabOk t hs where
  ris := T.rp
  dm := hd
  sz := T.sz
  mok := hm
  bd := T.bp
  reach := fun i z y h1 h2 => by
    obtain ⟨a, e, b⟩ := T.re i z y h1 h2
    refine ⟨a, e, fun a' h' => (b a' h').resolve_right fun q => ?_⟩
    rw [hd] at q
    cases q
theorem TabOk.like {t u : SetTable} {hs : List Int} (T : TabOk t hs) (e1 : u.place = t.place) (e2 : u.dummies = t.dummies) (e3 : u.mask = t.mask) : TabOk u hs := by
  cases t
  cases u
  dsimp only at e1 e2 e3
  subst e1 e2 e3
  exact ⟨T.ris, T.dm, T.sz, T.mok, T.bd, T.reach⟩
theorem Tb.like {t u : SetTable} {hs : List Int} (T : Tb t hs) (e1 : u.place = t.place) (e2 : u.dummies = t.dummies) (e3 : u.mask = t.mask) : Tb u hs := by
  cases t
  cases u
  dsimp only at e1 e2 e3
  subst e1 e2 e3
  exact ⟨T.rp, T.rd, T.sz, T.km, T.bp, T.fl, T.dj, T.re⟩
theorem eraseIdx_map' {α β : Type} (f : α → β) : ∀ (l : List α) (i : Nat), (l.map f).eraseIdx i = (l.eraseIdx i).map f
  | [], _ => rfl
  | _ :: _, 0 => rfl
  | x :: l, i + 1 => by
    show f x :: (l.map f).eraseIdx i = f x :: (l.eraseIdx i).map f
    rw [eraseIdx_map' f l i]
section
variable {P : Program} {w : World} {A : Around} {E : Value → Shared → Prop} {s : Shared}
theorem hby_n {k : List Str} {b : Addr} {Q : Bool → Shared → Prop} (hk : IsN P w s.heap k b) (q : ∀ y, Q y s) : wpAny (model P w) A (hashByValue 8 (.ref b)) Q E s := by
  have ty := hk.typeIs
  obtain ⟨o, its, n, ho, hc, hd, hi⟩ := hk
  unfold hashByValue
  refine wpAny_bind (wpAny_specialOf ty F.slot_tuple_hash.lookup ?_)
  show wpAny _ _ (seqItems? (.ref b) >>= _) _ _ s
  refine wpAny_bind (wpAny_seqItems ho hd (wpAny_bind ?_))
  show wpAny _ _ (forIn its _ _) _ _ s
  rw [← Array.forIn_toList]
  refine wpAny_forIn_list _ (fun left r s' => s' = s ∧ ∀ v ∈ left, ∃ y u, v = Value.str y u) _ ?turn ?fin _ _ ⟨rfl, all_strs hi⟩
  case turn =>
    rintro v left r s' ⟨rfl, al⟩
    obtain ⟨y, u, rfl⟩ := al v List.mem_cons_self
    have e : hashByValue 7 (.str y u) = pure false := rfl
    rw [e]
    refine wpAny_bind (wpAny_pure ?_)
    simp only [Bool.not_false, if_true]
    refine wpAny_pure ?_
    exact wpAny_pure (q _)
  case fin =>
    rintro ⟨x, z⟩ s' ⟨rfl, _⟩
    cases x with
    | none => exact wpAny_pure (q _)
    | some y => exact wpAny_pure (q _)
/-- a tuple is not the set -/
theorem isN_but {h h' : Heap} {k : List Str} {a b : Addr} {o : Obj} {es : Array (Int × Value)} {ep : Nat} {t : SetTable} (hb : IsN P w h k b) (ho : h.get? a = some o) (hd : o.data = .set es ep t) (sb : Heap.SameBut a h h') : IsN P w h' k b := by
  obtain ⟨u, its, n, hu, r1, r2, r3⟩ := hb
  have ne : b ≠ a := fun e => by
    rw [e, ho] at hu
    rw [← Option.some.inj hu, hd] at r2
    cases r2
  exact ⟨u, its, n, (sb.2 b ne).trans hu, r1, r2, r3⟩
theorem isN_keep {h h' : Heap} {k : List Str} {b : Addr} (x : IsN P w h k b) (hk : ∀ c o, h.get? c = some o → h'.get? c = some o) : IsN P w h' k b := by
  obtain ⟨u, its, n, hu, r⟩ := x
  exact ⟨u, its, n, hk b u hu, r⟩
theorem order_n (L : List (Addr × List Str)) (es : Array (Int × Value)) (order : Array Nat) (hr : es.toList = L.map (rowN P w)) (hp : order.toList.Perm (List.range L.length)) :
    ∃ L2 : List (Addr × List Str), (order.filterMap (es[·]?)).toList = L2.map (rowN P w) ∧ L2.Perm L ∧ (L2.map fun p => nh P w p.2) = order.toList.map fun i => (es.map (·.1)).getD i 0 := by
  have ent : ∀ i, es[i]? = L[i]?.map (rowN P w) := fun i => by
    rw [← Array.getElem?_toList, hr, List.getElem?_map]
  have body : ∀ l : List Nat, (∀ i ∈ l, i < L.length) → l.filterMap (fun i => es[i]?) = (l.filterMap fun i => L[i]?).map (rowN P w) ∧ ((l.filterMap fun i => L[i]?).map fun p => nh P w p.2) = l.map fun i => (es.map (·.1)).getD i 0 := by
    intro l
    induction l with
    | nil => exact fun _ => ⟨rfl, rfl⟩
    | cons i l ih =>
      intro hl
      obtain ⟨e1, e2⟩ := ih fun j hj => hl j (.tail _ hj)
      obtain ⟨p0, hi⟩ : ∃ p0, L[i]? = some p0 := ⟨_, List.getElem?_eq_getElem (hl i (.head _))⟩
      have hi2 : es[i]? = some (rowN P w p0) := by
        rw [ent, hi]
        rfl
      have hi3 : (es.map (·.1)).getD i 0 = nh P w p0.2 := by
        rw [Array.getD_eq_getD_getElem?, Array.getElem?_map, hi2]
        rfl
      constructor
      · rw [List.filterMap_cons_some hi2, List.filterMap_cons_some hi, e1]
        rfl
      · rw [List.filterMap_cons_some hi, List.map_cons, List.map_cons, e2, hi3]
  obtain ⟨e1, e2⟩ := body order.toList fun i hi => List.mem_range.mp (hp.mem_iff.mp hi)
  refine ⟨order.toList.filterMap fun i => L[i]?, by rw [Array.toList_filterMap]; exact e1, (hp.filterMap _).trans (List.Perm.of_eq ?_), e2⟩
  have take : ∀ n, n ≤ L.length → (List.range n).filterMap (fun i => L[i]?) = L.take n := by
    intro n
    induction n with
    | zero => exact fun _ => by simp
    | succ n ih =>
      intro hn
      rw [List.range_succ, List.filterMap_append, ih (by omega), List.take_add_one, List.getElem?_eq_getElem (by omega : n < L.length), List.filterMap_cons_some (List.getElem?_eq_getElem (by omega : n < L.length))]
      rfl
  have := take L.length (Nat.le_refl _)
  rw [List.take_length] at this
  exact this
variable {a : Addr} {L : List (Addr × List Str)} {es : Array (Int × Value)} {ep : Nat} {t : SetTable}
/-- the table laid anew -/
theorem relay_n {o : Obj} (ho : s.heap.get? a = some o) (hex : o.ExactSet) (hd : o.data = .set es ep t) (rows : es.toList = L.map (rowN P w)) (fits : t.fits es.size = true) (nd : (L.map (·.2)).Nodup) (tup : ∀ p ∈ L, IsN P w s.heap p.2 p.1)
    (ld : w.params.followText "set-order" = true ∨ t.led = true) (few : L.length < 64) {wanted M : Nat} (hw : SetTable.sizeAbove wanted - 1 = M) (hM : MK M) (h128 : SetTable.sizeAbove wanted ≤ 128) (hn : L.length ≤ M) {Q : Unit → Shared → Prop}
    (hQ : ∀ h' L' es' ep' t', Heap.SameBut a s.heap h' → SetN P w h' a L' es' ep' t' → t'.dummies = #[] → t'.mask = M → L'.Perm L → Q () { s with heap := h' }) : wpAny (model P w) A (setRelay a wanted) Q E s := by
  have sz : es.size = L.length := by
    have := congrArg List.length rows
    rw [List.length_map] at this
    exact this
  obtain ⟨t', order, e, hp, T, em, el, epl, ed, _⟩ := laidM hM t.finger (t.movedTo (SetTable.sizeAbove wanted - 1)) t.led t.plain (hs := es.map (·.1)) (by rw [Array.size_map, sz]; exact hn)
  rw [Array.size_map, sz] at hp
  obtain ⟨L2, r1, r2, r3⟩ := order_n L es order rows hp
  rw [← r3] at T
  have e' : t.relaid (es.map (·.1)) wanted = some (t', order) := by
    rw [← e, ← hw]
    rfl
  have sz2 : (order.filterMap (es[·]?)).size = es.size := by
    have := congrArg List.length r1
    rw [List.length_map, r2.length_eq] at this
    rw [sz]
    exact this
  rw [setRelay_eq]
  refine wpAny_bind (wpAny_setState_of ho hd fits ?_)
  dsimp only
  refine wp_if_neg (by rw [sizeLine_eq]; omega) ?_
  try refine wpAny_bind (wpAny_pure ?_)
  rw [e']
  dsimp only
  refine wpAny_bind (wp_if_neg (by rw [sz2]; simp) ?_)
  try refine wpAny_bind (wpAny_pure ?_)
  refine wpAny_pure ?_
  dsimp only
  refine wpAny_storeSet_of ho hd ?_ (by rw [sz2, sz, sizeLine_eq]; omega)
  have sb : Heap.SameBut a s.heap (s.heap.update a (Obj.putSet (order.filterMap (es[·]?)) t')) := Heap.SameBut.update ..
  exact hQ _ L2 _ (ep + 1) t' sb ⟨⟨_, store_at ho hd, ⟨hex.1, hex.2.1, hex.2.2⟩, rfl⟩, r1, T, (r2.map (·.2)).nodup_iff.mpr nd, fun p hp2 => isN_but (tup p (r2.mem_iff.mp hp2)) ho hd sb, by rw [el]; exact ld, by rw [r2.length_eq]; exact few⟩ ed em r2
/-- a set to which may be added -/
structure SetC (P : Program) (w : World) (h : Heap) (a : Addr) (L : List (Addr × List Str)) (es : Array (Int × Value)) (ep : Nat) (t : SetTable) : Prop where
  n : SetN P w h a L es ep t
  ok : TabOk t (L.map fun p => nh P w p.2)
  room : L.length * 5 < t.mask * 3
theorem add_n (S : SetC P w s.heap a L es ep t) {x : Addr} {k : List Str} (hx : IsN P w s.heap k x) (hu : A.units < cLine) (hfew : L.length + 1 < 64) {Q : Bool → Shared → Prop}
    (hQ : ∀ b h' L' es' ep' t', Heap.SameBut a s.heap h' → SetC P w h' a L' es' ep' t' → (k ∈ L.map (·.2) → L' = L) → (k ∉ L.map (·.2) → L'.Perm ((x, k) :: L)) → Q b { s with heap := h' }) :
    wpAny (model P w) A (setAddHashed a (.ref x) (nh P w k)) Q E s := by
  obtain ⟨o, ho, hex, hd⟩ := S.n.ob
  have sz := S.n.size
  have room := S.room
  unfold setAddHashed
  refine wpAny_holding ?_
  rw [show (100000 : Nat) = 99999 + 1 from rfl, setAddHashedIn_succ]
  refine wpAny_bind (wpAny_setState_of ho hd S.n.fits ?_)
  dsimp only
  refine wp_if_neg (by simp [byScan, Value.scannable]) ?_
  try refine wpAny_bind (wpAny_pure ?_)
  refine wpAny_bind (search_n S.n hx hu (adding := true) (fun _ => S.ok.dm) (fun i p hp hk => ?_) fun N hN hb nk y d hyd => ?_)
  · dsimp only
    refine wpAny_pure (hQ false s.heap L es ep t (Heap.SameBut.refl a s.heap) S (fun _ => rfl) fun z => absurd ?_ z)
    exact List.mem_map.mpr ⟨p, List.mem_of_getElem? hp, hk⟩
  · obtain ⟨rfl, rfl⟩ := hyd S.ok.dm
    have hN2 : way t.mask (nh P w k) N ∉ t.place.toList := fun z => hN (.inl z)
    have hb2 : ∀ c, c < N → way t.mask (nh P w k) c ∈ t.place.toList := fun c hc => (hb c hc).resolve_right fun z => by
      rw [S.ok.dm] at z
      cases z
    dsimp only
    refine wpAny_bind (wpAny_setState_of ho hd S.n.fits ?_)
    dsimp only
    obtain ⟨q1, q2, q3, q4, q5, q6, q7, q8, q9⟩ := S.ok.put hN2 hb2
    generalize t.put (way t.mask (nh P w k) N) = pt at q1 q3 q4 q5 q6 q7 q8 q9 ⊢
    obtain ⟨t1, p⟩ := pt
    dsimp only at q1 q3 q4 q5 q6 q7 q8 q9 ⊢
    subst q1
    generalize hp : SetTable.below t.place (way t.mask (nh P w k) N) = p at q2 q3 ⊢
    -- what is stored, whether by value or not
    have go : ∀ t2 : SetTable, t2.place = t1.place → t2.dummies = t1.dummies → t2.mask = t1.mask → t2.led = t1.led →
        wpAny (model P w) A (do
          storeSet a (SetTable.insertAt es p (nh P w k, Value.ref x)) t2
          if !false && t2.tooFull then setRelay a (SetTable.grown (es.size + 1))
          return true) Q E s := by
      intro t2 e1 e2 e3 e4
      have T2 := TabOk.like q3 e1 e2 e3
      have rows2 : (SetTable.insertAt es p (nh P w k, Value.ref x)).toList = (L.take p ++ (x, k) :: L.drop p).map (rowN P w) := by
        rw [SetTable.toList_insertAt, S.n.rows, List.map_append, List.map_cons, List.map_take, List.map_drop]
      have hh : (L.take p ++ (x, k) :: L.drop p).map (fun p => nh P w p.2) = (L.map fun p => nh P w p.2).take p ++ nh P w k :: (L.map fun p => nh P w p.2).drop p := by
        rw [List.map_append, List.map_cons, List.map_take, List.map_drop]
      rw [← hh] at T2
      have pm : (L.take p ++ (x, k) :: L.drop p).Perm ((x, k) :: L) := by
        have z : (L.take p ++ (x, k) :: L.drop p).Perm ((x, k) :: (L.take p ++ L.drop p)) := List.perm_middle
        rw [List.take_append_drop] at z
        exact z
      have fill2 : t2.fill = L.length + 1 := by
        show t2.place.size + t2.dummies.size = _
        rw [e1, e2]
        have z : t1.place.size + t1.dummies.size = (L.map fun p => nh P w p.2).length + 1 := q9
        rw [z, List.length_map]
      have l1 : (L.take p ++ (x, k) :: L.drop p).length = L.length + 1 := pm.length_eq
      have nd1 : ((L.take p ++ (x, k) :: L.drop p).map (·.2)).Nodup := (pm.map (·.2)).nodup_iff.mpr (List.nodup_cons.mpr ⟨nk, S.n.nd⟩)
      have z1 : (SetTable.insertAt es p (nh P w k, Value.ref x)).size = L.length + 1 := by
        have := congrArg List.length rows2
        rw [List.length_map, l1] at this
        exact this
      have em2 : t2.mask = t.mask := e3.trans q4
      generalize SetTable.insertAt es p (nh P w k, Value.ref x) = es1 at rows2 z1 ⊢
      generalize L.take p ++ (x, k) :: L.drop p = L1 at rows2 T2 pm l1 nd1
      refine wpAny_bind (wpAny_storeSet_of ho hd ?_ (by rw [z1, sizeLine_eq]; omega))
      have sb : Heap.SameBut a s.heap (s.heap.update a (Obj.putSet es1 t2)) := Heap.SameBut.update ..
      have ho1 := store_at (es' := es1) (t' := t2) ho hd
      generalize s.heap.update a (Obj.putSet es1 t2) = h1 at sb ho1 ⊢
      have tup1 : ∀ p ∈ L1, IsN P w h1 p.2 p.1 := fun p hp => by
        rcases List.mem_cons.mp (pm.mem_iff.mp hp) with e | hp
        · rw [e]
          exact isN_but hx ho hd sb
        · exact isN_but (S.n.tup p hp) ho hd sb
      have ld1 : w.params.followText "set-order" = true ∨ t2.led = true := by
        rw [e4, q5]
        exact S.n.led
      have hmask : L.length + 1 ≤ t2.mask := by
        rw [em2]
        rcases S.ok.mok with e | e | e <;> omega
      have N1 : SetN P w h1 a L1 es1 (ep + 1) t2 := ⟨⟨_, ho1, ⟨hex.1, hex.2.1, hex.2.2⟩, rfl⟩, rows2, Tb.of T2 (by rw [List.length_map, l1]; exact hmask), nd1, tup1, ld1, by omega⟩
      by_cases hf : t2.tooFull = true
      · have full : (L.length + 1) * 5 ≥ t.mask * 3 := by
          have z : decide (t2.fill * 5 ≥ t2.mask * 3) = true := hf
          rw [decide_eq_true_eq, fill2, em2] at z
          exact z
        rw [sz]
        have relay : ∀ M, SetTable.sizeAbove (SetTable.grown (L.length + 1)) - 1 = M → MaskOk M → SetTable.sizeAbove (SetTable.grown (L.length + 1)) ≤ 128 → (L.length + 1) * 5 < M * 3 →
            wpAny (model P w) A (setRelay a (SetTable.grown (L.length + 1))) (fun _ s' => wpAny (model P w) A (pure true) Q E s') E { s with heap := h1 } := by
          intro M m1 m2 m3 m4
          refine relay_n (s := { s with heap := h1 }) (L := L1) ho1 ⟨hex.1, hex.2.1, hex.2.2⟩ rfl rows2 (N1.fits (s := { s with heap := h1 })) nd1 tup1 ld1 (by omega) m1 (by rcases m2 with e | e | e <;> rw [e] <;> (unfold MK; decide)) m3 (by omega) fun h2 L2 es2 ep2 t3 sb2 S2 dm2 em3 pm2 => ?_
          refine wpAny_pure (hQ true h2 L2 es2 ep2 t3 (sb.trans sb2) ⟨S2, S2.tab.ok dm2 (by rw [em3]; exact m2), ?_⟩ (fun z => absurd z nk) fun _ => pm2.trans pm)
          rw [pm2.length_eq, l1, em3]
          exact m4
        have two : L.length = 4 ∨ L.length = 18 := by
          rcases S.ok.mok with e | e | e <;> omega
        refine wp_if_pos (by simp [hf]) ?_
        refine wpAny_bind ?_
        rcases two with e | e
        · exact relay 31 (by rw [e, size_20]) (.inr (.inl rfl)) (by rw [e, size_20]; decide) (by omega)
        · exact relay 127 (by rw [e, size_76]) (.inr (.inr rfl)) (by rw [e, size_76]; decide) (by omega)
      · refine wp_if_neg (by simp [hf]) (wpAny_pure ?_)
        refine hQ true h1 L1 es1 (ep + 1) t2 sb ⟨N1, T2, ?_⟩ (fun z => absurd z nk) fun _ => pm
        have z : ¬ t2.fill * 5 ≥ t2.mask * 3 := fun q => hf (decide_eq_true q)
        rw [fill2] at z
        rw [l1]
        omega
    by_cases hpl : t1.plain = true
    · refine wp_if_pos hpl (wpAny_bind (hby_n hx fun b => ?_))
      cases b with
      | true => exact go t1 rfl rfl rfl rfl
      | false => exact go { t1 with plain := false } rfl rfl rfl rfl
    · refine wp_if_neg hpl (wpAny_bind (wpAny_pure ?_))
      exact go t1 rfl rfl rfl rfl
/-- what is found is taken out -/
theorem discard_n (S : SetN P w s.heap a L es ep t) {x : Addr} {k : List Str} (hx : IsN P w s.heap k x) (hu : A.units < cLine) {Q : Bool → Shared → Prop}
    (hQ : ∀ b h' L' es' ep' t', Heap.SameBut a s.heap h' → SetN P w h' a L' es' ep' t' → (∀ p, p ∈ L' ↔ p ∈ L ∧ p.2 ≠ k) → L'.length ≤ L.length → t'.mask = t.mask → t'.dummies.size ≤ t.dummies.size + 1 → Q b { s with heap := h' }) :
    wpAny (model P w) A (setDiscardHashed a (.ref x) (nh P w k)) Q E s := by
  obtain ⟨o, ho, hex, hd⟩ := S.ob
  unfold setDiscardHashed
  refine wpAny_bind (find_n S hx hu (fun i p hp hk => ?_) fun nk => ?_)
  · dsimp only
    have hi : i < L.length := (List.getElem?_eq_some_iff.mp hp).1
    refine wpAny_bind (wpAny_setState_of ho hd S.fits ?_)
    dsimp only
    obtain ⟨T2, el, em, edm⟩ := S.tab.drop (i := i) (by rw [List.length_map]; exact hi)
    have rows2 : (SetTable.eraseAt es i).toList = (L.eraseIdx i).map (rowN P w) := by
      rw [erase_list, S.rows, eraseIdx_map']
    have hh : (L.eraseIdx i).map (fun p => nh P w p.2) = (L.map fun p => nh P w p.2).eraseIdx i := by
      rw [eraseIdx_map']
    rw [← hh] at T2
    have le : (L.eraseIdx i).length = L.length - 1 := by
      rw [List.length_eraseIdx, if_pos hi]
    have z1 : (SetTable.eraseAt es i).size = L.length - 1 := by
      have := congrArg List.length rows2
      rw [List.length_map, le] at this
      exact this
    have few := S.few
    refine wpAny_bind (wpAny_storeSet_of ho hd ?_ (by rw [z1, sizeLine_eq]; omega))
    have sb : Heap.SameBut a s.heap (s.heap.update a (Obj.putSet (SetTable.eraseAt es i) (t.drop i))) := Heap.SameBut.update ..
    have sub := List.eraseIdx_sublist L i
    refine wpAny_bind (wpAny_point ?_)
    refine wpAny_pure (hQ true _ (L.eraseIdx i) _ (ep + 1) (t.drop i) sb ⟨⟨_, store_at ho hd, ⟨hex.1, hex.2.1, hex.2.2⟩, rfl⟩, rows2, T2, ?_, fun p hp => isN_but (S.tup p (sub.subset hp)) ho hd sb, by rw [el]; exact S.led, by omega⟩ (fun q => ?_) (by omega) em (by omega))
    · exact List.Pairwise.sublist (sub.map (·.2)) S.nd
    · rw [List.mem_eraseIdx_iff_getElem?]
      constructor
      · intro z
        obtain ⟨j, hj, e⟩ := z
        refine ⟨List.mem_of_getElem? e, fun ek => hj ?_⟩
        have nj : j < (L.map (·.2)).length := by
          rw [List.length_map]
          exact (List.getElem?_eq_some_iff.mp e).1
        refine (List.getElem?_inj nj S.nd).mp ?_
        rw [List.getElem?_map, List.getElem?_map, e, hp]
        show some q.2 = some p.2
        rw [ek, hk]
      · intro z
        obtain ⟨hm, ne⟩ := z
        obtain ⟨j, hj, e⟩ := List.getElem_of_mem hm
        have e2 : L[j]? = some q := by rw [List.getElem?_eq_getElem hj, e]
        refine ⟨j, fun ej => ne ?_, e2⟩
        rw [ej, hp] at e2
        rw [← Option.some.inj e2, hk]
  · dsimp only
    refine wpAny_pure (hQ false s.heap L es ep t (Heap.SameBut.refl a s.heap) S (fun p => ⟨fun h => ⟨h, fun e => nk (List.mem_map.mpr ⟨p, h, e⟩)⟩, fun h => h.1⟩) (Nat.le_refl _) rfl (Nat.le_succ _))
end
end AS

set_option Elab.async false
set_option linter.all false
set_option maxRecDepth 100000
set_option maxHeartbeats 4000000
namespace AS
open PySem PySem.Spec PyProof.Rows L2
theorem perm_back {α β : Type} (f : α → β) : ∀ {l m : List β}, l.Perm m → ∀ M : List α, m = M.map f → ∃ N : List α, l = N.map f ∧ N.Perm M := by
  intro l m p
  induction p with
  | nil =>
    intro M e
    have : M = [] := List.map_eq_nil_iff.mp e.symm
    exact ⟨[], rfl, by rw [this]⟩
  | @cons x l m p ih =>
    intro M e
    cases M with
    | nil => cases e
    | cons y M =>
      rw [List.map_cons] at e
      obtain ⟨e1, e2⟩ := List.cons.inj e
      obtain ⟨N, n1, n2⟩ := ih M e2
      exact ⟨y :: N, by rw [List.map_cons, ← e1, n1], n2.cons y⟩
  | @swap x y l =>
    intro M e
    match M, e with
    | u :: v :: M, e =>
      rw [List.map_cons, List.map_cons] at e
      obtain ⟨e1, e2⟩ := List.cons.inj e
      obtain ⟨e3, e4⟩ := List.cons.inj e2
      exact ⟨v :: u :: M, by rw [List.map_cons, List.map_cons, e1, e3, e4], List.Perm.swap u v M⟩
  | @trans l m n p q ih1 ih2 =>
    intro M e
    obtain ⟨N, n1, n2⟩ := ih2 M e
    obtain ⟨N2, n3, n4⟩ := ih1 N n1
    exact ⟨N2, n3, n4.trans n2⟩
theorem walk_is (b : Addr) : setWalk b = setState b >>= fun r => setsByText >>= fun bt =>
    if bt then ask >>= fun st => pure (pickOrder (st.params.setOrder b r.2.1) r.1)
    else if !r.2.2.plain && decide (r.1.size > 1) then drawOrder r.1.size r.1.toList >>= fun xs => pure xs.toArray
    else (if !r.2.2.led && decide (r.1.size > 1) then unsupported "set:maker-not-led" else pure ()) >>= fun _ => pure r.1 := by rfl
section
variable {P : Program} {w : World} {A : Around} {E : Value → Shared → Prop} {s : Shared}
variable {a : Addr} {L : List (Addr × List Str)} {es : Array (Int × Value)} {ep : Nat} {t : SetTable}
theorem SetN.ty (S : SetN P w s.heap a L es ep t) : s.TypeIs (.ref a) "set" := by
  obtain ⟨o, ho, hex, _⟩ := S.ob
  exact ⟨o, ho, hex.1⟩
theorem SetN.entries (S : SetN P w s.heap a L es ep t) {Q : Array (Int × Value) → Shared → Prop} (q : Q es s) : wpAny (model P w) A (setEntries a) Q E s := by
  obtain ⟨o, ho, hex, hd⟩ := S.ob
  unfold setEntries
  exact wpAny_bind (wpAny_setState_of ho hd S.fits (wpAny_pure q))
theorem SetN.epoch (S : SetN P w s.heap a L es ep t) {Q : Nat → Shared → Prop} (q : Q ep s) : wpAny (model P w) A (setEpoch a) Q E s := by
  obtain ⟨o, ho, hex, hd⟩ := S.ob
  unfold setEpoch
  exact wpAny_bind (wpAny_setState_of ho hd S.fits (wpAny_pure q))
theorem SetN.sizeOf (S : SetN P w s.heap a L es ep t) {Q : Nat → Shared → Prop} (q : Q L.length s) : wpAny (model P w) A (Builtin.Frozenset.sizeOf a) Q E s := by
  unfold Builtin.Frozenset.sizeOf
  refine wpAny_bind (S.entries (wpAny_pure ?_))
  rw [S.size]
  exact q
theorem sub_set_set : isSubtype (.type "set") (.type "set") = pure true := by rw [isSubtype_type]; kernel_rfl
theorem isSet {b : Addr} (ty : s.TypeIs (.ref b) "set") {Q : Bool → Shared → Prop} (q : Q true s) : wpAny (model P w) A (Builtin.Frozenset.isAnySet (.ref b)) Q E s := by
  unfold Builtin.Frozenset.isAnySet orM
  refine wpAny_bind (wpAny_isInstance ty sub_set_set ?_)
  exact wpAny_pure q
theorem baseSet {b : Addr} (ty : s.TypeIs (.ref b) "set") {Q : Value → Shared → Prop} (q : Q (.type "set") s) : wpAny (model P w) A (Builtin.Frozenset.baseOf b) Q E s := by
  unfold Builtin.Frozenset.baseOf
  exact wpAny_bind (wpAny_isInstance ty sub_set_set (wpAny_pure q))
abbrev newO (w : World) : Obj := { cls := .type "set", dict := none, data := .set #[] 0 (.fresh 0 0 (!w.params.followText "set-order")) }
theorem newSet_n {Q : Value → Shared → Prop} (q : Q (.ref s.heap.objs.size) { s with heap := s.heap.push (newO w) }) : wpAny (model P w) A (newSet (.type "set")) Q E s := by
  unfold newSet
  refine wpAny_bind (wpAny_byText ?_)
  exact wpAny_newObj_type q
theorem fresh_n {h : Heap} {b : Addr} (ho : h.get? b = some (newO w)) : SetC P w h b [] #[] 0 (.fresh 0 0 (!w.params.followText "set-order")) := by
  have T : TabOk (.fresh 0 0 (!w.params.followText "set-order")) [] := ⟨List.Pairwise.nil, rfl, rfl, .inl rfl, fun x hx => (nomatch hx), fun i z y hi => by cases hi⟩
  refine ⟨⟨⟨_, ho, ⟨rfl, rfl, rfl⟩, rfl⟩, rfl, Tb.of T (Nat.zero_le _), List.nodup_nil, fun p hp => (nomatch hp), ?_, Nat.zero_lt_succ _⟩, T, ?_⟩
  · show _ ∨ (!w.params.followText "set-order") = true
    cases w.params.followText "set-order"
    · exact .inr rfl
    · exact .inl rfl
  · show 0 * 5 < 7 * 3
    decide
/-- sets of two or more tuples are not quiet -/
theorem quiet_n (S : SetN P w s.heap a L es ep t) (h2 : 2 ≤ L.length) (others : List Addr) {Q : Bool → Shared → Prop} (q : Q false s) : wpAny (model P w) A (setsQuiet (a :: others)) Q E s := by
  obtain ⟨p, r, el⟩ : ∃ p r, L = p :: r := by
    cases L with
    | nil => exact absurd h2 (by decide)
    | cons p r => exact ⟨p, r, rfl⟩
  have hp : p ∈ L := by
    rw [el]
    exact .head _
  have ty : s.TypeIs (.ref p.1) "tuple" := (S.tup p hp).typeIs
  have ees : es.toList = rowN P w p :: r.map (rowN P w) := by
    rw [S.rows, el]
    rfl
  unfold setsQuiet
  refine wpAny_bind ?_
  simp only [List.forIn_cons]
  refine wpAny_bind (wpAny_bind (S.entries (wpAny_bind ?_)))
  show wpAny _ _ (forIn es _ _) _ _ s
  rw [← Array.forIn_toList, ees]
  simp only [List.forIn_cons]
  refine wpAny_bind ?_
  try dsimp only
  refine wpAny_bind (wpAny_specialOf ty F.slot_tuple_eq.lookup ?_)
  refine wp_if_pos (by decide +kernel) ?_
  repeat (first | exact wpAny_pure q | refine wpAny_pure ?_ | dsimp only)
theorem setWalk_n (S : SetN P w s.heap a L es ep t) {Q : Array (Int × Value) → Shared → Prop} (q : ∀ (M : List (Addr × List Str)) d, M.Perm L → Q (M.map (rowN P w)).toArray { s with drawn := d }) : wpAny (model P w) A (setWalk a) Q E s := by
  obtain ⟨o, ho, hex, hd⟩ := S.ob
  have out : ∀ (xs : Array (Int × Value)) d, xs.toList.Perm es.toList → Q xs { s with drawn := d } := fun xs d p => by
    obtain ⟨M, e1, e2⟩ := perm_back (rowN P w) p L S.rows
    have z := q M d e2
    rw [← e1] at z
    exact z
  rw [walk_is]
  refine wpAny_bind (wpAny_setState_of ho hd S.fits (wpAny_bind (wpAny_byText ?_)))
  dsimp only
  by_cases bt : w.params.followText "set-order" = true
  · refine wp_if_pos bt (wpAny_bind (wpAny_askSetting (wpAny_pure ?_)))
    exact out _ s.drawn (pick_perm _ _)
  · refine wp_if_neg bt ?_
    by_cases dr : (!t.plain && decide (es.size > 1)) = true
    · refine wp_if_pos dr (wpAny_bind (drawOrder_at _ _ _ _ (Nat.le_refl _) fun ys d p => wpAny_pure (out _ d p)))
    · refine wp_if_neg dr (wpAny_bind ?_)
      have hl : t.led = true := S.led.resolve_left bt
      refine wp_if_neg (by rw [hl]; simp) (wpAny_pure (wpAny_pure ?_))
      exact out es s.drawn (List.Perm.refl _)
theorem walk_n (S : SetN P w s.heap a L es ep t) (others : List Addr) (filled : Option Addr) {Q : Array (Int × Value) → Shared → Prop} (q : ∀ (M : List (Addr × List Str)) d, M.Perm L → Q (M.map (rowN P w)).toArray { s with drawn := d }) :
    wpAny (model P w) A (setWalkUnseen a others filled) Q E s := by
  obtain ⟨o, ho, hex, hd⟩ := S.ob
  have sz := S.size
  unfold setWalkUnseen
  refine wpAny_bind (wpAny_setState_of ho hd S.fits ?_)
  dsimp only
  refine wpAny_bind (wpAny_byText ?_)
  by_cases c : (w.params.followText "set-order" || (t.led && t.plain) || decide (es.size ≤ 1)) = true
  · refine wp_if_pos c ?_
    exact setWalk_n S fun M d p => q M d p
  · refine wp_if_neg c ?_
    have h2 : 2 ≤ L.length := by
      simp at c
      omega
    refine wpAny_bind (quiet_n S h2 others ?_)
    refine wp_if_pos rfl ?_
    exact setWalk_n S fun M d p => q M d p
end
end AS

set_option Elab.async false
set_option linter.all false
set_option maxRecDepth 100000
set_option maxHeartbeats 4000000
namespace AS
open PySem PySem.Spec PyProof.Rows L2
/-- what stood stands, and nothing but the heap and the counters moved -/
structure Ex (s s' : Shared) : Prop where
  kp : ∀ b o, s.heap.get? b = some o → s'.heap.get? b = some o
  sz : s.heap.objs.size ≤ s'.heap.objs.size
  gn : s'.gens = s.gens
  so : s'.os = s.os
theorem Ex.refl (s : Shared) : Ex s s := ⟨fun _ _ e => e, Nat.le_refl _, rfl, rfl⟩
theorem Ex.trans {s s' s'' : Shared} (a : Ex s s') (b : Ex s' s'') : Ex s s'' := ⟨fun c o e => b.kp c o (a.kp c o e), Nat.le_trans a.sz b.sz, b.gn.trans a.gn, b.so.trans a.so⟩
theorem Ex.new (s : Shared) (o : Obj) : Ex s { s with heap := s.heap.push o } := ⟨fun _ _ e => Heap.get?_push_of_some _ e, by show s.heap.objs.size ≤ (s.heap.push o).objs.size; rw [Heap.size_push]; exact Nat.le_succ _, rfl, rfl⟩
theorem Ex.drawn {s s' : Shared} (a : Ex s s') (d) : Ex s { s' with drawn := d } := ⟨a.kp, a.sz, a.gn, a.so⟩
theorem Ex.put {s s' : Shared} (a : Ex s s') {r : Addr} (hr : s.heap.get? r = none) {h' : Heap} (sb : Heap.SameBut r s'.heap h') : Ex s { s' with heap := h' } := by
  refine ⟨fun c o e => ?_, ?_, a.gn, a.so⟩
  · have ne : c ≠ r := fun z => by
      rw [z, hr] at e
      cases e
    exact (sb.2 c ne).trans (a.kp c o e)
  · show s.heap.objs.size ≤ h'.objs.size
    rw [sb.1]
    exact a.sz
section
variable {P : Program} {w : World} {A : Around} {E : Value → Shared → Prop} {s : Shared}
theorem SetN.ex {s s' : Shared} {a : Addr} {L : List (Addr × List Str)} {es : Array (Int × Value)} {ep : Nat} {t : SetTable} (S : SetN P w s.heap a L es ep t) (e : Ex s s') : SetN P w s'.heap a L es ep t := by
  obtain ⟨o, ho, r⟩ := S.ob
  exact ⟨⟨o, e.kp a o ho, r⟩, S.rows, S.tab, S.nd, fun p hp => isN_keep (S.tup p hp) e.kp, S.led, S.few⟩
/-- what a sieve of W has kept: M, what is to come: R -/
structure Sift (W : List (Addr × List Str)) (f : List Str → Bool) (M R : List (Addr × List Str)) : Prop where
  sub : ∀ p ∈ M, p ∈ W ∧ f p.2 = true
  all : ∀ p ∈ W, f p.2 = true → p.2 ∈ M.map (·.2) ∨ p ∈ R
  rest : ∀ p ∈ R, p ∈ W
  len : M.length + R.length ≤ W.length
theorem Sift.skip {W M R : List (Addr × List Str)} {f : List Str → Bool} {p : Addr × List Str} (S : Sift W f M (p :: R)) (h : f p.2 = false ∨ p.2 ∈ M.map (·.2)) : Sift W f M R := by
  refine ⟨S.sub, fun q hq hf => ?_, fun q hq => S.rest q (.tail _ hq), ?_⟩
  · rcases S.all q hq hf with z | z
    · exact .inl z
    · rcases List.mem_cons.mp z with rfl | z
      · rcases h with h | h
        · rw [h] at hf
          cases hf
        · exact .inl h
      · exact .inr z
  · have := S.len
    rw [List.length_cons] at this
    omega
theorem Sift.take {W M M' R : List (Addr × List Str)} {f : List Str → Bool} {p : Addr × List Str} (S : Sift W f M (p :: R)) (hf : f p.2 = true) (pm : M'.Perm (p :: M)) : Sift W f M' R := by
  refine ⟨fun q hq => ?_, fun q hq hfq => ?_, fun q hq => S.rest q (.tail _ hq), ?_⟩
  · rcases List.mem_cons.mp (pm.mem_iff.mp hq) with rfl | z
    · exact ⟨S.rest _ (.head _), hf⟩
    · exact S.sub q z
  · have up : ∀ k, k = p.2 ∨ k ∈ M.map (·.2) → k ∈ M'.map (·.2) := fun k hk => by
      rw [(pm.map (·.2)).mem_iff, List.map_cons]
      rcases hk with rfl | hk
      · exact .head _
      · exact .tail _ hk
    rcases S.all q hq hfq with z | z
    · exact .inl (up _ (.inr z))
    · rcases List.mem_cons.mp z with rfl | z
      · exact .inl (up _ (.inl rfl))
      · exact .inr z
  · have := S.len
    rw [List.length_cons] at this
    rw [pm.length_eq, List.length_cons]
    omega
/-- the loop that asks one set for the items of another and adds them to a third -/
theorem sieve {a b r : Addr} {La Lb : List (Addr × List Str)} {ea eb : Array (Int × Value)} {pa pb : Nat} {ta tb : SetTable} {s0 : Shared} (Sa : SetN P w s0.heap a La ea pa ta) (Sb : SetN P w s0.heap b Lb eb pb tb) (hu : A.units < cLine)
    (hr : s0.heap.get? r = none) (f : List Str → Bool) (yes no : Bool) (hf : ∀ k, f k = if k ∈ Lb.map (·.2) then yes else no)
    (body : Int × Value → PUnit → Sem (ForInStep PUnit))
    (hbody : ∀ (p : Addr × List Str) (s : Shared) (Q : ForInStep PUnit → Shared → Prop), wpAny (model P w) A (setFind b (.ref p.1) (nh P w p.2)) (fun i s1 => if (if i.isSome = true then yes else no) = true then
        wpAny (model P w) A (setAddHashed r (.ref p.1) (nh P w p.2)) (fun _ s2 => wpAny (model P w) A (setEpoch a) (fun n s3 => n = pa ∧ Q (.yield ⟨⟩) s3) E s2) E s1
        else wpAny (model P w) A (setEpoch a) (fun n s3 => n = pa ∧ Q (.yield ⟨⟩) s3) E s1) E s → wpAny (model P w) A (body (rowN P w p) ⟨⟩) Q E s)
    {Q : PUnit → Shared → Prop} (hQ : ∀ s' M es ep t, Ex s0 s' → SetC P w s'.heap r M es ep t → (∀ p ∈ M, p ∈ La ∧ f p.2 = true) → (∀ p ∈ La, f p.2 = true → p.2 ∈ M.map (·.2)) → Q ⟨⟩ s') :
    ∀ (R M : List (Addr × List Str)) (s : Shared), Ex s0 s → (∃ es ep t, SetC P w s.heap r M es ep t) → Sift La f M R → wpAny (model P w) A (forIn (R.map (rowN P w)) ⟨⟩ body) Q E s := by
  intro R
  induction R with
  | nil =>
    intro M s e hM S
    obtain ⟨es, ep, t, C⟩ := hM
    exact wpAny_pure (hQ s M es ep t e C S.sub fun p hp hfp => (S.all p hp hfp).resolve_right List.not_mem_nil)
  | cons p R ih =>
    intro M s e hM S
    obtain ⟨es, ep, t, C⟩ := hM
    have Sa1 := Sa.ex e
    have Sb1 := Sb.ex e
    have hp : p ∈ La := S.rest p (.head _)
    have hx : IsN P w s.heap p.2 p.1 := Sa1.tup p hp
    have few := Sa.few
    have len := S.len
    rw [List.length_cons] at len
    rw [List.map_cons, List.forIn_cons]
    refine wpAny_bind (hbody p s _ (find_n Sb1 hx hu (fun i q hq hk => ?_) fun nk => ?_))
    all_goals dsimp only
    all_goals
      have ff := hf p.2
    · have inb : p.2 ∈ Lb.map (·.2) := List.mem_map.mpr ⟨q, List.mem_of_getElem? hq, hk⟩
      rw [if_pos inb] at ff
      rw [Option.isSome_some, if_pos rfl]
      cases yes with
      | true =>
        rw [if_pos rfl]
        refine add_n C hx hu (by omega) fun b' h' M' es' ep' t' sb C' c1 c2 => ?_
        have e' := e.put hr sb
        refine (Sa.ex e').epoch ⟨rfl, ?_⟩
        by_cases c : p.2 ∈ M.map (·.2)
        · exact ih M' _ e' ⟨es', ep', t', C'⟩ (by rw [c1 c]; exact S.skip (.inr c))
        · exact ih M' _ e' ⟨es', ep', t', C'⟩ (S.take ff (c2 c))
      | false =>
        rw [if_neg Bool.false_ne_true]
        exact Sa1.epoch ⟨rfl, ih M s e ⟨es, ep, t, C⟩ (S.skip (.inl ff))⟩
    · rw [if_neg nk] at ff
      rw [Option.isSome_none, if_neg Bool.false_ne_true]
      cases no with
      | true =>
        rw [if_pos rfl]
        refine add_n C hx hu (by omega) fun b' h' M' es' ep' t' sb C' c1 c2 => ?_
        have e' := e.put hr sb
        refine (Sa.ex e').epoch ⟨rfl, ?_⟩
        by_cases c : p.2 ∈ M.map (·.2)
        · exact ih M' _ e' ⟨es', ep', t', C'⟩ (by rw [c1 c]; exact S.skip (.inr c))
        · exact ih M' _ e' ⟨es', ep', t', C'⟩ (S.take ff (c2 c))
      | false =>
        rw [if_neg Bool.false_ne_true]
        exact Sa1.epoch ⟨rfl, ih M s e ⟨es, ep, t, C⟩ (S.skip (.inl ff))⟩
end
end AS

set_option Elab.async false
set_option linter.all false
set_option maxRecDepth 100000
set_option maxHeartbeats 4000000
namespace AS
open PySem PySem.Spec PyProof.Rows L2
section
variable {P : Program} {w : World} {A : Around} {E : Value → Shared → Prop} {s : Shared}
variable {a b : Addr} {La Lb : List (Addr × List Str)} {ea eb : Array (Int × Value)} {pa pb : Nat} {ta tb : SetTable}
theorem none_new (s : Shared) : s.heap.get? s.heap.objs.size = none := by
  cases q : s.heap.get? s.heap.objs.size with
  | none => rfl
  | some o => exact absurd (Heap.lt_size q) (Nat.lt_irrefl _)
/-- the sieve's start: a new set, an order drawn -/
theorem sift0 (W M : List (Addr × List Str)) (f : List Str → Bool) (h : M.Perm W) : Sift W f [] M := ⟨fun p hp => (nomatch hp), fun p hp _ => .inr (h.mem_iff.mpr hp), fun p hp => h.mem_iff.mp hp, by rw [h.length_eq]; show 0 + _ ≤ _; omega⟩
theorem inter_n (Sa : SetN P w s.heap a La ea pa ta) (Sb : SetN P w s.heap b Lb eb pb tb) (hne : a ≠ b) (hu : A.units < cLine) (id : String) {Q : Value → Shared → Prop}
    (hQ : ∀ s' M es ep t, Ex s s' → SetC P w s'.heap s.heap.objs.size M es ep t → (∀ p ∈ M, p ∈ La ∨ p ∈ Lb) → (∀ k, k ∈ M.map (·.2) ↔ k ∈ La.map (·.2) ∧ k ∈ Lb.map (·.2)) → Q (.ref s.heap.objs.size) s') :
    wpAny (model P w) A (Builtin.Frozenset.intersection id a (.ref b)) Q E s := by
  have hr := none_new s
  unfold Builtin.Frozenset.intersection
  refine wp_if_neg (by simp [Ne.symm hne]) ?_
  try refine wpAny_bind (wpAny_pure ?_)
  refine wpAny_bind (baseSet Sa.ty (wpAny_bind (newSet_n ?_)))
  have ex1 := Ex.new s (newO w)
  have hr1 : (s.heap.push (newO w)).get? s.heap.objs.size = some (newO w) := Heap.get?_push_size _ rfl
  have C : SetC P w (s.heap.push (newO w)) s.heap.objs.size [] #[] 0 (.fresh 0 0 (!w.params.followText "set-order")) := fresh_n hr1
  generalize hs1 : ({ s with heap := s.heap.push (newO w) } : Shared) = s1 at ex1
  have C1 : SetC P w s1.heap s.heap.objs.size [] #[] 0 (.fresh 0 0 (!w.params.followText "set-order")) := by
    rw [← hs1]
    exact C
  show wpAny _ _ (pure s.heap.objs.size >>= _) _ _ _
  refine wpAny_bind (wpAny_pure ?_)
  refine wpAny_bind (wpAny_holding ?_)
  refine wpAny_bind (isSet (Sb.ex ex1).ty ?_)
  refine wp_if_pos rfl ?_
  show wpAny _ _ (pure b >>= _) _ _ _
  refine wpAny_bind (wpAny_pure ?_)
  refine wpAny_bind ((Sb.ex ex1).sizeOf (wpAny_bind ((Sa.ex ex1).sizeOf ?_)))
  -- one set is walked, the other asked
  have go : ∀ {x y : Addr} {Lx Ly : List (Addr × List Str)} {ex ey : Array (Int × Value)} {px py : Nat} {tx ty : SetTable}, SetN P w s.heap x Lx ex px tx → SetN P w s.heap y Ly ey py ty → (∀ p ∈ Ly, p ∈ La ∨ p ∈ Lb) →
      (∀ k, (k ∈ Ly.map (·.2) ∧ k ∈ Lx.map (·.2)) ↔ (k ∈ La.map (·.2) ∧ k ∈ Lb.map (·.2))) →
      wpAny (model P w) A (setEpoch y >>= fun was => setWalkUnseen y [x, s.heap.objs.size] (some s.heap.objs.size) >>= fun arr => forIn arr PUnit.unit (fun z _ =>
        (holding [z.2] (setFind x z.2 z.1 >>= fun i => if i.isSome = true then setAddHashed s.heap.objs.size z.2 z.1 >>= fun _ => pure () else pure ())) >>= fun _ => Builtin.Frozenset.unchanged id y was >>= fun _ => pure (ForInStep.yield PUnit.unit)) >>= fun _ => pure ())
        (fun _ s' => wpAny (model P w) A (pure (Value.ref s.heap.objs.size)) Q E s') E s1 := by
    intro x y Lx Ly ex ey px py tx ty Sx Sy hin hk
    refine wpAny_bind ((Sy.ex ex1).epoch (wpAny_bind (walk_n (Sy.ex ex1) _ _ fun M d pm => wpAny_bind ?_)))
    rw [← Array.forIn_toList]
    refine sieve (s0 := s) (a := y) (b := x) (r := s.heap.objs.size) Sy Sx hu hr (fun k => decide (k ∈ Lx.map (·.2))) true false (fun k => by by_cases c : k ∈ Lx.map (·.2) <;> simp [c]) _ (fun p s2 Q2 h => ?_) (fun s' M' es ep t e C' h1 h2 => ?_) M [] _ (ex1.drawn d) ⟨_, _, _, C1⟩ (sift0 _ _ _ pm)
    · show wpAny _ _ (holding [Value.ref p.1] (setFind x (.ref p.1) (nh P w p.2) >>= fun i => if i.isSome = true then setAddHashed s.heap.objs.size (.ref p.1) (nh P w p.2) >>= fun _ => pure () else pure ()) >>= fun _ => Builtin.Frozenset.unchanged id y py >>= fun _ => pure (ForInStep.yield PUnit.unit)) _ _ _
      have fin : ∀ s3, wpAny (model P w) A (setEpoch y) (fun n s3 => n = py ∧ Q2 (.yield ⟨⟩) s3) E s3 → wpAny (model P w) A (Builtin.Frozenset.unchanged id y py >>= fun _ => pure (ForInStep.yield PUnit.unit)) Q2 E s3 := fun s3 h3 => by
        unfold Builtin.Frozenset.unchanged
        refine wpAny_bind (wpAny_bind (wpAny_mono h3 (fun n s4 h4 => ?_) fun _ _ e => e))
        refine wp_if_neg (by simp [h4.1]) (wpAny_pure (wpAny_pure h4.2))
      refine wpAny_bind (wpAny_holding (wpAny_bind (wpAny_mono h (fun i s3 hi => ?_) fun _ _ e => e)))
      by_cases c : i.isSome = true
      · rw [if_pos c, if_pos rfl] at hi
        refine wp_if_pos c (wpAny_bind (wpAny_mono hi (fun _ s4 h4 => wpAny_pure (fin s4 h4)) fun _ _ e => e))
      · rw [if_neg c, if_neg Bool.false_ne_true] at hi
        exact wp_if_neg c (wpAny_pure (fin s3 hi))
    · refine wpAny_pure (wpAny_pure (hQ s' M' es ep t e C' (fun p hp => hin p (h1 p hp).1) fun k => ?_))
      rw [← hk k]
      constructor
      · intro hm
        obtain ⟨p, hp, rfl⟩ := List.mem_map.mp hm
        exact ⟨List.mem_map.mpr ⟨p, (h1 p hp).1, rfl⟩, of_decide_eq_true (h1 p hp).2⟩
      · intro hm
        obtain ⟨p, hp, rfl⟩ := List.mem_map.mp hm.1
        exact h2 p hp (decide_eq_true hm.2)
  by_cases c : Lb.length > La.length
  · rw [if_pos c]
    exact go (Sb) (Sa) (fun p hp => .inl hp) (fun k => Iff.rfl)
  · rw [if_neg c]
    exact go (Sa) (Sb) (fun p hp => .inr hp) (fun k => And.comm)
end
end AS

set_option Elab.async false
set_option linter.all false
set_option maxRecDepth 100000
set_option maxHeartbeats 4000000
namespace AS
open PySem PySem.Spec PyProof.Rows L2
def roomB (n : Nat) : Bool := decide (n * 5 < 21) || ((List.elem (SetTable.sizeAbove (n * 2) - 1) [7, 15, 31, 63, 127]) && (decide (SetTable.sizeAbove (n * 2) ≤ 128) && decide (n ≤ SetTable.sizeAbove (n * 2) - 1)))
theorem room_all : ((List.range 64).all roomB) = true := by decide +kernel
theorem room_n {n : Nat} (h : n < 64) (h5 : n * 5 ≥ 21) : MK (SetTable.sizeAbove (n * 2) - 1) ∧ SetTable.sizeAbove (n * 2) ≤ 128 ∧ n ≤ SetTable.sizeAbove (n * 2) - 1 := by
  have z := List.all_eq_true.mp room_all n (List.mem_range.mpr h)
  unfold roomB at z
  rw [decide_eq_false (by omega), Bool.false_or] at z
  obtain ⟨z1, z2⟩ := He.ba z
  obtain ⟨z2, z3⟩ := He.ba z2
  exact ⟨List.elem_iff.mp z1, of_decide_eq_true z2, of_decide_eq_true z3⟩
section
variable {P : Program} {w : World} {A : Around} {E : Value → Shared → Prop} {s : Shared}
variable {a b : Addr} {La Lb : List (Addr × List Str)} {ea eb : Array (Int × Value)} {pa pb : Nat} {ta tb : SetTable}
/-- an empty set is made roomy -/
theorem roomy_n {r : Addr} {er : Array (Int × Value)} {pr : Nat} {tr : SetTable} (S : SetN P w s.heap r [] er pr tr) (hd : tr.dummies = #[]) (hm : tr.mask = 7) {n : Nat} (hn : n < 64) {Q : Unit → Shared → Prop}
    (hQ : ∀ h' es' ep' t', Heap.SameBut r s.heap h' → SetN P w h' r [] es' ep' t' → t'.dummies = #[] → n ≤ t'.mask → Q () { s with heap := h' }) : wpAny (model P w) A (setRoomFor r n) Q E s := by
  obtain ⟨o, ho, hex, hdt⟩ := S.ob
  have sz := S.tab.sz
  have pz : tr.place.size = 0 := sz
  have fl : tr.fill = 0 := by
    show tr.place.size + tr.dummies.size = 0
    rw [pz, hd]
    rfl
  unfold setRoomFor
  refine wpAny_bind (wpAny_setState_of ho hdt S.fits ?_)
  dsimp only
  have rf : tr.roomFor n = if n * 5 ≥ 21 then some (n * 2) else none := by
    unfold SetTable.roomFor
    rw [fl, hm, pz, Nat.zero_add]
  rw [rf]
  by_cases c : n * 5 ≥ 21
  · rw [if_pos c]
    dsimp only
    obtain ⟨m1, m2, m3⟩ := room_n hn c
    refine relay_n ho hex hdt S.rows S.fits S.nd S.tup S.led S.few rfl m1 m2 (Nat.zero_le _) fun h' L' es' ep' t' sb S' dm em pm => ?_
    obtain rfl := List.Perm.eq_nil pm
    exact hQ h' es' ep' t' sb S' dm (by rw [em]; exact m3)
  · rw [if_neg c]
    dsimp only
    have q := hQ s.heap er pr tr (Heap.SameBut.refl r s.heap) S hd (by rw [hm]; omega)
    exact wpAny_pure q
theorem copy_n (Sa : SetN P w s.heap a La ea pa ta) {Q : Value → Shared → Prop}
    (hQ : ∀ s' L es ep t, Ex s s' → SetN P w s'.heap s.heap.objs.size L es ep t → L.Perm La → t.dummies = #[] → Q (.ref s.heap.objs.size) s') : wpAny (model P w) A (Builtin.Frozenset.copyOf a) Q E s := by
  have hr := none_new s
  have na : a ≠ s.heap.objs.size := fun e => by
    obtain ⟨o, ho, _⟩ := Sa.ob
    rw [e, hr] at ho
    cases ho
  unfold Builtin.Frozenset.copyOf
  refine wpAny_bind (baseSet Sa.ty (wpAny_bind (newSet_n ?_)))
  have ex1 := Ex.new s (newO w)
  have hr1 : (s.heap.push (newO w)).get? s.heap.objs.size = some (newO w) := Heap.get?_push_size _ rfl
  have C : SetC P w (s.heap.push (newO w)) s.heap.objs.size [] #[] 0 (.fresh 0 0 (!w.params.followText "set-order")) := fresh_n hr1
  generalize hs1 : ({ s with heap := s.heap.push (newO w) } : Shared) = s1 at ex1
  have C1 : SetN P w s1.heap s.heap.objs.size [] #[] 0 (.fresh 0 0 (!w.params.followText "set-order")) := by
    rw [← hs1]
    exact C.n
  show wpAny _ _ (pure s.heap.objs.size >>= _) _ _ _
  refine wpAny_bind (wpAny_pure (wpAny_bind ?_))
  unfold setMerge
  refine wp_if_neg (by simp [Ne.symm na]) ?_
  try refine wpAny_bind (wpAny_pure ?_)
  obtain ⟨oa, hoa, hea, hda⟩ := (Sa.ex ex1).ob
  refine wpAny_bind (wpAny_setState_of hoa hda (Sa.ex ex1).fits ?_)
  dsimp only
  have sza := Sa.size
  by_cases c0 : ea.isEmpty = true
  · refine wp_if_pos c0 ?_
    have l0 : La = [] := by
      have : ea.size = 0 := by simpa using c0
      exact List.length_eq_zero_iff.mp (by omega)
    refine wpAny_pure (wpAny_pure (hQ s1 [] #[] 0 _ ex1 C1 (by rw [l0]) rfl))
  · refine wp_if_neg c0 ?_
    try refine wpAny_bind (wpAny_pure ?_)
    refine wpAny_bind (roomy_n (s := s1) C1 rfl rfl (n := ea.size) (by rw [sza]; exact Sa.few) fun h' er pr tr sb Sr dm hm => ?_)
    have ex2 := ex1.put hr sb
    obtain ⟨o, ho, hex, hd⟩ := Sr.ob
    have Sa2 := Sa.ex ex2
    refine wpAny_bind (wpAny_setState_of (s := { s1 with heap := h' }) ho hd (Sr.fits (s := { s1 with heap := h' })) ?_)
    dsimp only
    have pz : tr.place.size = 0 := Sr.tab.sz
    have fl : tr.fill = 0 := by
      show tr.place.size + tr.dummies.size = 0
      rw [pz, dm]
      rfl
    have few := Sa.few
    have led2 : w.params.followText "set-order" = true ∨ (tr.led && ta.led) = true := by
      rcases Sa.led with z | z
      · exact .inl z
      · rcases Sr.led with y | y
        · exact .inl y
        · exact .inr (by rw [y, z]; rfl)
    by_cases c1 : (tr.mask == ta.mask && ta.dummies.isEmpty) = true
    · have rd : tr.road ta = .slotForSlot := by
        unfold SetTable.road
        rw [fl, if_neg (by decide), if_pos c1]
      rw [rd]
      dsimp only
      have d0 : ta.dummies = #[] := by
        have := (He.ba c1).2
        simpa using this
      refine wpAny_storeSet_of (s := { s1 with heap := h' }) ho hd ?_ (by rw [sza, sizeLine_eq]; omega)
      have sb2 : Heap.SameBut s.heap.objs.size h' (h'.update s.heap.objs.size (Obj.putSet ea { ta with finger := tr.finger, led := tr.led && ta.led, moves := tr.moves, plain := tr.plain && ta.plain })) := Heap.SameBut.update ..
      have ex3 := ex2.put hr sb2
      refine wpAny_pure (hQ _ La ea _ { ta with finger := tr.finger, led := tr.led && ta.led, moves := tr.moves, plain := tr.plain && ta.plain } ex3 ⟨⟨_, store_at ho hd, ⟨hex.1, hex.2.1, hex.2.2⟩, rfl⟩, Sa.rows, Sa.tab.like rfl rfl rfl, Sa.nd, (Sa.ex ex3).tup, led2, few⟩ (List.Perm.refl _) d0)
    · have rd : tr.road ta = .clean := by
        unfold SetTable.road
        rw [fl, if_neg (by decide), if_neg c1]
      rw [rd]
      dsimp only
      obtain ⟨t', order, e, hp, T, em, el, epl, ed, _⟩ := laidM Sr.tab.km tr.finger tr.moves (tr.led && ta.led) (tr.plain && ta.plain) (hs := ea.map (·.1)) (by rw [Array.size_map]; exact hm)
      rw [Array.size_map, sza] at hp
      obtain ⟨M, r1, r2, r3⟩ := order_n La ea order Sa.rows hp
      rw [← r3] at T
      have sz2 : (order.filterMap (ea[·]?)).size = ea.size := by
        have := congrArg List.length r1
        rw [List.length_map, r2.length_eq] at this
        rw [sza]
        exact this
      rw [e]
      refine wpAny_bind ?_
      show wpAny _ _ (if ((order.filterMap (ea[·]?)).size != ea.size) = true then _ else _) _ _ _
      refine wp_if_neg (by rw [sz2]; simp) ?_
      try refine wpAny_bind (wpAny_pure ?_)
      refine wpAny_pure ?_
      dsimp only
      refine wpAny_storeSet_of (s := { s1 with heap := h' }) ho hd ?_ (by rw [sz2, sza, sizeLine_eq]; omega)
      have sb2 : Heap.SameBut s.heap.objs.size h' (h'.update s.heap.objs.size (Obj.putSet (order.filterMap (ea[·]?)) t')) := Heap.SameBut.update ..
      have ex3 := ex2.put hr sb2
      refine wpAny_pure (hQ _ M _ _ t' ex3 ⟨⟨_, store_at ho hd, ⟨hex.1, hex.2.1, hex.2.2⟩, rfl⟩, r1, T, (r2.map (·.2)).nodup_iff.mpr Sa.nd, fun p hp => (Sa.ex ex3).tup p (r2.mem_iff.mp hp), by rw [el]; exact led2, by rw [r2.length_eq]; exact few⟩ r2 ed)
end
end AS

set_option Elab.async false
set_option linter.all false
set_option maxRecDepth 100000
set_option maxHeartbeats 4000000
namespace AS
open PySem PySem.Spec PyProof.Rows L2
section
variable {P : Program} {w : World} {A : Around} {E : Value → Shared → Prop} {s : Shared}
variable {a b : Addr} {La Lb : List (Addr × List Str)} {ea eb : Array (Int × Value)} {pa pb : Nat} {ta tb : SetTable}
/-- the items of one set are taken out of another one -/
theorem strike {r : Addr} {Lc : List (Addr × List Str)} {s0 : Shared} {m0 n0 : Nat} (Sb : SetN P w s0.heap b Lb eb pb tb) (hu : A.units < cLine) (hr : s0.heap.get? r = none)
    (body : Int × Value → PUnit → Sem (ForInStep PUnit))
    (hbody : ∀ (p : Addr × List Str) (s : Shared) (Q : ForInStep PUnit → Shared → Prop), wpAny (model P w) A (setDiscardHashed r (.ref p.1) (nh P w p.2)) (fun _ s2 => wpAny (model P w) A (setEpoch b) (fun n s3 => n = pb ∧ Q (.yield ⟨⟩) s3) E s2) E s → wpAny (model P w) A (body (rowN P w p) ⟨⟩) Q E s)
    {Q : PUnit → Shared → Prop} (hQ : ∀ s' M es ep t, Ex s0 s' → SetN P w s'.heap r M es ep t → t.mask = m0 → t.dummies.size ≤ n0 → (∀ p ∈ M, p ∈ Lc ∧ p.2 ∉ Lb.map (·.2)) → (∀ p ∈ Lc, p.2 ∉ Lb.map (·.2) → p ∈ M) → Q ⟨⟩ s') :
    ∀ (R M : List (Addr × List Str)) (s : Shared), Ex s0 s → (∃ es ep t, SetN P w s.heap r M es ep t ∧ t.mask = m0 ∧ t.dummies.size + R.length ≤ n0) → (∀ p ∈ R, p ∈ Lb) → (∀ p ∈ M, p ∈ Lc ∧ (p.2 ∈ Lb.map (·.2) → p.2 ∈ R.map (·.2))) → (∀ p ∈ Lc, p.2 ∉ Lb.map (·.2) → p ∈ M) →
      wpAny (model P w) A (forIn (R.map (rowN P w)) ⟨⟩ body) Q E s := by
  intro R
  induction R with
  | nil =>
    intro M s e hM hR h1 h2
    obtain ⟨es, ep, t, C, em, ed⟩ := hM
    exact wpAny_pure (hQ s M es ep t e C em (by simpa using ed) (fun p hp => ⟨(h1 p hp).1, fun z => List.not_mem_nil ((h1 p hp).2 z)⟩) h2)
  | cons p R ih =>
    intro M s e hM hR h1 h2
    obtain ⟨es, ep, t, C, em, ed⟩ := hM
    have hp : p ∈ Lb := hR p (.head _)
    have hx : IsN P w s.heap p.2 p.1 := (Sb.ex e).tup p hp
    rw [List.length_cons] at ed
    rw [List.map_cons, List.forIn_cons]
    refine wpAny_bind (hbody p s _ (discard_n C hx hu fun b' h' M' es' ep' t' sb C' hm _ em' ed' => ?_))
    have e' := e.put hr sb
    refine (Sb.ex e').epoch ⟨rfl, ?_⟩
    refine ih M' _ e' ⟨es', ep', t', C', em'.trans em, by omega⟩ (fun q hq => hR q (.tail _ hq)) (fun q hq => ?_) fun q hq nq => ?_
    · obtain ⟨q1, q2⟩ := (hm q).mp hq
      obtain ⟨q3, q4⟩ := h1 q q1
      refine ⟨q3, fun z => ?_⟩
      have := q4 z
      rw [List.map_cons] at this
      exact (List.mem_cons.mp this).resolve_left q2
    · refine (hm q).mpr ⟨h2 q hq nq, fun z => nq ?_⟩
      rw [z]
      exact List.mem_map.mpr ⟨p, hp, rfl⟩
theorem diff_n (Sa : SetN P w s.heap a La ea pa ta) (Sb : SetN P w s.heap b Lb eb pb tb) (hne : a ≠ b) (hu : A.units < cLine) (id : String) {Q : Value → Shared → Prop}
    (hQ : ∀ s' M es ep t, Ex s s' → SetN P w s'.heap s.heap.objs.size M es ep t → (∀ p ∈ M, p ∈ La) → (∀ k, k ∈ M.map (·.2) ↔ k ∈ La.map (·.2) ∧ k ∉ Lb.map (·.2)) → Q (.ref s.heap.objs.size) s') :
    wpAny (model P w) A (Builtin.Frozenset.difference id a (.ref b)) Q E s := by
  have hr := none_new s
  have nb : b ≠ s.heap.objs.size := fun e => by
    obtain ⟨o, ho, _⟩ := Sb.ob
    rw [e, hr] at ho
    cases ho
  unfold Builtin.Frozenset.difference
  refine wpAny_bind (isSet Sb.ty ?_)
  refine wp_if_neg (by decide) ?_
  try refine wpAny_bind (wpAny_pure ?_)
  refine wp_if_neg (by simp) ?_
  try refine wpAny_bind (wpAny_pure ?_)
  refine wp_if_pos rfl (wpAny_bind (Sb.sizeOf (wpAny_bind (Sa.sizeOf ?_))))
  by_cases big : La.length / 4 > Lb.length
  · -- by a copy
    refine wp_if_pos big (wpAny_bind (wpAny_rule ?_))
    refine wpAny_bind (copy_n Sa fun s1 Lc ec pc tc e1 Sc pm dm => ?_)
    show wpAny _ _ (pure s.heap.objs.size >>= _) _ _ _
    refine wpAny_bind (wpAny_pure (wpAny_bind (wpAny_holding ?_)))
    unfold Builtin.Frozenset.differenceUpdate
    refine wp_if_neg (by simp [nb]) ?_
    try refine wpAny_bind (wpAny_pure ?_)
    refine wpAny_bind (isSet (Sb.ex e1).ty ?_)
    refine wp_if_pos rfl ?_
    show wpAny _ _ (pure b >>= _) _ _ _
    refine wpAny_bind (wpAny_pure ?_)
    have lc := pm.length_eq
    refine wpAny_bind ((Sb.ex e1).sizeOf (wpAny_bind (Sc.sizeOf ?_)))
    refine wp_if_neg (by omega) ?_
    try refine wpAny_bind (wpAny_pure ?_)
    refine wpAny_bind ((Sb.ex e1).epoch ?_)
    refine wpAny_bind (wpAny_holding (wpAny_bind (walk_n (Sb.ex e1) _ _ fun M d pm2 => ?_)))
    rw [← Array.forIn_toList]
    refine wpAny_bind (strike (s0 := s) (r := s.heap.objs.size) (Lc := Lc) (m0 := tc.mask) (n0 := Lb.length) Sb hu hr _ (fun p s2 Q2 h => ?_) (fun s' M' es ep t e C' em ed h1 h2 => ?_) M Lc _ (e1.drawn d) ⟨_, _, _, Sc, rfl, by rw [dm, pm2.length_eq]; show 0 + _ ≤ _; omega⟩ (fun p hp => pm2.mem_iff.mp hp) (fun p hp => ⟨hp, fun z => ((pm2.map (·.2)).mem_iff).mpr z⟩) fun p hp _ => hp)
    · show wpAny _ _ (holding [Value.ref p.1] (setDiscardHashed s.heap.objs.size (.ref p.1) (nh P w p.2)) >>= fun _ => Builtin.Frozenset.unchanged id b pb >>= fun _ => pure (ForInStep.yield PUnit.unit)) _ _ _
      refine wpAny_bind (wpAny_holding (wpAny_mono h (fun _ s3 h3 => ?_) fun _ _ e => e))
      unfold Builtin.Frozenset.unchanged
      refine wpAny_bind (wpAny_bind (wpAny_mono h3 (fun n s4 h4 => ?_) fun _ _ e => e))
      exact wp_if_neg (by simp [h4.1]) (wpAny_pure (wpAny_pure h4.2))
    · refine wpAny_pure ?_
      obtain ⟨o, ho, hex, hd⟩ := C'.ob
      have tidy : wpAny (model P w) A (setTidy s.heap.objs.size) (fun _ s2 => wpAny (model P w) A (pure (Value.ref s.heap.objs.size)) Q E s2) E s' := by
        unfold setTidy
        refine wpAny_bind (wpAny_setState_of ho hd C'.fits ?_)
        dsimp only
        have fl := Sc.tab.fl
        have sz := Sc.tab.sz
        rw [List.length_map] at sz
        refine wp_if_neg (fun z => ?_) (wpAny_pure (wpAny_pure (hQ s' M' es ep t e C' (fun p hp => pm.mem_iff.mp (h1 p hp).1) fun k => ⟨fun hm => ?_, fun hm => ?_⟩)))
        · have z2 : t.dummies.size > t.mask / 4 := of_decide_eq_true z
          rw [em] at z2
          omega
        · obtain ⟨p, hp, rfl⟩ := List.mem_map.mp hm
          exact ⟨List.mem_map.mpr ⟨p, pm.mem_iff.mp (h1 p hp).1, rfl⟩, (h1 p hp).2⟩
        · obtain ⟨p, hp, rfl⟩ := List.mem_map.mp hm.1
          exact List.mem_map.mpr ⟨p, h2 p (pm.mem_iff.mpr hp) hm.2, rfl⟩
      exact tidy
  · refine wp_if_neg big ?_
    try refine wpAny_bind (wpAny_pure ?_)
    refine wpAny_bind (baseSet Sa.ty (wpAny_bind (newSet_n ?_)))
    have ex1 := Ex.new s (newO w)
    have hr1 : (s.heap.push (newO w)).get? s.heap.objs.size = some (newO w) := Heap.get?_push_size _ rfl
    have C : SetC P w (s.heap.push (newO w)) s.heap.objs.size [] #[] 0 (.fresh 0 0 (!w.params.followText "set-order")) := fresh_n hr1
    generalize hs1 : ({ s with heap := s.heap.push (newO w) } : Shared) = s1 at ex1
    have C1 : SetC P w s1.heap s.heap.objs.size [] #[] 0 (.fresh 0 0 (!w.params.followText "set-order")) := by
      rw [← hs1]
      exact C
    show wpAny _ _ (pure s.heap.objs.size >>= _) _ _ _
    refine wpAny_bind (wpAny_pure ?_)
    refine wpAny_bind ((Sa.ex ex1).epoch (wpAny_bind (wpAny_holding ?_)))
    refine wpAny_bind (wp_if_pos rfl (walk_n (Sa.ex ex1) _ _ fun M d pm => wpAny_bind ?_))
    rw [← Array.forIn_toList]
    refine sieve (s0 := s) (a := a) (b := b) (r := s.heap.objs.size) Sa Sb hu hr (fun k => !decide (k ∈ Lb.map (·.2))) false true (fun k => by by_cases c : k ∈ Lb.map (·.2) <;> simp [c]) _ (fun p s2 Q2 h => ?_) (fun s' M' es ep t e C' h1 h2 => ?_) M [] _ (ex1.drawn d) ⟨_, _, _, C1⟩ (sift0 _ _ _ pm)
    · show wpAny _ _ (holding [Value.ref p.1] (setFind b (.ref p.1) (nh P w p.2) >>= fun i => pure i.isSome >>= fun there => if (!there) = true then setAddHashed s.heap.objs.size (.ref p.1) (nh P w p.2) >>= fun _ => pure () else pure ()) >>= fun _ => Builtin.Frozenset.unchanged id a pa >>= fun _ => pure (ForInStep.yield PUnit.unit)) _ _ _
      have fin : ∀ s3, wpAny (model P w) A (setEpoch a) (fun n s3 => n = pa ∧ Q2 (.yield ⟨⟩) s3) E s3 → wpAny (model P w) A (Builtin.Frozenset.unchanged id a pa >>= fun _ => pure (ForInStep.yield PUnit.unit)) Q2 E s3 := fun s3 h3 => by
        unfold Builtin.Frozenset.unchanged
        refine wpAny_bind (wpAny_bind (wpAny_mono h3 (fun n s4 h4 => ?_) fun _ _ e => e))
        exact wp_if_neg (by simp [h4.1]) (wpAny_pure (wpAny_pure h4.2))
      refine wpAny_bind (wpAny_holding (wpAny_bind (wpAny_mono h (fun i s3 hi => ?_) fun _ _ e => e)))
      refine wpAny_bind (wpAny_pure ?_)
      by_cases c : i.isSome = true
      · rw [if_pos c, if_neg Bool.false_ne_true] at hi
        exact wp_if_neg (by rw [c]; decide) (wpAny_pure (fin s3 hi))
      · rw [if_neg c, if_pos rfl] at hi
        exact wp_if_pos (by rw [Bool.not_eq_true] at c; rw [c]; rfl) (wpAny_bind (wpAny_mono hi (fun _ s4 h4 => wpAny_pure (fin s4 h4)) fun _ _ e => e))
    · refine wpAny_pure (wpAny_pure (hQ s' M' es ep t e C'.n (fun p hp => (h1 p hp).1) fun k => ?_))
      constructor
      · intro hm
        obtain ⟨p, hp, rfl⟩ := List.mem_map.mp hm
        obtain ⟨p1, p2⟩ := h1 p hp
        refine ⟨List.mem_map.mpr ⟨p, p1, rfl⟩, fun z => ?_⟩
        rw [decide_eq_true z] at p2
        cases p2
      · intro hm
        obtain ⟨p, hp, rfl⟩ := List.mem_map.mp hm.1
        exact h2 p hp (by rw [decide_eq_false hm.2]; rfl)
end
end AS

set_option Elab.async false
set_option linter.all false
set_option maxRecDepth 100000
set_option maxHeartbeats 4000000
namespace AS
open PySem PySem.Spec PyProof.Rows L2
section
variable {P : Program} {w : World} {A : Around} {E : Value → Shared → Prop} {s : Shared}
theorem SetC.stay {h h' : Heap} {a : Addr} {L : List (Addr × List Str)} {es : Array (Int × Value)} {ep : Nat} {t : SetTable} (S : SetC P w h a L es ep t) (ha : ∀ o, h.get? a = some o → h'.get? a = some o) (ht : ∀ p ∈ L, IsN P w h' p.2 p.1) : SetC P w h' a L es ep t := by
  obtain ⟨o, ho, r⟩ := S.n.ob
  exact ⟨⟨⟨o, ha o ho, r⟩, S.n.rows, S.n.tab, S.n.nd, ht, S.n.led, S.n.few⟩, S.ok, S.room⟩
abbrev yesS (_ : List Str) : Bool := true
/-- the loop behind set(xs): i items are in -/
theorem feed {I Z : Addr} {fp wr : List Addr} {G : Array GenState → Array GenState → Prop} {n : Nat} {Pv : Nat → Value → Prop} {St : Nat → Shared → Prop} {R : Result → Shared → Prop} (W : WalksS P w A.in1 I fp wr G n Pv St) (hZ : Z ∉ fp)
    {ks : List (Addr × List Str)} (hn : n = ks.length) (few : ks.length < 64) (hv : ∀ i v, Pv i v → ∃ p, ks[i]? = some p ∧ v = .ref p.1) {g : Heap} (hg : ∀ p ∈ ks, IsN P w g p.2 p.1) (gZ : g.get? Z = none) (gw : ∀ c ∈ wr, g.get? c = none) (hu : A.in1.units < cLine) :
    ∀ (left i : Nat) (s : Shared), n - i = left → i ≤ n → St i s → (∀ c o, g.get? c = some o → s.heap.get? c = some o) → (∃ M es ep t, SetC P w s.heap Z M es ep t ∧ Sift ks yesS M (ks.drop i)) →
      (∀ s' M es ep t, Moved (Z :: wr) G s s' → SetC P w s'.heap Z M es ep t → Sift ks yesS M [] → (∀ c o, g.get? c = some o → s'.heap.get? c = some o) → R (.ok (.ret .none)) s') →
      codeAny (model P w) A (.builtin "set.update.loop" ⟨[.ref Z, .ref I], []⟩) R s := by
  have Zw : Z ∉ wr := fun z => hZ (W.sub _ z)
  have up : ∀ c ∈ wr, c ∈ Z :: wr := fun c z => .tail _ z
  have carry : ∀ {u v : Shared}, Moved wr G u v → (∀ c o, g.get? c = some o → u.heap.get? c = some o) → ∀ c o, g.get? c = some o → v.heap.get? c = some o := fun {u v} m k c o e => by
    refine m.heap c o (fun z => ?_) (k c o e)
    rw [gw c z] at e
    cases e
  intro left
  induction left with
  | zero =>
    intro i s hl hi hst hk hM fin
    obtain ⟨M, es, ep, t, C, B⟩ := hM
    obtain rfl : i = n := by omega
    refine codeAny_builtin F.entry_set_update_loop ?_
    rw [Around.under_plainId F.plain_set_update_loop _]
    show wpAny _ A.in1 (pyNext (.ref I) >>= _) _ _ s
    refine wpAny_bind (W.done s _ _ hst fun s' m => ?_)
    have k' := carry m hk
    have D : Sift ks yesS M [] := by
      rw [hn, List.drop_length] at B
      exact B
    exact wpAny_pure (fin s' M es ep t (m.mono up) (C.stay (fun o e => m.heap Z o Zw e) fun p hp => isN_keep (hg p (D.sub p hp).1) k') D k')
  | succ left ih =>
    intro i s hl hi hst hk hM fin
    obtain ⟨M, es, ep, t, C, B⟩ := hM
    have lt : i < n := by omega
    refine codeAny_builtin F.entry_set_update_loop ?_
    rw [Around.under_plainId F.plain_set_update_loop _]
    show wpAny _ A.in1 (pyNext (.ref I) >>= _) _ _ s
    refine wpAny_bind (W.item i s _ _ lt hst fun v s' hP hst' m => ?_)
    obtain ⟨p, hp, rfl⟩ := hv i v hP
    have k' := carry m hk
    have C' : SetC P w s'.heap Z M es ep t := C.stay (fun o e => m.heap Z o Zw e) fun q hq => isN_keep (hg q (B.sub q hq).1) k'
    have hx : IsN P w s'.heap p.2 p.1 := isN_keep (hg p (List.mem_of_getElem? hp)) k'
    have dr : ks.drop i = p :: ks.drop (i + 1) := by
      have hi2 : i < ks.length := (List.getElem?_eq_some_iff.mp hp).1
      rw [List.drop_eq_getElem_cons hi2]
      congr 1
      rw [List.getElem?_eq_getElem hi2] at hp
      exact Option.some.inj hp
    rw [dr] at B
    have fl := B.len
    rw [List.length_cons] at fl
    show wpAny _ A.in1 (holding [Value.ref p.1] (setAdd Z (.ref p.1)) >>= _) _ _ s'
    unfold setAdd
    refine wpAny_bind (wpAny_holding (wpAny_holding (wpAny_bind (wpAny_pyHash_tuple hu hx ?_))))
    refine add_n (s := { s' with toks := s'.toks + (p.2.length + 1) }) C' hx hu (by omega) fun y h' M' es' ep' t' sb C2 c1 c2 => ?_
    have k2 : ∀ c o, g.get? c = some o → h'.get? c = some o := fun c o e => by
      have ne : c ≠ Z := fun z => by
        rw [z, gZ] at e
        cases e
      exact (sb.2 c ne).trans (k' c o e)
    have F2 : Sift ks yesS M' (ks.drop (i + 1)) := by
      by_cases c : p.2 ∈ M.map (·.2)
      · rw [c1 c]
        exact B.skip (.inr c)
      · exact B.take rfl (c2 c)
    have hst2 : St (i + 1) { s' with heap := h', toks := s'.toks + (p.2.length + 1) } := W.frame _ s' _ _ hst' (Nat.le_add_right _ _) fun c hc o e => by
      have ne : c ≠ Z := fun z => hZ (z ▸ hc)
      exact (sb.2 c ne).trans e
    refine wpAny_pure ⟨plainId_quiet F.plain_set_update_loop _, ih (i + 1) _ (by omega) lt hst2 k2 ⟨M', es', ep', t', C2, F2⟩ fun s2 M2 es2 ep2 t2 m2 C3 F3 k3 => ?_⟩
    refine fin s2 M2 es2 ep2 t2 (Moved.trans W.gtrans ((m.mono up).then_heap (Nat.le_add_right _ _) fun c o hc e => ?_) m2) C3 F3 k3
    have ne : c ≠ Z := fun z => hc (by rw [z]; exact .head _)
    exact (sb.2 c ne).trans e
end
end AS

set_option Elab.async false
set_option linter.all false
set_option maxRecDepth 100000
set_option maxHeartbeats 8000000
namespace AS
open PySem PySem.Spec PyProof.Rows L2
section
variable {P : Program} {w : World} {A : Around} {E : Value → Shared → Prop} {s : Shared}
/-- set(xs), xs a list of tuples of texts -/
theorem call_set_n {l : Addr} {items : Array Value} (ks : List (Addr × List Str)) {Q : Value → Shared → Prop} (hh : A.handled = none) (hl : s.heap.IsList l items) (hi : items.toList = ks.map fun p => Value.ref p.1) (hk : ∀ p ∈ ks, IsN P w s.heap p.2 p.1) (few : ks.length < 64) (hu : A.units + 3 < cLine)
    (q : ∀ (h' : Heap) (tk : Nat) M es ep t, SetC P w h' s.heap.objs.size M es ep t → Sift ks yesS M [] → (∀ c o, s.heap.get? c = some o → h'.get? c = some o) → Q (.ref s.heap.objs.size) { s with heap := h', toks := tk }) : wpAny (model P w) A (call (.type "set") [.ref l]) Q E s := by
  have zs : items.size = ks.length := by
    have z := congrArg List.length hi
    rw [List.length_map] at z; exact z
  obtain ⟨c, tl, mro0⟩ := F.called_set.mro; have made0 := F.called_set.made; have sub0 := F.called_set.sub
  refine wpAny_call (codeAny_of_tree (show wpAny _ _ (callAny (.type "set") _) _ _ _ from ?_))
  refine wpAny_pure ⟨Code.quiet_builtin _ (by decide +kernel), codeAny_builtin F.entry_type_call ?_⟩; rw [Around.under_plain (weight_type_call_type "set" [.ref l] []) rfl]
  have t1 := F.called_set.notType; have t2 := F.called_set.canCreate; have t3 := F.typeCall_set_1 (.ref l)
  repeat (any_goals (first | assumption | wp_step))
  refine codeAny_mono (code_set_led1 (.ref l) (E := E) (Q₁ := fun v s₁ => v = .ref s.heap.objs.size ∧ s₁ = { s with heap := s.heap.push (newO w) }) ⟨rfl, rfl⟩) fun r s₁ hr => ?_
  cases r with
  | error e => exact hr
  | ok fl =>
    cases fl with
    | ret v =>
      obtain ⟨rfl, rfl⟩ := hr
      have new0 : (s.heap.push (newO w)).get? s.heap.objs.size = some (newO w) := Heap.get?_push_size _ rfl
      have ty0 : Shared.TypeIs { s with heap := s.heap.push (newO w) } (.ref s.heap.objs.size) "set" := ⟨_, new0, rfl⟩
      have look0 := F.called_set.init.lookup; have bind0 := F.called_set.init.bind (.ref s.heap.objs.size)
      repeat (any_goals (first | assumption | wp_step))
      refine codeAny_mono (codeAny_call_builtin (R := wants (fun r s₂ => r = .none ∧ ∃ h' tk M es ep t, s₂ = { s with heap := h', toks := tk } ∧ SetC P w h' s.heap.objs.size M es ep t ∧ Sift ks yesS M [] ∧ (∀ c o, s.heap.get? c = some o → h'.get? c = some o)) E) F.called_set.init.plain F.entry_set_init (check_set_init_1 ty0 ?_)) fun r₂ s₂ hr₂ => ?_
      · obtain ⟨⟨c0, d0, dt0, sl0⟩, ho0, hc0, n0, hd0⟩ := hl
        dsimp only at hc0 hd0; subst hc0; subst hd0
        have ho1 : (s.heap.push (newO w)).get? l = some { cls := .type "list", dict := d0, data := .seq items n0, slots := sl0 } := Heap.get?_push_of_some _ ho0
        have sls0 := F.sub_list_set; have slf0 := F.sub_list_frozenset
        have ne0 : (Value.type "list" == Value.type "dict") = false := by decide
        have hl1 : (s.heap.push (newO w)).IsList l items := ⟨_, ho1, rfl, n0, rfl⟩
        unfold Builtin.«set.__init__» noKeywords Builtin.Frozenset.updateFrom; generalize hPI : pyIter = PI
        wp_walk
        subst hPI
        refine wpAny_pyIter_list hl1 (wpAny_bind (wpAny_runValue ?_))
        have lt0 : l < s.heap.objs.size := Heap.lt_size ho0
        have hh3 : A.in1.in1.in1.handled = none := by simp [hh]
        have z1 : (s.heap.push (newO w)).objs.size = s.heap.objs.size + 1 := Heap.size_push ..
        have neI : l ≠ (s.heap.push (newO w)).objs.size := fun z => absurd lt0 (by rw [z, z1]; exact Nat.not_lt.mpr (Nat.le_succ _))
        have notin : s.heap.objs.size ∉ [(s.heap.push (newO w)).objs.size, l] := fun z => by
          rcases List.mem_cons.mp z with y | y
          · exact absurd y (by rw [z1]; exact Nat.ne_of_lt (Nat.lt_succ_self _))
          · exact absurd (List.mem_singleton.mp y).symm (Nat.ne_of_lt lt0)
        have hv : ∀ (i : Nat) (v : Value), items[i]? = some v → ∃ p, ks[i]? = some p ∧ v = .ref p.1 := fun i v e => by
          rw [← Array.getElem?_toList, hi, List.getElem?_map] at e
          obtain ⟨p, e1, e2⟩ := Option.map_eq_some_iff.mp e
          exact ⟨p, e1, e2.symm⟩
        have above : ∀ c, s.heap.objs.size ≤ c → s.heap.get? c = none := fun c hc => by
          cases z : s.heap.get? c with
          | none => rfl
          | some o => exact absurd (Heap.lt_size z) (Nat.not_lt.mpr hc)
        refine feed ((Walks.list hh3 _ l neI items).toS) notin zs few hv (g := s.heap) hk (above _ (Nat.le_refl _)) (fun c hc => above c (by rw [List.mem_singleton.mp hc, z1]; exact Nat.le_succ _)) hu (items.size - 0) 0 _ (by omega) (Nat.zero_le _) ⟨⟨_, Heap.get?_push_size _ rfl, rfl, rfl⟩, (hl1.push _)⟩ (fun c o e => Heap.get?_push_of_some _ (Heap.get?_push_of_some _ e)) ?start ?fin
        case start =>
          have at0 : ((s.heap.push (newO w)).push { cls := .type "list_iterator", data := .fields #[.ref l, .int 0 0] }).get? s.heap.objs.size = some (newO w) := Heap.get?_push_of_some _ new0
          exact ⟨[], #[], 0, _, fresh_n at0, sift0 ks ks _ (List.Perm.refl _)⟩
        case fin =>
          intro s' M es ep t m C B kp
          obtain ⟨h', g2, d', tk', os'⟩ := s'
          have e1 : g2 = s.gens := m.gens; have e2 : d' = s.drawn := m.drawn; have e3 : os' = s.os := m.os
          subst e1 e2 e3
          show wpAny _ _ _ _ _ _
          refine wpAny_pure (show wpAny _ _ (ret Value.none) _ _ _ from wpAny_pure ⟨rfl, h', tk', M, es, ep, t, rfl, C, B, kp⟩)
      · cases r₂ with
        | error e => exact hr₂
        | ok fl₂ =>
          cases fl₂ with
          | ret r =>
            obtain ⟨rfl, h', tk, M, es, ep, t, rfl, C, B, kp⟩ := hr₂
            repeat (any_goals (first | assumption | wp_step))
            exact q _ _ _ _ _ _ C B kp
          | _ => exact hr₂.elim
    | _ => exact hr.elim
end
end AS

set_option Elab.async false
set_option linter.all false
set_option maxRecDepth 100000
set_option maxHeartbeats 8000000
namespace AS
open PySem PySem.Spec PyProof.Rows L2
theorem ent_sub : entryFor table "set.__sub__" = some Builtin.«frozenset.__sub__» := entryFor_alias (id' := "frozenset.__sub__") (by kernel_rfl) rfl (by decide +kernel) (by kernel_rfl)
theorem ent_and : entryFor table "set.__and__" = some Builtin.«frozenset.__and__» := entryFor_alias (id' := "frozenset.__and__") (by kernel_rfl) rfl (by decide +kernel) (by kernel_rfl)
section
variable {P : Program} {w : World} {A : Around} {E : Value → Shared → Prop} {s : Shared}
variable {a b : Addr} {La Lb : List (Addr × List Str)} {ea eb : Array (Int × Value)} {pa pb : Nat} {ta tb : SetTable}
theorem sub_n (Sa : SetN P w s.heap a La ea pa ta) (Sb : SetN P w s.heap b Lb eb pb tb) (hne : a ≠ b) (hu : A.units + 8 < cLine) {Q : Value → Shared → Prop}
    (hQ : ∀ s' M es ep t, Ex s s' → SetN P w s'.heap s.heap.objs.size M es ep t → (∀ p ∈ M, p ∈ La) → (∀ k, k ∈ M.map (·.2) ↔ k ∈ La.map (·.2) ∧ k ∉ Lb.map (·.2)) → Q (.ref s.heap.objs.size) s') :
    wpAny (model P w) A (binaryOp .Sub (.ref a) (.ref b)) Q E s := by
  refine wpAny_binaryOp_same (T := "set") Sa.ty Sb.ty F.fills_set_sub F.slot_set_sub ?_
  refine wpAny_call_entry F.slot_set_sub Sa.ty ent_sub ?_ (F.args_set_sub_2 _ _)
  show wpAny _ _ (Builtin.Frozenset.slot1 "__sub__" ⟨[.ref a, .ref b], []⟩ >>= fun so => (Builtin.Frozenset.isAnySet so.1 <&&> Builtin.Frozenset.isAnySet so.2) >>= fun y => if (!y) = true then _ else Builtin.Frozenset.addrOf so.1 >>= fun l => Builtin.Frozenset.difference "frozenset.__sub__" l so.2 >>= fun v => ret v) _ _ _
  unfold Builtin.Frozenset.slot1 slotArgs
  simp only [List.isEmpty_nil, Bool.not_true, Bool.false_eq_true, ↓reduceIte, bind_assoc, List.length_cons, List.length_nil]
  refine wpAny_bind (wp_if_neg (by decide) (wpAny_pure (wpAny_bind (wpAny_pure ?_))))
  refine wpAny_bind ?_
  unfold andM
  refine wpAny_bind (isSet Sa.ty (isSet Sb.ty ?_))
  refine wp_if_neg (by decide) ?_
  show wpAny _ _ (pure a >>= _) _ _ _
  have h1 : A.in1.units < cLine := Nat.lt_of_le_of_lt (show A.in1.units ≤ A.units + 8 by show A.units + _ ≤ A.units + 8; omega) hu
  refine wpAny_bind (wpAny_pure (wpAny_bind (diff_n Sa Sb hne h1 _ fun s' M es ep t e S g1 g2 => ?_)))
  exact wpAny_pure ⟨_, rfl, (fun z => nomatch z), hQ s' M es ep t e S g1 g2⟩
theorem and_n (Sa : SetN P w s.heap a La ea pa ta) (Sb : SetN P w s.heap b Lb eb pb tb) (hne : a ≠ b) (hu : A.units + 8 < cLine) {Q : Value → Shared → Prop}
    (hQ : ∀ s' M es ep t, Ex s s' → SetN P w s'.heap s.heap.objs.size M es ep t → (∀ p ∈ M, p ∈ La ∨ p ∈ Lb) → (∀ k, k ∈ M.map (·.2) ↔ k ∈ La.map (·.2) ∧ k ∈ Lb.map (·.2)) → Q (.ref s.heap.objs.size) s') :
    wpAny (model P w) A (binaryOp .BitAnd (.ref a) (.ref b)) Q E s := by
  refine wpAny_binaryOp_same (T := "set") Sa.ty Sb.ty F.fills_set_and F.slot_set_and ?_
  refine wpAny_call_entry F.slot_set_and Sa.ty ent_and ?_ (F.args_set_and_2 _ _)
  show wpAny _ _ (Builtin.Frozenset.slot1 "__and__" ⟨[.ref a, .ref b], []⟩ >>= fun so => (Builtin.Frozenset.isAnySet so.1 <&&> Builtin.Frozenset.isAnySet so.2) >>= fun y => if (!y) = true then _ else Builtin.Frozenset.addrOf so.1 >>= fun l => Builtin.Frozenset.intersection "frozenset.__and__" l so.2 >>= fun v => ret v) _ _ _
  unfold Builtin.Frozenset.slot1 slotArgs
  simp only [List.isEmpty_nil, Bool.not_true, Bool.false_eq_true, ↓reduceIte, bind_assoc, List.length_cons, List.length_nil]
  refine wpAny_bind (wp_if_neg (by decide) (wpAny_pure (wpAny_bind (wpAny_pure ?_))))
  refine wpAny_bind ?_
  unfold andM
  refine wpAny_bind (isSet Sa.ty (isSet Sb.ty ?_))
  refine wp_if_neg (by decide) ?_
  show wpAny _ _ (pure a >>= _) _ _ _
  have h1 : A.in1.units < cLine := Nat.lt_of_le_of_lt (show A.in1.units ≤ A.units + 8 by show A.units + _ ≤ A.units + 8; omega) hu
  refine wpAny_bind (wpAny_pure (wpAny_bind (inter_n Sa Sb hne h1 _ fun s' M es ep t e S g1 g2 => ?_)))
  exact wpAny_pure ⟨_, rfl, (fun z => nomatch z), hQ s' M es ep t e S.n g1 g2⟩
end
end AS

set_option Elab.async false
set_option linter.all false
set_option maxRecDepth 100000
set_option maxHeartbeats 2000000
namespace AS
open PySem PySem.Spec PyProof.Rows L2
/-! ### order of tuples, lists and texts, told of the data -/
def rOrdD (K : PySem.W.Frag) (f : PyData → PyData → Bool) : R2 := fun x y H Q => ∃ d e, Dp K H x d ∧ Dp K H y e ∧ PySem.W.alike d e = true ∧ d ≠ .none ∧ min d.depth e.depth ≤ 16 ∧ Q (.bl (f d e)) H
section
variable {X : Cx}
theorem op_gtD (hu : X.A.units + 64 < cLine) : OpR X (compareOp .Gt) (rOrdD X.K fun d e => PySem.W.dataLt e d) := by
  intro pins s σ H x y v u Q I rx ry h
  obtain ⟨d, e, hd, he, ha, hn, hr, q⟩ := h
  obtain ⟨as, r1⟩ := Dp.reads I d x v hd rx
  obtain ⟨bs, r2⟩ := Dp.reads I e y u he ry
  exact PySem.W.gt_data r1 r2 ha hn (by omega) ⟨.bl _, H, I, rfl, q⟩
theorem op_ltD (hu : X.A.units + 64 < cLine) : OpR X (compareOp .Lt) (rOrdD X.K fun d e => PySem.W.dataLt d e) := by
  intro pins s σ H x y v u Q I rx ry h
  obtain ⟨d, e, hd, he, ha, hn, hr, q⟩ := h
  obtain ⟨as, r1⟩ := Dp.reads I d x v hd rx
  obtain ⟨bs, r2⟩ := Dp.reads I e y u he ry
  exact PySem.W.lt_data r1 r2 ha hn (by omega) ⟨.bl _, H, I, rfl, q⟩
theorem op_leD (hu : X.A.units + 64 < cLine) : OpR X (compareOp .LtE) (rOrdD X.K fun d e => !PySem.W.dataLt e d) := by
  intro pins s σ H x y v u Q I rx ry h
  obtain ⟨d, e, hd, he, ha, hn, hr, q⟩ := h
  obtain ⟨as, r1⟩ := Dp.reads I d x v hd rx
  obtain ⟨bs, r2⟩ := Dp.reads I e y u he ry
  exact PySem.W.le_data r1 r2 ha hn (by omega) ⟨.bl _, H, I, rfl, q⟩
theorem op_geD (hu : X.A.units + 64 < cLine) : OpR X (compareOp .GtE) (rOrdD X.K fun d e => !PySem.W.dataLt d e) := by
  intro pins s σ H x y v u Q I rx ry h
  obtain ⟨d, e, hd, he, ha, hn, hr, q⟩ := h
  obtain ⟨as, r1⟩ := Dp.reads I d x v hd rx
  obtain ⟨bs, r2⟩ := Dp.reads I e y u he ry
  exact PySem.W.ge_data r1 r2 ha hn (by omega) ⟨.bl _, H, I, rfl, q⟩
end
/-! ### equality and membership, told of the data: nothing is asked of texts -/
def rEqP (K : PySem.W.Frag) (neg : Bool) : R2 := fun x y H Q => ∃ d e, Dp K H x d ∧ Dp K H y e ∧ d.plain = true ∧ e.plain = true ∧ min d.depth e.depth ≤ 16 ∧ Q (.bl (if neg then !PyData.eqv d e else PyData.eqv d e)) H
def rInP (K : PySem.W.Frag) (neg : Bool) : R2 := fun x y H Q => ∃ d es, Dp K H x d ∧ Dp K H y (.list es) ∧ d.plain = true ∧ PyData.plainAll es = true ∧ d.depth ≤ 16 ∧ Q (.bl (if neg then !(es.any fun z => PyData.eqv z d) else es.any fun z => PyData.eqv z d)) H
section
variable {X : Cx}
theorem op_eqP (hu : X.A.units + 64 < cLine) : OpR X (compareOp .Eq) (rEqP X.K false) := by
  intro pins s σ H x y v u Q I rx ry h
  obtain ⟨d, e, hd, he, pd, pe, hr, q⟩ := h
  obtain ⟨as, r1⟩ := Dp.reads I d x v hd rx
  obtain ⟨bs, r2⟩ := Dp.reads I e y u he ry
  exact PySem.SeqAt.eq_plain r1 r2 pd pe (by omega) ⟨.bl _, H, I, rfl, q⟩
theorem op_neP (hu : X.A.units + 64 < cLine) : OpR X (compareOp .NotEq) (rEqP X.K true) := by
  intro pins s σ H x y v u Q I rx ry h
  obtain ⟨d, e, hd, he, pd, pe, hr, q⟩ := h
  obtain ⟨as, r1⟩ := Dp.reads I d x v hd rx
  obtain ⟨bs, r2⟩ := Dp.reads I e y u he ry
  exact PySem.SeqAt.ne_plain r1 r2 pd pe (by omega) ⟨.bl _, H, I, rfl, q⟩
theorem op_inP (hu : X.A.units + 64 < cLine) : OpR X (compareOp .In) (rInP X.K false) := by
  intro pins s σ H x y v u Q I rx ry h
  obtain ⟨d, es, hd, he, pd, pe, hr, q⟩ := h
  obtain ⟨as, r1⟩ := Dp.reads I d x v hd rx
  obtain ⟨bs, r2⟩ := Dp.reads I (.list es) y u he ry
  exact PySem.SeqAt.in_list_data r2 r1 pe pd (by omega) ⟨.bl _, H, I, rfl, q⟩
theorem op_notInP (hu : X.A.units + 64 < cLine) : OpR X (compareOp .NotIn) (rInP X.K true) := by
  intro pins s σ H x y v u Q I rx ry h
  obtain ⟨d, es, hd, he, pd, pe, hr, q⟩ := h
  obtain ⟨as, r1⟩ := Dp.reads I d x v hd rx
  obtain ⟨bs, r2⟩ := Dp.reads I (.list es) y u he ry
  exact PySem.SeqAt.notIn_list_data r2 r1 pe pd (by omega) ⟨.bl _, H, I, rfl, q⟩
end
/-! ### tuples of texts -/
def strsD (zs : List Str) : PyData := .tuple (zs.map PyData.str)
theorem dp_strs (K : PySem.W.Frag) (H : Hp) : ∀ zs : List Str, DpAll K H (zs.map V.str) (zs.map PyData.str)
  | [] => .nil
  | z :: r => .cons (.str z) (dp_strs K H r)
theorem Sm.dp {K : PySem.W.Frag} {H H' : Hp} (e : Sm H H') {v : V} {d : PyData} (h : Dp K H v d) : Dp K H' v d := by
  refine Dp.rec (motive_1 := fun v d _ => Dp K H' v d) (motive_2 := fun vs ds _ => DpAll K H' vs ds) .non (fun b => .bl b) (fun i => .int i) (fun x => .str x) (fun hs _ ih => .lst (e.seq hs) ih) (fun hs _ ih => .tup (e.seqT hs) ih) .nil (fun _ _ h1 h2 => .cons h1 h2) h
theorem dp_tup {K : PySem.W.Frag} {H : Hp} {a : Addr} {zs : List Str} (h : H a = some (.tup (zs.map V.str))) : Dp K H (.ref a) (strsD zs) := .tup (.inl (.inl h)) (dp_strs K H zs)
theorem strs_plainAll : ∀ zs : List Str, PyData.plainAll (zs.map PyData.str) = true
  | [] => rfl
  | _ :: r => strs_plainAll r
theorem strs_depthAll : ∀ zs : List Str, PyData.depthAll (zs.map PyData.str) = 0
  | [] => rfl
  | _ :: r => by simp [PyData.depthAll, PyData.depth, strs_depthAll r]
theorem strs_eqv : ∀ xs ys : List Str, PyData.eqvAll (xs.map PyData.str) (ys.map PyData.str) = decide (xs = ys)
  | [], [] => by simp [PyData.eqvAll]
  | [], _ :: _ => by simp [PyData.eqvAll]
  | _ :: _, [] => by simp [PyData.eqvAll]
  | a :: r, b :: t => by
    simp only [List.map_cons, PyData.eqvAll, PyData.eqv, strs_eqv r t]
    by_cases h : a = b <;> by_cases h' : r = t <;> simp [h, h']
theorem strs_alike : ∀ xs ys : List Str, PySem.W.alikeAll (xs.map PyData.str) (ys.map PyData.str) = true
  | [], _ => by simp [PySem.W.alikeAll]
  | _ :: _, [] => by simp [PySem.W.alikeAll]
  | a :: r, b :: t => by
    simp only [List.map_cons, PySem.W.alikeAll, PySem.W.alike, Bool.true_and]
    exact strs_alike r t
/-! ### triples of texts: relationships, grants -/
structure Gr where
  t : Str
  n : Str
  s : Str
deriving DecidableEq
def Gr.zs (g : Gr) : List Str := [g.t, g.n, g.s]
def Gr.v (g : Gr) : List V := [.str g.t, .str g.n, .str g.s]
def Gr.d (g : Gr) : PyData := strsD g.zs
theorem Gr.zs_inj {g h : Gr} (e : g.zs = h.zs) : g = h := by
  cases g
  cases h
  simp only [Gr.zs, List.cons.injEq, and_true] at e
  obtain ⟨rfl, rfl, rfl⟩ := e
  rfl
theorem Gr.eqv (g h : Gr) : PyData.eqv g.d h.d = decide (g = h) := by
  show PyData.eqvAll (g.zs.map PyData.str) (h.zs.map PyData.str) = _
  rw [strs_eqv]
  exact decide_eq_decide.mpr ⟨Gr.zs_inj, fun e => by rw [e]⟩
theorem Gr.plain (g : Gr) : g.d.plain = true := rfl
theorem Gr.depth (g : Gr) : g.d.depth ≤ 1 := by
  show 1 + PyData.depthAll (g.zs.map PyData.str) ≤ 1
  rw [strs_depthAll]
  decide
theorem Gr.alike (g h : Gr) : PySem.W.alike g.d h.d = true := strs_alike g.zs h.zs
def ltG (g h : Gr) : Bool := PySem.W.dataLt g.d h.d
/-- a list of triples -/
def GRows (H : Hp) : List Addr → List Gr → Prop
  | [], [] => True
  | a :: as, g :: gs => H a = some (.tup g.v) ∧ GRows H as gs
  | _, _ => False
theorem GRows.sm {H H' : Hp} (e : Sm H H') : ∀ {as : List Addr} {gs : List Gr}, GRows H as gs → GRows H' as gs
  | [], [], _ => trivial
  | _ :: _, _ :: _, h => ⟨e.tup h.1, GRows.sm e h.2⟩
  | [], _ :: _, h => h.elim
  | _ :: _, [], h => h.elim
theorem GRows.len {H : Hp} : ∀ {as : List Addr} {gs : List Gr}, GRows H as gs → as.length = gs.length
  | [], [], _ => rfl
  | _ :: _, _ :: _, h => congrArg Nat.succ (GRows.len h.2)
  | [], _ :: _, h => h.elim
  | _ :: _, [], h => h.elim
theorem GRows.get {H : Hp} : ∀ {as : List Addr} {gs : List Gr} {i : Nat} {g : Gr}, GRows H as gs → gs[i]? = some g → ∃ a, as[i]? = some a ∧ H a = some (.tup g.v)
  | a :: _, s :: _, 0, g, h, e => by
    have e2 : s = g := Option.some.inj e
    rw [← e2]
    exact ⟨a, rfl, h.1⟩
  | _ :: as, _ :: gs, i + 1, g, h, e => GRows.get (i := i) h.2 e
  | [], [], _, _, _, e => by cases e
  | [], _ :: _, _, _, h, _ => h.elim
  | _ :: _, [], _, _, h, _ => h.elim
theorem GRows.snoc {H : Hp} {a : Addr} {g : Gr} (e : H a = some (.tup g.v)) : ∀ {as : List Addr} {gs : List Gr}, GRows H as gs → GRows H (as ++ [a]) (gs ++ [g])
  | [], [], _ => ⟨e, trivial⟩
  | _ :: _, _ :: _, h => ⟨h.1, GRows.snoc e h.2⟩
  | [], _ :: _, h => h.elim
  | _ :: _, [], h => h.elim
theorem GRows.other {H : Hp} {o : Addr} {h : HO} : ∀ {bs : List Addr} {gs : List Gr}, GRows H bs gs → (∃ xs, H o = some (.lst xs)) → GRows (upd H o h) bs gs
  | [], [], _, _ => trivial
  | b :: _, r :: _, hR, ho => by
    obtain ⟨xs, ho⟩ := ho
    refine ⟨?_, GRows.other hR.2 ⟨xs, ho⟩⟩
    have nb : b ≠ o := fun e => by
      have h1 := hR.1
      rw [e, ho] at h1
      cases h1
    rw [upd_ne nb]
    exact hR.1
  | [], _ :: _, hR, _ => hR.elim
  | _ :: _, [], hR, _ => hR.elim
theorem dp_gr {K : PySem.W.Frag} {H : Hp} {a : Addr} {g : Gr} (h : H a = some (.tup g.v)) : Dp K H (.ref a) g.d := dp_tup (zs := g.zs) h
theorem GRows.dp {K : PySem.W.Frag} {H : Hp} : ∀ {as : List Addr} {gs : List Gr}, GRows H as gs → DpAll K H (as.map V.ref) (gs.map Gr.d)
  | [], [], _ => .nil
  | _ :: _, _ :: _, h => .cons (dp_gr h.1) (GRows.dp h.2)
  | [], _ :: _, h => h.elim
  | _ :: _, [], h => h.elim
theorem grs_plain : ∀ gs : List Gr, PyData.plainAll (gs.map Gr.d) = true
  | [] => rfl
  | _ :: r => by
    show (true && PyData.plainAll (r.map Gr.d)) = true
    rw [grs_plain r]
    rfl
theorem grs_any (g : Gr) : ∀ gs : List Gr, ((gs.map Gr.d).any fun z => PyData.eqv z g.d) = decide (g ∈ gs)
  | [] => by simp
  | h :: r => by
    rw [List.map_cons, List.any_cons, grs_any g r, Gr.eqv]
    by_cases e : h = g
    · subst e
      simp
    · have e2 : ¬ g = h := fun z => e z.symm
      simp [e, e2]
theorem grs_eqvAll : ∀ xs ys : List Gr, PyData.eqvAll (xs.map Gr.d) (ys.map Gr.d) = decide (xs = ys)
  | [], [] => by simp [PyData.eqvAll]
  | [], _ :: _ => by simp [PyData.eqvAll]
  | _ :: _, [] => by simp [PyData.eqvAll]
  | a :: r, b :: t => by
    simp only [List.map_cons, PyData.eqvAll, Gr.eqv, grs_eqvAll r t]
    by_cases h : a = b <;> by_cases h' : r = t <;> simp [h, h']
end AS

set_option Elab.async false
set_option linter.all false
set_option maxRecDepth 100000
set_option maxHeartbeats 8000000
namespace AS
open PySem PySem.Spec PyProof.Rows L2
/-! ### the order of tuples of texts -/
def leS (a b : List Str) : Bool := !PySem.W.dataLt (strsD b) (strsD a)
theorem toks_inj : ∀ xs ys : List Str, PySem.W.keyToksAll (xs.map PyData.str) = PySem.W.keyToksAll (ys.map PyData.str) → xs = ys
  | [], [], _ => rfl
  | [], y :: ys, h => by
    simp [PySem.W.keyToksAll] at h
  | x :: xs, [], h => by
    simp [PySem.W.keyToksAll] at h
  | x :: xs, y :: ys, h => by
    simp only [List.map_cons, PySem.W.keyToksAll, PySem.W.keyToks, List.cons_append, List.nil_append, List.cons.injEq, Sum.inr.injEq, true_and] at h
    obtain ⟨h1, h2⟩ := h
    have e1 : x = y := TL.ext_tl h1
    rw [e1, toks_inj xs ys h2]
theorem leS_le {β : Type} (k : β → List Str) (p q : β) : PySem.W.dataLe false (fun b => strsD (k b)) p q = leS (k p) (k q) := rfl
theorem leS_anti {a b : List Str} (h1 : leS a b = true) (h2 : leS b a = true) : a = b := by
  unfold leS at h1 h2
  rw [Bool.not_eq_true'] at h1 h2
  refine toks_inj a b ?_
  exact (listOrd itemOrd).total _ _ h2 h1
/-- ascending, each once -/
structure AscS (l : List (List Str)) : Prop where
  le : l.Pairwise fun a b => leS a b = true
  nd : l.Nodup
theorem AscS.uniq {l m : List (List Str)} (a : AscS l) (b : AscS m) (h : ∀ k, k ∈ l ↔ k ∈ m) : l = m :=
  List.Perm.eq_of_pairwise (fun x y _ _ h1 h2 => leS_anti h1 h2) a.le b.le ((List.perm_ext_iff_of_nodup a.nd b.nd).mpr h)
section
variable {P : Program} {w : World} {A : Around} {E : Value → Shared → Prop} {s : Shared}
theorem reads_strs {h : Heap} {k : List Str} {vs : List Value} (x : ItemsAre (strKind P w) k vs) : ReadsAll h vs (k.map PyData.str) [] := by
  induction x with
  | nil => exact .nil
  | @cons y v ks vs h1 _ ih =>
    obtain ⟨u, rfl⟩ := Value.isStrOf_shape h1
    exact .cons (as := []) (.str y u) ih
theorem reads_n {h : Heap} {k : List Str} {b : Addr} (x : IsN P w h k b) : Reads h (.ref b) (strsD k) [] := by
  obtain ⟨o, its, n, ho, hc, hd, hi⟩ := x
  exact .tuple ho hc hd (reads_strs hi)
theorem depth_strs (k : List Str) : (strsD k).depth ≤ 1 := by
  show PyData.depth (.tuple (k.map PyData.str)) ≤ 1
  simp [PyData.depth, strs_depthAll]
theorem alike_strsD (a b : List Str) : PySem.W.alike (strsD a) (strsD b) = true := strs_alike a b
/-- addresses and what stands there -/
abbrev AtN : Value → Addr × List Str → Prop := fun v p => v = .ref p.1
theorem each_at (M : List (Addr × List Str)) : PySem.W.EachIs AtN (M.map fun p => Value.ref p.1) M := by
  induction M with
  | nil => exact .nil
  | cons p M ih => exact .cons rfl ih
theorem of_each {vs : List Value} {M : List (Addr × List Str)} (e : PySem.W.EachIs AtN vs M) : vs = M.map fun p => Value.ref p.1 := by
  induction e with
  | nil => rfl
  | cons h _ ih => rw [List.map_cons, ← ih, h]
theorem each_reads {h : Heap} {a : Addr} : ∀ {M : List (Addr × List Str)}, (∀ p ∈ M, IsN P w h p.2 p.1) → PySem.W.EachIs (fun v (p : Addr × List Str) => ∃ as, Reads h v (strsD p.2) as ∧ a ∉ as) (M.map fun p => Value.ref p.1) M
  | [], _ => .nil
  | p :: M, hM => .cons ⟨[], reads_n (hM p (.head _)), List.not_mem_nil⟩ (each_reads fun q hq => hM q (.tail _ hq))
/-- sorted, by the data -/
def sortN (M : List (Addr × List Str)) : List (Addr × List Str) := M.mergeSort (PySem.W.dataLe false fun p => strsD p.2)
theorem sortN_perm (M : List (Addr × List Str)) : (sortN M).Perm M := List.mergeSort_perm _ _
theorem sortN_le (M : List (Addr × List Str)) : ((sortN M).map (·.2)).Pairwise fun a b => leS a b = true :=
  List.pairwise_map.mpr (PySem.W.sort_pairwise (PySem.W.sortLe_total (listOrd itemOrd) false fun p : Addr × List Str => PySem.W.keyToks (strsD p.2)) M)
theorem sortN_asc {M : List (Addr × List Str)} (nd : (M.map (·.2)).Nodup) : AscS ((sortN M).map (·.2)) := ⟨sortN_le M, ((sortN_perm M).map (·.2)).nodup_iff.mpr nd⟩
theorem listsort_n {a : Addr} {n : Nat} {M : List (Addr × List Str)} {Q : Value → Shared → Prop} (ho : s.heap.get? a = some (seqObj "list" (M.map fun p => Value.ref p.1).toArray n)) (hM : ∀ p ∈ M, IsN P w s.heap p.2 p.1) (ne : ∀ p ∈ M, p.2 ≠ []) (few : M.length ≤ sizeLine) (hu : A.units + 8 < cLine)
    (q : Q .none { s with heap := sortedHeap s.heap a (M.map fun p => Value.ref p.1) ((sortN M).map fun p => Value.ref p.1).toArray }) : wpAny (model P w) A (call (.builtin "list.sort") [.ref a]) Q E s := by
  refine PySem.W.list_sort_data (R := AtN) (enc := fun p => strsD p.2) (bs := M) ho (each_at M) (each_reads hM) (PySem.W.AllAlike.of fun x y => alike_strsD x.2 y.2) (.inl fun d hd => ?_) few (fun p hp => ?_) fun out lo eo => ?_
  · obtain ⟨p, hp, rfl⟩ := List.mem_map.mp hd
    cases e : p.2 with
    | nil => exact absurd e (ne p hp)
    | cons y r => exact ⟨.str y, r.map PyData.str, rfl⟩
  · have := depth_strs p.2
    omega
  · rw [of_each eo]
    exact q
end
end AS

set_option Elab.async false
set_option linter.all false
set_option maxRecDepth 100000
set_option maxHeartbeats 8000000
namespace AS
open PySem PySem.Spec PyProof.Rows L2
/-- a set of tuples of texts as the heap of a proof knows it: without the tuples -/
def SN0 (P : Program) (w : World) (a : Addr) (L : List (Addr × List Str)) (h : Heap) : Prop := ∃ (es : Array (Int × Value)) (ep : Nat) (t : SetTable), (∃ o, h.get? a = some o ∧ o.ExactSet ∧ o.data = .set es ep t) ∧ es.toList = L.map (rowN P w) ∧
  Tb t (L.map fun p => nh P w p.2) ∧ (L.map (·.2)).Nodup ∧ (w.params.followText "set-order" = true ∨ t.led = true) ∧ L.length < 64
def SetNO (P : Program) (w : World) (a : Addr) (L : List (Addr × List Str)) : HO := .ext (SN0 P w a L)
section
variable {P : Program} {w : World}
theorem SetN.zero {h : Heap} {a : Addr} {L : List (Addr × List Str)} {es : Array (Int × Value)} {ep : Nat} {t : SetTable} (S : SetN P w h a L es ep t) : SN0 P w a L h := ⟨es, ep, t, S.ob, S.rows, S.tab, S.nd, S.led, S.few⟩
theorem SN0.whole {h : Heap} {a : Addr} {L : List (Addr × List Str)} (Z : SN0 P w a L h) (ht : ∀ p ∈ L, IsN P w h p.2 p.1) : ∃ es ep t, SetN P w h a L es ep t := by
  obtain ⟨es, ep, t, z1, z2, z3, z4, z5, z6⟩ := Z
  exact ⟨es, ep, t, z1, z2, z3, z4, ht, z5, z6⟩
theorem setNO_ok {H : Hp} {h : Heap} {a : Addr} {L : List (Addr × List Str)} (Z : SN0 P w a L h) : ObjOk P w H h a (SetNO P w a L) := by
  refine ⟨Z, ?_, fun h1 h2 y k => ?_⟩
  · obtain ⟨_, _, _, ⟨o, ho, _⟩, _⟩ := Z
    exact ⟨o, ho⟩
  · obtain ⟨es, ep, t, ⟨o, ho, r⟩, z⟩ := (show SN0 P w a L h1 from y)
    exact ⟨es, ep, t, ⟨o, k o ho, r⟩, z⟩
theorem items_strs : ∀ {k : List Str} {us : List Value}, Vals (k.map V.str) us → ItemsAre (strKind P w) k us
  | [], _, .nil => .nil
  | y :: k, _, .cons r t => by
    obtain ⟨u, rfl⟩ := r
    exact .cons (strKind_is P w y u) (items_strs t)
theorem refs_are : ∀ {ks : List (Addr × List Str)} {us : List Value}, Vals (ks.map fun p => V.ref p.1) us → us = ks.map fun p => Value.ref p.1
  | [], _, .nil => rfl
  | p :: ks, _, .cons r t => by
    cases r
    rw [refs_are t]
    rfl
theorem refs_vals : ∀ ks : List (Addr × List Str), Vals (ks.map fun p => V.ref p.1) (ks.map fun p => Value.ref p.1)
  | [] => .nil
  | _ :: ks => .cons rfl (refs_vals ks)
end
/-- the tuples of such a list stand in the heap -/
def TupN (K : PySem.W.Frag) (H : Hp) (L : List (Addr × List Str)) : Prop := ∀ p ∈ L, SqT K H p.1 (p.2.map V.str)
theorem TupN.sm {K : PySem.W.Frag} {H H' : Hp} {L : List (Addr × List Str)} (e : Sm H H') (h : TupN K H L) : TupN K H' L := fun p hp => e.seqT (h p hp)
section
variable {X : Cx}
theorem inv_n {pins : List (Addr × Obj)} {σ : L2.St} {H : Hp} {s : Shared} {b : Addr} {k : List Str} (I : Inv X pins σ H s) (h : SqT X.K H b (k.map V.str)) : IsN X.prog X.w s.heap k b := by
  obtain ⟨its, r, ⟨o, ho, hc, n, hd⟩, _⟩ := I.tuple h
  exact ⟨o, its.toArray, n, ho, hc, hd, by simpa using items_strs (P := X.prog) (w := X.w) r⟩
theorem inv_set {pins : List (Addr × Obj)} {σ : L2.St} {H : Hp} {s : Shared} {a : Addr} {L : List (Addr × List Str)} (I : Inv X pins σ H s) (ha : H a = some (SetNO X.prog X.w a L)) (ht : TupN X.K H L) : ∃ es ep t, SetN X.prog X.w s.heap a L es ep t := by
  have z : SN0 X.prog X.w a L s.heap := (I.hok a _ ha).1
  exact z.whole fun p hp => inv_n I (ht p hp)
/-- set(xs), xs a list -/
def rSetN (K : PySem.W.Frag) (P : Program) (w : World) : List V → Hp → VK → Prop := fun xs H Q => ∃ (l : Addr) (ks : List (Addr × List Str)), xs = [.ref l] ∧ SqL K H l (ks.map fun p => V.ref p.1) ∧ TupN K H ks ∧ ks.length < 64 ∧
  ∀ a M, H a = none → (∀ p ∈ M, p ∈ ks) → (∀ p ∈ ks, p.2 ∈ M.map (·.2)) → Q (.ref a) (upd H a (SetNO P w a M))
theorem call_setN (hc : X.calm = true) (hu : X.A.units + 64 < cLine) : CallR X (.type "set") (rSetN X.K X.prog X.w) := by
  intro pins s σ H xs us Q I r h
  obtain ⟨l, ks, rfl, hl, hk, few, q⟩ := h
  rw [Vals.ref1 r]
  obtain ⟨its, rv, pl, _⟩ := I.list hl
  have nw : H s.heap.objs.size = none := I.hok.fresh (Nat.le_refl _)
  refine call_set_n (P := X.prog) (w := X.w) ks (I.ok.hd hc) pl.isList (by simpa using refs_are rv) (fun p hp => inv_n I (hk p hp)) few (by omega) fun h' tk M es ep t C B kp => ?_
  exact ⟨.ref s.heap.objs.size, upd H s.heap.objs.size (SetNO X.prog X.w s.heap.objs.size M), I.laid (t' := tk) kp (Nat.le_refl _) (setNO_ok C.n.zero), rfl, q _ M nw (fun p hp => (B.sub p hp).1) fun p hp => (B.all p hp rfl).resolve_right List.not_mem_nil⟩
def rBinN (K : PySem.W.Frag) (P : Program) (w : World) (both : Bool) : R2 := fun x y H Q => ∃ a b La Lb, x = .ref a ∧ y = .ref b ∧ a ≠ b ∧ H a = some (SetNO P w a La) ∧ H b = some (SetNO P w b Lb) ∧ TupN K H La ∧ TupN K H Lb ∧
  ∀ r M, H r = none → (∀ p ∈ M, p ∈ La ∨ p ∈ Lb) → (∀ k, k ∈ M.map (·.2) ↔ k ∈ La.map (·.2) ∧ if both = true then k ∈ Lb.map (·.2) else k ∉ Lb.map (·.2)) → Q (.ref r) (upd H r (SetNO P w r M))
theorem laidN {pins : List (Addr × Obj)} {σ : L2.St} {H : Hp} {s s' : Shared} {M : List (Addr × List Str)} {es : Array (Int × Value)} {ep : Nat} {t : SetTable} (I : Inv X pins σ H s) (e : Ex s s') (S : SetN X.prog X.w s'.heap s.heap.objs.size M es ep t) :
    Inv X pins σ (upd H s.heap.objs.size (SetNO X.prog X.w s.heap.objs.size M)) s' :=
  I.call' (ch := []) e.so (Un.laid e.kp (Nat.le_refl _) (I.hok.fresh (Nat.le_refl _))) (I.hok.laid e.kp (Nat.le_refl _) (setNO_ok S.zero)) (by rw [e.gn]; exact I.bare) (fun _ z => nomatch z)
theorem op_subN (hu : X.A.units + 64 < cLine) : OpR X (binaryOp .Sub) (rBinN X.K X.prog X.w false) := by
  intro pins s σ H x y v u Q I rx ry h
  obtain ⟨a, b, La, Lb, rfl, rfl, ne, ha, hb, ta, tb, q⟩ := h
  cases rx
  cases ry
  obtain ⟨ea, pa, ua, Sa⟩ := inv_set I ha ta
  obtain ⟨eb, pb, ub, Sb⟩ := inv_set I hb tb
  refine sub_n Sa Sb ne (by omega) fun s' M es ep t e S g1 g2 => ?_
  exact ⟨.ref s.heap.objs.size, _, laidN I e S, rfl, q _ M (I.hok.fresh (Nat.le_refl _)) (fun p hp => .inl (g1 p hp)) fun k => by rw [if_neg Bool.false_ne_true]; exact g2 k⟩
theorem op_andN (hu : X.A.units + 64 < cLine) : OpR X (binaryOp .BitAnd) (rBinN X.K X.prog X.w true) := by
  intro pins s σ H x y v u Q I rx ry h
  obtain ⟨a, b, La, Lb, rfl, rfl, ne, ha, hb, ta, tb, q⟩ := h
  cases rx
  cases ry
  obtain ⟨ea, pa, ua, Sa⟩ := inv_set I ha ta
  obtain ⟨eb, pb, ub, Sb⟩ := inv_set I hb tb
  refine and_n Sa Sb ne (by omega) fun s' M es ep t e S g1 g2 => ?_
  exact ⟨.ref s.heap.objs.size, _, laidN I e S, rfl, q _ M (I.hok.fresh (Nat.le_refl _)) g1 fun k => by rw [if_pos rfl]; exact g2 k⟩
/-- sorted(set) -/
def rSortN (K : PySem.W.Frag) (P : Program) (w : World) : List V → Hp → VK → Prop := fun vs H Q => ∃ a L, vs = [.ref a] ∧ H a = some (SetNO P w a L) ∧ TupN K H L ∧ (∀ p ∈ L, p.2 ≠ []) ∧
  ∀ (M : List (Addr × List Str)) (p : Addr), M.Perm L → AscS (M.map (·.2)) → H p = none → Q (.ref p) (upd H p (.lst (M.map fun q => V.ref q.1)))
theorem call_sortN (hc : X.calm = true) (hu : X.A.units + 64 < cLine) : CallR X (.builtin "sorted") (rSortN X.K X.prog X.w) := by
  intro pins s σ H vs us Q I r h
  obtain ⟨a, L, rfl, ha, tl, ne, q⟩ := h
  rw [Vals.ref1 r]
  obtain ⟨es, ep, t, S⟩ := inv_set I ha tl
  obtain ⟨o, ho, hex, hd⟩ := S.ob
  have few := S.few
  have sz := S.size
  have h0 : X.A.handled = none := I.ok.hd hc
  refine Calls.call_function_entry kind_sorted plain_sorted entry_sorted (args_sorted1 _) ?_
  unfold Builtin.«sorted»
  refine wpAny_bind (m := checkCount "sorted" 1 1 _) (wpAny_pure (wpAny_bind (collect_set (A := X.A.in1) h0 ⟨o, ho, hex.1, hd⟩ S.fits (by unfold scanBound; omega) S.tab.rp S.led fun s1 out k1 z1 g1 o1 pm => ?_)))
  have e1 : es.toList.map (·.2) = L.map fun q => Value.ref q.1 := by
    rw [S.rows, List.map_map]
    rfl
  rw [e1] at pm
  obtain ⟨N, e2, pN⟩ := perm_back (fun q : Addr × List Str => Value.ref q.1) pm L rfl
  have lN : N.length < 64 := by
    rw [pN.length_eq]
    exact few
  rw [e2]
  refine wpAny_bind (wpAny_newList ?_ (by rw [List.length_map, sizeLine_eq]; omega))
  have at0 : (s1.heap.push (seqObj "list" (N.map fun q => Value.ref q.1).toArray 0)).get? s1.heap.objs.size = some (seqObj "list" (N.map fun q => Value.ref q.1).toArray 0) := Heap.get?_push_size _ rfl
  have tN : ∀ p ∈ N, IsN X.prog X.w (s1.heap.push (seqObj "list" (N.map fun q => Value.ref q.1).toArray 0)) p.2 p.1 := fun p hp => isN_keep (S.tup p (pN.mem_iff.mp hp)) fun b u e => Heap.get?_push_of_some _ (k1 b u e)
  have hu1 : X.A.in1.units + 8 < cLine := Nat.lt_of_le_of_lt (show X.A.in1.units + 8 ≤ X.A.units + 64 by show X.A.units + _ + 8 ≤ X.A.units + 64; omega) hu
  refine wpAny_bind (wpAny_holding (listsort_n (s := { s1 with heap := s1.heap.push (seqObj "list" (N.map fun q => Value.ref q.1).toArray 0) }) at0 tN (fun p hp => ne p (pN.mem_iff.mp hp)) (by rw [sizeLine_eq]; omega) hu1 ?_))
  obtain ⟨c, hc2⟩ := sortedHeap_at (vs := N.map fun q => Value.ref q.1) (out := ((sortN N).map fun q => Value.ref q.1).toArray) at0
  have pS : (sortN N).Perm L := (sortN_perm N).trans pN
  have hn : H s1.heap.objs.size = none := I.hok.fresh z1
  have lM : ((sortN N).map fun q => V.ref q.1).length ≤ sizeLine := by
    rw [List.length_map, (sortN_perm N).length_eq, sizeLine_eq]
    omega
  have kp : ∀ b u, s.heap.get? b = some u → (sortedHeap (s1.heap.push (seqObj "list" (N.map fun q => Value.ref q.1).toArray 0)) s1.heap.objs.size (N.map fun q => Value.ref q.1) ((sortN N).map fun q => Value.ref q.1).toArray).get? b = some u := fun b u e => by
    have e' := k1 b u e
    have lt := Heap.lt_size e'
    rw [sortedHeap_old (Nat.ne_of_lt lt) (by rw [size_push']; exact Nat.lt_succ_of_lt lt)]
    exact Heap.get?_push_of_some _ e'
  refine wpAny_pure ⟨_, rfl, .ref s1.heap.objs.size, upd H s1.heap.objs.size (.lst ((sortN N).map fun q => V.ref q.1)), ?_, rfl, q (sortN N) _ pS (sortN_asc ((pN.map (·.2)).nodup_iff.mpr S.nd)) hn⟩
  exact I.call' (ch := []) o1 (Un.laid kp z1 hn) (I.hok.laid kp z1 ⟨lM, (sortN N).map fun q => Value.ref q.1, c, refs_vals _, hc2⟩) (by show AllBare s1.gens; rw [g1]; exact I.bare) (fun _ z => nomatch z)
/-- sorted(list) of tuples of texts -/
def rSortL (K : PySem.W.Frag) : List V → Hp → VK → Prop := fun vs H Q => ∃ (l : Addr) (L : List (Addr × List Str)), vs = [.ref l] ∧ SqL K H l (L.map fun p => V.ref p.1) ∧ TupN K H L ∧ (∀ p ∈ L, p.2 ≠ []) ∧ L.length ≤ 10000 ∧
  ∀ (M : List (Addr × List Str)) (p : Addr), M.Perm L → (M.map (·.2)).Pairwise (fun a b => leS a b = true) → H p = none → Q (.ref p) (upd H p (.lst (M.map fun q => V.ref q.1)))
theorem call_sortL (hu : X.A.units + 64 < cLine) : CallR X (.builtin "sorted") (rSortL X.K) := by
  intro pins s σ H vs us Q I r h
  obtain ⟨l, L, rfl, hl, tl, ne, few, q⟩ := h
  rw [Vals.ref1 r]
  obtain ⟨its, rv, pl, _⟩ := I.list hl
  have e0 := refs_are rv
  subst e0
  have big : (10000 : Nat) ≤ sizeLine := by decide
  refine PySem.W.sorted_data (R := AtN) (enc := fun p : Addr × List Str => strsD p.2) (bs := L) pl.isList (each_at L) ?_ (PySem.W.AllAlike.of fun x y => alike_strsD x.2 y.2) (.inl fun d hd => ?_) (by omega) (fun p hp => ?_) fun out lo eo => ?_
  · have z : ∀ {M : List (Addr × List Str)}, (∀ p ∈ M, IsN X.prog X.w s.heap p.2 p.1) → PySem.W.EachIs (fun v (p : Addr × List Str) => ∃ as, Reads s.heap v (strsD p.2) as) (M.map fun p => Value.ref p.1) M := by
      intro M
      induction M with
      | nil => exact fun _ => .nil
      | cons p M ih => exact fun hM => .cons ⟨[], reads_n (hM p (.head _))⟩ (ih fun q hq => hM q (.tail _ hq))
    exact z fun p hp => inv_n I (tl p hp)
  · obtain ⟨p, hp, rfl⟩ := List.mem_map.mp hd
    cases e : p.2 with
    | nil => exact absurd e (ne p hp)
    | cons y r => exact ⟨.str y, r.map PyData.str, rfl⟩
  · have := depth_strs p.2
    omega
  · obtain rfl := of_each eo
    obtain ⟨c, hc2⟩ := PyProof.Rows.sortedAll_at s.heap (L.map fun p => Value.ref p.1) ((sortN L).map fun q => Value.ref q.1).toArray
    have hn : H (s.heap.objs.size + 1) = none := I.hok.fresh (Nat.le_succ _)
    have lM : ((sortN L).map fun q => V.ref q.1).length ≤ sizeLine := by
      rw [List.length_map, (sortN_perm L).length_eq]
      omega
    exact ⟨.ref _, upd H (s.heap.objs.size + 1) (.lst ((sortN L).map fun q => V.ref q.1)), I.laid (t' := s.toks) (fun _ _ => PyProof.Rows.sortedAll_old) (Nat.le_succ _) ⟨lM, (sortN L).map (fun q : Addr × List Str => Value.ref q.1), c, refs_vals (sortN L), hc2⟩, rfl, q (sortN L) _ (sortN_perm L) (sortN_le L) hn⟩
end
end AS

set_option Elab.async false
set_option linter.all false
set_option maxRecDepth 100000
set_option maxHeartbeats 4000000
namespace AS
open PySem PySem.Spec PyProof.Rows L2
/-! ### what laws draw -/
theorem mod_nat (d : Int) (n : Nat) (h : 0 < n) : ∃ m : Nat, d % (n : Int) = (m : Int) ∧ m < n := by
  have b1 : 0 ≤ d % (n : Int) := Int.emod_nonneg _ (by omega)
  have b2 : d % (n : Int) < n := Int.emod_lt_of_pos _ (by omega)
  exact ⟨(d % (n : Int)).toNat, by omega, by omega⟩
theorem at_int {ds : List Int} {k : Nat} (h : k < ds.length) : atI (ds.map V.int) (k : Int) = some (.int ds[k]) := atI_nat (by
  rw [List.getElem?_map, List.getElem?_eq_getElem h]
  rfl)
theorem at_str {ds : List Str} {k : Nat} (h : k < ds.length) : atI (ds.map V.str) (k : Int) = some (.str ds[k]) := atI_nat (by
  rw [List.getElem?_map, List.getElem?_eq_getElem h]
  rfl)
/-- int(draws[k]) % n -/
theorem draw_read {K : PySem.W.Frag} {H : Hp} {o : Addr} {ds : List Int} {k n i : Nat} {σ : L2.St} {R : VK} (e : σ[i]? = some (some (.ref o))) (hS : SqL K H o (ds.map V.int)) (hk : k < ds.length) (hn : 0 < n) (h : ∀ m : Nat, m < n → R (.int (m : Nat)) H) :
    tOp (rI (fun _ j => 0 < j) fun i j => .int (i % j)) (tCB (fun xs H Q => (∃ i, xs = [.int i] ∧ Q (.int i) H) ∨ ∃ k, xs = [.bl k] ∧ Q (.int (if k then 1 else 0)) H) (tCons (tOp (rIxL K) (tVar i) (tC (.int (k : Nat)))) tNil)) (tC (.int (n : Nat))) σ H R := by
  obtain ⟨m, em, hm⟩ := mod_nat ds[k] n hn
  refine ⟨.ref o, e, o, _, _, _, rfl, rfl, hS, at_int hk, .inl ⟨_, rfl, _, _, rfl, rfl, by omega, ?_⟩⟩
  have q := h m hm
  rw [← em] at q
  exact q
theorem iteB' {b : Bool} {A B : Prop} (h1 : b = true → A) (h2 : b = false → B) : if b = true then A else B := by
  cases b with
  | true => exact iteT (h1 rfl)
  | false => exact iteF (h2 rfl)
theorem toIf {a b : Bool} {A B : Prop} (e : a = b) (h : if b = true then A else B) : if a = true then A else B := by
  rw [e]
  exact h
theorem cutG {C : Addr → Hp → Prop} {A : Prop} (G : Addr → Hp → Prop) (b : (∀ p H1, C p H1 → G p H1) → A) (l : ∀ p H1, C p H1 → G p H1) : A := b l
theorem cutP {A : Prop} (G : Prop) (b : G → A) (l : G) : A := b l
end AS

set_option Elab.async false
set_option linter.all false
set_option maxRecDepth 100000
set_option maxHeartbeats 4000000
namespace A7
open PySem PySem.Spec PyProof.Rows L2 AS
theorem iteT' {b : Bool} {A B : Prop} (e : b = true) (h : A) : if b = true then A else B := by
  rw [e]
  exact iteT h
theorem iteF' {b : Bool} {A B : Prop} (e : b = false) (h : B) : if b = true then A else B := by
  rw [e]
  exact iteF h
/-- at l stands a list of tuples of texts, ks -/
def GLs (K : PySem.W.Frag) (H : Hp) (l : Addr) (ks : List (List Str)) : Prop := ∃ M : List (Addr × List Str), H l = some (.lst (M.map fun p => V.ref p.1)) ∧ TupN K H M ∧ M.map (·.2) = ks
theorem GLs.sm {K : PySem.W.Frag} {H H' : Hp} {l : Addr} {ks : List (List Str)} (e : Sm H H') (h : GLs K H l ks) : GLs K H' l ks := by
  obtain ⟨M, h1, h2, h3⟩ := h
  exact ⟨M, e.lst h1, h2.sm e, h3⟩
def Full (ks : List (List Str)) : Prop := (∀ k ∈ ks, k ≠ []) ∧ ks.length < 64
/-- sorted(set(..) o set(..)) -/
def spSets (K : PySem.W.Frag) (both : Bool) : Sp := fun vs H Q _ => ∃ (l m : Addr) (ks ms : List (List Str)), vs = [.ref l, .ref m] ∧ GLs K H l ks ∧ GLs K H m ms ∧ Full ks ∧ Full ms ∧
  ∀ H' p rs, Sm H H' → H p = none → GLs K H' p rs → AscS rs → (∀ k, k ∈ rs ↔ k ∈ ks ∧ if both = true then k ∈ ms else k ∉ ms) → Q (.ref p) H'
section
variable {P : Program} {w : World} {K : PySem.W.Frag} {mg : Str → Option Value} {base : Heap}
theorem ok_without (T : Top NN K mg base) : D P w K mg base 1 "without" ["rows", "others"] (spSets K false) := by
  refine T.ok0 (d := dwithout) iwithout rfl rfl rfl rfl (by decide +kernel) scwithout (fun _ _ _ _ _ _ us hl => match us, hl with | [_, _], _ => rfl) (fun vs H Q E h => ?_) (fun cdv A outer s H vs Q E ec hr h => ?_)
  · obtain ⟨l, m, ks, ms, rfl, _⟩ := h
    rfl
  · obtain ⟨l, m, ks, ms, rfl, ⟨M1, a1, a2, rfl⟩, ⟨M2, b1, b2, rfl⟩, f1, f2, q⟩ := h
    have n_set := T.f "set" (by decide +kernel)
    have n_sorted := T.f "sorted" (by decide +kernel)
    refine ⟨_, pss_one (ps_ret (pe_callB (call_sortN rfl hr.units) (by rfl) n_sorted (by decide +kernel) (pa_cons (pe_op (op_subN hr.units) (pe_callTy (call_setN rfl hr.units) (by rfl) n_set (by decide +kernel) (pa_cons (pv 0) pa_nil)) (pe_callTy (call_setN rfl hr.units) (by rfl) n_set (by decide +kernel) (pa_cons (pv 1) pa_nil))) pa_nil))), ?_⟩
    have l1 := f1.2
    have l2 := f2.2
    rw [List.length_map] at l1 l2
    refine ⟨.ref l, rfl, l, M1, rfl, .inl (.inl a1), a2, l1, fun a La na i1 i2 => ?_⟩
    have s1 : Sm H (upd H a (SetNO P w a La)) := Sm.new na
    have ea : upd H a (SetNO P w a La) a = some (SetNO P w a La) := upd_same
    refine ⟨.ref m, rfl, m, M2, rfl, .inl (.inl (s1.lst b1)), b2.sm s1, l2, fun b Lb nb j1 j2 => ?_⟩
    have nab : a ≠ b := ne_of_none ea nb
    have s2 : Sm H (upd (upd H a (SetNO P w a La)) b (SetNO P w b Lb)) := s1.put (s1.free nb)
    have ta : TupN K H La := fun p hp => a2 p (i1 p hp)
    have tb : TupN K H Lb := fun p hp => b2 p (j1 p hp)
    refine ⟨a, b, La, Lb, rfl, rfl, nab, by rw [upd_ne nab]; exact upd_same, upd_same, ta.sm s2, tb.sm s2, fun r M nr g1 g2 => ?_⟩
    have s3 := s2.put (o := SetNO P w r M) (s2.free nr)
    have inM : ∀ p ∈ M, p ∈ M1 ∨ p ∈ M2 := fun p hp => (g1 p hp).imp (i1 p) (j1 p)
    have tM : TupN K H M := fun p hp => (inM p hp).elim (a2 p) (b2 p)
    have keyA : ∀ k, k ∈ La.map (·.2) ↔ k ∈ M1.map (·.2) := fun k => ⟨fun h => by
      obtain ⟨p, hp, rfl⟩ := List.mem_map.mp h
      exact List.mem_map.mpr ⟨p, i1 p hp, rfl⟩, fun h => by
      obtain ⟨p, hp, rfl⟩ := List.mem_map.mp h
      exact i2 p hp⟩
    have keyB : ∀ k, k ∈ Lb.map (·.2) ↔ k ∈ M2.map (·.2) := fun k => ⟨fun h => by
      obtain ⟨p, hp, rfl⟩ := List.mem_map.mp h
      exact List.mem_map.mpr ⟨p, j1 p hp, rfl⟩, fun h => by
      obtain ⟨p, hp, rfl⟩ := List.mem_map.mp h
      exact j2 p hp⟩
    refine ⟨r, M, rfl, upd_same, tM.sm s3, fun p hp => (inM p hp).elim (fun z => f1.1 _ (List.mem_map.mpr ⟨p, z, rfl⟩)) fun z => f2.1 _ (List.mem_map.mpr ⟨p, z, rfl⟩), fun R p pm asc np => ?_⟩
    have s4 := s3.put (o := .lst (R.map fun q => V.ref q.1)) (s3.free np)
    refine q _ p (R.map (·.2)) s4 (s3.free np) ⟨R, upd_same, TupN.sm s4 fun p hp => tM p (pm.mem_iff.mp hp), rfl⟩ asc fun k => ?_
    rw [(pm.map (·.2)).mem_iff, g2 k, keyA k]
    rw [if_neg Bool.false_ne_true, if_neg Bool.false_ne_true, keyB k]
theorem ok_in_both (T : Top NN K mg base) : D P w K mg base 1 "_in_both" ["grants", "others"] (spSets K true) := by
  refine T.ok0 (d := d_in_both) i_in_both rfl rfl rfl rfl (by decide +kernel) sc_in_both (fun _ _ _ _ _ _ us hl => match us, hl with | [_, _], _ => rfl) (fun vs H Q E h => ?_) (fun cdv A outer s H vs Q E ec hr h => ?_)
  · obtain ⟨l, m, ks, ms, rfl, _⟩ := h
    rfl
  · obtain ⟨l, m, ks, ms, rfl, ⟨M1, a1, a2, rfl⟩, ⟨M2, b1, b2, rfl⟩, f1, f2, q⟩ := h
    have n_set := T.f "set" (by decide +kernel)
    have n_sorted := T.f "sorted" (by decide +kernel)
    refine ⟨_, pss_one (ps_ret (pe_callB (call_sortN rfl hr.units) (by rfl) n_sorted (by decide +kernel) (pa_cons (pe_op (op_andN hr.units) (pe_callTy (call_setN rfl hr.units) (by rfl) n_set (by decide +kernel) (pa_cons (pv 0) pa_nil)) (pe_callTy (call_setN rfl hr.units) (by rfl) n_set (by decide +kernel) (pa_cons (pv 1) pa_nil))) pa_nil))), ?_⟩
    have l1 := f1.2
    have l2 := f2.2
    rw [List.length_map] at l1 l2
    refine ⟨.ref l, rfl, l, M1, rfl, .inl (.inl a1), a2, l1, fun a La na i1 i2 => ?_⟩
    have s1 : Sm H (upd H a (SetNO P w a La)) := Sm.new na
    have ea : upd H a (SetNO P w a La) a = some (SetNO P w a La) := upd_same
    refine ⟨.ref m, rfl, m, M2, rfl, .inl (.inl (s1.lst b1)), b2.sm s1, l2, fun b Lb nb j1 j2 => ?_⟩
    have nab : a ≠ b := ne_of_none ea nb
    have s2 : Sm H (upd (upd H a (SetNO P w a La)) b (SetNO P w b Lb)) := s1.put (s1.free nb)
    have ta : TupN K H La := fun p hp => a2 p (i1 p hp)
    have tb : TupN K H Lb := fun p hp => b2 p (j1 p hp)
    refine ⟨a, b, La, Lb, rfl, rfl, nab, by rw [upd_ne nab]; exact upd_same, upd_same, ta.sm s2, tb.sm s2, fun r M nr g1 g2 => ?_⟩
    have s3 := s2.put (o := SetNO P w r M) (s2.free nr)
    have inM : ∀ p ∈ M, p ∈ M1 ∨ p ∈ M2 := fun p hp => (g1 p hp).imp (i1 p) (j1 p)
    have tM : TupN K H M := fun p hp => (inM p hp).elim (a2 p) (b2 p)
    have keyA : ∀ k, k ∈ La.map (·.2) ↔ k ∈ M1.map (·.2) := fun k => ⟨fun h => by
      obtain ⟨p, hp, rfl⟩ := List.mem_map.mp h
      exact List.mem_map.mpr ⟨p, i1 p hp, rfl⟩, fun h => by
      obtain ⟨p, hp, rfl⟩ := List.mem_map.mp h
      exact i2 p hp⟩
    have keyB : ∀ k, k ∈ Lb.map (·.2) ↔ k ∈ M2.map (·.2) := fun k => ⟨fun h => by
      obtain ⟨p, hp, rfl⟩ := List.mem_map.mp h
      exact List.mem_map.mpr ⟨p, j1 p hp, rfl⟩, fun h => by
      obtain ⟨p, hp, rfl⟩ := List.mem_map.mp h
      exact j2 p hp⟩
    refine ⟨r, M, rfl, upd_same, tM.sm s3, fun p hp => (inM p hp).elim (fun z => f1.1 _ (List.mem_map.mpr ⟨p, z, rfl⟩)) fun z => f2.1 _ (List.mem_map.mpr ⟨p, z, rfl⟩), fun R p pm asc np => ?_⟩
    have s4 := s3.put (o := .lst (R.map fun q => V.ref q.1)) (s3.free np)
    refine q _ p (R.map (·.2)) s4 (s3.free np) ⟨R, upd_same, TupN.sm s4 fun p hp => tM p (pm.mem_iff.mp hp), rfl⟩ asc fun k => ?_
    rw [(pm.map (·.2)).mem_iff, g2 k, keyA k]
    rw [if_pos rfl, if_pos rfl, keyB k]
end
end A7

set_option Elab.async false
set_option linter.all false
set_option maxRecDepth 100000
set_option maxHeartbeats 4000000
namespace A7
open PySem PySem.Spec PyProof.Rows L2 AS
/-! ### lists of grants as data -/
def ksD (ks : List (List Str)) : PyData := .list (ks.map strsD)
theorem strsD_eqv (a b : List Str) : PyData.eqv (strsD a) (strsD b) = decide (a = b) := strs_eqv a b
theorem ks_eqvAll : ∀ ks ms : List (List Str), PyData.eqvAll (ks.map strsD) (ms.map strsD) = decide (ks = ms)
  | [], [] => by simp [PyData.eqvAll]
  | [], _ :: _ => by simp [PyData.eqvAll]
  | _ :: _, [] => by simp [PyData.eqvAll]
  | a :: r, b :: t => by
    simp only [List.map_cons, PyData.eqvAll, strsD_eqv, ks_eqvAll r t]
    by_cases h : a = b <;> by_cases h' : r = t <;> simp [h, h']
theorem ks_eqv (ks ms : List (List Str)) : PyData.eqv (ksD ks) (ksD ms) = decide (ks = ms) := ks_eqvAll ks ms
theorem ks_plainAll : ∀ ks : List (List Str), PyData.plainAll (ks.map strsD) = true
  | [] => rfl
  | k :: r => by
    show (PyData.plainAll (k.map PyData.str) && PyData.plainAll (r.map strsD)) = true
    rw [strs_plainAll, ks_plainAll r]
    rfl
theorem ks_depthAll : ∀ ks : List (List Str), PyData.depthAll (ks.map strsD) ≤ 1
  | [] => by simp [PyData.depthAll]
  | k :: r => by
    have h1 := depth_strs k
    have h2 := ks_depthAll r
    show max (strsD k).depth (PyData.depthAll (r.map strsD)) ≤ 1
    omega
theorem ks_depth (ks : List (List Str)) : (ksD ks).depth ≤ 2 := by
  have := ks_depthAll ks
  show PyData.depth (.list (ks.map strsD)) ≤ 2
  simp only [PyData.depth]
  omega
theorem dp_tups {K : PySem.W.Frag} {H : Hp} : ∀ {M : List (Addr × List Str)}, TupN K H M → DpAll K H (M.map fun p => V.ref p.1) ((M.map (·.2)).map strsD)
  | [], _ => .nil
  | p :: M, h => .cons (.tup (h p (.head _)) (dp_strs K H p.2)) (dp_tups fun q hq => h q (.tail _ hq))
theorem GLs.dp {K : PySem.W.Frag} {H : Hp} {l : Addr} {ks : List (List Str)} (h : GLs K H l ks) : Dp K H (.ref l) (ksD ks) := by
  obtain ⟨M, h1, h2, rfl⟩ := h
  exact .lst (.inl (.inl h1)) (dp_tups h2)
theorem eq_gls {K : PySem.W.Frag} {H : Hp} {l m : Addr} {ks ms : List (List Str)} (h1 : GLs K H l ks) (h2 : GLs K H m ms) {Q : VK} (q : Q (.bl (decide (ks = ms))) H) : rEqP K false (.ref l) (.ref m) H Q := by
  have d1 := ks_depth ks
  refine ⟨ksD ks, ksD ms, h1.dp, h2.dp, ks_plainAll ks, ks_plainAll ms, by omega, toBl ?_ q⟩
  exact ks_eqv ks ms
theorem ne_gls {K : PySem.W.Frag} {H : Hp} {l m : Addr} {ks ms : List (List Str)} (h1 : GLs K H l ks) (h2 : GLs K H m ms) {Q : VK} (q : Q (.bl (!decide (ks = ms))) H) : rEqP K true (.ref l) (.ref m) H Q := by
  have d1 := ks_depth ks
  refine ⟨ksD ks, ksD ms, h1.dp, h2.dp, ks_plainAll ks, ks_plainAll ms, by omega, toBl ?_ q⟩
  show (!PyData.eqv (ksD ks) (ksD ms)) = _
  rw [ks_eqv]
theorem gls_nil {K : PySem.W.Frag} {H : Hp} {l : Addr} (h : H l = some (.lst [])) : GLs K H l [] := ⟨[], h, fun p hp => (nomatch hp), rfl⟩
/-- a change in the heap -/
def ChAt (K : PySem.W.Frag) (H : Hp) (c : Addr) (gs xs : List (List Str)) : Prop := ∃ g x, H c = some (.tup [.ref g, .ref x]) ∧ GLs K H g gs ∧ GLs K H x xs
theorem ChAt.sm {K : PySem.W.Frag} {H H' : Hp} {c : Addr} {gs xs : List (List Str)} (e : Sm H H') (h : ChAt K H c gs xs) : ChAt K H' c gs xs := by
  obtain ⟨g, x, h1, h2, h3⟩ := h
  exact ⟨g, x, e.tup h1, h2.sm e, h3.sm e⟩
/-- a new change: its two lists are new too -/
def ChNew (K : PySem.W.Frag) (H H' : Hp) (c : Addr) (gs xs : List (List Str)) : Prop := ∃ g x, H g = none ∧ H x = none ∧ H' c = some (.tup [.ref g, .ref x]) ∧ GLs K H' g gs ∧ GLs K H' x xs
theorem ChNew.at {K : PySem.W.Frag} {H H' : Hp} {c : Addr} {gs xs : List (List Str)} (h : ChNew K H H' c gs xs) : ChAt K H' c gs xs := by
  obtain ⟨g, x, _, _, h1, h2, h3⟩ := h
  exact ⟨g, x, h1, h2, h3⟩
def spDiff (K : PySem.W.Frag) : Sp := fun vs H Q _ => ∃ (l m : Addr) (ks ms : List (List Str)), vs = [.ref l, .ref m] ∧ GLs K H l ks ∧ GLs K H m ms ∧ Full ks ∧ Full ms ∧
  ∀ H' p gs xs, Sm H H' → H p = none → ChNew K H H' p gs xs → AscS gs → AscS xs → (∀ k, k ∈ gs ↔ k ∈ ms ∧ k ∉ ks) → (∀ k, k ∈ xs ↔ k ∈ ks ∧ k ∉ ms) → Q (.ref p) H'
def fitsB (ks gs xs : List (List Str)) : Bool := decide (∀ k ∈ gs, k ∉ ks) && decide (∀ k ∈ xs, k ∈ ks)
def spApplies (K : PySem.W.Frag) : Sp := fun vs H Q _ => ∃ (l c : Addr) (ks gs xs : List (List Str)), vs = [.ref l, .ref c] ∧ GLs K H l ks ∧ ChAt K H c gs xs ∧ Full ks ∧ Full gs ∧ Full xs ∧ ∀ H', Sm H H' → Q (.bl (fitsB ks gs xs)) H'
section
variable {P : Program} {w : World} {K : PySem.W.Frag} {mg : Str → Option Value} {base : Heap}
theorem ok_applies (T : Top NN K mg base) : D P w K mg base 2 "applies" ["grants", "change"] (spApplies K) := by
  refine T.ok0 (d := dapplies) iapplies rfl rfl rfl rfl (by decide +kernel) scapplies (fun _ _ _ _ _ _ us hl => match us, hl with | [_, _], _ => rfl) (fun vs H Q E h => ?_) (fun cdv A outer s H vs Q E ec hr h => ?_)
  · obtain ⟨l, c, ks, gs, xs, rfl, _⟩ := h
    rfl
  · obtain ⟨l, c, ks, gs, xs, rfl, h1, ⟨g, x, hc, hg, hx⟩, f1, f2, f3, q⟩ := h
    have G_without := ok_without (P := P) (w := w) T
    have G__in_both := ok_in_both (P := P) (w := w) T
    refine ⟨_, (pss_cons (ps_asg (pv 1) (pg_tup (by rfl) (pgs_cons (pg_name (i := 2) scapplies.nd rfl (.inl rfl)) (pgs_cons (pg_name (i := 3) scapplies.nd rfl (.inl rfl)) pgs_nil))))
      (pss_one (ps_ret (pe_and (pe_cmpR (op_eqP hr.units) (pe_callD G__in_both hr (pa_cons (pv 2) (pa_cons (pv 0) pa_nil))) (pe_lst pa_nil) (nomark _)) (pe_one (pe_cmpR (op_eqP hr.units) (pe_callD G_without hr (pa_cons (pv 3) (pa_cons (pv 0) pa_nil))) (pe_lst pa_nil) (nomark _))))))), ?_⟩
    refine ⟨.ref c, rfl, c, _, rfl, .inl (.inl hc), rfl, _, _, rfl, _, _, rfl, rfl, ?_⟩
    refine ⟨.ref g, rfl, .ref l, rfl, g, l, gs, ks, rfl, hg, h1, f2, f1, fun H1 p rs s1 np hr1 ar mr => ?_⟩
    refine ⟨Nat.zero_le _, fun o no => eq_gls (hr1.sm (Sm.new no)) (gls_nil upd_same) ?_⟩
    have s1o := s1.put (o := .lst []) (s1.free no)
    have e1 : decide (rs = []) = decide (∀ k ∈ gs, k ∉ ks) := decide_eq_decide.mpr ⟨fun e k hk hn => by
      have := (mr k).mpr ⟨hk, by rw [if_pos rfl]; exact hn⟩
      rw [e] at this
      exact List.not_mem_nil this, fun e => List.eq_nil_iff_forall_not_mem.mpr fun k hk => by
      obtain ⟨z1, z2⟩ := (mr k).mp hk
      rw [if_pos rfl] at z2
      exact e k z1 z2⟩
    refine ⟨_, rfl, ?_⟩
    rw [e1]
    by_cases c1 : ∀ k ∈ gs, k ∉ ks
    · refine iteT' (decide_eq_true c1) ?_
      refine ⟨.ref x, rfl, .ref l, rfl, x, l, xs, ks, rfl, hx.sm s1o, h1.sm s1o, f3, f1, fun H2 p2 ys s2 np2 hr2 ay my => ?_⟩
      refine ⟨Nat.zero_le _, fun o2 no2 => eq_gls (hr2.sm (Sm.new no2)) (gls_nil upd_same) ?_⟩
      have s2o := (s1o.trans s2).put (o := .lst []) ((s1o.trans s2).free no2)
      have e2 : decide (ys = []) = decide (∀ k ∈ xs, k ∈ ks) := decide_eq_decide.mpr ⟨fun e k hk => Classical.byContradiction fun hn => by
        have := (my k).mpr ⟨hk, by rw [if_neg Bool.false_ne_true]; exact hn⟩
        rw [e] at this
        exact List.not_mem_nil this, fun e => List.eq_nil_iff_forall_not_mem.mpr fun k hk => by
        obtain ⟨z1, z2⟩ := (my k).mp hk
        rw [if_neg Bool.false_ne_true] at z2
        exact z2 (e k z1)⟩
      refine toBl ?_ (q _ s2o)
      unfold fitsB
      rw [e2, decide_eq_true c1, Bool.true_and]
    · refine iteF' (decide_eq_false c1) ?_
      refine toBl ?_ (q _ s1o)
      unfold fitsB
      rw [decide_eq_false c1, Bool.false_and]
end
end A7

set_option Elab.async false
set_option linter.all false
set_option maxRecDepth 100000
set_option maxHeartbeats 4000000
namespace A7
open PySem PySem.Spec PyProof.Rows L2 AS
theorem few_of {α : Type} [DecidableEq α] (l : List α) : ∀ m : List α, l.Nodup → (∀ x ∈ l, x ∈ m) → l.length ≤ m.length := by
  induction l with
  | nil => exact fun m _ _ => Nat.zero_le _
  | cons y l ih =>
    intro m nd sub
    rw [List.nodup_cons] at nd
    have hy := sub y (.head _)
    have z := ih (m.erase y) nd.2 fun x hx => (List.mem_erase_of_ne fun e : x = y => nd.1 (e ▸ hx)).mpr (sub x (.tail _ hx))
    have z2 := List.length_erase_of_mem hy
    have z3 := List.length_pos_of_mem hy
    rw [List.length_cons]
    omega
def msgA : Str := "change does not apply"
def msgC : Str := "changes do not compose"
theorem mk_readD {K : PySem.W.Frag} {mg : Str → Option Value} {c f1 f2 : Str} {W : Value → Option Addr → Hp → Prop} {H1 : Hp} {x y : V} (R : ErrC K mg c f1 f2) (hx : Fld x) (hy : Fld y)
    (q : ∀ d H', Sm H1 H' → H1 d = none → H' d = some (.xd [(f2, y), (f1, x)]) → W (.ref (He.ga K c)) (some d) H') :
    [x].length ≤ 1000 ∧ ∀ a, H1 a = none → spInit K f1 f2 (.ref a :: ([x] ++ [y])) (upd H1 a (exo a (He.ga K c) none))
      (fun v H2 => v = .non ∧ ∃ (d : Addr) (fs : List (Str × V)), H2 a = some (exo a (He.ga K c) (some d)) ∧ H2 d = some (exd d fs) ∧ H1 d = none ∧ W (.ref (He.ga K c)) (some d) (upd (del H2 a) d (.xd fs))) (fun _ _ _ => False) :=
  ⟨by show 1 ≤ 1000; decide, (mk_read R hx hy q).2⟩
/-- what a caught error is -/
def ErrAt (H : Hp) (d : Addr) (m : Str) : Prop := H d = some (.xd [("index", .int (-1)), ("what", .str m)])
def spApply (K : PySem.W.Frag) : Sp := fun vs H Q E => ∃ (l c : Addr) (ks gs xs : List (List Str)), vs = [.ref l, .ref c] ∧ GLs K H l ks ∧ ChAt K H c gs xs ∧ Full ks ∧ Full gs ∧ Full xs ∧ gs.Nodup ∧
  (fitsB ks gs xs = true → ∀ H' p rs, Sm H H' → H p = none → GLs K H' p rs → AscS rs → (∀ k, k ∈ rs ↔ (k ∈ ks ∧ k ∉ xs) ∨ k ∈ gs) → Q (.ref p) H') ∧
  (fitsB ks gs xs = false → ∀ d H', Sm H H' → H d = none → ErrAt H' d msgA → E (.ref (He.ga K "Refused")) (some d) H')
def joinB (g1 x1 g2 x2 : List (List Str)) : Bool := decide (∀ k ∈ g1, k ∉ g2) && decide (∀ k ∈ x1, k ∉ x2)
def spCompose (K : PySem.W.Frag) : Sp := fun vs H Q E => ∃ (c d : Addr) (g1 x1 g2 x2 : List (List Str)), vs = [.ref c, .ref d] ∧ ChAt K H c g1 x1 ∧ ChAt K H d g2 x2 ∧ Full (g1 ++ g2) ∧ Full (x1 ++ x2) ∧
  (joinB g1 x1 g2 x2 = true → ∀ H' p gs xs, Sm H H' → H p = none → ChAt K H' p gs xs → AscS gs → AscS xs → (∀ k, k ∈ gs ↔ (k ∈ g1 ∨ k ∈ g2) ∧ ¬ (k ∈ x1 ∨ k ∈ x2)) → (∀ k, k ∈ xs ↔ (k ∈ x1 ∨ k ∈ x2) ∧ ¬ (k ∈ g1 ∨ k ∈ g2)) → Q (.ref p) H') ∧
  (joinB g1 x1 g2 x2 = false → ∀ e H', Sm H H' → H e = none → ErrAt H' e msgC → E (.ref (He.ga K "Refused")) (some e) H')
section
variable {P : Program} {w : World} {K : PySem.W.Frag} {mg : Str → Option Value} {base : Heap}
theorem ok_apply_change (T : Top NN K mg base) (B : VeInit K (He.ga K "AuthError")) (R_Refused : ErrC K mg "Refused" "what" "index") : DOk P w K mg base (CX P w) 3 "apply_change" ["grants", "change"] (spApply K) := by
  refine T.ok (d := dapply_change) iapply_change rfl rfl rfl rfl (by decide +kernel) scapply_change (fun _ _ _ _ _ _ us hl => match us, hl with | [_, _], _ => rfl) (fun vs H Q E h => ?_) (fun cdv A outer s H vs Q E ec hr h => ?_)
  · obtain ⟨l, c, ks, gs, xs, rfl, _⟩ := h
    rfl
  · obtain ⟨l, c, ks, gs, xs, rfl, h1, ⟨g, x, hc, hg, hx⟩, f1, f2, f3, gnd, q1, q2⟩ := h
    have G_applies := ok_applies (P := P) (w := w) T
    have G_without := (ok_without (P := P) (w := w) T).mono (show 1 ≤ 2 by decide)
    have n_sorted := T.f "sorted" (by decide +kernel)
    obtain ⟨fE, ds, F_Refused, rds, b_Refused⟩ := ok_Refused_init (P := P) (w := w) T B
    refine ⟨_, (pss_cons (ps_if (pt_not (pt_val (pe_callD G_applies hr (pa_cons (pv 0) (pa_cons (pv 1) pa_nil))))) (pss_one (ps_raise rfl (takes_of rfl rfl rfl rfl) (pmk_oex R_Refused.ox R_Refused.iC R_Refused.tI F_Refused hr b_Refused rds pass0 rfl R_Refused.gl (pa_cons pe_str pa_nil)))) pss_nil)
      (pss_cons (ps_asg (pv 1) (pg_tup (by rfl) (pgs_cons (pg_name (i := 2) scapply_change.nd rfl (.inl rfl)) (pgs_cons (pg_name (i := 3) scapply_change.nd rfl (.inl rfl)) pgs_nil))))
      (pss_one (ps_ret (pe_callB (call_sortL hr.units) (by rfl) n_sorted (by decide +kernel) (pa_cons (pe_lst (StX.pa_star (pe_callD G_without hr (pa_cons (pv 0) (pa_cons (pv 3) pa_nil))) (StX.pa_star (pv 2) pa_nil))) pa_nil)))))), ?_⟩
    refine ⟨.ref l, rfl, .ref c, rfl, l, c, ks, gs, xs, rfl, h1, ⟨g, x, hc, hg, hx⟩, f1, f2, f3, fun H1 s1 => ⟨_, rfl, ?_⟩⟩
    cases e : fitsB ks gs xs with
    | false =>
      refine iteT' rfl ?_
      refine mk_readD R_Refused (.inr ⟨msgA, rfl, by decide +kernel⟩) (.inl ⟨-1, rfl, by decide, by decide⟩) fun d H4 s4 nd ed => ?_
      exact q2 e d H4 (s1.trans s4) (s1.free nd) ed
    | true =>
      refine iteF' rfl ?_
      refine ⟨.ref c, rfl, c, _, rfl, .inl (.inl (s1.tup hc)), rfl, _, _, rfl, _, _, rfl, rfl, ?_⟩
      refine ⟨.ref l, rfl, .ref x, rfl, l, x, ks, xs, rfl, h1.sm s1, hx.sm s1, f1, f3, fun H2 p rs s2 np hp ar mr => ?_⟩
      have s12 := s1.trans s2
      obtain ⟨M1, a1, a2, a3⟩ := hp
      obtain ⟨M2, b1, b2, b3⟩ := hg.sm s12
      refine ⟨p, _, rfl, .inr (.inl (.inl a1)), .ref g, rfl, g, _, rfl, .inr (.inl (.inl b1)), ?_⟩
      have sub : ∀ k ∈ rs, k ∈ ks := fun k hk => ((mr k).mp hk).1
      have lr : rs.length ≤ ks.length := few_of rs ks ar.nd sub
      have k1 : M1.length = rs.length := by rw [← a3, List.length_map]
      have k2 : M2.length = gs.length := by rw [← b3, List.length_map]
      have l1 := f1.2
      have l2 := f2.2
      refine ⟨by rw [List.length_append, List.length_append, List.length_map, List.length_map, sizeLine_eq]; show M1.length + (M2.length + 0) ≤ _; omega, fun o no => ?_⟩
      have so := Sm.new (o := .lst (M1.map (fun p => V.ref p.1) ++ (M2.map (fun p => V.ref p.1) ++ []))) no
      have tt : TupN K H2 (M1 ++ M2) := fun p hp => (List.mem_append.mp hp).elim (a2 p) (b2 p)
      refine ⟨o, M1 ++ M2, rfl, .inl (.inl ?_), tt.sm so, fun p hp => ?_, by rw [List.length_append]; omega, fun M p2 pm le np2 => ?_⟩
      · rw [upd_same, List.map_append, List.append_nil]
      · rcases List.mem_append.mp hp with z | z
        · exact f1.1 _ (sub _ (by rw [← a3]; exact List.mem_map.mpr ⟨p, z, rfl⟩))
        · exact f2.1 _ (by rw [← b3]; exact List.mem_map.mpr ⟨p, z, rfl⟩)
      · have s5 := so.put (o := .lst (M.map fun q => V.ref q.1)) (so.free np2)
        have kp : (M.map (·.2)).Perm (rs ++ gs) := by
          have z := pm.map (·.2)
          rw [List.map_append, a3, b3] at z
          exact z
        have fit := He.ba (show (decide (∀ k ∈ gs, k ∉ ks) && decide (∀ k ∈ xs, k ∈ ks)) = true from e)
        have dis := of_decide_eq_true fit.1
        refine q1 e _ p2 (M.map (·.2)) (s12.trans s5) (s12.free (so.free np2)) ⟨M, upd_same, TupN.sm s5 fun p hp => tt p (pm.mem_iff.mp hp), rfl⟩ ⟨le, kp.nodup_iff.mpr (List.nodup_append.mpr ⟨ar.nd, gnd, fun a ha b hb e => dis b hb (e ▸ sub a ha)⟩)⟩ fun k => ?_
        rw [kp.mem_iff, List.mem_append, mr k, if_neg Bool.false_ne_true]
end
end A7

set_option Elab.async false
set_option linter.all false
set_option maxRecDepth 100000
set_option maxHeartbeats 2000000
namespace AS
open PySem PySem.Spec PyProof.Rows L2
/-! ### enumerate(list, start=k) -/
section
variable {M : Model} {A : Around} {E : Value → Shared → Prop} {s : Shared}
theorem cw_type {pos : Pos} {T : String} {as : List (Bool × Sem Value)} {ks : List (Option Str × Sem Value)} {Q : Value → Shared → Prop}
    (n1 : as.any (·.1) = false) (n2 : ks.any (·.1.isNone) = false)
    (h : wpAny M A (evalArgs (.type T) true as ks) (fun a u => wpAny M A (call (.type T) a.pos a.kw) Q E u) E s) :
    wpAny M A (callWith pos (.type T) [] as ks) Q E s := by
  unfold callWith
  refine wpAny_bind (wpAny_holding (wpAny_mono h (fun a u g => wpAny_bind (wpAny_standAt ?_)) fun _ _ z => z))
  simp only [n1, n2, Bool.or_false]
  exact wpAny_bind (wpAny_pure (wpAny_bind (wpAny_mono g (fun r v hr => wpAny_bind (wpAny_holding (wpAny_point (wpAny_pure hr)))) fun _ _ z => z)))
end
/-- the list at a as it stands at each turn, each item behind its number, from k on -/
def ItE (K : PySem.W.Frag) (k : Int) (a : Addr) : It :=
  ⟨fun i H => ∃ (xs : List V) (x : V), SqL K H a xs ∧ xs[i]? = some x,
   fun i H v H' => ∃ T x, v = .ref T ∧ H T = none ∧ H' = upd H T (.tup [.int (k + (i : Nat)), x]) ∧ ∀ xs, SqL K H a xs → xs[i]? = some x,
   fun i H => ∃ xs : List V, SqL K H a xs ∧ xs.length = i⟩
theorem turn_enumK {P : Program} {w : World} {K : PySem.W.Frag} {elts : List Expr} {kk : Nat} {tpos : Pos} (k : Int) (a e it : Addr) (nea : e ≠ a) (nia : a ≠ it) :
    Turn P w K (.Tuple elts kk tpos) (ItE K k a) [e, it] e (fun i h => (∃ old, IsEnum h e it (k + (i : Nat)) old) ∧ h.IsListIter it a i ∧ e ≠ it) where
  mem := by simp
  obj := fun i h st b hb => by
    obtain ⟨⟨old, he⟩, ⟨o, ho, hc, hd⟩, _⟩ := st
    rcases List.mem_cons.mp hb with z | z
    · rw [z]
      exact ⟨_, he, fun v q => nomatch q⟩
    · rw [List.mem_singleton.mp z]
      exact ⟨o, ho, fun v q => by rw [hd] at q; cases q⟩
  keep := fun i h h' st kp => by
    obtain ⟨⟨old, he⟩, hi, hne⟩ := st
    exact ⟨⟨old, kp e (by simp) _ he⟩, hi.at fun o q => kp it (by simp) o q, hne⟩
  item := by
    intro X hP hw hK hc i pins s σ H E I hf st hg
    subst hP hw hK
    obtain ⟨⟨old, he⟩, hit, hne⟩ := st
    obtain ⟨xs, x, hq, hx⟩ := hg
    obtain ⟨its, rv, p, hz⟩ := I.list hq
    obtain ⟨u, hu, ru⟩ := rv.get hx
    have hlt : i < its.toArray.size := by
      have q := (List.getElem?_eq_some_iff.mp hu).1
      simpa using q
    have eL : e < s.heap.objs.size := Heap.lt_size he
    have iL : it < s.heap.objs.size := by
      obtain ⟨_, q, _⟩ := hit
      exact Heap.lt_size q
    have DD := Draws.list (prog := X.prog) (w := X.w) (A := X.A.in1) (I.ok.hd hc) it a nia its.toArray
    refine wpAny_pyNext_enum_itemC DD he ⟨hit, p.isList⟩ hlt hne (by simp [hne, nea]) fun y h' tk hy ho hst hT hsz hk => ?_
    have ey : y = u := by
      have z : its[i]? = some y := by simpa using hy
      rw [hu] at z
      exact (Option.some.inj z).symm
    subst ey
    refine ⟨_, rfl, wpAny_letOwnedTupleGo_enum (s := { s with heap := h', toks := tk + 1 }) ho fun h2 he2 sb => ?_⟩
    have hT2 : h2.get? s.heap.objs.size = some { cls := .type "tuple", data := .seq #[.int (k + (i : Nat)) tk, y] } := (sb.2 _ (Nat.ne_of_gt eL)).trans hT
    have fresh := I.hok.fresh (Nat.le_refl s.heap.objs.size)
    have new : ObjOk X.prog X.w (upd H s.heap.objs.size (.tup [.int (k + (i : Nat)), x])) h2 s.heap.objs.size (.tup [.int (k + (i : Nat)), x]) :=
      ⟨by show 2 ≤ sizeLine; decide, [.int (k + (i : Nat)) tk, y], .cons ⟨_, rfl⟩ (.cons ru .nil), ⟨_, hT2, rfl, _, rfl⟩⟩
    have J : Inv X pins σ (upd H s.heap.objs.size (.tup [.int (k + (i : Nat)), x])) { s with heap := h2, toks := tk + 1 } :=
      I.turnedNew (ch := [e, it]) (fun b ob hb q => (sb.2 b (fun z => hb (by simp [z]))).trans (hk b ob (fun z => hb (by simp [z])) (fun z => hb (by simp [z])) q)) hf (Nat.le_refl _) new
    refine ⟨.ref s.heap.objs.size, _, J, rfl, ⟨_, x, rfl, fresh, rfl, fun ys hys => by rw [I.list_inj hys hq]; exact hx⟩, ⟨⟨y, ?_⟩, hst.1.at fun o q => (sb.2 it (Ne.symm hne)).trans q, hne⟩, fun b hb => ?_⟩
    · have e1 : k + ((i + 1 : Nat) : Int) = k + (i : Int) + 1 := by omega
      rw [e1]
      exact he2
    · have hb' : b < s.heap.objs.size := by
        rcases List.mem_cons.mp hb with z | z
        · rw [z]; exact eL
        · rw [List.mem_singleton.mp z]; exact iL
      rw [upd_ne (Nat.ne_of_lt hb')]
      exact (hf b hb).1
  done := by
    intro X hP hw hK hc i pins s σ H E I hf st hg
    subst hP hw hK
    obtain ⟨⟨old, he⟩, hit, hne⟩ := st
    obtain ⟨xs, hq, hx⟩ := hg
    obtain ⟨its, rv, p, hz⟩ := I.list hq
    obtain ⟨f0, f1, f2, f3, f4, f5⟩ := hf it (by simp)
    have hl := rv.length
    have DD := Draws.list (prog := X.prog) (w := X.w) (A := X.A.in1) (I.ok.hd hc) it a nia its.toArray
    have hn : its.toArray.size = i := by simp; omega
    have hit2 : s.heap.IsListIter it a its.toArray.size := by rw [hn]; exact hit
    exact wpAny_pyNext_enum_endD DD he ⟨hit2, p.isList⟩ fun h' eb => ⟨rfl, I.turned (t' := s.toks) (fun b o hb q => eb b o hb q) f0 f1 f3 f4 f5⟩
  self := fun A i s Q E st h => by
    obtain ⟨⟨_, he⟩, _⟩ := st
    exact wpAny_pyIter_enum he h
def iEnumK (K : PySem.W.Frag) (ta tk : TA) : TI := fun σ H R => ta σ H fun vs H1 => tk σ H1 fun zs H2 => ∃ a xs k, vs = [.ref a] ∧ zs = [.int k] ∧ -(2 ^ 63) ≤ k ∧ k < 2 ^ 63 ∧ SqL K H2 a xs ∧ R (ItE K k a) H2
/-- for i, x in enumerate(xs, start=k), xs a list -/
theorem pi_enumK {X : Cx} {e : Expr} {ta tk : TA} {p pos tpos : Pos} {elts : List Expr} {kk : Nat} {kws : List Keyword} (hg : Gl X "enumerate") (hm : X.mg "enumerate" = none) (ha : PA X [e] ta) (hkw : PK X kws tk)
    (hall : (backToKw pos (keywordEach kws X.env)).all (·.1.isSome) = true := by rfl) (hks : (backToKw pos (keywordEach kws X.env)).filterMap (·.1) = [("start" : Str)] := by rfl)
    (he : starEach [e] X.env = (false, eval e X.env) :: starEach [] X.env := by rfl)
    (hpl : (backTo pos (starEach [e] X.env)).any (·.1) = false := by rfl) (hno : (backToKw pos (keywordEach kws X.env)).any (·.1.isNone) = false := by rfl) :
    PI X (.Tuple elts kk tpos) (.Call (.Name "enumerate" p) [e] kws pos) (iEnumK X.K ta tk) := by
  constructor
  intro pins s σ H R I h
  refine wpAny_Call_Name_kw (ld_blt I hg hm boot_enumerate (cw_type hpl hno ?_))
  have run := ha.run pos pins s σ H _ I h
  rw [he] at run ⊢
  refine PyProof.Rows.evalArgs_kwB hall (thn run fun us s1 r => ?_)
  obtain ⟨vs, H1, J, rv, q1⟩ := r
  refine thn (hkw.run pos pins s1 σ H1 _ J q1) fun ws s2 r2 => ?_
  obtain ⟨zs, H2, L, rz, a, xs, k, rfl, rfl, h0, h1, hq, q⟩ := r2
  rw [hks]
  cases rv with
  | @cons _ ua _ ur ra rt =>
    cases rt
    obtain rfl : ua = Value.ref a := ra
    cases rz with
    | @cons _ uk _ ul rk rl =>
      cases rl
      obtain ⟨t, rfl⟩ := (show ∃ t, uk = Value.int k t from rk)
      obtain ⟨its, rv2, p', hz⟩ := L.list hq
      have p'' : s2.heap.IsList a its.toArray := p'.isList
      have old : ∀ b o, s2.heap.get? b = some o → b < s2.heap.objs.size := fun b o q => Heap.lt_size q
      have al : a < s2.heap.objs.size := by
        obtain ⟨o, ho, _⟩ := p''
        exact old a o ho
      show wpAny _ _ (call (.type "enumerate") [.ref a] [(("start" : Str), .int k t)]) _ _ _
      refine enum_begins_start (begins_list a its.toArray) p'' h0 h1 fun h' hE hit hsz kp => wpAny_pyIter_enum hE ?_
      have J2 : Inv X pins σ H2 { s2 with heap := h' } := L.kept (t' := s2.toks) kp
      refine ⟨s2.heap.objs.size + 1, [s2.heap.objs.size + 1, s2.heap.objs.size], _, _, H2, rfl, J2,
        turn_enumK k a (s2.heap.objs.size + 1) s2.heap.objs.size (fun z => by rw [← z] at al; exact absurd al (Nat.not_lt.mpr (Nat.le_succ _))) (Nat.ne_of_lt al), ⟨⟨.none, ?_⟩, ⟨_, hit, rfl, rfl⟩, Nat.succ_ne_self _⟩, fun b hb => ?_, q⟩
      · have z : k + ((0 : Nat) : Int) = k := by omega
        rw [z]
        exact hE
      · have ge : s2.heap.objs.size ≤ b := by
          rcases List.mem_cons.mp hb with z | z
          · rw [z]
            exact Nat.le_succ _
          · rw [List.mem_singleton.mp z]
            exact Nat.le_refl _
        exact L.fpOk ge (L.hok.fresh ge)
/-- the bookkeeping of such a loop -/
theorem for_enumK {K : PySem.W.Frag} {k : Int} {a : Addr} {xs : List V} {g : TG} {tb : TS} {D : Ends} {σ : L2.St} {H : Hp} (Pv : Nat → L2.St → Hp → Prop) (h0 : Pv 0 σ H) (hl : ∀ i σ H, i ≤ xs.length → Pv i σ H → SqL K H a xs)
    (hs : ∀ (i : Nat) x T σ H, xs[i]? = some x → Pv i σ H → H T = none → g (.ref T) σ (upd H T (.tup [.int (k + (i : Nat)), x])) fun σ2 H2 => tb { D with nx := Pv (i + 1), ct := Pv (i + 1), bk := D.nx } σ2 H2)
    (hd : ∀ σ H, Pv xs.length σ H → D.nx σ H) :
    ∃ W : Nat → Nat → L2.St → Hp → Prop, (∃ m, W 0 m σ H) ∧ ∀ i m σ H, W i m σ H →
      ((ItE K k a).stop i H ∧ D.nx σ H) ∨ ((ItE K k a).go i H ∧ ∃ N : L2.St → Hp → Prop, (∀ σ' H', N σ' H' → ∃ m', m' < m ∧ W (i + 1) m' σ' H') ∧ ∀ x H', (ItE K k a).yld i H x H' → g x σ H' fun σ2 H2 => tb { D with nx := N, ct := N, bk := D.nx } σ2 H2) := by
  refine ⟨fun i m σ H => m = xs.length - i ∧ i ≤ xs.length ∧ Pv i σ H, ⟨_, rfl, Nat.zero_le _, h0⟩, ?_⟩
  intro i m σ H hW
  obtain ⟨em, hi, hp⟩ := hW
  have q := hl i σ H hi hp
  by_cases hlt : i < xs.length
  · refine .inr ⟨⟨xs, xs[i], q, List.getElem?_eq_getElem hlt⟩, Pv (i + 1), fun σ' H' hp' => ⟨xs.length - (i + 1), by omega, rfl, hlt, hp'⟩, fun x H' y => ?_⟩
    obtain ⟨T, z, rfl, nT, rfl, f⟩ := y
    exact hs i z T σ H (f xs q) hp nT
  · have e : i = xs.length := by omega
    subst e
    exact .inl ⟨⟨xs, q, rfl⟩, hd σ H hp⟩
end AS

set_option Elab.async false
set_option linter.all false
set_option maxRecDepth 100000
set_option maxHeartbeats 2000000
namespace AS
open PySem PySem.Spec PyProof.Rows L2
/-! ### own classes: their facts as one Bool -/
def clsB (K : PySem.W.Frag) (C : Str) (fs ms : List Str) : Bool :=
  (He.Fa.cls C).ok K && ((He.Fa.mkr C).ok K && (fs.all (fun f => (He.Fa.noat C f).ok K) && ms.all fun m => (He.Fa.meth C m).ok K))
structure ClsC (K : PySem.W.Frag) (mg : Str → Option Value) (C : Str) (fs ms : List Str) : Prop where
  gl : mg C = some (.ref (He.ga K C))
  cl : Cls K (He.ga K C)
  mkr : Mk K (He.ga K C) (He.ma K (He.ga K C) "__init__")
  no : ∀ f ∈ fs, NoAttr K (He.ga K C) f
  me : ∀ m ∈ ms, Meth K (He.ga K C) m (He.ma K (He.ga K C) m)
theorem clsB_ok {K : PySem.W.Frag} {mg : Str → Option Value} {C : Str} {fs ms : List Str} (g : mg C = some (.ref (He.ga K C))) (h : clsB K C fs ms = true) : ClsC K mg C fs ms := by
  obtain ⟨h1, h⟩ := He.ba h
  obtain ⟨h2, h⟩ := He.ba h
  obtain ⟨h3, h4⟩ := He.ba h
  exact ⟨g, He.cls_ok h1, He.mkr_ok h2, fun f hf => He.noat_ok (List.all_eq_true.mp h3 f hf), fun m hm => He.meth_ok (List.all_eq_true.mp h4 m hm)⟩
/-- a method that keeps a promise -/
structure MOk (P : Program) (w : World) (K : PySem.W.Frag) (mg : Str → Option Value) (base : Heap) (CX : CXT) (k : Nat) (c m : Str) (ps : List Str) (sp : Sp) : Prop where
  ex : ∃ fd, FnOk P w K mg base CX k (He.ma K (He.ga K c) m) fd ps sp ∧ Binds K fd ps []
theorem MOk.mono {P : Program} {w : World} {K : PySem.W.Frag} {mg : Str → Option Value} {base : Heap} {CX : CXT} {j k : Nat} {c m : Str} {ps : List Str} {sp : Sp} (G : MOk P w K mg base CX j c m ps sp) (h : j ≤ k) : MOk P w K mg base CX k c m ps sp := by
  obtain ⟨fd, F, b⟩ := G.ex
  exact ⟨⟨fd, F.mono h, b⟩⟩
section
variable {X : Cx} {CX : CXT} {k j : Nat} {c m : Str} {ps fs ms : List Str} {sp : Sp} {p pos apos : Pos} {e o : Expr} {es : List Expr} {ta : TE} {t : TA} {K : PySem.W.Frag}
/-- o.m(e, ..) -/
theorem pe_methD {pl : Sem Bool} (G : MOk X.prog X.w K X.mg X.base CX0 k c m ps sp) (R : ClsC K X.mg c fs ms) (hm : m ∈ ms) (hr : Room k X.A) (he : PE X o ta) (ha : PA X (e :: es) t) (hK : X.K = K := by rfl)
    (hst : starEach (e :: es) X.env = (false, eval e X.env) :: starEach es X.env := by rfl) (hpl : (backTo pos (starEach es X.env)).any (·.1) = false := by rfl)
    (ht : eval (.Call (.Attribute o m apos) (e :: es) [] pos) X.env = (do
      let ov ← eval o X.env
      standAt apos.atName
      let (f, first) ← holding [ov] (getMethod ov m pl)
      callWith pos f first (backTo pos (starEach (e :: es) X.env)) (backToKw pos (keywordEach [] X.env))) := by rfl) :
    PE X (.Call (.Attribute o m apos) (e :: es) [] pos) (tMeth (He.ga K c) m sp [] E0 ta t) := by
  subst hK
  obtain ⟨fd, F, b⟩ := G.ex
  exact pe_meth he R.cl (R.me m hm) F hr b .nil pass0 ha hst hpl ht
theorem pe_methD0 {pl : Sem Bool} (G : MOk X.prog X.w K X.mg X.base CX0 k c m ps sp) (R : ClsC K X.mg c fs ms) (hm : m ∈ ms) (hr : Room k X.A) (he : PE X o ta) (hK : X.K = K := by rfl)
    (ht : eval (.Call (.Attribute o m apos) [] [] pos) X.env = (do
      let ov ← eval o X.env
      standAt apos.atName
      let (f, first) ← holding [ov] (getMethod ov m pl)
      callWith pos f first (backTo pos (starEach [] X.env)) (backToKw pos (keywordEach [] X.env))) := by rfl) :
    PE X (.Call (.Attribute o m apos) [] [] pos) (tMeth (He.ga K c) m sp [] E0 ta tNil) := by
  subst hK
  obtain ⟨fd, F, b⟩ := G.ex
  exact pe_meth0 he R.cl (R.me m hm) F hr b .nil pass0 ht
/-- C(e, ..) -/
theorem pe_makeD (G : MOk X.prog X.w K X.mg X.base CX0 k c "__init__" ps sp) (R : ClsC K X.mg c fs ms) (hr : Room (k + 1) X.A) (ha : PA X (e :: es) t) (hK : X.K = K := by rfl) (hg : Gl X c := by rfl)
    (hdb : (c == ("__debug__" : Str)) = false := by decide) (he : starEach (e :: es) X.env = (false, eval e X.env) :: starEach es X.env := by rfl) (hpl : (backTo pos (starEach es X.env)).any (·.1) = false := by rfl) :
    PE X (.Call (.Name c p) (e :: es) [] pos) (tMake (He.ga K c) sp [] E0 t) := by
  subst hK
  obtain ⟨fd, F, b⟩ := G.ex
  exact pe_make R.mkr F hr hg R.gl b .nil pass0 ha hdb he hpl
theorem pe_makeD0 (G : MOk X.prog X.w K X.mg X.base CX0 k c "__init__" ps sp) (R : ClsC K X.mg c fs ms) (hr : Room (k + 1) X.A) (hK : X.K = K := by rfl) (hg : Gl X c := by rfl)
    (hdb : (c == ("__debug__" : Str)) = false := by decide) : PE X (.Call (.Name c p) [] [] pos) (tMake (He.ga K c) sp [] E0 tNil) := by
  subst hK
  obtain ⟨fd, F, b⟩ := G.ex
  exact pe_make0 R.mkr F hr hg R.gl b .nil pass0 hdb
/-- o.f, its reading with a K of its own (inside comprehensions) -/
theorem pe_fldK {f : Str} (he : PE X o ta) (hb : attributeBase o f X.env (eval o X.env) = eval o X.env := by rfl) (hK : X.K = K := by rfl) : PE X (.Attribute o f pos) (tFld K ta f) := by
  subst hK
  exact pe_fld he hb
/-- nothing is let out by a call that promises so -/
theorem passE0 : Passes (L2.CX X.prog X.w) X E0 := fun _ _ _ _ _ _ _ h => by
  obtain ⟨a, B, H', cls, d, _, _, _, _, _, _, _, hE⟩ := h
  exact hE.elim
/-- f(e, ..) of a def that may raise, where it does not -/
theorem pe_callE {x : Str} (G : DOk X.prog X.w X.K X.mg X.base (L2.CX X.prog X.w) k x ps sp) (hr : Room k X.A) (ha : PA X (e :: es) t) (hg : Gl X x := by rfl) (hdb : (x == ("__debug__" : Str)) = false := by decide)
    (he : starEach (e :: es) X.env = (false, eval e X.env) :: starEach es X.env := by rfl) (hpl : (backTo pos (starEach es X.env)).any (·.1) = false := by rfl) : PE X (.Call (.Name x p) (e :: es) [] pos) (tCall sp [] E0 t) := by
  obtain ⟨fd, F, b⟩ := G.ex
  exact pe_call F hr hg G.gl G.kp b .nil passE0 ha hdb he hpl
end
/-! ### heaps -/
theorem Tabs.updB {K : PySem.W.Frag} {tf : List He.Defn} {H : Hp} {l : Addr} {o u : HO} (t : Tabs K tf H) (h : H l = some u) (hu : ∀ ps, u ≠ .tbl ps) : Tabs K tf (upd H l o) := fun p hp => by
  obtain ⟨ps, e, z⟩ := t p hp
  refine ⟨ps, ?_, z⟩
  by_cases q : (He.cT K p).2 = l
  · rw [q, h] at e
    exact absurd (Option.some.inj e) (hu ps)
  · rw [upd_ne q]
    exact e
theorem Tabs.new {K : PySem.W.Frag} {tf : List He.Defn} {H : Hp} {l : Addr} {o : HO} (t : Tabs K tf H) (h : H l = none) : Tabs K tf (upd H l o) := (Sm.new h).tabs t
theorem upd_back {H : Hp} {l : Addr} {o : HO} (h : H l = some o) : upd H l o = H := by
  funext b
  unfold upd
  split
  · rename_i e
    rw [e, h]
  · rfl
end AS

set_option Elab.async false
set_option linter.all false
set_option maxRecDepth 100000
set_option maxHeartbeats 4000000
namespace A7
open PySem PySem.Spec PyProof.Rows L2 AS
section
variable {P : Program} {w : World} {K : PySem.W.Frag} {mg : Str → Option Value} {base : Heap}
def spCell (K : PySem.W.Frag) : Sp := fun vs H Q _ => ∃ (a : Addr) (ns : List Int) (k : Nat), vs = [.ref a, .int k] ∧ SqL K H a (ns.map V.int) ∧ ns.length ≤ 63 ∧ Q (.int (ns.getD k 0)) H
theorem ok_law_cell (T : Top NN K mg base) : D P w K mg base 1 "_law_cell" ["script", "k"] (spCell K) := by
  refine T.ok0 (d := d_law_cell) i_law_cell rfl rfl rfl rfl (by decide +kernel) sc_law_cell (fun _ _ _ _ _ _ us hl => match us, hl with | [_, _], _ => rfl) (fun vs H Q E h => ?_) (fun cdv A outer s H vs Q E ec hr h => ?_)
  · obtain ⟨a, ns, k, rfl, _⟩ := h
    rfl
  · obtain ⟨a, ns, k, rfl, hS, hl, q⟩ := h
    have nl := T.f "len" (by decide +kernel)
    refine ⟨_, pss_cons (ps_if (pt_cmpR op_lt (pv 1) (pe_callB call_len_seq (by rfl) nl PySem.boot_len (pa_cons (pv 0) pa_nil)) (nomark _)) (pss_one (ps_ret (pe_ix ix_list (pv 0) (pv 1) (fun _ _ => rfl)))) pss_nil)
      (pss_one (ps_ret pe_int)), ?_⟩
    refine ⟨_, rfl, .ref a, rfl, a, _, rfl, .inl hS, k, _, rfl, rfl, _, rfl, iteB (fun h => ?_) fun h => ?_⟩
    · have h1 : (k : Int) < ((ns.map V.int).length : Int) := of_decide_eq_true h
      rw [List.length_map] at h1
      have h2 : k < ns.length := by omega
      refine ⟨.ref a, rfl, .int k, rfl, a, _, k, .int (ns.getD k 0), rfl, rfl, hS, atI_nat (j := k) ?_, q⟩
      rw [List.getElem?_map, List.getElem?_eq_getElem h2, List.getD_eq_getElem?_getD, List.getElem?_eq_getElem h2]
      rfl
    · have h1 : ¬ (k : Int) < ((ns.map V.int).length : Int) := of_decide_eq_false h
      rw [List.length_map] at h1
      have h2 : ns.length ≤ k := by omega
      have e : ns.getD k 0 = 0 := by rw [List.getD_eq_getElem?_getD, List.getElem?_eq_none h2]; rfl
      rw [e] at q
      exact q
def mixed (c : Int) (k : Nat) : Int := (c * 48271 + (0 + (k : Int)) * 69621) % 2147483647
/-- a promise: a cell and a count; a new list of so many numbers from 0 on, below 1000003 -/
def Drawn3 (n : Nat) (ds : List Int) : Prop := ds.length = n ∧ ∀ d ∈ ds, 0 ≤ d ∧ d < 1000003
def spDraws : Sp := fun vs H Q _ => ∃ (c : Int) (n : Nat), vs = [.int c, .int n] ∧ n ≤ 100 ∧ ∀ H' p ds, Drawn3 n ds → Sm H H' → H p = none → H' p = some (.lst (ds.map V.int)) → Q (.ref p) H'
theorem ok_law_draws (T : Top NN K mg base) : D P w K mg base 1 "_law_draws" ["cell", "count"] spDraws := by
  refine T.ok0 (d := d_law_draws) i_law_draws rfl rfl rfl rfl (by decide +kernel) sc_law_draws (fun _ _ _ _ _ _ us hl => match us, hl with | [_, _], _ => rfl) (fun vs H Q E h => ?_) (fun cdv A outer s H vs Q E ec hr h => ?_)
  · obtain ⟨a, k, rfl, _⟩ := h
    rfl
  · obtain ⟨c, n, rfl, hn, q⟩ := h
    have nr := T.f "range" (by decide +kernel)
    refine ⟨_, pss_cons (ps_set (i := 2) sc_law_draws.nd rfl (.inl rfl) (pe_lst pa_nil))
      (pss_cons (ps_set (i := 3) sc_law_draws.nd rfl (.inl rfl) (pe_cmpR op_ge (pv 0) (pe_op op_pow pe_int pe_int) (nomark _)))
      (pss_cons (ps_for PassesOwn.never rfl (pi_range1 rfl nr (pa_cons (pv 1) pa_nil)) (pg_name (i := 4) sc_law_draws.nd rfl (.inl rfl))
        (pss_one (ps_if (pt_val (pv 3))
          (pss_cons (ps_expr (pe_bm PySem.F.plainAttrs_list PySem.F.slot_list_append PySem.F.type_list_append mt_append (pv 2) (pa_cons (pe_op op_mod (pv 0) pe_int) pa_nil)))
            (pss_one (ps_set (i := 0) sc_law_draws.nd rfl (.inl rfl) (pe_op op_fdivN (pv 0) pe_int))))
          (pss_cons (ps_set (i := 5) sc_law_draws.nd rfl (.inl rfl) (pe_op op_mod (pe_op op_add (pe_op op_mul (pv 0) pe_int) (pe_op op_mul (pv 4) pe_int)) pe_int))
            (pss_one (ps_expr (pe_bm PySem.F.plainAttrs_list PySem.F.slot_list_append PySem.F.type_list_append mt_append (pv 2) (pa_cons (pe_op op_mod (pe_op op_add (pe_op op_add (pe_op op_mul (pv 5) (pv 5)) (pe_op op_mul (pv 0) pe_int)) (pv 4)) pe_int) pa_nil))))))))
      (pss_one (ps_ret (pv 2))))), ?_⟩
    refine ⟨Nat.zero_le _, fun o no => ?_⟩
    refine ⟨_, rfl, 10, 18, rfl, rfl, ⟨by decide, by decide, by decide⟩, c, _, rfl, rfl, ?_⟩
    refine ⟨_, rfl, n, rfl, by omega, by omega, for_range (n := (n : Int).toNat) (fun i σ H' => ∃ (c' : Int) (y4 y5 : Option V) (wd : Bool) (ds : List Int), σ = [some (.int c'), some (.int n), some (.ref o), some (.bl wd), y4, y5] ∧ Drawn3 i ds ∧ Sm H H' ∧ H' o = some (.lst (ds.map V.int)))
      ⟨c, none, none, _, [], rfl, ⟨rfl, fun d hd => nomatch hd⟩, Sm.new no, upd_same⟩ (fun i σ H' hi hP => ?_) fun σ H' hP => ?_⟩
    · obtain ⟨c', y4, y5, wd, ds, rfl, ⟨dl, db⟩, sm, eo⟩ := hP
      have hlt : (ds.map V.int).length < sizeLine := by
        rw [List.length_map, dl]
        exact small1000 (by omega)
      have ex : ∀ e : Int, (0 ≤ e ∧ e < 1000003) → Drawn3 (i + 1) (ds ++ [e]) := fun e he => ⟨by rw [List.length_append, dl]; rfl, fun d hd => by
        rcases List.mem_append.mp hd with h | h
        · exact db d h
        · rw [List.mem_singleton.mp h]
          exact he⟩
      have em : ∀ e : Int, (ds.map V.int) ++ [.int e] = (ds ++ [e]).map V.int := fun e => by rw [List.map_append]; rfl
      have rd : ∀ b : Int, 0 ≤ b % 1000003 ∧ b % 1000003 < 1000003 := fun b => ⟨Int.emod_nonneg b (by decide), Int.emod_lt_of_pos b (by decide)⟩
      refine ⟨_, rfl, wd, rfl, iteB (fun h => ?_) fun h => ?_⟩
      · refine ⟨.ref o, rfl, .inl ⟨rfl, _, .inl (.inl eo)⟩, .int c', rfl, c', 1009, rfl, rfl, by show (0 : Int) < 1009; decide, o, _, _, rfl, rfl, eo, hlt, ?_⟩
        refine ⟨.int c', rfl, c', 1009, rfl, rfl, ⟨by decide, by decide⟩, ?_⟩
        have r1 : 0 ≤ c' % 1009 ∧ c' % 1009 < 1000003 := ⟨Int.emod_nonneg c' (by decide), by have := Int.emod_lt_of_pos c' (show (0 : Int) < 1009 by decide); omega⟩
        refine ⟨_, _, _, _, ds ++ [c' % 1009], rfl, ex _ r1, sm.put no, ?_⟩
        rw [← em]
        exact upd_same
      · refine ⟨.int c', rfl, c', 48271, rfl, rfl, .inr ⟨by decide, by decide⟩, .int (0 + i), rfl, _, 69621, rfl, rfl, .inr ⟨by decide, by decide⟩, _, _, rfl, rfl, _, 2147483647, rfl, rfl, by show (0 : Int) < 2147483647; decide, ?_⟩
        have m1 : 0 ≤ mixed c' i := Int.emod_nonneg _ (by decide)
        have m2 : mixed c' i < 2147483647 := Int.emod_lt_of_pos _ (by decide)
        refine ⟨.ref o, rfl, .inl ⟨rfl, _, .inl (.inl eo)⟩, .int (mixed c' i), rfl, .int (mixed c' i), rfl, mixed c' i, mixed c' i, rfl, rfl, .inl ⟨by omega, by omega⟩, .int c', rfl, c', 31, rfl, rfl, .inr ⟨by decide, by decide⟩, _, _, rfl, rfl, .int (0 + i), rfl, _, _, rfl, rfl,
          _, 1000003, rfl, rfl, by show (0 : Int) < 1000003; decide, o, _, _, rfl, rfl, eo, hlt, ?_⟩
        refine ⟨_, _, _, _, ds ++ [(mixed c' i * mixed c' i + c' * 31 + (0 + (i : Int))) % 1000003], rfl, ex _ (rd _), sm.put no, ?_⟩
        rw [← em]
        exact upd_same
    · obtain ⟨c', y4, y5, wd, ds, rfl, hd, sm, eo⟩ := hP
      have e : (n : Int).toNat = n := by omega
      rw [e] at hd
      exact ⟨_, rfl, q H' o ds hd sm no eo⟩
end
end A7

set_option Elab.async false
set_option linter.all false
set_option maxRecDepth 100000
set_option maxHeartbeats 4000000
namespace AS
open PySem PySem.Spec PyProof.Rows L2
/-! ### o.m(..) of a method that may raise -/
def tMethE (C : Addr) (m : Str) (sp : Sp) (E : L2.St → XK) (ta : TE) (t : TA) : TE := fun σ H Q => ta σ H fun x H1 => ∃ a dx fs, x = .ref a ∧ H1 a = some (.ins C dx fs) ∧ fs.lookup m = none ∧ t σ H1 fun vs H2 => sp (x :: vs) H2 Q (E σ)
section
variable {X : Cx} {CX : CXT} {k j : Nat} {c m : Str} {ps fs ms : List Str} {sp : Sp} {p pos apos : Pos} {e o : Expr} {es : List Expr} {ta : TE} {t : TA} {K : PySem.W.Frag} {E : L2.St → XK}
theorem pe_methE {pl : Sem Bool} (G : MOk X.prog X.w K X.mg X.base CX k c m ps sp) (R : ClsC K X.mg c fs ms) (hm : m ∈ ms) (hr : Room k X.A) (he : PE X o ta) (hx : ∀ σ, PassesAt CX X σ (E σ)) (ha : PA X (e :: es) t) (hK : X.K = K := by rfl)
    (hst : starEach (e :: es) X.env = (false, eval e X.env) :: starEach es X.env := by rfl) (hpl : (backTo pos (starEach es X.env)).any (·.1) = false := by rfl)
    (ht : eval (.Call (.Attribute o m apos) (e :: es) [] pos) X.env = (do
      let ov ← eval o X.env
      standAt apos.atName
      let (f, first) ← holding [ov] (getMethod ov m pl)
      callWith pos f first (backTo pos (starEach (e :: es) X.env)) (backToKw pos (keywordEach [] X.env))) := by rfl) :
    PE X (.Call (.Attribute o m apos) (e :: es) [] pos) (tMethE (He.ga K c) m sp E ta t) := by
  subst hK
  obtain ⟨fd, F, b⟩ := G.ex
  have hm2 := R.me m hm
  refine ⟨fun pins s σ H Q I h => ?_⟩
  refine PySem.W.methodCall_KW (pl := pl) (thn (he.run pins s σ H _ I h) fun u s1 ⟨x, H1, I1, rx, a, dx, fs, ex, ea, l, q⟩ => ?_) ht
  subst ex
  obtain rfl : u = Value.ref a := rx
  refine getmeth_ok I1 ea R.cl hm2 l ?_
  refine PySem.W.callWith_K (first := [.ref a]) (h₀ := X.base) I.ok.mod.kin hm2.kp (thn (ha.run pos pins s1 σ H1 _ I1 q) fun us s2 ⟨vs, H2, I2, r, q2⟩ => ⟨I2.kIn, ?_⟩) hst hpl
  exact run_fnS (us := .ref a :: us) (vs := .ref a :: vs) F hr b (hx σ) I2 (.cons rfl r) q2
end
end AS

set_option Elab.async false
set_option linter.all false
set_option maxRecDepth 100000
set_option maxHeartbeats 4000000
namespace A7
open PySem PySem.Spec PyProof.Rows L2 AS
/-! ### heaps that keep all but some dicts and instances -/
structure SmX (p : Addr → Prop) (H H' : Hp) : Prop where
  keep : ∀ b o, ¬ p b → H b = some o → (∀ ps, o ≠ .tbl ps) → H' b = some o
  tab : ∀ b ps, H b = some (.tbl ps) → ∃ qs, H' b = some (.tbl qs) ∧ (TriplesOk ps.toList → TriplesOk qs.toList)
  free : ∀ b, H' b = none → H b = none
theorem SmX.of {p : Addr → Prop} {H H' : Hp} (e : Sm H H') : SmX p H H' := ⟨fun b o _ => e.keep b o, e.tab, fun b h => e.free h⟩
theorem SmX.trans {p : Addr → Prop} {H H1 H2 : Hp} (a : SmX p H H1) (b : SmX p H1 H2) : SmX p H H2 where
  keep := fun c o n h t => b.keep c o n (a.keep c o n h t) t
  tab := fun c ps h => by
    obtain ⟨q1, h1, t1⟩ := a.tab c ps h
    obtain ⟨q2, h2, t2⟩ := b.tab c q1 h1
    exact ⟨q2, h2, fun z => t2 (t1 z)⟩
  free := fun c h => a.free c (b.free c h)
theorem SmX.set {p : Addr → Prop} {H H' : Hp} {l : Addr} {o u : HO} (e : SmX p H H') (h : H' l = some u) (hp : p l) (hu : ∀ ps, u ≠ .tbl ps) (hH : ∀ ps, H l ≠ some (.tbl ps)) : SmX p H (upd H' l o) where
  keep := fun c oc n hc t => by
    rw [upd_ne fun z : c = l => n (by rw [z]; exact hp)]
    exact e.keep c oc n hc t
  tab := fun c ps hc => by
    rw [upd_ne fun z => by rw [z] at hc; exact hH ps hc]
    exact e.tab c ps hc
  free := fun c hc => by
    by_cases z : c = l
    · rw [z, upd_same] at hc
      cases hc
    · rw [upd_ne z] at hc
      exact e.free c hc
theorem SmX.put {p : Addr → Prop} {H H' : Hp} {l : Addr} {o : HO} (e : SmX p H H') (h : H l = none) : SmX p H (upd H' l o) where
  keep := fun c oc n hc t => by
    rw [upd_ne fun z => by rw [z, h] at hc; cases hc]
    exact e.keep c oc n hc t
  tab := fun c ps hc => by
    rw [upd_ne fun z => by rw [z, h] at hc; cases hc]
    exact e.tab c ps hc
  free := fun c hc => by
    by_cases z : c = l
    · rw [z, upd_same] at hc
      cases hc
    · rw [upd_ne z] at hc
      exact e.free c hc
theorem SmX.mono {p q : Addr → Prop} {H H' : Hp} (e : SmX p H H') (h : ∀ b, p b → q b) : SmX q H H' := ⟨fun b o n => e.keep b o fun z => n (h b z), e.tab, e.free⟩
/-- what is not kept are instances and dicts -/
def Own (p : Addr → Prop) (H : Hp) : Prop := ∀ b, p b → (∃ C dx fs, H b = some (.ins C dx fs)) ∨ ∃ kv, H b = some (.dK kv)
section
variable {K : PySem.W.Frag} {p : Addr → Prop} {H H' : Hp}
theorem SmX.lst (e : SmX p H H') (o : Own p H) {a : Addr} {xs : List V} (h : H a = some (.lst xs)) : H' a = some (.lst xs) := e.keep a _ (fun z => by rcases o a z with ⟨_, _, _, q⟩ | ⟨_, q⟩ <;> · rw [h] at q; cases q) h fun _ z => nomatch z
theorem SmX.tup (e : SmX p H H') (o : Own p H) {a : Addr} {xs : List V} (h : H a = some (.tup xs)) : H' a = some (.tup xs) := e.keep a _ (fun z => by rcases o a z with ⟨_, _, _, q⟩ | ⟨_, q⟩ <;> · rw [h] at q; cases q) h fun _ z => nomatch z
theorem SmX.seqT (e : SmX p H H') (o : Own p H) {a : Addr} {xs : List V} (h : SqT K H a xs) : SqT K H' a xs := by
  rcases h with (h | ⟨od, h⟩) | h
  · exact .inl (.inl (e.tup o h))
  · exact .inl (.inr ⟨od, e.keep a _ (fun z => by rcases o a z with ⟨_, _, _, q⟩ | ⟨_, q⟩ <;> · rw [h] at q; cases q) h fun _ z => nomatch z⟩)
  · exact .inr h
theorem SmX.seq (e : SmX p H H') (o : Own p H) {a : Addr} {xs : List V} (h : SqL K H a xs) : SqL K H' a xs := by
  rcases h with (h | ⟨od, h⟩) | h
  · exact .inl (.inl (e.lst o h))
  · exact .inl (.inr ⟨od, e.keep a _ (fun z => by rcases o a z with ⟨_, _, _, q⟩ | ⟨_, q⟩ <;> · rw [h] at q; cases q) h fun _ z => nomatch z⟩)
  · exact .inr h
theorem GLs.smX {l : Addr} {ks : List (List Str)} (e : SmX p H H') (o : Own p H) (h : GLs K H l ks) : GLs K H' l ks := by
  obtain ⟨M, h1, h2, h3⟩ := h
  exact ⟨M, e.lst o h1, fun q hq => e.seqT o (h2 q hq), h3⟩
theorem ChAt.smX {c : Addr} {gs xs : List (List Str)} (e : SmX p H H') (o : Own p H) (h : ChAt K H c gs xs) : ChAt K H' c gs xs := by
  obtain ⟨g, x, h1, h2, h3⟩ := h
  exact ⟨g, x, e.tup o h1, h2.smX e o, h3.smX e o⟩
end
/-! ### waiting changes -/
abbrev Ch := List (List Str) × List (List Str)
abbrev Wt := List (Int × Ch)
def WAt (K : PySem.W.Frag) (H : Hp) : List (Key × V) → Wt → Prop
  | [], [] => True
  | kv :: r, e :: t => (kv.1 = Sum.inl e.1 ∧ ∃ c, kv.2 = .ref c ∧ ChAt K H c e.2.1 e.2.2) ∧ WAt K H r t
  | [], _ :: _ => False
  | _ :: _, [] => False
def getW (W : Wt) (r : Int) : Option Ch := (W.find? fun e => decide (e.1 = r)).map (·.2)
def dropW (W : Wt) (r : Int) : Wt := W.filter fun e => decide (e.1 ≠ r)
section
variable {K : PySem.W.Frag} {p : Addr → Prop} {H H' : Hp}
theorem WAt.keys : ∀ {kvs : List (Key × V)} {W : Wt}, WAt K H kvs W → kvs.map (·.1) = (W.map (·.1)).map Sum.inl
  | [], [], _ => rfl
  | _ :: _, _ :: _, ⟨⟨h, _⟩, t⟩ => by
    rw [List.map_cons, List.map_cons, List.map_cons, h, WAt.keys t]
theorem WAt.mono (f : ∀ c gs xs, ChAt K H c gs xs → ChAt K H' c gs xs) : ∀ {kvs : List (Key × V)} {W : Wt}, WAt K H kvs W → WAt K H' kvs W
  | [], [], _ => trivial
  | _ :: _, _ :: _, ⟨⟨h, c, e, z⟩, t⟩ => ⟨⟨h, c, e, f _ _ _ z⟩, WAt.mono f t⟩
theorem WAt.get (r : Int) : ∀ {kvs : List (Key × V)} {W : Wt}, WAt K H kvs W → (getW W r = none → valV kvs (.inl r) = none) ∧ ∀ ch, getW W r = some ch → ∃ c, valV kvs (.inl r) = some (.ref c) ∧ ChAt K H c ch.1 ch.2
  | [], [], _ => ⟨fun _ => rfl, fun _ h => nomatch h⟩
  | kv :: kvs, e :: W, ⟨⟨h, c, ec, z⟩, t⟩ => by
    by_cases q : e.1 = r
    · have e1 : getW (e :: W) r = some e.2 := by simp [getW, List.find?_cons, q]
      rw [e1]
      refine ⟨fun h => (by cases h), fun ch hc => ⟨c, ?_, ?_⟩⟩
      · rw [valV_pos (by rw [h, q]), ec]
      · cases hc
        exact z
    · have e1 : getW (e :: W) r = getW W r := by simp [getW, List.find?_cons, q]
      rw [e1, valV_neg (by rw [h]; exact fun z => q (Sum.inl.inj z))]
      exact WAt.get r t
theorem WAt.snoc {r : Int} {c : Addr} {ch : Ch} (hc : ChAt K H c ch.1 ch.2) : ∀ {kvs : List (Key × V)} {W : Wt}, WAt K H kvs W → WAt K H (kvs ++ [(.inl r, .ref c)]) (W ++ [(r, ch)])
  | [], [], _ => ⟨⟨rfl, c, rfl, hc⟩, trivial⟩
  | _ :: _, _ :: _, ⟨h, t⟩ => ⟨h, WAt.snoc hc t⟩
theorem WAt.put {kvs : List (Key × V)} {W : Wt} {r : Int} {c : Addr} {ch : Ch} (h : WAt K H kvs W) (n : getW W r = none) (hc : ChAt K H c ch.1 ch.2) : WAt K H (putK kvs (.inl r) (.ref c)) (W ++ [(r, ch)]) := by
  unfold putK
  rw [if_neg]
  · exact WAt.snoc hc h
  · rw [valV_any, (h.get r).1 n]
    exact Bool.false_ne_true
theorem WAt.drop (r : Int) : ∀ {kvs : List (Key × V)} {W : Wt}, WAt K H kvs W → WAt K H (dropK kvs (.inl r)) (dropW W r)
  | [], [], _ => trivial
  | kv :: kvs, e :: W, ⟨⟨h, z⟩, t⟩ => by
    have i := WAt.drop r t
    unfold dropK dropW at i ⊢
    by_cases q : e.1 = r
    · rw [List.filter_cons, List.filter_cons, if_neg (by simp [h, q]), if_neg (by simp [q])]
      exact i
    · rw [List.filter_cons, List.filter_cons, if_pos (by simp [h, q]), if_pos (by simp [q])]
      exact ⟨⟨h, z⟩, i⟩
theorem WAt.len : ∀ {kvs : List (Key × V)} {W : Wt}, WAt K H kvs W → kvs.length = W.length
  | [], [], _ => rfl
  | _ :: _, _ :: _, ⟨_, t⟩ => by rw [List.length_cons, List.length_cons, WAt.len t]
end
/-! ### a replica -/
def repF (st : Str) (n : Int) (g q : Addr) : List (Str × V) := [("_store", .str st), ("_revision", .int n), ("_grants", .ref g), ("_waiting", .ref q)]
def RepAt (K : PySem.W.Frag) (H : Hp) (a q : Addr) (st : Str) (n : Int) (T : List (List Str)) (W : Wt) : Prop := ∃ dx g kvs, H a = some (.ins (He.ga K "Replica") dx (repF st n g q)) ∧ GLs K H g T ∧ H q = some (.dK kvs) ∧ WAt K H kvs W
theorem RepAt.sm {K : PySem.W.Frag} {H H' : Hp} {a q : Addr} {st : Str} {n : Int} {T : List (List Str)} {W : Wt} (e : Sm H H') (h : RepAt K H a q st n T W) : RepAt K H' a q st n T W := by
  obtain ⟨dx, g, kvs, h1, h2, h3, h4⟩ := h
  exact ⟨dx, g, kvs, e.keep _ _ h1 fun _ z => (nomatch z), h2.sm e, e.keep _ _ h3 fun _ z => (nomatch z), WAt.mono (fun _ _ _ z => z.sm e) h4⟩
theorem RepAt.own {K : PySem.W.Frag} {H : Hp} {a q : Addr} {st : Str} {n : Int} {T : List (List Str)} {W : Wt} (h : RepAt K H a q st n T W) : Own (fun b => b = a ∨ b = q) H := fun b hb => by
  obtain ⟨dx, g, kvs, h1, h2, h3, h4⟩ := h
  rcases hb with rfl | rfl
  · exact .inl ⟨_, _, _, h1⟩
  · exact .inr ⟨_, h3⟩
abbrev RC (K : PySem.W.Frag) (mg : Str → Option Value) : Prop := ClsC K mg "Replica" ["_store", "_revision", "_grants", "_waiting"] ["revision", "receive", "waiting", "check", "snapshot", "_check_entry", "_fits", "_take_waiting"]
abbrev MM (P : Program) (w : World) (K : PySem.W.Frag) (mg : Str → Option Value) (base : Heap) (CX : CXT) (k : Nat) (m : Str) (ps : List Str) (sp : Sp) : Prop := MOk P w K mg base CX k "Replica" m ps sp
end A7

set_option Elab.async false
set_option linter.all false
set_option maxRecDepth 100000
set_option maxHeartbeats 4000000
namespace A7
open PySem PySem.Spec PyProof.Rows L2 AS
theorem seqT_upd {K : PySem.W.Frag} {H : Hp} {a D : Addr} {o : HO} {xs acc : List V} (h : SqT K H a xs) (e : H D = some (.lst acc)) : SqT K (upd H D o) a xs := by
  rcases h with (h | ⟨od, h⟩) | h
  · exact .inl (.inl (by rw [upd_ne fun z => by rw [z, e] at h; cases h]; exact h))
  · exact .inl (.inr ⟨od, by rw [upd_ne fun z => by rw [z, e] at h; cases h]; exact h⟩)
  · exact .inr h
theorem TupN.upd {K : PySem.W.Frag} {H : Hp} {D : Addr} {o : HO} {acc : List V} {M : List (Addr × List Str)} (h : TupN K H M) (e : H D = some (.lst acc)) : TupN K (L2.upd H D o) M := fun p hp => seqT_upd (h p hp) e
theorem dp_one {K : PySem.W.Frag} {H : Hp} {a : Addr} {k : List Str} (h : SqT K H a (k.map V.str)) : Dp K H (.ref a) (strsD k) := .tup h (dp_strs K H k)
theorem ks_any (k : List Str) : ∀ ks : List (List Str), ((ks.map strsD).any fun z => PyData.eqv z (strsD k)) = decide (k ∈ ks)
  | [] => by simp
  | m :: r => by
    rw [List.map_cons, List.any_cons, ks_any k r, strsD_eqv]
    by_cases h : m = k
    · simp [h]
    · by_cases h2 : k ∈ r <;> simp [h, h2, Ne.symm h]
theorem in_gls {K : PySem.W.Frag} {H : Hp} {a l : Addr} {k : List Str} {ks : List (List Str)} {neg : Bool} {Q : VK} (h1 : SqT K H a (k.map V.str)) (h2 : GLs K H l ks) (q : Q (.bl (if neg then !decide (k ∈ ks) else decide (k ∈ ks))) H) : rInP K neg (.ref a) (.ref l) H Q := by
  have d1 := depth_strs k
  refine ⟨strsD k, ks.map strsD, dp_one h1, h2.dp, strs_plainAll k, ks_plainAll ks, by omega, toBl ?_ q⟩
  rw [ks_any]
theorem lstNe {H : Hp} {a D : Addr} {xs : List V} (h : H a = some (.lst xs)) (n : H D = none) : a ≠ D := fun z => by rw [z, n] at h; cases h
/-- those of ms that are not in ks -/
def minus (ms ks : List (List Str)) : List (List Str) := ms.filter fun k => !decide (k ∈ ks)
theorem mem_minus {ms ks : List (List Str)} {k : List Str} : k ∈ minus ms ks ↔ k ∈ ms ∧ k ∉ ks := by simp [minus]
/-! ### copies, updates of a list that is none of these -/
theorem GLs.copy {K : PySem.W.Frag} {H : Hp} {p : Addr} {ks : List (List Str)} (h : GLs K H p ks) : ∃ ys, SqL K H p ys ∧ ∀ l, H l = none → GLs K (upd H l (.lst ys)) l ks := by
  obtain ⟨M, h1, h2, h3⟩ := h
  exact ⟨_, .inl (.inl h1), fun l nl => ⟨M, upd_same, h2.sm (Sm.new nl), h3⟩⟩
theorem GLs.upd {K : PySem.W.Frag} {H : Hp} {p D : Addr} {o : HO} {acc : List V} {ks : List (List Str)} (h : GLs K H p ks) (e : H D = some (.lst acc)) (n : p ≠ D) : GLs K (L2.upd H D o) p ks := by
  obtain ⟨M, h1, h2, h3⟩ := h
  exact ⟨M, by rw [upd_ne n]; exact h1, TupN.upd h2 e, h3⟩
end A7

set_option Elab.async false
set_option linter.all false
set_option maxRecDepth 100000
set_option maxHeartbeats 4000000
namespace A7
open PySem PySem.Spec PyProof.Rows L2 AS
def spRInit (K : PySem.W.Frag) : Sp := fun vs H Q _ => ∃ (a p g0 dx : Addr) (st : Str) (n : Int) (T : List (List Str)), vs = [.ref a, .ref p] ∧ H a = some (.ins (He.ga K "Replica") dx []) ∧ H p = some (.tup [.str st, .int n, .ref g0]) ∧ GLs K H g0 T ∧ AscS T ∧ Full T ∧
  ∀ H' q, RepAt K H' a q st n T [] → SmX (fun b => b = a) H H' → H q = none → Q .non H'
def spRRev (K : PySem.W.Frag) : Sp := fun vs H Q _ => ∃ a q st n T W, vs = [.ref a] ∧ RepAt K H a q st n T W ∧ Q (.int n) H
def spRWait (K : PySem.W.Frag) : Sp := fun vs H Q _ => ∃ a q st n T W, vs = [.ref a] ∧ RepAt K H a q st n T W ∧ W.length < 64 ∧
  ∀ (ys : List Int) H' p, ys.Perm (W.map (·.1)) → ys.Pairwise (· ≤ ·) → Sm H H' → H p = none → H' p = some (.lst (ys.map V.int)) → Q (.ref p) H'
def spRSnap (K : PySem.W.Frag) : Sp := fun vs H Q _ => ∃ a q st n T W, vs = [.ref a] ∧ RepAt K H a q st n T W ∧
  ∀ H' p g, Sm H H' → H p = none → H' p = some (.tup [.str st, .int n, .ref g]) → GLs K H' g T → Q (.ref p) H'
def spRFits (K : PySem.W.Frag) : Sp := fun vs H Q _ => ∃ a q st n T W c gs xs, vs = [.ref a, .ref c] ∧ RepAt K H a q st n T W ∧ ChAt K H c gs xs ∧ Full T ∧ Full gs ∧ Full xs ∧ ∀ H', Sm H H' → Q (.bl (fitsB T gs xs)) H'
def rep1 (st : Str) : List (Str × V) := [("_store", .str st)]
def rep2 (st : Str) (n : Int) : List (Str × V) := [("_store", .str st), ("_revision", .int n)]
def rep3 (st : Str) (n : Int) (g : Addr) : List (Str × V) := [("_store", .str st), ("_revision", .int n), ("_grants", .ref g)]
section
variable {P : Program} {w : World} {K : PySem.W.Frag} {mg : Str → Option Value} {base : Heap}
theorem own_one {H : Hp} {a C dx : Addr} {fs : List (Str × V)} (h : H a = some (.ins C dx fs)) : Own (fun b => b = a) H := fun b hb => by
  have hb : b = a := hb
  subst hb
  exact .inl ⟨_, _, _, h⟩
theorem ok_rinit (T : Top NN K mg base) (R : RC K mg) : MM P w K mg base CX0 1 "__init__" ["self", "snapshot"] (spRInit K) := by
  refine MOk.mk (T.okM (d := dReplica_init) iReplica_init rfl rfl rfl rfl scReplica_init (fun _ _ _ _ _ _ us hl => match us, hl with | [_, _], _ => rfl) (fun vs H Q E h => ?_) (fun cdv A outer s H vs Q E hr h => ?_))
  · obtain ⟨a, p, g0, dx, st, n, T, rfl, _⟩ := h
    rfl
  · obtain ⟨a, p, g0, dx, st, n, Tb, rfl, ha, hp, hg, asc, full, q⟩ := h
    have n_sorted := T.f "sorted" (by decide +kernel)
    refine ⟨_, PSs.nox (pss_cons (ps_asg (pv 1) (pg_tup (by rfl) (pgs_cons (pg_name (i := 2) scReplica_init.nd rfl (.inl rfl)) (pgs_cons (pg_name (i := 3) scReplica_init.nd rfl (.inl rfl)) (pgs_cons (pg_name (i := 4) scReplica_init.nd rfl (.inl rfl)) pgs_nil)))))
      (pss_cons (ps_fld (pv 0) (pv 2) rfl)
      (pss_cons (ps_fld (pv 0) (pv 3) rfl)
      (pss_cons (ps_fld (pv 0) (pe_callB (call_sortL hr.units) (by rfl) n_sorted (by decide +kernel) (pa_cons (pv 4) pa_nil)) rfl)
      (pss_one (ps_fld (pv 0) pe_dnewK rfl)))))), ?_⟩
    refine ⟨.ref p, rfl, p, _, rfl, .inl (.inl hp), rfl, _, _, rfl, _, _, rfl, _, _, rfl, rfl, ?_⟩
    have own : Own (fun b => b = a) H := own_one ha
    have nt : ∀ ps, H a ≠ some (.tbl ps) := fun ps z => by
      rw [ha] at z
      cases z
    refine ⟨.str st, rfl, .ref a, rfl, a, _, dx, [], rfl, ha, R.cl, R.no _ (by decide), by decide, ?_⟩
    have x1 : SmX (fun b => b = a) H (upd H a (.ins (He.ga K "Replica") dx (rep1 st))) := (SmX.of (Sm.refl H)).set ha rfl (fun _ z => nomatch z) nt
    have e1 : upd H a (.ins (He.ga K "Replica") dx (rep1 st)) a = some (.ins (He.ga K "Replica") dx (rep1 st)) := upd_same
    have c1 : putF "_store" (.str st) ([] : List (Str × V)) = (rep1 st) := rfl
    rw [c1]
    generalize upd H a (.ins (He.ga K "Replica") dx (rep1 st)) = H1 at x1 e1
    refine ⟨.int n, rfl, .ref a, rfl, a, _, dx, _, rfl, e1, R.cl, R.no _ (by decide), by show 1 < 1000; decide, ?_⟩
    have c2 : putF "_revision" (.int n) (rep1 st) = (rep2 st n) := rfl
    rw [c2]
    have x2 : SmX (fun b => b = a) H (upd H1 a (.ins (He.ga K "Replica") dx (rep2 st n))) := x1.set e1 rfl (fun _ z => nomatch z) nt
    have e2 : upd H1 a (.ins (He.ga K "Replica") dx (rep2 st n)) a = some (.ins (He.ga K "Replica") dx (rep2 st n)) := upd_same
    generalize upd H1 a (.ins (He.ga K "Replica") dx (rep2 st n)) = H2 at x2 e2
    obtain ⟨M, m1, m2, m3⟩ := hg.smX x2 own
    have lM : M.length < 64 := by
      have z := full.2
      rw [← m3, List.length_map] at z
      exact z
    refine ⟨.ref g0, rfl, g0, M, rfl, .inl (.inl m1), m2, fun z hz => full.1 _ (by rw [← m3]; exact List.mem_map.mpr ⟨z, hz, rfl⟩), by omega, fun M' r pm le nr => ?_⟩
    have s3 := Sm.new (o := .lst (M'.map fun q => V.ref q.1)) nr
    have e3 := s3.keep _ _ e2 fun _ z => nomatch z
    have nra : r ≠ a := (ne_of_none e2 nr).symm
    have kp : (M'.map (·.2)).Perm Tb := by
      rw [← m3]
      exact pm.map (·.2)
    have eT : M'.map (·.2) = Tb := AscS.uniq ⟨le, kp.nodup_iff.mpr asc.2⟩ asc fun k => kp.mem_iff
    have g3 : GLs K (upd H2 r (.lst (M'.map fun q => V.ref q.1))) r Tb := ⟨M', upd_same, TupN.sm s3 fun z hz => m2 z (pm.mem_iff.mp hz), eT⟩
    have x3 := x2.trans (SmX.of s3)
    generalize upd H2 r (.lst (M'.map fun q => V.ref q.1)) = H3 at s3 e3 g3 x3
    refine ⟨.ref a, rfl, a, _, dx, _, rfl, e3, R.cl, R.no _ (by decide), by show 2 < 1000; decide, ?_⟩
    have c3 : putF "_grants" (.ref r) (rep2 st n) = (rep3 st n r) := rfl
    rw [c3]
    have own3 : Own (fun b => b = a) H3 := own_one e3
    have x4 : SmX (fun b => b = a) H3 (upd H3 a (.ins (He.ga K "Replica") dx (rep3 st n r))) := (SmX.of (Sm.refl H3)).set e3 rfl (fun _ z => nomatch z) (fun ps z => by rw [e3] at z; cases z)
    have e4 : upd H3 a (.ins (He.ga K "Replica") dx (rep3 st n r)) a = some (.ins (He.ga K "Replica") dx (rep3 st n r)) := upd_same
    have g4 := g3.smX x4 own3
    have x34 := x3.trans x4
    generalize upd H3 a (.ins (He.ga K "Replica") dx (rep3 st n r)) = H4 at x4 e4 g4 x34
    intro d nd
    have s5 := Sm.new (o := .dK []) nd
    have e5 := s5.keep _ _ e4 fun _ z => nomatch z
    have d5 : upd H4 d (.dK []) d = some (.dK []) := upd_same
    have g5 := g4.sm s5
    have x5 := x34.trans (SmX.of s5)
    generalize upd H4 d (.dK []) = H5 at s5 e5 d5 g5 x5
    refine ⟨.ref a, rfl, a, _, dx, _, rfl, e5, R.cl, R.no _ (by decide), by show 3 < 1000; decide, ?_⟩
    have c5 : putF "_waiting" (.ref d) (rep3 st n r) = repF st n r d := rfl
    rw [c5]
    have own5 : Own (fun b => b = a) H5 := own_one e5
    have x6 : SmX (fun b => b = a) H5 (upd H5 a (.ins (He.ga K "Replica") dx (repF st n r d))) := (SmX.of (Sm.refl H5)).set e5 rfl (fun _ z => nomatch z) (fun ps z => by rw [e5] at z; cases z)
    have nda : d ≠ a := (ne_of_none e4 nd).symm
    exact q _ d ⟨dx, r, [], upd_same, g5.smX x6 own5, by rw [upd_ne nda]; exact d5, trivial⟩ (x5.trans x6) (x34.free _ nd)
theorem ok_rrev (T : Top NN K mg base) (R : RC K mg) : MM P w K mg base CX0 1 "revision" ["self"] (spRRev K) := by
  refine MOk.mk (T.okM (d := dReplica_revision) iReplica_revision rfl rfl rfl rfl scReplica_revision (fun _ _ _ _ _ _ us hl => match us, hl with | [_], _ => rfl) (fun vs H Q E h => ?_) (fun cdv A outer s H vs Q E hr h => ?_))
  · obtain ⟨a, q, st, n, T, W, rfl, _⟩ := h
    rfl
  · obtain ⟨a, q, st, n, Tb, W, rfl, hR, q⟩ := h
    refine ⟨_, PSs.nox (pss_one (ps_ret (pe_fld (pv 0) rfl))), ?_⟩
    obtain ⟨dx, g, kvs, h1, h2, h3, h4⟩ := hR
    exact ⟨.ref a, rfl, a, _, dx, _, _, rfl, h1, R.cl, R.no _ (by decide), rfl, q⟩
theorem ok_rwait (T : Top NN K mg base) (R : RC K mg) : MM P w K mg base CX0 1 "waiting" ["self"] (spRWait K) := by
  refine MOk.mk (T.okM (d := dReplica_waiting) iReplica_waiting rfl rfl rfl rfl scReplica_waiting (fun _ _ _ _ _ _ us hl => match us, hl with | [_], _ => rfl) (fun vs H Q E h => ?_) (fun cdv A outer s H vs Q E hr h => ?_))
  · obtain ⟨a, q, st, n, T, W, rfl, _⟩ := h
    rfl
  · obtain ⟨a, q, st, n, Tb, W, rfl, hR, few, Qq⟩ := h
    have n_sorted := T.f "sorted" (by decide +kernel)
    refine ⟨_, PSs.nox (pss_one (ps_ret (pe_callB (call_sortedDI rfl) (by rfl) n_sorted (by decide +kernel) (pa_cons (pe_fld (pv 0) rfl) pa_nil)))), ?_⟩
    obtain ⟨dx, g, kvs, h1, h2, h3, h4⟩ := hR
    refine ⟨.ref a, rfl, a, _, dx, _, _, rfl, h1, R.cl, R.no _ (by decide), rfl, q, kvs, W.map (·.1), rfl, .inl h3, h4.keys, by rw [List.length_map]; exact few, fun ys p pm srt np => ?_⟩
    exact Qq ys _ p pm srt (Sm.new np) np upd_same
theorem ok_rsnap (T : Top NN K mg base) (R : RC K mg) : MM P w K mg base CX0 1 "snapshot" ["self"] (spRSnap K) := by
  refine MOk.mk (T.okM (d := dReplica_snapshot) iReplica_snapshot rfl rfl rfl rfl scReplica_snapshot (fun _ _ _ _ _ _ us hl => match us, hl with | [_], _ => rfl) (fun vs H Q E h => ?_) (fun cdv A outer s H vs Q E hr h => ?_))
  · obtain ⟨a, q, st, n, T, W, rfl, _⟩ := h
    rfl
  · obtain ⟨a, q, st, n, Tb, W, rfl, hR, Qq⟩ := h
    have n_list := T.f "list" (by decide +kernel)
    refine ⟨_, PSs.nox (pss_one (ps_ret (pe_tup (pa_cons (pe_fld (pv 0) rfl) (pa_cons (pe_fld (pv 0) rfl) (pa_cons (pe_callTy call_list_of (by rfl) n_list (by decide +kernel) (pa_cons (pe_fld (pv 0) rfl) pa_nil)) pa_nil)))))), ?_⟩
    obtain ⟨dx, g, kvs, h1, h2, h3, h4⟩ := hR
    obtain ⟨ys, l1, l2⟩ := GLs.copy h2
    refine ⟨.ref a, rfl, a, _, dx, _, _, rfl, h1, R.cl, R.no _ (by decide), rfl, .ref a, rfl, a, _, dx, _, _, rfl, h1, R.cl, R.no _ (by decide), rfl, .ref a, rfl, a, _, dx, _, _, rfl, h1, R.cl, R.no _ (by decide), rfl, g, ys, rfl, .inl l1, fun o no => ?_⟩
    have s1 := Sm.new (o := .lst ys) no
    have g1 := l2 o no
    refine ⟨by show 3 ≤ sizeLine; decide, fun r nr => ?_⟩
    have s2 := Sm.new (o := .tup [.str st, .int n, .ref o]) nr
    exact Qq _ r o (s1.trans s2) (s1.free nr) upd_same (g1.sm s2)
theorem ok_rfits (T : Top NN K mg base) (R : RC K mg) : MM P w K mg base CX0 3 "_fits" ["self", "change"] (spRFits K) := by
  refine MOk.mk (T.okM (d := dReplica_fits) iReplica_fits rfl rfl rfl rfl scReplica_fits (fun _ _ _ _ _ _ us hl => match us, hl with | [_, _], _ => rfl) (fun vs H Q E h => ?_) (fun cdv A outer s H vs Q E hr h => ?_))
  · obtain ⟨a, q, st, n, T, W, c, gs, xs, rfl, _⟩ := h
    rfl
  · obtain ⟨a, q, st, n, Tb, W, c, gs, xs, rfl, hR, ⟨pg, px, hc, hg, hx⟩, f1, f2, f3, Qq⟩ := h
    have n_len := T.f "len" (by decide +kernel)
    have G_applies := ok_applies (P := P) (w := w) T
    obtain ⟨t_GRANT_LIMIT, m_GRANT_LIMIT⟩ := T.i ("GRANT_LIMIT", 12800) (by decide +kernel)
    refine ⟨_, PSs.nox (pss_cons (ps_asg (pv 1) (pg_tup (by rfl) (pgs_cons (pg_name (i := 2) scReplica_fits.nd rfl (.inl rfl)) (pgs_cons (pg_name (i := 3) scReplica_fits.nd rfl (.inl rfl)) pgs_nil))))
      (pss_one (ps_ret (pe_and (pe_callD G_applies hr (pa_cons (pe_fld (pv 0) rfl) (pa_cons (pv 1) pa_nil))) (pe_one (pe_cmpR op_le (pe_op op_add (pe_op op_sub (pe_callB call_len_seq (by rfl) n_len PySem.boot_len (pa_cons (pe_fld (pv 0) rfl) pa_nil)) (pe_callB call_len_seq (by rfl) n_len PySem.boot_len (pa_cons (pv 3) pa_nil))) (pe_callB call_len_seq (by rfl) n_len PySem.boot_len (pa_cons (pv 2) pa_nil))) (pe_glob (v := .int 12800) rfl m_GRANT_LIMIT ⟨_, rfl⟩) (nomark _))))))), ?_⟩
    obtain ⟨dx, g, kvs, h1, h2, h3, h4⟩ := hR
    refine ⟨.ref c, rfl, c, _, rfl, .inl (.inl hc), rfl, _, _, rfl, _, _, rfl, rfl, ?_⟩
    refine ⟨.ref a, rfl, a, _, dx, _, _, rfl, h1, R.cl, R.no _ (by decide), rfl, .ref c, rfl, g, c, Tb, gs, xs, rfl, h2, ⟨pg, px, hc, hg, hx⟩, f1, f2, f3, fun H1 s1 => ?_⟩
    refine ⟨fitsB Tb gs xs, rfl, iteB (fun e => ?_) fun e => (by have z := Qq H1 s1; rw [e] at z; exact z)⟩
    have h1 := s1.keep _ _ h1 fun _ z => nomatch z
    obtain ⟨M1, a1, a2, a3⟩ := h2.sm s1
    obtain ⟨M2, b1, b2, b3⟩ := hg.sm s1
    obtain ⟨M3, d1, d2, d3⟩ := hx.sm s1
    have l1 := f1.2
    have l2 := f2.2
    rw [← a3, List.length_map] at l1
    rw [← b3, List.length_map] at l2
    refine ⟨.ref a, rfl, a, _, dx, _, _, rfl, h1, R.cl, R.no _ (by decide), rfl, g, _, rfl, .inl (.inl (.inl a1)), .ref px, rfl, px, _, rfl, .inl (.inl (.inl d1)), _, _, rfl, rfl, .ref pg, rfl, pg, _, rfl, .inl (.inl (.inl b1)), _, _, rfl, rfl, _, _, rfl, rfl, ?_⟩
    refine toBl ?_ (Qq H1 s1)
    rw [e]
    refine decide_eq_true ?_
    rw [List.length_map, List.length_map, List.length_map]
    show (M1.length : Int) - (M3.length : Int) + (M2.length : Int) ≤ 12800
    omega
end
end A7

set_option Elab.async false
set_option linter.all false
set_option maxRecDepth 100000
set_option maxHeartbeats 4000000
namespace A7
open PySem PySem.Spec PyProof.Rows L2 AS
def msgK : Str := "conflicting entry"
def msgF : Str := "entry is too far ahead"
def msgN : Str := "entry does not apply"
def chk (n : Int) (T : List (List Str)) (W : Wt) (r : Int) (gs xs : List (List Str)) : Option Str :=
  if (getW W r).isSome = true then some msgK else if decide (r > n + 40) = true then some msgF else if (decide (r = n + 1) && !fitsB T gs xs) = true then some msgN else none
def spRChk (K : PySem.W.Frag) : Sp := fun vs H Q E => ∃ a q st n T W c r gs xs, vs = [.ref a, .int r, .ref c] ∧ RepAt K H a q st n T W ∧ ChAt K H c gs xs ∧ Full T ∧ Full gs ∧ Full xs ∧
  (chk n T W r gs xs = none → ∀ H', Sm H H' → Q .non H') ∧ ∀ m, chk n T W r gs xs = some m → ∀ d H', Sm H H' → H d = none → ErrAt H' d m → E (.ref (He.ga K "Refused")) (some d) H'
section
variable {P : Program} {w : World} {K : PySem.W.Frag} {mg : Str → Option Value} {base : Heap}
theorem ok_rchk (T : Top NN K mg base) (R : RC K mg) (B : VeInit K (He.ga K "AuthError")) (R_Refused : ErrC K mg "Refused" "what" "index") : MM P w K mg base (CX P w) 4 "_check_entry" ["self", "revision", "change"] (spRChk K) := by
  refine MOk.mk (T.okM (d := dReplica_check_entry) iReplica_check_entry rfl rfl rfl rfl scReplica_check_entry (fun _ _ _ _ _ _ us hl => match us, hl with | [_, _, _], _ => rfl) (fun vs H Q E h => ?_) (fun cdv A outer s H vs Q E hr h => ?_))
  · obtain ⟨a, q, st, n, T, W, c, r, gs, xs, rfl, _⟩ := h
    rfl
  · obtain ⟨a, q, st, n, Tb, W, c, r, gs, xs, rfl, hR, hC, f1, f2, f3, q1, q2⟩ := h
    obtain ⟨fE, ds, F_Refused, rds, b_Refused⟩ := ok_Refused_init (P := P) (w := w) T B
    have R_Replica := R
    have hrE := hr.mono (show 2 ≤ 3 by decide)
    have G_Replica_fits := ok_rfits (P := P) (w := w) T R
    obtain ⟨t_AHEAD_LIMIT, m_AHEAD_LIMIT⟩ := T.i ("AHEAD_LIMIT", 40) (by decide +kernel)
    refine ⟨_, (pss_cons (ps_if (pt_cmp (pc_din (hu_of hr) (pv 1) (pe_fld (pv 0) rfl)) rfl) (pss_one (ps_raise rfl (takes_of rfl rfl rfl rfl) (pmk_oex R_Refused.ox R_Refused.iC R_Refused.tI F_Refused hrE b_Refused rds pass0 rfl R_Refused.gl (pa_cons pe_str pa_nil)))) pss_nil)
      (pss_cons (ps_if (pt_cmpR op_gt (pv 1) (pe_op op_add (pe_fld (pv 0) rfl) (pe_glob (v := .int 40) rfl m_AHEAD_LIMIT ⟨_, rfl⟩)) (nomark _)) (pss_one (ps_raise rfl (takes_of rfl rfl rfl rfl) (pmk_oex R_Refused.ox R_Refused.iC R_Refused.tI F_Refused hrE b_Refused rds pass0 rfl R_Refused.gl (pa_cons pe_str pa_nil)))) pss_nil)
      (pss_one (ps_if (PW.pt (pw_and (pt_cmpR op_eq (pv 1) (pe_op op_add (pe_fld (pv 0) rfl) pe_int) (nomark _)) (pw_and1 (pt_not (pt_val (pe_methD (K := K) G_Replica_fits R_Replica (by decide) hr (pv 0) (pa_cons (pv 2) pa_nil))))))) (pss_one (ps_raise rfl (takes_of rfl rfl rfl rfl) (pmk_oex R_Refused.ox R_Refused.iC R_Refused.tI F_Refused hrE b_Refused rds pass0 rfl R_Refused.gl (pa_cons pe_str pa_nil)))) pss_nil)))), ?_⟩
    have hR' := hR
    obtain ⟨dx, g, kvs, h1, h2, h3, h4⟩ := hR
    refine ⟨.int r, rfl, .ref a, rfl, a, _, dx, _, _, rfl, h1, R.cl, R.no _ (by decide), rfl, q, _, rfl, .inl ⟨kvs, .inl r, .inl h3, rfl, rfl⟩, ?_⟩
    have ev : (valV kvs (.inl r)).isSome = (getW W r).isSome := by
      cases e : getW W r with
      | none =>
        rw [(h4.get r).1 e]
        rfl
      | some ch =>
        obtain ⟨c', z, _⟩ := (h4.get r).2 ch e
        rw [z]
        rfl
    rw [ev]
    by_cases c1 : (getW W r).isSome = true
    · refine ⟨_, rfl, iteT' c1 ?_⟩
      refine mk_readD R_Refused (.inr ⟨msgK, rfl, by decide +kernel⟩) (.inl ⟨-1, rfl, by decide, by decide⟩) fun d H4 s4 nd ed => ?_
      exact q2 msgK (if_pos c1) d H4 s4 nd ed
    · have c1f : (getW W r).isSome = false := by
        cases z : (getW W r).isSome with
        | false => rfl
        | true => exact absurd z c1
      refine ⟨_, rfl, iteF' c1f ?_⟩
      have e1 : chk n Tb W r gs xs = if decide (r > n + 40) = true then some msgF else if (decide (r = n + 1) && !fitsB Tb gs xs) = true then some msgN else none := if_neg c1
      refine ⟨.int r, rfl, .ref a, rfl, a, _, dx, _, _, rfl, h1, R.cl, R.no _ (by decide), rfl, n, 40, rfl, rfl, r, _, rfl, rfl, _, rfl, ?_⟩
      by_cases c2 : r > n + 40
      · refine iteT' (decide_eq_true c2) ?_
        refine mk_readD R_Refused (.inr ⟨msgF, rfl, by decide +kernel⟩) (.inl ⟨-1, rfl, by decide, by decide⟩) fun d H4 s4 nd ed => ?_
        exact q2 msgF (by rw [e1, if_pos (decide_eq_true c2)]) d H4 s4 nd ed
      · refine iteF' (decide_eq_false c2) ?_
        have e2 : chk n Tb W r gs xs = if (decide (r = n + 1) && !fitsB Tb gs xs) = true then some msgN else none := by rw [e1, if_neg (by rw [decide_eq_false c2]; exact Bool.false_ne_true)]
        refine ⟨.int r, rfl, .ref a, rfl, a, _, dx, _, _, rfl, h1, R.cl, R.no _ (by decide), rfl, n, 1, rfl, rfl, rfl, _, rfl, ?_⟩
        by_cases c3 : r = n + 1
        · refine iteT' (decide_eq_true (by rw [c3])) ?_
          refine ⟨.ref a, rfl, a, dx, _, rfl, h1, rfl, .ref c, rfl, a, q, st, n, Tb, W, c, gs, xs, rfl, hR', hC, f1, f2, f3, fun H1 s1 => ⟨_, rfl, ?_⟩⟩
          cases e : fitsB Tb gs xs with
          | false =>
            refine iteT' rfl ?_
            refine mk_readD R_Refused (.inr ⟨msgN, rfl, by decide +kernel⟩) (.inl ⟨-1, rfl, by decide, by decide⟩) fun d H4 s4 nd ed => ?_
            exact q2 msgN (by rw [e2, e, decide_eq_true c3]; rfl) d H4 (s1.trans s4) (s1.free nd) ed
          | true =>
            refine iteF' rfl ?_
            exact q1 (by rw [e2, e, Bool.not_true, Bool.and_false]; rfl) H1 s1
        · refine iteF' (decide_eq_false fun z => c3 (V.int.inj z)) ?_
          exact q1 (by rw [e2, decide_eq_false c3]; rfl) H (Sm.refl H)
end
end A7

set_option Elab.async false
set_option linter.all false
set_option maxRecDepth 100000
set_option maxHeartbeats 4000000
namespace A7
open PySem PySem.Spec PyProof.Rows L2 AS
/-! ### the law's six grants -/
def uni (k : Nat) : List Str := [("d:" : Str) ++ ⟨#[(tl "123").getD (k % 3) 0]⟩, ("v" : Str), ("user:" : Str) ++ ⟨#[(tl "ab").getD (k / 3 % 2) 0]⟩]
def uniL : List (List Str) := (List.range 6).map uni
theorem uniL_nd : uniL.Nodup := by decide +kernel
def Dr (ks : List (List Str)) : Prop := ks.Nodup ∧ ∀ k ∈ ks, k ∈ uniL
theorem Dr.len {l : List (List Str)} (h : Dr l) : l.length ≤ 6 := Nat.le_trans (few_of l uniL h.1 h.2) (show uniL.length ≤ 6 by decide +kernel)
theorem Dr.full {ks : List (List Str)} (h : Dr ks) : Full ks := by
  refine ⟨fun k hk e => ?_, by have := h.len; omega⟩
  obtain ⟨i, _, z⟩ := List.mem_map.mp (h.2 k hk)
  rw [e] at z
  cases z
/-! ### the table that a change makes, the entries that are applied -/
def sortS (l : List (List Str)) : List (List Str) := (sortN (l.map fun k => ((0 : Addr), k))).map (·.2)
theorem sortS_perm (l : List (List Str)) : (sortS l).Perm l := by
  have z := (sortN_perm (l.map fun k => ((0 : Addr), k))).map (fun p : Addr × List Str => p.2)
  rw [List.map_map] at z
  have e : l.map ((fun p : Addr × List Str => p.2) ∘ fun k => ((0 : Addr), k)) = l := List.map_id l
  rw [e] at z
  exact z
theorem sortS_asc {l : List (List Str)} (h : l.Nodup) : AscS (sortS l) := sortN_asc (by
  rw [List.map_map]
  have e : l.map ((fun p : Addr × List Str => p.2) ∘ fun k => ((0 : Addr), k)) = l := List.map_id l
  rw [e]
  exact h)
def turned (T gs xs : List (List Str)) : List (List Str) := sortS (minus T xs ++ gs)
theorem mem_turned {T gs xs : List (List Str)} {k : List Str} : k ∈ turned T gs xs ↔ (k ∈ T ∧ k ∉ xs) ∨ k ∈ gs := by
  unfold turned
  rw [(sortS_perm _).mem_iff, List.mem_append, mem_minus]
theorem turned_nd {T gs xs : List (List Str)} (hT : Dr T) (hg : Dr gs) (f : fitsB T gs xs = true) : (minus T xs ++ gs).Nodup := by
  have fit := He.ba (show (decide (∀ k ∈ gs, k ∉ T) && decide (∀ k ∈ xs, k ∈ T)) = true from f)
  have dis := of_decide_eq_true fit.1
  exact List.nodup_append.mpr ⟨hT.1.sublist List.filter_sublist, hg.1, fun a ha b hb e => dis b hb (e ▸ (mem_minus.mp ha).1)⟩
theorem turned_asc {T gs xs : List (List Str)} (hT : Dr T) (hg : Dr gs) (f : fitsB T gs xs = true) : AscS (turned T gs xs) := sortS_asc (turned_nd hT hg f)
theorem turned_dr {T gs xs : List (List Str)} (hT : Dr T) (hg : Dr gs) (f : fitsB T gs xs = true) : Dr (turned T gs xs) := ⟨(turned_asc hT hg f).nd, fun k hk => by
  rcases mem_turned.mp hk with h | h
  · exact hT.2 k h.1
  · exact hg.2 k h⟩
def drain : Nat → Int → List (List Str) → Wt → Nat → Int × List (List Str) × Wt × Nat
  | 0, n, T, W, k => (n, T, W, k)
  | f + 1, n, T, W, k => match getW W (n + 1) with
    | none => (n, T, W, k)
    | some ch => if fitsB T ch.1 ch.2 = true then drain f (n + 1) (turned T ch.1 ch.2) (dropW W (n + 1)) (k + 1) else (n, T, dropW W (n + 1), k)
theorem getW_mem {W : Wt} {r : Int} {ch : Ch} (h : getW W r = some ch) : (r, ch) ∈ W := by
  unfold getW at h
  obtain ⟨e, he, rfl⟩ := Option.map_eq_some_iff.mp h
  have z := List.find?_some he
  have q := List.mem_of_find?_eq_some he
  rw [← of_decide_eq_true z]
  exact q
theorem dropW_len {W : Wt} {r : Int} {ch : Ch} (h : getW W r = some ch) : (dropW W r).length < W.length := by
  refine List.length_filter_lt_length_iff_exists.mpr ⟨_, getW_mem h, ?_⟩
  simp
theorem mem_dropW {W : Wt} {r : Int} {e : Int × Ch} (h : e ∈ dropW W r) : e ∈ W := (List.mem_filter.mp h).1
structure Good (T : List (List Str)) (W : Wt) : Prop where
  asc : AscS T
  dr : Dr T
  w : ∀ e ∈ W, Dr e.2.1 ∧ Dr e.2.2
abbrev two (a q : Addr) : Addr → Prop := fun b => b = a ∨ b = q
def spRTake (K : PySem.W.Frag) : Sp := fun vs H Q _ => ∃ a q st n T W, vs = [.ref a] ∧ RepAt K H a q st n T W ∧ Good T W ∧
  ∀ n' T' W' k, drain (W.length + 1) n T W 0 = (n', T', W', k) → ∀ H', SmX (two a q) H H' → RepAt K H' a q st n' T' W' → Good T' W' → Q (.int (k : Nat)) H'
end A7

set_option Elab.async false
set_option linter.all false
set_option maxRecDepth 100000
set_option maxHeartbeats 4000000
namespace A7
open PySem PySem.Spec PyProof.Rows L2 AS
theorem RepAt.ne {K : PySem.W.Frag} {H : Hp} {a q : Addr} {st : Str} {n : Int} {T : List (List Str)} {W : Wt} (h : RepAt K H a q st n T W) : a ≠ q := fun e => by
  obtain ⟨dx, g, kvs, h1, h2, h3, h4⟩ := h
  rw [← e, h1] at h3
  cases h3
/-- the dict changes -/
theorem RepAt.setW {K : PySem.W.Frag} {H : Hp} {a q : Addr} {st : Str} {n : Int} {T : List (List Str)} {W W' : Wt} {kvs : List (Key × V)} (h : RepAt K H a q st n T W) (hw : WAt K H kvs W') : RepAt K (upd H q (.dK kvs)) a q st n T W' := by
  have na := h.ne
  have own : Own (two a q) H := h.own
  obtain ⟨dx, g, kv0, h1, h2, h3, h4⟩ := h
  have x : SmX (two a q) H (upd H q (.dK kvs)) := (SmX.of (Sm.refl H)).set h3 (.inr rfl) (fun _ z => nomatch z) (fun ps z => by rw [h3] at z; cases z)
  exact ⟨dx, g, kvs, by rw [upd_ne na]; exact h1, h2.smX x own, upd_same, WAt.mono (fun _ _ _ z => z.smX x own) hw⟩
/-- the instance changes -/
theorem RepAt.setF {K : PySem.W.Frag} {H : Hp} {a q dx g' : Addr} {st : Str} {n n' : Int} {T T' : List (List Str)} {W : Wt} (h : RepAt K H a q st n T W) (hg : GLs K H g' T') : RepAt K (upd H a (.ins (He.ga K "Replica") dx (repF st n' g' q))) a q st n' T' W := by
  have na := h.ne
  have own : Own (two a q) H := h.own
  obtain ⟨dx0, g, kv0, h1, h2, h3, h4⟩ := h
  have x : SmX (two a q) H (upd H a (.ins (He.ga K "Replica") dx (repF st n' g' q))) := (SmX.of (Sm.refl H)).set h1 (.inl rfl) (fun _ z => nomatch z) (fun ps z => by rw [h1] at z; cases z)
  exact ⟨dx, g', kv0, upd_same, hg.smX x own, by rw [upd_ne na.symm]; exact h3, WAt.mono (fun _ _ _ z => z.smX x own) h4⟩
theorem RepAt.noTab {K : PySem.W.Frag} {H0 H : Hp} {a q : Addr} {st : Str} {n : Int} {T : List (List Str)} {W : Wt} (h : RepAt K H a q st n T W) : (∀ ps, H a ≠ some (.tbl ps)) ∧ ∀ ps, H q ≠ some (.tbl ps) := by
  obtain ⟨dx, g, kvs, h1, h2, h3, h4⟩ := h
  exact ⟨fun ps z => (by rw [h1] at z; cases z), fun ps z => (by rw [h3] at z; cases z)⟩
section
variable {P : Program} {w : World} {K : PySem.W.Frag} {mg : Str → Option Value} {base : Heap}
theorem ok_rtake (T : Top NN K mg base) (R : RC K mg) (B : VeInit K (He.ga K "AuthError")) (R_Refused : ErrC K mg "Refused" "what" "index") : MM P w K mg base CX0 4 "_take_waiting" ["self"] (spRTake K) := by
  refine MOk.mk (T.okM (d := dReplica_take_waiting) iReplica_take_waiting rfl rfl rfl rfl scReplica_take_waiting (fun _ _ _ _ _ _ us hl => match us, hl with | [_], _ => rfl) (fun vs H Q E h => ?_) (fun cdv A outer s H vs Q E hr h => ?_))
  · obtain ⟨a, q, st, n, T, W, rfl, _⟩ := h
    rfl
  · obtain ⟨a, q, st, n, Tb, W, rfl, hR, hG, Qq⟩ := h
    have R_Replica := R
    have G_Replica_fits := ok_rfits (P := P) (w := w) T R
    have G_apply_change := ok_apply_change (P := P) (w := w) T B R_Refused
    refine ⟨_, PSs.nox (pss_cons (ps_set (i := 1) scReplica_take_waiting.nd rfl (.inl rfl) pe_int)
      (pss_cons (ps_while PassesOwn.never (pt_cmp (pc_din (hu_of hr) (pe_op op_add (pe_fld (pv 0) rfl) pe_int) (pe_fld (pv 0) rfl)) rfl)
        (pss_cons (ps_set (i := 2) scReplica_take_waiting.nd rfl (.inl rfl) (pe_dpop1 (pe_fld (pv 0) rfl) (pe_op op_add (pe_fld (pv 0) rfl) pe_int) ⟨rfl, rfl, rfl, rfl⟩))
        (pss_cons (ps_if (pt_not (pt_val (pe_methD (K := K) G_Replica_fits R_Replica (by decide) hr (pv 0) (pa_cons (pv 2) pa_nil)))) (pss_one ps_break) pss_nil)
        (pss_cons (ps_fld (pv 0) (pe_callE G_apply_change hr (pa_cons (pe_fld (pv 0) rfl) (pa_cons (pv 2) pa_nil))) rfl)
        (pss_cons (ps_fldaug (pv 0) pe_int in_add)
        (pss_one (ps_aug (i := 1) scReplica_take_waiting.nd rfl (.inl rfl) pe_int ip_add)))))))
      (pss_one (ps_ret (pv 1))))), ?_⟩
    cases et : drain (W.length + 1) n Tb W 0 with
    | mk N r1 =>
    obtain ⟨TT, WW, KK⟩ := r1
    have Qe := Qq N TT WW KK et
    have nt := (hR.noTab (H0 := H))
    refine ⟨fun m σ H' => ∃ (n' : Int) (T' : List (List Str)) (W' : Wt) (k : Nat) (u : Option V), σ = [some (.ref a), some (.int (k : Nat)), u] ∧ W'.length < m ∧ SmX (two a q) H H' ∧ RepAt K H' a q st n' T' W' ∧ Good T' W' ∧ drain m n' T' W' k = (N, TT, WW, KK),
      ⟨_, n, Tb, W, 0, _, rfl, Nat.lt_succ_self _, SmX.of (Sm.refl H), hR, hG, et⟩, fun m σ H' hP => ?_⟩
    obtain ⟨n', T', W', k, u, rfl, hm, sm, hR', hG', ed⟩ := hP
    obtain ⟨f, rfl⟩ : ∃ f, m = f + 1 := ⟨m - 1, by omega⟩
    have hR0 := hR'
    obtain ⟨dx, g, kvs, h1, h2, h3, h4⟩ := hR'
    refine ⟨.ref a, rfl, a, _, dx, _, _, rfl, h1, R.cl, R.no _ (by decide), rfl, n', 1, rfl, rfl, .ref a, rfl, a, _, dx, _, _, rfl, h1, R.cl, R.no _ (by decide), rfl, q, _, rfl, .inl ⟨kvs, .inl (n' + 1), .inl h3, rfl, rfl⟩, ?_⟩
    refine ⟨_, rfl, ?_⟩
    cases e : getW W' (n' + 1) with
    | none =>
      rw [(h4.get (n' + 1)).1 e]
      refine iteF' rfl ?_
      have ed2 : drain (f + 1) n' T' W' k = (n', T', W', k) := by
        unfold drain
        rw [e]
      rw [ed2] at ed
      cases ed
      exact ⟨_, rfl, Qe H' sm hR0 hG'⟩
    | some ch =>
      obtain ⟨c, ev, hc⟩ := (h4.get (n' + 1)).2 ch e
      rw [ev]
      obtain ⟨dg, dx2⟩ := hG'.w _ (getW_mem e)
      refine iteT' rfl ⟨_, fun σ' H'' h => ⟨f, Nat.lt_succ_self _, h⟩, ?_⟩
      refine ⟨.ref a, rfl, a, _, dx, _, _, rfl, h1, R.cl, R.no _ (by decide), rfl, q, rfl, .inl ⟨kvs, .inl h3⟩, .ref a, rfl, a, _, dx, _, _, rfl, h1, R.cl, R.no _ (by decide), rfl, n', 1, rfl, rfl, kvs, .inl (n' + 1), .ref c, h3, rfl, ev, ?_⟩
      have own : Own (two a q) H' := hR0.own
      have hR1 := hR0.setW (WAt.drop (n' + 1) h4)
      have x1 : SmX (two a q) H' (upd H' q (.dK (dropK kvs (.inl (n' + 1))))) := (SmX.of (Sm.refl H')).set h3 (.inr rfl) (fun _ z => nomatch z) (fun ps z => by rw [h3] at z; cases z)
      have hc1 := hc.smX x1 own
      have sm1 := sm.trans x1
      generalize upd H' q (.dK (dropK kvs (.inl (n' + 1)))) = H1 at hR1 x1 hc1 sm1
      have hRs := hR1
      obtain ⟨dxa, ga, kva, i1, i2, i3, i4⟩ := hR1
      refine ⟨.ref a, rfl, a, dxa, _, rfl, i1, rfl, .ref c, rfl, a, q, st, n', T', _, c, ch.1, ch.2, rfl, hRs, hc1, hG'.dr.full, dg.full, dx2.full, fun H2 s2 => ⟨_, rfl, ?_⟩⟩
      have hR2 := hRs.sm s2
      have sm2 := sm1.trans (SmX.of s2)
      have gW : ∀ e ∈ dropW W' (n' + 1), Dr e.2.1 ∧ Dr e.2.2 := fun e he => hG'.w e (mem_dropW he)
      cases ef : fitsB T' ch.1 ch.2 with
      | false =>
        refine iteT' rfl ?_
        have ed2 : drain (f + 1) n' T' W' k = (n', T', dropW W' (n' + 1), k) := by
          unfold drain
          rw [e]
          exact if_neg (by rw [ef]; exact Bool.false_ne_true)
        rw [ed2] at ed
        cases ed
        exact ⟨_, rfl, Qe H2 sm2 hR2 ⟨hG'.asc, hG'.dr, gW⟩⟩
      | true =>
        refine iteF' rfl ?_
        have ed2 : drain (f + 1) n' T' W' k = drain f (n' + 1) (turned T' ch.1 ch.2) (dropW W' (n' + 1)) (k + 1) := by
          show (match getW W' (n' + 1) with | none => _ | some ch => _) = _
          rw [e]
          exact if_pos ef
        rw [ed2] at ed
        have hRt := hR2
        obtain ⟨dxb, gb, kvb, j1, j2, j3, j4⟩ := hR2
        refine ⟨.ref a, rfl, a, _, dxb, _, _, rfl, j1, R.cl, R.no _ (by decide), rfl, .ref c, rfl, gb, c, T', ch.1, ch.2, rfl, j2, hc1.sm s2, hG'.dr.full, dg.full, dx2.full, dg.1, fun _ H3 p rs s3 np hp ar mr => ?_, fun z => absurd z (by rw [ef]; exact Bool.noConfusion)⟩
        obtain rfl : rs = turned T' ch.1 ch.2 := ar.uniq (turned_asc hG'.dr dg ef) fun k => by rw [mr k, mem_turned]
        have k1 := s3.keep _ _ j1 fun _ z => nomatch z
        refine ⟨.ref a, rfl, a, _, dxb, _, rfl, k1, R.cl, R.no _ (by decide), by show 4 < 1000; decide, ?_⟩
        have c1 : putF "_grants" (.ref p) (repF st n' gb q) = repF st n' p q := rfl
        rw [c1]
        have hR3 := hRt.sm s3
        have hR4 := hR3.setF (dx := dxb) (n' := n') hp
        have sm3 := sm2.trans (SmX.of s3)
        have sm4 : SmX (two a q) H (upd H3 a (.ins (He.ga K "Replica") dxb (repF st n' p q))) := sm3.set k1 (.inl rfl) (fun _ z => nomatch z) nt.1
        have own3 : Own (two a q) H3 := hR3.own
        have x4 : SmX (two a q) H3 (upd H3 a (.ins (He.ga K "Replica") dxb (repF st n' p q))) := (SmX.of (Sm.refl H3)).set k1 (.inl rfl) (fun _ z => nomatch z) (fun ps z => by rw [k1] at z; cases z)
        have hp4 := hp.smX x4 own3
        have e4 : upd H3 a (.ins (He.ga K "Replica") dxb (repF st n' p q)) a = some (.ins (He.ga K "Replica") dxb (repF st n' p q)) := upd_same
        generalize upd H3 a (.ins (He.ga K "Replica") dxb (repF st n' p q)) = H4 at hR4 sm4 x4 hp4 e4
        refine ⟨.ref a, rfl, a, _, dxb, _, _, rfl, e4, R.cl, R.no _ (by decide), rfl, n', 1, rfl, rfl, dxb, _, e4, by show 4 < 1000; decide, ?_⟩
        have c2 : putF "_revision" (.int (n' + 1)) (repF st n' p q) = repF st (n' + 1) p q := rfl
        rw [c2]
        have hR5 := hR4.setF (dx := dxb) (n' := n' + 1) hp4
        have sm5 : SmX (two a q) H (upd H4 a (.ins (He.ga K "Replica") dxb (repF st (n' + 1) p q))) := sm4.set e4 (.inl rfl) (fun _ z => nomatch z) nt.1
        refine ⟨_, rfl, ?_⟩
        refine ⟨_, 1, rfl, rfl, ?_⟩
        have dl := dropW_len e
        exact ⟨n' + 1, turned T' ch.1 ch.2, dropW W' (n' + 1), k + 1, some (.ref c), rfl, by omega, sm5, hR5, ⟨turned_asc hG'.dr dg ef, turned_dr hG'.dr dg ef, gW⟩, ed⟩
end
end A7

set_option Elab.async false
set_option linter.all false
set_option maxRecDepth 100000
set_option maxHeartbeats 4000000
namespace A7
open PySem PySem.Spec PyProof.Rows L2 AS
/-! ### a change as data -/
def chD (gs xs : List (List Str)) : PyData := .tuple [ksD gs, ksD xs]
theorem ChAt.dp {K : PySem.W.Frag} {H : Hp} {c : Addr} {gs xs : List (List Str)} (h : ChAt K H c gs xs) : Dp K H (.ref c) (chD gs xs) := by
  obtain ⟨g, x, h1, h2, h3⟩ := h
  exact .tup (.inl (.inl h1)) (.cons h2.dp (.cons h3.dp .nil))
theorem chD_plain (gs xs : List (List Str)) : (chD gs xs).plain = true := by
  show (PyData.plainAll (gs.map strsD) && (PyData.plainAll (xs.map strsD) && true)) = true
  rw [ks_plainAll, ks_plainAll]
  rfl
theorem chD_depth (gs xs : List (List Str)) : (chD gs xs).depth ≤ 3 := by
  have h1 := ks_depth gs
  have h2 := ks_depth xs
  show PyData.depth (.tuple [ksD gs, ksD xs]) ≤ 3
  simp only [PyData.depth, PyData.depthAll]
  omega
theorem chD_eqv (c d : Ch) : PyData.eqv (chD c.1 c.2) (chD d.1 d.2) = decide (c = d) := by
  obtain ⟨gs, xs⟩ := c
  obtain ⟨hs, ys⟩ := d
  show (PyData.eqv (ksD gs) (ksD hs) && (PyData.eqv (ksD xs) (ksD ys) && true)) = _
  rw [ks_eqv, ks_eqv]
  by_cases h : gs = hs <;> by_cases h' : xs = ys <;> simp [h, h']
theorem eq_ch {K : PySem.W.Frag} {H : Hp} {c d : Addr} {u v : Ch} (h1 : ChAt K H c u.1 u.2) (h2 : ChAt K H d v.1 v.2) {Q : VK} (q : Q (.bl (decide (u = v))) H) : rEqP K false (.ref c) (.ref d) H Q := by
  have d1 := chD_depth u.1 u.2
  refine ⟨chD u.1 u.2, chD v.1 v.2, h1.dp, h2.dp, chD_plain _ _, chD_plain _ _, by omega, toBl ?_ q⟩
  exact chD_eqv u v
theorem eq_nonCh {K : PySem.W.Frag} {H : Hp} {d : Addr} {v : Ch} (h2 : ChAt K H d v.1 v.2) {Q : VK} (q : Q (.bl false) H) : rEqP K false .non (.ref d) H Q := by
  refine ⟨.none, chD v.1 v.2, .non, h2.dp, rfl, chD_plain _ _, by show min 0 _ ≤ 16; omega, toBl ?_ q⟩
  show PyData.eqv .none (.tuple [ksD v.1, ksD v.2]) = false
  simp [PyData.eqv]
def msgS : Str := "entry of another store"
def old (n : Int) (W : Wt) (r : Int) (ch : Ch) : Bool := decide (r ≤ n) || decide (getW W r = some ch)
def spRRecv (K : PySem.W.Frag) : Sp := fun vs H Q E => ∃ (a q p gl xl : Addr) (st es : Str) (n r : Int) (T : List (List Str)) (W : Wt) (gs xs : List (List Str)), vs = [.ref a, .ref p] ∧ RepAt K H a q st n T W ∧ Good T W ∧ W.length ≤ 60 ∧ H p = some (.tup [.str es, .int r, .ref gl, .ref xl]) ∧ GLs K H gl gs ∧ GLs K H xl xs ∧ Dr gs ∧ Dr xs ∧
  (es ≠ st → ∀ d H', Sm H H' → H d = none → ErrAt H' d msgS → E (.ref (He.ga K "Refused")) (some d) H') ∧
  (es = st → old n W r (gs, xs) = true → ∀ H', Sm H H' → Q (.int 0) H') ∧
  (es = st → old n W r (gs, xs) = false → ∀ m, chk n T W r gs xs = some m → ∀ d H', Sm H H' → H d = none → ErrAt H' d m → E (.ref (He.ga K "Refused")) (some d) H') ∧
  (es = st → old n W r (gs, xs) = false → chk n T W r gs xs = none → ∀ n' T' W' k, drain ((W ++ [(r, (gs, xs))]).length + 1) n T (W ++ [(r, (gs, xs))]) 0 = (n', T', W', k) → ∀ H', SmX (two a q) H H' → RepAt K H' a q st n' T' W' → Good T' W' → Q (.int (k : Nat)) H')
section
variable {P : Program} {w : World} {K : PySem.W.Frag} {mg : Str → Option Value} {base : Heap}
theorem chk_none {n : Int} {T : List (List Str)} {W : Wt} {r : Int} {gs xs : List (List Str)} (h : chk n T W r gs xs = none) : getW W r = none := by
  unfold chk at h
  by_cases c : (getW W r).isSome = true
  · rw [if_pos c] at h
    cases h
  · cases e : getW W r with
    | none => rfl
    | some ch =>
      rw [e] at c
      exact absurd rfl c
theorem ok_rrecv (T : Top NN K mg base) (R : RC K mg) (B : VeInit K (He.ga K "AuthError")) (R_Refused : ErrC K mg "Refused" "what" "index") : MM P w K mg base (CX P w) 5 "receive" ["self", "entry"] (spRRecv K) := by
  refine MOk.mk (T.okM (d := dReplica_receive) iReplica_receive rfl rfl rfl rfl scReplica_receive (fun _ _ _ _ _ _ us hl => match us, hl with | [_, _], _ => rfl) (fun vs H Q E h => ?_) (fun cdv A outer s H vs Q E hr h => ?_))
  · obtain ⟨a, q, p, gl, xl, st, es, n, r, T, W, gs, xs, rfl, _⟩ := h
    rfl
  · obtain ⟨a, q, p, gl, xl, st, es, n, r, Tb, W, gs, xs, rfl, hR, hG, few, hp, hg, hx, dg, dx', q1, q2, q3, q4⟩ := h
    obtain ⟨fE, ds, F_Refused, rds, b_Refused⟩ := ok_Refused_init (P := P) (w := w) T B
    have R_Replica := R
    have hrE := hr.mono (show 2 ≤ 4 by decide)
    have G_Replica_check_entry := ok_rchk (P := P) (w := w) T R B R_Refused
    have G_Replica_take_waiting := ok_rtake (P := P) (w := w) T R B R_Refused
    have n_list := T.f "list" (by decide +kernel)
    refine ⟨_, (pss_cons (ps_asg (pv 1) (pg_tup (by rfl) (pgs_cons (pg_name (i := 2) scReplica_receive.nd rfl (.inl rfl)) (pgs_cons (pg_name (i := 3) scReplica_receive.nd rfl (.inl rfl)) (pgs_cons (pg_name (i := 4) scReplica_receive.nd rfl (.inl rfl)) (pgs_cons (pg_name (i := 5) scReplica_receive.nd rfl (.inl rfl)) pgs_nil))))))
      (pss_cons (ps_if (pt_cmpR op_ne (pv 2) (pe_fld (pv 0) rfl) (nomark _)) (pss_one (ps_raise rfl (takes_of rfl rfl rfl rfl) (pmk_oex R_Refused.ox R_Refused.iC R_Refused.tI F_Refused hrE b_Refused rds pass0 rfl R_Refused.gl (pa_cons pe_str pa_nil)))) pss_nil)
      (pss_cons (ps_set (i := 6) scReplica_receive.nd rfl (.inl rfl) (pe_tup (pa_cons (pe_callTy call_list_of (by rfl) n_list (by decide +kernel) (pa_cons (pv 4) pa_nil)) (pa_cons (pe_callTy call_list_of (by rfl) n_list (by decide +kernel) (pa_cons (pv 5) pa_nil)) pa_nil))))
      (pss_cons (ps_if (PW.pt (pw_or (pt_cmpR op_le (pv 3) (pe_fld (pv 0) rfl) (nomark _)) (pw_or1 (pt_cmpR (op_eqP hr.units) (pe_dget1 (hu_of hr) (pe_fld (pv 0) rfl) (pv 3) ⟨rfl, rfl, rfl, rfl⟩) (pv 6) (nomark _))))) (pss_one (ps_ret pe_int)) pss_nil)
      (pss_cons (ps_expr (pe_methE (K := K) G_Replica_check_entry R_Replica (by decide) hr (pv 0) (fun σ => passAt (takes_of rfl rfl rfl rfl) σ) (pa_cons (pv 3) (pa_cons (pv 6) pa_nil))))
      (pss_cons (ps_dput (hu_of hr) (pe_fld (pv 0) rfl) (pv 3) (pv 6) rfl)
      (pss_one (ps_ret (pe_methD0 (K := K) G_Replica_take_waiting R_Replica (by decide) hr (pv 0)))))))))), ?_⟩
    refine ⟨.ref p, rfl, p, _, rfl, .inl (.inl hp), rfl, _, _, rfl, _, _, rfl, _, _, rfl, _, _, rfl, rfl, ?_⟩
    have hR0 := hR
    obtain ⟨dx, g, kvs, h1, h2, h3, h4⟩ := hR
    refine ⟨.str es, rfl, .ref a, rfl, a, _, dx, _, _, rfl, h1, R.cl, R.no _ (by decide), rfl, rfl, _, rfl, ?_⟩
    by_cases ce : es = st
    · subst ce
      refine iteF' (by rw [decide_eq_true rfl]; rfl) ?_
      -- the change
      obtain ⟨ys, l1, l2⟩ := hg.copy
      refine ⟨.ref gl, rfl, gl, ys, rfl, .inl l1, fun o no => ?_⟩
      have s1 := Sm.new (o := .lst ys) no
      have g1 := l2 o no
      have hx1 := hx.sm s1
      generalize upd H o (.lst ys) = H1 at s1 g1 hx1
      obtain ⟨zs, l3, l4⟩ := hx1.copy
      refine ⟨.ref xl, rfl, xl, zs, rfl, .inl l3, fun o2 no2 => ?_⟩
      have s2 := Sm.new (o := .lst zs) no2
      have g2 := l4 o2 no2
      have g1 := g1.sm s2
      have s12 := s1.trans s2
      generalize upd H1 o2 (.lst zs) = H2 at s2 g2 g1 s12
      refine ⟨by show 2 ≤ sizeLine; decide, fun c nc => ?_⟩
      have s3 := Sm.new (o := .tup [.ref o, .ref o2]) nc
      have hC : ChAt K (upd H2 c (.tup [.ref o, .ref o2])) c gs xs := ⟨o, o2, upd_same, g1.sm s3, g2.sm s3⟩
      have sm := s12.trans s3
      generalize upd H2 c (.tup [.ref o, .ref o2]) = H3 at s3 hC sm
      have hR3 := hR0.sm sm
      have hRs := hR3
      clear h1 h2 h3 h4
      obtain ⟨dx, g, kvs, h1, h2, h3, h4⟩ := hR3
      refine ⟨.int r, rfl, .ref a, rfl, a, _, dx, _, _, rfl, h1, R.cl, R.no _ (by decide), rfl, r, n, rfl, rfl, _, rfl, ?_⟩
      refine cutP (old n W r (gs, xs) = false → ?G) (fun go => ?br) ?later
      case br =>
        by_cases c1 : r ≤ n
        · refine iteT' (decide_eq_true c1) ?_
          exact q2 rfl (by unfold old; rw [decide_eq_true c1]; rfl) H3 sm
        · refine iteF' (decide_eq_false c1) ?_
          refine ⟨.ref a, rfl, a, _, dx, _, _, rfl, h1, R.cl, R.no _ (by decide), rfl, q, rfl, .inl ⟨kvs, .inl h3⟩, .int r, rfl, _, .inl ⟨kvs, .inl r, .inl h3, rfl, rfl⟩, .ref c, rfl, ?_⟩
          cases e : getW W r with
          | none =>
            rw [(h4.get r).1 e]
            refine eq_nonCh (v := (gs, xs)) hC ⟨_, rfl, iteF' rfl ?_⟩
            refine go ?_
            unfold old
            rw [decide_eq_false c1, e]
            rfl
          | some ch =>
            obtain ⟨c', ev, hc'⟩ := (h4.get r).2 ch e
            rw [ev]
            refine eq_ch (u := ch) (v := (gs, xs)) hc' hC ⟨_, rfl, ?_⟩
            by_cases c2 : ch = (gs, xs)
            · refine iteT' (decide_eq_true c2) ?_
              exact q2 rfl (by unfold old; rw [e, c2, decide_eq_true (rfl : some (gs, xs) = some (gs, xs)), Bool.or_true]) H3 sm
            · refine iteF' (decide_eq_false c2) ?_
              refine go ?_
              unfold old
              rw [decide_eq_false c1, e, decide_eq_false fun z => c2 (Option.some.inj z)]
              rfl
      case later =>
        intro ho
        refine ⟨.ref a, rfl, a, dx, _, rfl, h1, rfl, .int r, rfl, .ref c, rfl, a, q, es, n, Tb, W, c, r, gs, xs, rfl, hRs, hC, hG.dr.full, dg.full, dx'.full, fun hk H4 s4 => ?_, fun m hm d H4 s4 nd ed => q3 rfl ho m hm d H4 (sm.trans s4) (sm.free nd) ed⟩
        have hR4 := hRs.sm s4
        have hC4 := hC.sm s4
        have smX : SmX (two a q) H H4 := SmX.of (sm.trans s4)
        have hR4s := hR4
        clear h1 h2 h3 h4
        obtain ⟨dx, g, kvs, h1, h2, h3, h4⟩ := hR4
        have hlen : kvs.length < sizeLine := by
          rw [h4.len]
          exact small1000 (by omega)
        refine ⟨.ref c, rfl, .ref a, rfl, a, _, dx, _, _, rfl, h1, R.cl, R.no _ (by decide), rfl, .int r, rfl, q, _, rfl, .inl ⟨kvs, .inl r, h3, rfl, hlen, rfl⟩, ?_⟩
        have hw : WAt K H4 (putK kvs (.inl r) (.ref c)) (W ++ [(r, (gs, xs))]) := h4.put (ch := (gs, xs)) (chk_none hk) hC4
        have hR5 := hR4s.setW hw
        have sm5 : SmX (two a q) H (upd H4 q (.dK (putK kvs (.inl r) (.ref c)))) := smX.set h3 (.inr rfl) (fun _ z => nomatch z) (hR0.noTab (H0 := H)).2
        generalize upd H4 q (.dK (putK kvs (.inl r) (.ref c))) = H5 at hR5 sm5
        have hR5s := hR5
        obtain ⟨dx5, g5, kv5, i1, i2, i3, i4⟩ := hR5
        refine ⟨.ref a, rfl, a, dx5, _, rfl, i1, rfl, a, q, es, n, Tb, _, rfl, hR5s, ⟨hG.asc, hG.dr, fun e he => ?_⟩, fun n' T' W' k hd H6 s6 hR6 hG6 => q4 rfl ho hk n' T' W' k hd H6 (sm5.trans s6) hR6 hG6⟩
        rcases List.mem_append.mp he with z | z
        · exact hG.w e z
        · rw [List.mem_singleton.mp z]
          exact ⟨dg, dx'⟩
    · refine iteT' (by rw [decide_eq_false fun z => ce (V.str.inj z)]; rfl) ?_
      refine mk_readD R_Refused (.inr ⟨msgS, rfl, by decide +kernel⟩) (.inl ⟨-1, rfl, by decide, by decide⟩) fun d H4 s4 nd ed => ?_
      exact q1 ce d H4 s4 nd ed
end
end A7

set_option Elab.async false
set_option linter.all false
set_option maxRecDepth 100000
set_option maxHeartbeats 4000000
namespace A7
open PySem PySem.Spec PyProof.Rows L2 AS
theorem cutH {A : Prop} {C : Hp → Prop} (G : Hp → Prop) (b : (∀ H, C H → G H) → A) (l : ∀ H, C H → G H) : A := b l
def msgT : Str := "token of another store"
def msgB : Str := "replica is behind"
/-- the revision that a token of a store names -/
def revOf (z st : Str) : Option Nat := match splitTok z with
  | none => none
  | some (s, n) => if decide (s = st) = true then some n else none
def spRevOf (K : PySem.W.Frag) (tf : List He.Defn) : Sp := fun vs H Q E => ∃ z st : Str, vs = [.str z, .str st] ∧ z.length ≤ 1000 ∧ Tabs K tf H ∧
  (∀ n, revOf z st = some n → ∀ H', Sm H H' → Q (.int (n : Nat)) H') ∧ (revOf z st = none → ∀ d H', Sm H H' → H d = none → ErrAt H' d msgT → E (.ref (He.ga K "Refused")) (some d) H')
def spRCheck (K : PySem.W.Frag) (tf : List He.Defn) : Sp := fun vs H Q E => ∃ (a q : Addr) (t nm sj z st : Str) (n : Nat) (T : List (List Str)) (W : Wt), vs = [.ref a, .str t, .str nm, .str sj, .str z] ∧ RepAt K H a q st n T W ∧ z.length ≤ 1000 ∧ st.length ≤ 30 ∧ n ≤ 1000 ∧ Tabs K tf H ∧
  ((z = ("" : Str) ∨ ∃ m, revOf z st = some m ∧ m ≤ n) → ∀ H' p, Sm H H' → H p = none → H' p = some (.tup [.bl (decide ([t, nm, sj] ∈ T)), .str (tokS st n)]) → Q (.ref p) H') ∧
  (z ≠ ("" : Str) → revOf z st = none → ∀ d H', Sm H H' → H d = none → ErrAt H' d msgT → E (.ref (He.ga K "Refused")) (some d) H') ∧
  (z ≠ ("" : Str) → ∀ m, revOf z st = some m → n < m → ∀ d H', Sm H H' → H d = none → ErrAt H' d msgB → E (.ref (He.ga K "Refused")) (some d) H')
section
variable {P : Program} {w : World} {K : PySem.W.Frag} {mg : Str → Option Value} {base : Heap}
theorem ok_revision_of (T : Top NN K mg base) (B : VeInit K (He.ga K "AuthError")) (R_Refused : ErrC K mg "Refused" "what" "index") : DOk P w K mg base (CX P w) 4 "revision_of" ["token", "store"] (spRevOf K NN.tf) := by
  refine T.ok (d := drevision_of) irevision_of rfl rfl rfl rfl (by decide +kernel) screvision_of (fun _ _ _ _ _ _ us hl => match us, hl with | [_, _], _ => rfl) (fun vs H Q E h => ?_) (fun cdv A outer s H vs Q E ec hr h => ?_)
  · obtain ⟨z, st, rfl, _⟩ := h
    rfl
  · obtain ⟨z, st, rfl, hz, hT, q1, q2⟩ := h
    obtain ⟨fE, ds, F_Refused, rds, b_Refused⟩ := ok_Refused_init (P := P) (w := w) T B
    have hrE := hr.mono (show 2 ≤ 3 by decide)
    have G_split_token := ok_split_token (P := P) (w := w) T
    refine ⟨_, (pss_cons (ps_set (i := 2) screvision_of.nd rfl (.inl rfl) (pe_callD G_split_token hr (pa_cons (pv 0) pa_nil)))
      (pss_cons (ps_if (PW.pt (pw_or (pt_cmpR op_isN (pv 2) pe_non (nomark _)) (pw_or1 (pt_cmpR op_ne (pe_ix  ix_tup (pv 2) pe_int (fun _ _ => rfl)) (pv 1) (nomark _))))) (pss_one (ps_raise rfl (takes_of rfl rfl rfl rfl) (pmk_oex R_Refused.ox R_Refused.iC R_Refused.tI F_Refused hrE b_Refused rds pass0 rfl R_Refused.gl (pa_cons pe_str pa_nil)))) pss_nil)
      (pss_one (ps_ret (pe_ix  ix_tup (pv 2) pe_int (fun _ _ => rfl)))))), ?_⟩
    refine ⟨.str z, rfl, z, rfl, by have : (1000 : Nat) ≤ sizeLine := (by decide); omega, hT, fun e H1 s1 => ?_, fun a n e H1 p s1 np ep => ?_⟩
    · refine ⟨.non, rfl, rfl, _, rfl, iteT (iteT ?_)⟩
      refine mk_readD R_Refused (.inr ⟨msgT, rfl, by decide +kernel⟩) (.inl ⟨-1, rfl, by decide, by decide⟩) fun d H4 s4 nd ed => ?_
      exact q2 (by unfold revOf; rw [e]) d H4 (s1.trans s4) (s1.free nd) ed
    · refine ⟨.ref p, rfl, rfl, _, rfl, iteF ?_⟩
      refine ⟨.ref p, rfl, p, _, 0, .str a, rfl, rfl, .inl (.inl ep), rfl, .str st, rfl, rfl, _, rfl, ?_⟩
      by_cases c : a = st
      · refine iteF' (by rw [decide_eq_true (by rw [c])]; rfl) ?_
        refine ⟨.ref p, rfl, p, _, 1, .int (n : Nat), rfl, rfl, .inl (.inl ep), rfl, ?_⟩
        exact q1 n (by unfold revOf; rw [e]; exact if_pos (decide_eq_true c)) H1 s1
      · refine iteT' (by rw [decide_eq_false fun z => c (V.str.inj z)]; rfl) ?_
        refine mk_readD R_Refused (.inr ⟨msgT, rfl, by decide +kernel⟩) (.inl ⟨-1, rfl, by decide, by decide⟩) fun d H4 s4 nd ed => ?_
        exact q2 (by unfold revOf; rw [e]; exact if_neg (by rw [decide_eq_false c]; exact Bool.false_ne_true)) d H4 (s1.trans s4) (s1.free nd) ed
theorem ok_rcheck (T : Top NN K mg base) (R : RC K mg) (B : VeInit K (He.ga K "AuthError")) (R_Refused : ErrC K mg "Refused" "what" "index") : MM P w K mg base (CX P w) 5 "check" ["self", "target", "name", "subject", "at_least"] (spRCheck K NN.tf) := by
  refine MOk.mk (T.okM (d := dReplica_check) iReplica_check rfl rfl rfl rfl scReplica_check (fun _ _ _ _ _ _ us hl => match us, hl with | [_, _, _, _, _], _ => rfl) (fun vs H Q E h => ?_) (fun cdv A outer s H vs Q E hr h => ?_))
  · obtain ⟨a, q, t, nm, sj, z, st, n, T, W, rfl, _⟩ := h
    rfl
  · obtain ⟨a, q, t, nm, sj, z, st, n, Tb, W, rfl, hR, hz, hst, hn, hT, q1, q2, q3⟩ := h
    obtain ⟨fE, ds, F_Refused, rds, b_Refused⟩ := ok_Refused_init (P := P) (w := w) T B
    have hrE := hr.mono (show 2 ≤ 4 by decide)
    have G_token_of := (ok_token_of (P := P) (w := w) T).mono (show 1 ≤ 4 by decide)
    obtain ⟨⟨fd, F, b⟩, kp, gl⟩ := ok_revision_of (P := P) (w := w) T B R_Refused
    refine ⟨_, (pss_cons (ps_if (PW.pt (pw_and (pt_cmpR op_ne (pv 4) pe_str (nomark _)) (pw_and1 (pt_cmpR op_gt (pe_callS F hr (by rfl) gl kp b (fun σ => passAt (takes_of rfl rfl rfl rfl) σ) (pa_cons (pv 4) (pa_cons (pe_fld (pv 0) rfl) pa_nil))) (pe_fld (pv 0) rfl) (nomark _))))) (pss_one (ps_raise rfl (takes_of rfl rfl rfl rfl) (pmk_oex R_Refused.ox R_Refused.iC R_Refused.tI F_Refused hrE b_Refused rds pass0 rfl R_Refused.gl (pa_cons pe_str pa_nil)))) pss_nil)
      (pss_one (ps_ret (pe_tup (pa_cons (pe_cmpR (op_inP hr.units) (pe_tup (pa_cons (pv 1) (pa_cons (pv 2) (pa_cons (pv 3) pa_nil)))) (pe_fld (pv 0) rfl) rfl) (pa_cons (pe_callD G_token_of hr (pa_cons (pe_fld (pv 0) rfl) (pa_cons (pe_fld (pv 0) rfl) pa_nil))) pa_nil)))))), ?_⟩
    have h1 := hR
    obtain ⟨dx, g, kvs, h1, h2, h3, h4⟩ := h1
    refine ⟨.str z, rfl, rfl, _, rfl, ?_⟩
    refine cutH (C := fun H1 => (z = ("" : Str) ∨ ∃ m, revOf z st = some m ∧ m ≤ n) ∧ Sm H H1) ?G (fun go => ?br) ?later
    case br =>
      by_cases ce : z ≠ ("" : Str)
      · refine iteT' (by rw [decide_eq_false fun e => ce (V.str.inj e)]; rfl) ?_
        refine ⟨.str z, rfl, .ref a, rfl, a, _, dx, _, _, rfl, h1, R.cl, R.no _ (by decide), rfl, z, st, rfl, hz, hT, fun m em H1 s1 => ?_, fun e d H' sm nd ed => q2 ce e d H' sm nd ed⟩
        have i1 := s1.keep _ _ h1 fun _ z => nomatch z
        refine ⟨.ref a, rfl, a, _, dx, _, _, rfl, i1, R.cl, R.no _ (by decide), rfl, (m : Nat), (n : Nat), rfl, rfl, _, rfl, ?_⟩
        by_cases c : n < m
        · refine iteT' (decide_eq_true (by omega)) ?_
          refine mk_readD R_Refused (.inr ⟨msgB, rfl, by decide +kernel⟩) (.inl ⟨-1, rfl, by decide, by decide⟩) fun d H4 s4 nd ed => ?_
          exact q3 ce m em c d H4 (s1.trans s4) (s1.free nd) ed
        · refine iteF' (decide_eq_false (by omega)) ?_
          exact go H1 ⟨.inr ⟨m, em, by omega⟩, s1⟩
      · have ce : z = ("" : Str) := Decidable.not_not.mp ce
        refine iteF' (by rw [decide_eq_true (congrArg V.str ce)]; rfl) ?_
        exact go H ⟨.inl ce, Sm.refl H⟩
    case later =>
      intro H1 ⟨cz, s1⟩
      have i1 := s1.keep _ _ h1 fun _ z => nomatch z
      refine ⟨.str t, rfl, .str nm, rfl, .str sj, rfl, by show 3 ≤ sizeLine; decide, fun o no => ?_⟩
      have s2 := Sm.new (o := .tup [.str t, .str nm, .str sj]) no
      have i2 := s2.keep _ _ i1 fun _ z => nomatch z
      have eo : upd H1 o (.tup [.str t, .str nm, .str sj]) o = some (.tup ([t, nm, sj].map V.str)) := upd_same
      generalize upd H1 o (.tup [.str t, .str nm, .str sj]) = H2 at s2 i2 eo
      have big : (1000 : Nat) ≤ sizeLine := by decide
      refine ⟨.ref a, rfl, a, _, dx, _, _, rfl, i2, R.cl, R.no _ (by decide), rfl, in_gls (.inl (.inl eo)) (h2.sm (s1.trans s2)) ?_⟩
      refine ⟨.ref a, rfl, a, _, dx, _, _, rfl, i2, R.cl, R.no _ (by decide), rfl, .ref a, rfl, a, _, dx, _, _, rfl, i2, R.cl, R.no _ (by decide), rfl, st, n, rfl, by omega, by omega, ?_⟩
      refine ⟨by show 2 ≤ sizeLine; decide, fun r nr => ?_⟩
      exact q1 cz _ r ((s1.trans s2).put ((s1.trans s2).free nr)) ((s1.trans s2).free nr) upd_same
end
end A7

set_option Elab.async false
set_option linter.all false
set_option maxRecDepth 100000
set_option maxHeartbeats 4000000
namespace A7
open PySem PySem.Spec PyProof.Rows L2 AS
section
variable {X : Cx}
theorem op_notInK {K : PySem.W.Frag} (hu : X.A.units + 64 < cLine) (hK : X.K = K := by rfl) : OpR X (compareOp .NotIn) (rInP K true) := by
  subst hK
  exact op_notInP hu
end
theorem at_txt (z : Str) {k : Nat} (h : k < (tl z).length) {j : Int} (e : j = (k : Int)) : atI z.cps.toList j = some ((tl z).getD k 0) := by
  rw [e]
  refine atI_nat ?_
  rw [List.getD_eq_getElem?_getD, List.getElem?_eq_getElem h]
  rfl
theorem fdiv_nat (i n : Nat) : (i : Int).fdiv (n : Int) = ((i / n : Nat) : Int) := by
  rw [Int.fdiv_eq_ediv_of_nonneg _ (by omega)]
  rfl
theorem uni_mem (d : Nat) : [("d:" : Str) ++ ⟨#[(tl "123").getD (d % 3) 0]⟩, ("v" : Str), ("user:" : Str) ++ ⟨#[(tl "ab").getD (d / 3 % 2) 0]⟩] ∈ uniL := by
  refine List.mem_map.mpr ⟨d % 3 + 3 * (d / 3 % 2), List.mem_range.mpr (by omega), ?_⟩
  unfold uni
  rw [show (d % 3 + 3 * (d / 3 % 2)) % 3 = d % 3 by omega, show (d % 3 + 3 * (d / 3 % 2)) / 3 % 2 = d / 3 % 2 by omega]
def spGrant (K : PySem.W.Frag) : Sp := fun vs H Q _ => ∃ d : Nat, vs = [.int (d : Nat)] ∧ ∀ H' p k, Sm H H' → H p = none → H' p = some (.tup (k.map V.str)) → k ∈ uniL → Q (.ref p) H'
def spOnce (K : PySem.W.Frag) : Sp := fun vs H Q _ => ∃ l ks, vs = [.ref l] ∧ GLs K H l ks ∧ (∀ k ∈ ks, k ∈ uniL) ∧ ks.length ≤ 60 ∧ ∀ H' p rs, Sm H H' → H p = none → GLs K H' p rs → AscS rs → Dr rs → Q (.ref p) H'
def spLFits (K : PySem.W.Frag) : Sp := fun vs H Q _ => ∃ l c T gs xs, vs = [.ref l, .ref c] ∧ GLs K H l T ∧ ChAt K H c gs xs ∧ Q (.bl (fitsB T gs xs)) H
def spTurned (K : PySem.W.Frag) : Sp := fun vs H Q _ => ∃ l c T gs xs, vs = [.ref l, .ref c] ∧ GLs K H l T ∧ ChAt K H c gs xs ∧ Dr T ∧ Dr gs ∧ fitsB T gs xs = true ∧ ∀ H' p, Sm H H' → H p = none → GLs K H' p (turned T gs xs) → Q (.ref p) H'
section
variable {P : Program} {w : World} {K : PySem.W.Frag} {mg : Str → Option Value} {base : Heap}
theorem ok_law_grant (T : Top NN K mg base) : D P w K mg base 1 "_law_grant" ["draw"] (spGrant K) := by
  refine T.ok0 (d := d_law_grant) i_law_grant rfl rfl rfl rfl (by decide +kernel) sc_law_grant (fun _ _ _ _ _ _ us hl => match us, hl with | [_], _ => rfl) (fun vs H Q E h => ?_) (fun cdv A outer s H vs Q E ec hr h => ?_)
  · obtain ⟨d, rfl, _⟩ := h
    rfl
  · obtain ⟨i, rfl, q⟩ := h
    refine ⟨_, (pss_one (ps_ret (pe_tup (pa_cons (pe_op op_add_str pe_str (pe_ix ix_str pe_str (pe_op op_mod (pv 0) pe_int) (fun _ _ => rfl))) (pa_cons pe_str (pa_cons (pe_op op_add_str pe_str (pe_ix ix_str pe_str (pe_op op_mod (pe_op op_fdivN (pv 0) pe_int) pe_int) (fun _ _ => rfl))) pa_nil)))))), ?_⟩
    have big : (1000 : Nat) ≤ sizeLine := by decide
    have f1 : i % 3 < (tl "123").length := by
      show i % 3 < 3
      omega
    have f3 : i / 3 % 2 < (tl "ab").length := by
      show i / 3 % 2 < 2
      omega
    refine ⟨.int (i : Nat), rfl, (i : Nat), 3, rfl, rfl, by show (0 : Int) < 3; decide, "123", _, _, rfl, rfl, by decide +kernel, at_txt "123" f1 (by omega), "d:", _, rfl, rfl, by show 2 + 1 ≤ sizeLine; omega, ?_⟩
    refine ⟨.int (i : Nat), rfl, (i : Nat), 3, rfl, rfl, ⟨by decide, by decide⟩, _, 2, rfl, rfl, by show (0 : Int) < 2; decide, "ab", _, _, rfl, rfl, by decide +kernel, at_txt "ab" f3 (by have z := fdiv_nat i 3; rw [show ((3 : Nat) : Int) = 3 from rfl] at z; rw [z]; omega), "user:", _, rfl, rfl, by show 5 + 1 ≤ sizeLine; omega, ?_⟩
    refine ⟨by show 3 ≤ sizeLine; decide, fun a na => ?_⟩
    exact q _ a _ (Sm.new na) na upd_same (uni_mem i)
theorem ok_law_once (T : Top NN K mg base) : D P w K mg base 1 "_law_once" ["things"] (spOnce K) := by
  refine T.ok0 (d := d_law_once) i_law_once rfl rfl rfl rfl (by decide +kernel) sc_law_once (fun _ _ _ _ _ _ us hl => match us, hl with | [_], _ => rfl) (fun vs H Q E h => ?_) (fun cdv A outer s H vs Q E ec hr h => ?_)
  · obtain ⟨l, ks, rfl, _⟩ := h
    rfl
  · obtain ⟨l, ks, rfl, ⟨M, m1, m2, m3⟩, hu, few, q⟩ := h
    have n_sorted := T.f "sorted" (by decide +kernel)
    refine ⟨_, (pss_cons (ps_set (i := 1) sc_law_once.nd rfl (.inl rfl) (pe_lst pa_nil))
      (pss_cons (ps_for PassesOwn.never rfl (pi_list (pv 0)) (pg_name (i := 2) sc_law_once.nd rfl (.inl rfl)) (pss_one (ps_if (pt_cmpR (op_notInP hr.units) (pv 2) (pv 1) rfl) (pss_one (ps_expr (pe_bm PySem.F.plainAttrs_list PySem.F.slot_list_append PySem.F.type_list_append mt_append (pv 1) (pa_cons (pv 2) pa_nil)))) pss_nil)))
      (pss_one (ps_ret (pe_callB (call_sortL hr.units) (by rfl) n_sorted (by decide +kernel) (pa_cons (pv 1) pa_nil)))))), ?_⟩
    have lM : M.length ≤ 60 := by
      rw [← m3, List.length_map] at few
      exact few
    refine ⟨Nat.zero_le _, fun o no => ?_⟩
    have nlo : l ≠ o := lstNe m1 no
    refine ⟨.ref l, rfl, l, rfl, ⟨_, .inl (.inl (by rw [upd_ne nlo]; exact m1))⟩, ?_⟩
    refine for_list (K := K) (a := l) (xs := M.map fun p => V.ref p.1) (fun i σ H' => ∃ (N : List (Addr × List Str)) (u : Option V), σ = [some (.ref l), some (.ref o), u] ∧ Sm H H' ∧ H' o = some (.lst (N.map fun p => V.ref p.1)) ∧ N.length ≤ i ∧ (∀ p ∈ N, p ∈ M) ∧ (N.map (·.2)).Nodup)
      ⟨[], none, rfl, Sm.new no, upd_same, Nat.le_refl _, (fun p hp => nomatch hp), List.nodup_nil⟩ (fun i σ H' hi hP => ?_) (fun i z σ H' hz hP => ?_) fun σ H' hP => ?_
    · obtain ⟨N, u, rfl, sm, _⟩ := hP
      exact .inl (.inl (sm.lst m1))
    · obtain ⟨N, u, rfl, sm, eo, ln, sub, nd⟩ := hP
      rw [List.getElem?_map] at hz
      obtain ⟨p, hp, rfl⟩ := Option.map_eq_some_iff.mp hz
      have hi : i < M.length := (List.getElem?_eq_some_iff.mp hp).1
      have hpM := List.mem_of_getElem? hp
      have tN : TupN K H' N := fun x hx => sm.seqT (m2 x (sub x hx))
      refine ⟨.ref p.1, rfl, .ref o, rfl, in_gls (k := p.2) (sm.seqT (m2 p hpM)) ⟨N, eo, tN, rfl⟩ ⟨_, rfl, iteB (fun c => ?_) fun c => ?_⟩⟩
      · have c : p.2 ∉ N.map (·.2) := by
          have c : (!decide (p.2 ∈ N.map (·.2))) = true := c
          rw [Bool.not_eq_true'] at c
          exact of_decide_eq_false c
        refine ⟨.ref o, rfl, .inl ⟨rfl, _, .inl (.inl eo)⟩, .ref p.1, rfl, o, _, _, rfl, rfl, eo, by rw [List.length_map]; exact small1000 (by omega), ?_⟩
        refine ⟨N ++ [p], some (.ref p.1), rfl, sm.put no, by rw [upd_same, List.map_append]; rfl, by rw [List.length_append]; show N.length + 1 ≤ i + 1; omega, fun x hx => ?_, ?_⟩
        · rcases List.mem_append.mp hx with h | h
          · exact sub x h
          · rw [List.mem_singleton.mp h]
            exact hpM
        · rw [List.map_append]
          exact List.nodup_append.mpr ⟨nd, (by simp), fun a ha b hb e => by
            have hb := List.mem_singleton.mp hb
            rw [hb] at e
            exact c (by have e : a = p.2 := e; rw [← e]; exact ha)⟩
      · exact ⟨N, some (.ref p.1), rfl, sm, eo, by omega, sub, nd⟩
    · obtain ⟨N, u, rfl, sm, eo, ln, sub, nd⟩ := hP
      rw [List.length_map] at ln
      have tN : TupN K H' N := fun x hx => sm.seqT (m2 x (sub x hx))
      have inU : ∀ p ∈ N, p.2 ∈ uniL := fun p hp => hu _ (by rw [← m3]; exact List.mem_map.mpr ⟨p, sub p hp, rfl⟩)
      refine ⟨_, rfl, o, N, rfl, .inl (.inl eo), tN, fun p hp e => ?_, by omega, fun M' r pm le nr => ?_⟩
      · obtain ⟨j, _, z⟩ := List.mem_map.mp (inU p hp)
        rw [e] at z
        cases z
      · have kp := pm.map (·.2)
        have nd2 : (M'.map (·.2)).Nodup := kp.nodup_iff.mpr nd
        exact q _ r (M'.map (·.2)) (sm.put (sm.free nr)) (sm.free nr) ⟨M', upd_same, TupN.sm (Sm.new nr) fun x hx => tN x (pm.mem_iff.mp hx), rfl⟩ ⟨le, nd2⟩ ⟨nd2, fun k hk => by
          obtain ⟨x, hx, rfl⟩ := List.mem_map.mp hk
          exact inU x (pm.mem_iff.mp hx)⟩
theorem ok_law_fits (T : Top NN K mg base) : D P w K mg base 1 "_law_fits" ["table", "change"] (spLFits K) := by
  refine T.ok0 (d := d_law_fits) i_law_fits rfl rfl rfl rfl (by decide +kernel) sc_law_fits (fun _ _ _ _ _ _ us hl => match us, hl with | [_, _], _ => rfl) (fun vs H Q E h => ?_) (fun cdv A outer s H vs Q E ec hr h => ?_)
  · obtain ⟨l, c, T, gs, xs, rfl, _⟩ := h
    rfl
  · obtain ⟨l, c, Tb, gs, xs, rfl, hl, ⟨g, x, hc, ⟨M, a1, a2, a3⟩, ⟨N, b1, b2, b3⟩⟩, q⟩ := h
    refine ⟨_, (pss_cons (ps_for PassesOwn.never rfl (pi_list (pe_ix  ix_tup (pv 1) pe_int (fun _ _ => rfl))) (pg_name (i := 2) sc_law_fits.nd rfl (.inl rfl)) (pss_one (ps_if (pt_cmpR (op_inP hr.units) (pv 2) (pv 0) rfl) (pss_one (ps_ret pe_bl)) pss_nil)))
      (pss_cons (ps_for PassesOwn.never rfl (pi_list (pe_ix  ix_tup (pv 1) pe_int (fun _ _ => rfl))) (pg_name (i := 2) sc_law_fits.nd rfl (.inl rfl)) (pss_one (ps_if (pt_cmpR (op_notInP hr.units) (pv 2) (pv 0) rfl) (pss_one (ps_ret pe_bl)) pss_nil)))
      (pss_one (ps_ret pe_bl)))), ?_⟩
    refine ⟨.ref c, rfl, c, _, 0, .ref g, rfl, rfl, .inl (.inl hc), rfl, g, rfl, ⟨_, .inl (.inl a1)⟩, ?_⟩
    refine for_list (K := K) (a := g) (xs := M.map fun p => V.ref p.1) (fun i σ H' => ∃ u, σ = [some (.ref l), some (.ref c), u] ∧ H' = H ∧ ∀ p ∈ M.take i, p.2 ∉ Tb) ⟨none, rfl, rfl, fun p hp => by cases hp⟩ (fun i σ H' hi hP => ?_) (fun i z σ H' hz hP => ?_) fun σ H' hP => ?_
    · obtain ⟨u, rfl, rfl, _⟩ := hP
      exact .inl (.inl a1)
    · obtain ⟨u, rfl, rfl, hi⟩ := hP
      rw [List.getElem?_map] at hz
      obtain ⟨p, hp, rfl⟩ := Option.map_eq_some_iff.mp hz
      have hpM := List.mem_of_getElem? hp
      refine ⟨.ref p.1, rfl, .ref l, rfl, in_gls (k := p.2) (a2 p hpM) hl ⟨_, rfl, ?_⟩⟩
      by_cases cm : p.2 ∈ Tb
      · refine iteT' (decide_eq_true cm) ?_
        refine toBl ?_ q
        unfold fitsB
        rw [decide_eq_false (p := ∀ k ∈ gs, k ∉ Tb) fun h => h p.2 (by rw [← a3]; exact List.mem_map.mpr ⟨p, hpM, rfl⟩) cm]
        rfl
      · refine iteF' (decide_eq_false cm) ?_
        refine ⟨some (.ref p.1), rfl, rfl, fun x hx => ?_⟩
        rw [List.take_add_one, hp] at hx
        rcases List.mem_append.mp hx with h | h
        · exact hi x h
        · rw [List.mem_singleton.mp h]
          exact cm
    · obtain ⟨u, rfl, rfl, hM⟩ := hP
      rw [List.length_map, List.take_length] at hM
      refine ⟨.ref c, rfl, c, _, 1, .ref x, rfl, rfl, .inl (.inl hc), rfl, x, rfl, ⟨_, .inl (.inl b1)⟩, ?_⟩
      refine for_list (K := K) (a := x) (xs := N.map fun p => V.ref p.1) (fun i σ G => ∃ u, σ = [some (.ref l), some (.ref c), u] ∧ G = H' ∧ ∀ p ∈ N.take i, p.2 ∈ Tb) ⟨u, rfl, rfl, fun p hp => by cases hp⟩ (fun i σ G hi hP => ?_) (fun i z σ G hz hP => ?_) fun σ G hP => ?_
      · obtain ⟨u, rfl, rfl, _⟩ := hP
        exact .inl (.inl b1)
      · obtain ⟨u, rfl, rfl, hi⟩ := hP
        rw [List.getElem?_map] at hz
        obtain ⟨p, hp, rfl⟩ := Option.map_eq_some_iff.mp hz
        have hpM := List.mem_of_getElem? hp
        refine ⟨.ref p.1, rfl, .ref l, rfl, in_gls (k := p.2) (b2 p hpM) hl ⟨_, rfl, ?_⟩⟩
        by_cases cm : p.2 ∈ Tb
        · refine iteF' (by rw [decide_eq_true cm]; rfl) ?_
          refine ⟨some (.ref p.1), rfl, rfl, fun x hx => ?_⟩
          rw [List.take_add_one, hp] at hx
          rcases List.mem_append.mp hx with h | h
          · exact hi x h
          · rw [List.mem_singleton.mp h]
            exact cm
        · refine iteT' (by rw [decide_eq_false cm]; rfl) ?_
          refine toBl ?_ q
          unfold fitsB
          rw [decide_eq_false (p := ∀ k ∈ xs, k ∈ Tb) fun h => cm (h p.2 (by rw [← b3]; exact List.mem_map.mpr ⟨p, hpM, rfl⟩)), Bool.and_false]
      · obtain ⟨u, rfl, rfl, hN⟩ := hP
        rw [List.length_map, List.take_length] at hN
        refine toBl ?_ q
        unfold fitsB
        rw [decide_eq_true (p := ∀ k ∈ gs, k ∉ Tb) fun k hk => (by
          rw [← a3] at hk
          obtain ⟨p, hp, rfl⟩ := List.mem_map.mp hk
          exact hM p hp), decide_eq_true (p := ∀ k ∈ xs, k ∈ Tb) fun k hk => (by
          rw [← b3] at hk
          obtain ⟨p, hp, rfl⟩ := List.mem_map.mp hk
          exact hN p hp)]
        rfl
theorem ok_law_turned (T : Top NN K mg base) : D P w K mg base 1 "_law_turned" ["table", "change"] (spTurned K) := by
  refine T.ok0 (d := d_law_turned) i_law_turned rfl rfl rfl rfl (by decide +kernel) sc_law_turned (fun _ _ _ _ _ _ us hl => match us, hl with | [_, _], _ => rfl) (fun vs H Q E h => ?_) (fun cdv A outer s H vs Q E ec hr h => ?_)
  · obtain ⟨l, c, T, gs, xs, rfl, _⟩ := h
    rfl
  · obtain ⟨l, c, Tb, gs, xs, rfl, ⟨M, m1, m2, m3⟩, ⟨g, x, hc, hg, hx⟩, dT, dg, ft, q⟩ := h
    have n_sorted := T.f "sorted" (by decide +kernel)
    refine ⟨_, (pss_one (ps_ret (pe_callB (call_sortL hr.units) (by rfl) n_sorted (by decide +kernel) (pa_cons (pe_op op_cat (pe_lc (own := [("grant", 2)]) (g := gName 2)  rfl sc_law_turned.nd (pi_list (pv 0)) (blkOk_by (N := ["table", "change", "grant"]) (sc := defScope s_law_turned) (by decide +kernel)) (fun _ _ _ _ _ => (pg_name (i := 2) sc_law_turned.nd rfl (.inl rfl))) (fun _ _ _ _ _ => pts_one (pt_cmpR (op_notInK (K := K) hr.units) (pv 2) (pe_ix (r := rIxT K) ix_tup (pv 1) pe_int (fun _ _ => rfl)) rfl)) (fun _ _ _ _ _ => (pv 2))) (pe_ix  ix_tup (pv 1) pe_int (fun _ _ => rfl))) pa_nil)))), ?_⟩
    have lM : M.length ≤ 6 := by
      have z := dT.len
      rw [← m3, List.length_map] at z
      exact z
    refine ⟨.ref l, rfl, l, rfl, ⟨_, .inl (.inl m1)⟩, fun D nD => ?_⟩
    refine lc_list (K := K) (a := l) (xs := M.map fun p => V.ref p.1) (fun i H' => Sm H H' ∧ H' D = some (.lst (((M.take i).filter fun p => !decide (p.2 ∈ xs)).map fun p => V.ref p.1))) ⟨Sm.new nD, upd_same⟩ (fun i H' _ hP => .inl (.inl (hP.1.lst m1))) (fun i z H' hz hP => ?_) fun H1 hP => ?_
    · obtain ⟨sm, eD⟩ := hP
      rw [List.getElem?_map] at hz
      obtain ⟨p, hp, rfl⟩ := Option.map_eq_some_iff.mp hz
      have tk : M.take (i + 1) = M.take i ++ [p] := by
        rw [List.take_add_one, hp]
        rfl
      refine ⟨rfl, ?_⟩
      refine ⟨.ref p.1, rfl, .ref c, rfl, c, _, 1, .ref x, rfl, rfl, .inl (.inl (sm.tup hc)), rfl, in_gls (k := p.2) (m2.sm sm _ (List.mem_of_getElem? hp)) (hx.sm sm) ?_⟩
      refine ⟨_, rfl, ?_⟩
      refine iteB (fun ck => ?_) fun ck => ?_
      · have ck : (!decide (p.2 ∈ xs)) = true := ck
        refine ⟨.ref p.1, rfl, _, eD, ?_, sm.put nD, ?_⟩
        · rw [List.length_map]
          exact small1000 (Nat.le_trans (List.length_filter_le _ _) (Nat.le_trans (List.length_take_le' _ _) (by omega)))
        · rw [upd_same, tk, List.filter_append, List.filter_cons, if_pos ck, List.map_append]
          rfl
      · have ck : (!decide (p.2 ∈ xs)) = false := ck
        refine ⟨sm, ?_⟩
        rw [eD, tk, List.filter_append, List.filter_cons, if_neg (by rw [ck]; exact Bool.false_ne_true), List.filter_nil, List.append_nil]
    · obtain ⟨s1, eD⟩ := hP
      rw [List.length_map, List.take_length] at eD
      obtain ⟨N, b1, b2, b3⟩ := hg.sm s1
      have lN : N.length ≤ 6 := by
        have z := dg.len
        rw [← b3, List.length_map] at z
        exact z
      have lF : (M.filter fun p => !decide (p.2 ∈ xs)).length ≤ 6 := Nat.le_trans (List.length_filter_le _ _) lM
      have big : (1000 : Nat) ≤ sizeLine := by decide
      refine ⟨.ref c, rfl, c, _, 0, .ref g, rfl, rfl, .inl (.inl (s1.tup hc)), rfl, D, g, _, _, rfl, rfl, eD, b1, by rw [List.length_map, List.length_map]; omega, fun o no => ?_⟩
      have s2 := Sm.new (o := .lst (((M.filter fun p => !decide (p.2 ∈ xs)).map fun p => V.ref p.1) ++ N.map fun p => V.ref p.1)) no
      have tt : TupN K (upd H1 o (.lst (((M.filter fun p => !decide (p.2 ∈ xs)).map fun p => V.ref p.1) ++ N.map fun p => V.ref p.1))) ((M.filter fun p => !decide (p.2 ∈ xs)) ++ N) := TupN.sm s2 fun p hp => (List.mem_append.mp hp).elim (fun h => m2.sm s1 p (List.mem_filter.mp h).1) (b2 p)
      have kk : ((M.filter fun p => !decide (p.2 ∈ xs)) ++ N).map (·.2) = minus Tb xs ++ gs := by
        rw [List.map_append, b3, ← m3]
        unfold minus
        rw [List.filter_map]
        rfl
      refine ⟨o, (M.filter fun p => !decide (p.2 ∈ xs)) ++ N, rfl, .inl (.inl (by rw [upd_same, List.map_append])), tt, fun p hp e => ?_, by rw [List.length_append]; omega, fun M' r pm le nr => ?_⟩
      · have z : p.2 ∈ minus Tb xs ++ gs := by
          rw [← kk]
          exact List.mem_map.mpr ⟨p, hp, rfl⟩
        rcases List.mem_append.mp z with h | h
        · exact dT.full.1 _ (mem_minus.mp h).1 e
        · exact dg.full.1 _ h e
      · have kp : (M'.map (·.2)).Perm (minus Tb xs ++ gs) := by
          rw [← kk]
          exact pm.map (·.2)
        have eT : M'.map (·.2) = turned Tb gs xs := AscS.uniq ⟨le, kp.nodup_iff.mpr (turned_nd dT dg ft)⟩ (turned_asc dT dg ft) fun k => by rw [kp.mem_iff]; exact (sortS_perm _).mem_iff.symm
        have s12 := s1.trans s2
        exact q _ r (s12.trans (Sm.new nr)) (s12.free nr) ⟨M', upd_same, TupN.sm (Sm.new nr) fun z hz => tt z (pm.mem_iff.mp hz), eT⟩
end
end A7

set_option Elab.async false
set_option linter.all false
set_option maxRecDepth 100000
set_option maxHeartbeats 2000000
namespace AS
open PySem PySem.Spec PyProof.Rows L2
/-! ### isinstance of a caught error that has fields -/
def excCB (K : PySem.W.Frag) (D : Addr) : Bool := He.eqO (PySem.W.findIn K (.ref D) "__getattribute__") (some (some (.builtin "BaseException.__getattribute__"))) && (He.eqO (PySem.W.findIn K (.ref D) "__getattr__") (some none) && (decide (PySem.W.subIn K (.ref D) (.type "BaseException") = some true) && (PySem.W.hasDictIn K D &&
  (He.eqO (PySem.W.findIn K (.ref D) "__class__") (some (some (.builtin "object.__class__"))) && (He.eqO (PySem.W.specialIn K (.builtin "object.__class__") "__get__") (some (some (.builtin "getset_descriptor.__get__"))) && (decide (PySem.W.takesIn K (.builtin "object.__class__") = some true) && decide (PySem.W.mroIn K D (.type "object") = some true)))))))
theorem excCB_ok {K : PySem.W.Frag} {D : Addr} (h : excCB K D = true) : ExcC K D := by
  obtain ⟨h1, h⟩ := He.ba h
  obtain ⟨h2, h⟩ := He.ba h
  obtain ⟨h3, h⟩ := He.ba h
  obtain ⟨h4, h⟩ := He.ba h
  obtain ⟨h5, h⟩ := He.ba h
  obtain ⟨h6, h⟩ := He.ba h
  obtain ⟨h7, h8⟩ := He.ba h
  exact ⟨He.eqO_ok h1, He.eqO_ok h2, of_decide_eq_true h3, h4, He.eqO_ok h5, He.eqO_ok h6, of_decide_eq_true h7, of_decide_eq_true h8⟩
def rIsX (K : PySem.W.Frag) (D a : Addr) (cls : Value) (d : Option Addr) : List V → Hp → VK → Prop := fun xs H Q => ∃ (C : Addr) (b : Bool) (dd : Addr) (fs : List (Str × V)), xs = [.ref a, .ref C] ∧ cls = .ref D ∧ d = some dd ∧ H dd = some (.xd fs) ∧ PySem.W.kitOne K (.ref D) (.ref C) = some b ∧ Q (.bl b) H
theorem call_isX {X : Cx} {a D : Addr} {oe : Obj} {cls : Value} {d : Option Addr} {pn : List (Addr × Obj)} (C : ExcC X.K D) (hcl : (PySem.W.clsIn X.K D).isSome = true) (hz : Zc cls d oe) (hf : ∃ vs, oe.data = .fields vs) : CallR (X.suite a ((a, oe) :: pn)) (.builtin "isinstance") (rIsX X.K D a cls d) := by
  intro pins s σ H xs us Q I r h
  obtain ⟨c, b, dd, fs, rfl, rfl, rfl, ea, e, q⟩ := h
  cases r with
  | cons rx rr =>
    cases rr with
    | cons rt rr =>
      cases rr
      cases rx
      cases rt
      obtain ⟨hget, _⟩ := I.pin (a, oe) (List.mem_append.mpr (.inl List.mem_cons_self))
      obtain ⟨vs, hv⟩ := hf
      have hx : ObjOk X.prog X.w H s.heap dd (.xd fs) := I.hok dd _ ea
      obtain ⟨mA, hns, hr⟩ := hx
      obtain ⟨od, ho, hl⟩ := lookIn_ns hns
      have J : PySem.W.InstAt s.heap a oe D (some od) := ⟨hget, hz.1, by unfold PySem.W.notCls; rw [hv] <;> rfl, by rw [hz.2]; exact ho⟩
      exact PySem.W.kia_one (PySem.W.kitx_exc hcl C.hg C.hk C.hs C.ha C.hn C.ht C.hm) I.kIn J e (fun z => nomatch z) fun tk => ⟨.bl b, H, I.kept (t' := tk) fun _ _ z => z, rfl, q⟩
end AS

set_option Elab.async false
set_option linter.all false
set_option maxRecDepth 100000
set_option maxHeartbeats 4000000
namespace A7
open PySem PySem.Spec PyProof.Rows L2 AS
/-- what receive answers: the text of an error, or a number -/
def spLTold (K : PySem.W.Frag) : Sp := fun vs H Q _ => ∃ (a q p gl xl : Addr) (st es : Str) (n r : Int) (T : List (List Str)) (W : Wt) (gs xs : List (List Str)), vs = [.ref a, .ref p] ∧ RepAt K H a q st n T W ∧ Good T W ∧ W.length ≤ 60 ∧ H p = some (.tup [.str es, .int r, .ref gl, .ref xl]) ∧ GLs K H gl gs ∧ GLs K H xl xs ∧ Dr gs ∧ Dr xs ∧
  (es ≠ st → ∀ H', Sm H H' → Q (.str msgS) H') ∧
  (es = st → old n W r (gs, xs) = true → ∀ H', Sm H H' → Q (.int 0) H') ∧
  (es = st → old n W r (gs, xs) = false → ∀ m, chk n T W r gs xs = some m → ∀ H', Sm H H' → Q (.str m) H') ∧
  (es = st → old n W r (gs, xs) = false → chk n T W r gs xs = none → ∀ n' T' W' k, drain ((W ++ [(r, (gs, xs))]).length + 1) n T (W ++ [(r, (gs, xs))]) 0 = (n', T', W', k) → ∀ H', SmX (two a q) H H' → RepAt K H' a q st n' T' W' → Good T' W' → Q (.int (k : Nat)) H')
def spLCheck (K : PySem.W.Frag) (tf : List He.Defn) : Sp := fun vs H Q _ => ∃ (a q : Addr) (z st : Str) (n : Nat) (T : List (List Str)) (W : Wt), vs = [.ref a, .str z] ∧ RepAt K H a q st n T W ∧ z.length ≤ 1000 ∧ st.length ≤ 30 ∧ n ≤ 1000 ∧ Tabs K tf H ∧
  ((z = ("" : Str) ∨ ∃ m, revOf z st = some m ∧ m ≤ n) → ∀ H' p, Sm H H' → H p = none → H' p = some (.tup [.bl (decide ([("d:1" : Str), ("v" : Str), ("user:a" : Str)] ∈ T)), .str (tokS st n)]) → Q (.ref p) H') ∧
  (z ≠ ("" : Str) → revOf z st = none → ∀ H', Sm H H' → Q (.str msgT) H') ∧
  (z ≠ ("" : Str) → ∀ m, revOf z st = some m → n < m → ∀ H', Sm H H' → Q (.str msgB) H')
section
variable {P : Program} {w : World} {K : PySem.W.Frag} {mg : Str → Option Value} {base : Heap}
theorem ok_law_told (T : Top NN K mg base) (RR : RC K mg) (B : VeInit K (He.ga K "AuthError")) (R : ErrC K mg "Refused" "what" "index") : D P w K mg base 6 "_law_told" ["replica", "entry"] (spLTold K) := by
  refine T.ok0 (d := d_law_told) i_law_told rfl rfl rfl rfl (by decide +kernel) sc_law_told (fun _ _ _ _ _ _ us hl => match us, hl with | [_, _], _ => rfl) (fun vs H Q E h => ?_) (fun cdv A outer s H vs Q E ec hr h => ?_)
  · obtain ⟨a, q, p, gl, xl, st, es, n, r, T, W, gs, xs, rfl, _⟩ := h
    rfl
  · obtain ⟨a, q, p, gl, xl, st, es, n, r, Tb, W, gs, xs, rfl, hR, hG, few, hp, hg, hx, dg, dx', q1, q2, q3, q4⟩ := h
    have G := ok_rrecv (P := P) (w := w) T RR B R
    refine ⟨_, PSs.nox (pss_one (ps_try_as (i := 2) (tb := fun W D σ H => tMethE (He.ga K "Replica") "receive" (spRRecv K) (WE W) (tVar 0) (tCons (tVar 1) tNil) σ H D.rt)
      (ts := fun a cls d D σ H => tIf (tTest (tOp rEq (tXf a cls d (He.ga K "Refused") "index" (tVar 2)) (tUn (rU fun i => .int (-i)) (tC (.int 1))))) (tXf a cls d (He.ga K "Refused") "what" (tVar 2)) (tC .non) σ H D.rt) (Wout := fun _ _ _ _ => False) rfl rfl sc_law_told.nd rfl rfl ⟨rfl, by decide, .inl R.gl⟩ takes0 ?_ ?_)), ?_⟩
    · exact fun W pn xe tk _ => pss_one (ps_ret (pe_methE (K := K) G RR (by decide) hr (pv 0) (fun σ => passAt tk σ) (pa_cons (pv 1) pa_nil)))
    · exact fun a oe cls d pn hz hf => pss_one (ps_ret (pe_ifExp (pt_cmpR op_eq (pe_xf R.xf R.no2 hz hf (pv 2)) (pe_un un_neg pe_int) (nomark _)) (pe_xf R.xf R.no1 hz hf (pv 2)) pe_non))
    refine ⟨_, rfl, ?_⟩
    obtain ⟨dx, g, kvs, h1, h2, h3, h4⟩ := id hR
    refine ⟨a, dx, _, rfl, h1, rfl, .ref p, rfl, a, q, p, gl, xl, st, es, n, r, Tb, W, gs, xs, rfl, hR, hG, few, hp, hg, hx, dg, dx', fun c d H' sm nd ed => ?_, fun c o H' sm => ?_, fun c o m hm d H' sm nd ed => ?_, fun c o hk n' T' W' k hd H' sm hR' hG' => ?_⟩
    · refine ⟨true, R.te, fun _ a' na => ?_, fun q => Bool.noConfusion q⟩
      refine ⟨_, rfl, rfl, rfl, d, _, _, rfl, ed, rfl, 1, rfl, rfl, _, rfl, ?_⟩
      refine iteT' (by decide +kernel) ?_
      refine ⟨_, rfl, rfl, rfl, d, _, _, rfl, ed, rfl, ?_⟩
      exact q1 c H' sm
    · exact q2 c o H' sm
    · refine ⟨true, R.te, fun _ a' na => ?_, fun q => Bool.noConfusion q⟩
      refine ⟨_, rfl, rfl, rfl, d, _, _, rfl, ed, rfl, 1, rfl, rfl, _, rfl, ?_⟩
      refine iteT' (by decide +kernel) ?_
      refine ⟨_, rfl, rfl, rfl, d, _, _, rfl, ed, rfl, ?_⟩
      exact q3 c o m hm H' sm
    · exact q4 c o hk n' T' W' k hd H' sm hR' hG'
theorem ok_law_check (T : Top NN K mg base) (RR : RC K mg) (B : VeInit K (He.ga K "AuthError")) (R : ErrC K mg "Refused" "what" "index") : D P w K mg base 6 "_law_check" ["replica", "token"] (spLCheck K NN.tf) := by
  refine T.ok0 (d := d_law_check) i_law_check rfl rfl rfl rfl (by decide +kernel) sc_law_check (fun _ _ _ _ _ _ us hl => match us, hl with | [_, _], _ => rfl) (fun vs H Q E h => ?_) (fun cdv A outer s H vs Q E ec hr h => ?_)
  · obtain ⟨a, q, z, st, n, T, W, rfl, _⟩ := h
    rfl
  · obtain ⟨a, q, z, st, n, Tb, W, rfl, hR, hz, hst, hn, hT, q1, q2, q3⟩ := h
    have G := ok_rcheck (P := P) (w := w) T RR B R
    refine ⟨_, PSs.nox (pss_one (ps_try_as (i := 2) (tb := fun W D σ H => tMethE (He.ga K "Replica") "check" (spRCheck K NN.tf) (WE W) (tVar 0) (tCons (tC (.str "d:1")) (tCons (tC (.str "v")) (tCons (tC (.str "user:a")) (tCons (tVar 1) tNil)))) σ H D.rt)
      (ts := fun a cls d D σ H => tXf a cls d (He.ga K "Refused") "what" (tVar 2) σ H D.rt) (Wout := fun _ _ _ _ => False) rfl rfl sc_law_check.nd rfl rfl ⟨rfl, by decide, .inl R.gl⟩ takes0 ?_ ?_)), ?_⟩
    · exact fun W pn xe tk _ => pss_one (ps_ret (pe_methE (K := K) G RR (by decide) hr (pv 0) (fun σ => passAt tk σ) (pa_cons pe_str (pa_cons pe_str (pa_cons pe_str (pa_cons (pv 1) pa_nil))))))
    · exact fun a oe cls d pn hz hf => pss_one (ps_ret (pe_xf R.xf R.no1 hz hf (pv 2)))
    obtain ⟨dx, g, kvs, h1, h2, h3, h4⟩ := id hR
    refine ⟨_, rfl, a, dx, _, rfl, h1, rfl, .str z, rfl, a, q, "d:1", "v", "user:a", z, st, n, Tb, W, rfl, hR, hz, hst, hn, hT, fun c H' p sm np ep => q1 c H' p sm np ep, fun c e d H' sm nd ed => ?_, fun c m em hm d H' sm nd ed => ?_⟩
    · refine ⟨true, R.te, fun _ a' na => ?_, fun q => Bool.noConfusion q⟩
      refine ⟨_, rfl, rfl, rfl, d, _, _, rfl, ed, rfl, ?_⟩
      exact q2 c e H' sm
    · refine ⟨true, R.te, fun _ a' na => ?_, fun q => Bool.noConfusion q⟩
      refine ⟨_, rfl, rfl, rfl, d, _, _, rfl, ed, rfl, ?_⟩
      exact q3 c m em hm H' sm
end
end A7

set_option Elab.async false
set_option linter.all false
set_option maxRecDepth 100000
set_option maxHeartbeats 4000000
namespace A7
open PySem PySem.Spec PyProof.Rows L2 AS
/-- what is not kept are dicts and lists that begin with a number -/
def Own2 (p : Addr → Prop) (H : Hp) : Prop := ∀ b, p b → (∃ n r, H b = some (.lst (.int n :: r))) ∨ ∃ kv, H b = some (.dK kv)
section
variable {K : PySem.W.Frag} {p : Addr → Prop} {H H' : Hp}
theorem SmX.tup2 (e : SmX p H H') (o : Own2 p H) {a : Addr} {xs : List V} (h : H a = some (.tup xs)) : H' a = some (.tup xs) := e.keep a _ (fun z => by rcases o a z with ⟨_, _, q⟩ | ⟨_, q⟩ <;> · rw [h] at q; cases q) h fun _ z => nomatch z
theorem SmX.seqT2 (e : SmX p H H') (o : Own2 p H) {a : Addr} {xs : List V} (h : SqT K H a xs) : SqT K H' a xs := by
  rcases h with (h | ⟨od, h⟩) | h
  · exact .inl (.inl (e.tup2 o h))
  · exact .inl (.inr ⟨od, e.keep a _ (fun z => by rcases o a z with ⟨_, _, q⟩ | ⟨_, q⟩ <;> · rw [h] at q; cases q) h fun _ z => nomatch z⟩)
  · exact .inr h
theorem GLs.smX2 {l : Addr} {ks : List (List Str)} (e : SmX p H H') (o : Own2 p H) (h : GLs K H l ks) : GLs K H' l ks := by
  obtain ⟨M, h1, h2, h3⟩ := h
  refine ⟨M, e.keep l _ (fun z => ?_) h1 fun _ z => (nomatch z), fun q hq => e.seqT2 o (h2 q hq), h3⟩
  rcases o l z with ⟨_, _, q⟩ | ⟨_, q⟩
  · rw [h1] at q
    cases M with
    | nil => cases q
    | cons x r => cases q
  · rw [h1] at q
    cases q
theorem ChAt.smX2 {c : Addr} {gs xs : List (List Str)} (e : SmX p H H') (o : Own2 p H) (h : ChAt K H c gs xs) : ChAt K H' c gs xs := by
  obtain ⟨g, x, h1, h2, h3⟩ := h
  exact ⟨g, x, e.tup2 o h1, h2.smX2 e o, h3.smX2 e o⟩
end
/-- the law's own state -/
def StAt (K : PySem.W.Frag) (H : Hp) (s l : Addr) (n : Int) (T : List (List Str)) (W : Wt) : Prop := ∃ t kvs, H s = some (.lst [.int n, .ref t, .ref l]) ∧ GLs K H t T ∧ H l = some (.dK kvs) ∧ WAt K H kvs W
section
variable {K : PySem.W.Frag} {H H' : Hp} {s l : Addr} {n : Int} {T : List (List Str)} {W : Wt}
theorem StAt.sm (e : Sm H H') (h : StAt K H s l n T W) : StAt K H' s l n T W := by
  obtain ⟨t, kvs, h1, h2, h3, h4⟩ := h
  exact ⟨t, kvs, e.lst h1, h2.sm e, e.keep _ _ h3 fun _ z => (nomatch z), WAt.mono (fun _ _ _ z => z.sm e) h4⟩
theorem StAt.own (h : StAt K H s l n T W) : Own2 (two s l) H := fun b hb => by
  obtain ⟨t, kvs, h1, h2, h3, h4⟩ := h
  rcases hb with rfl | rfl
  · exact .inl ⟨_, _, h1⟩
  · exact .inr ⟨_, h3⟩
theorem StAt.ne (h : StAt K H s l n T W) : s ≠ l := fun e => by
  obtain ⟨t, kvs, h1, h2, h3, h4⟩ := h
  rw [← e, h1] at h3
  cases h3
theorem StAt.noTab (h : StAt K H s l n T W) : (∀ ps, H s ≠ some (.tbl ps)) ∧ ∀ ps, H l ≠ some (.tbl ps) := by
  obtain ⟨t, kvs, h1, h2, h3, h4⟩ := h
  exact ⟨fun ps z => (by rw [h1] at z; cases z), fun ps z => (by rw [h3] at z; cases z)⟩
theorem StAt.setW {W' : Wt} {kvs : List (Key × V)} (h : StAt K H s l n T W) (hw : WAt K H kvs W') : StAt K (upd H l (.dK kvs)) s l n T W' ∧ SmX (two s l) H (upd H l (.dK kvs)) := by
  have na := h.ne
  have own := h.own
  obtain ⟨t, kv0, h1, h2, h3, h4⟩ := h
  have x : SmX (two s l) H (upd H l (.dK kvs)) := (SmX.of (Sm.refl H)).set h3 (.inr rfl) (fun _ z => nomatch z) (fun ps z => by rw [h3] at z; cases z)
  exact ⟨⟨t, kvs, by rw [upd_ne na]; exact h1, h2.smX2 x own, upd_same, WAt.mono (fun _ _ _ z => z.smX2 x own) hw⟩, x⟩
theorem StAt.setS {n' : Int} {t' : Addr} {T' : List (List Str)} (h : StAt K H s l n T W) (hg : GLs K H t' T') : StAt K (upd H s (.lst [.int n', .ref t', .ref l])) s l n' T' W ∧ SmX (two s l) H (upd H s (.lst [.int n', .ref t', .ref l])) := by
  have na := h.ne
  have own := h.own
  obtain ⟨t, kv0, h1, h2, h3, h4⟩ := h
  have x : SmX (two s l) H (upd H s (.lst [.int n', .ref t', .ref l])) := (SmX.of (Sm.refl H)).set h1 (.inl rfl) (fun _ z => nomatch z) (fun ps z => by rw [h1] at z; cases z)
  exact ⟨⟨t', kv0, upd_same, hg.smX2 x own, by rw [upd_ne na.symm]; exact h3, WAt.mono (fun _ _ _ z => z.smX2 x own) h4⟩, x⟩
end
def spDue (K : PySem.W.Frag) : Sp := fun vs H Q _ => ∃ (s p l gl xl : Addr) (es : Str) (n r : Int) (T : List (List Str)) (W : Wt) (gs xs : List (List Str)), vs = [.ref s, .ref p] ∧ StAt K H s l n T W ∧ Good T W ∧ W.length ≤ 60 ∧ H p = some (.tup [.str es, .int r, .ref gl, .ref xl]) ∧ GLs K H gl gs ∧ GLs K H xl xs ∧ Dr gs ∧ Dr xs ∧
  (es ≠ ("s" : Str) → ∀ H', Sm H H' → Q (.str msgS) H') ∧
  (es = ("s" : Str) → old n W r (gs, xs) = true → ∀ H', Sm H H' → Q (.int 0) H') ∧
  (es = ("s" : Str) → old n W r (gs, xs) = false → ∀ m, chk n T W r gs xs = some m → ∀ H', Sm H H' → Q (.str m) H') ∧
  (es = ("s" : Str) → old n W r (gs, xs) = false → chk n T W r gs xs = none → ∀ n' T' W' k, drain ((W ++ [(r, (gs, xs))]).length + 1) n T (W ++ [(r, (gs, xs))]) 0 = (n', T', W', k) → ∀ H', SmX (two s l) H H' → StAt K H' s l n' T' W' → Good T' W' → Q (.int (k : Nat)) H')
section
variable {P : Program} {w : World} {K : PySem.W.Frag} {mg : Str → Option Value} {base : Heap}
theorem ok_law_due (T : Top NN K mg base) : D P w K mg base 2 "_law_due" ["state", "entry"] (spDue K) := by
  refine T.ok0 (d := d_law_due) i_law_due rfl rfl rfl rfl (by decide +kernel) sc_law_due (fun _ _ _ _ _ _ us hl => match us, hl with | [_, _], _ => rfl) (fun vs H Q E h => ?_) (fun cdv A outer s H vs Q E ec hr h => ?_)
  · obtain ⟨s, p, l, gl, xl, es, n, r, T, W, gs, xs, rfl, _⟩ := h
    rfl
  · obtain ⟨st, p, l, gl, xl, es, n, r, Tb, W, gs, xs, rfl, hS, hG, few, hp, hg, hx, dg, dx', q1, q2, q3, q4⟩ := h
    have G__law_fits := ok_law_fits (P := P) (w := w) T
    have G__law_turned := ok_law_turned (P := P) (w := w) T
    refine ⟨_, (pss_cons (ps_asg (pv 0) (pg_unl (by rfl) (pgs_cons (pg_name (i := 2) sc_law_due.nd rfl (.inl rfl)) (pgs_cons (pg_name (i := 3) sc_law_due.nd rfl (.inl rfl)) (pgs_cons (pg_name (i := 4) sc_law_due.nd rfl (.inl rfl)) pgs_nil)))))
      (pss_cons (ps_set (i := 5) sc_law_due.nd rfl (.inl rfl) (pe_tup (pa_cons (pe_ix  ix_tup (pv 1) pe_int (fun _ _ => rfl)) (pa_cons (pe_ix  ix_tup (pv 1) pe_int (fun _ _ => rfl)) pa_nil))))
      (pss_cons (ps_if (pt_cmpR op_ne (pe_ix  ix_tup (pv 1) pe_int (fun _ _ => rfl)) pe_str (nomark _)) (pss_one (ps_ret pe_str)) pss_nil)
      (pss_cons (ps_if (PW.pt (pw_or (pt_cmpR op_le (pe_ix  ix_tup (pv 1) pe_int (fun _ _ => rfl)) (pv 2) (nomark _)) (pw_or1 (pt_cmpR (op_eqP hr.units) (pe_dget1 (hu_of hr) (pv 4) (pe_ix  ix_tup (pv 1) pe_int (fun _ _ => rfl)) ⟨rfl, rfl, rfl, rfl⟩) (pv 5) (nomark _))))) (pss_one (ps_ret pe_int)) pss_nil)
      (pss_cons (ps_if (pt_cmp (pc_din (hu_of hr) (pe_ix  ix_tup (pv 1) pe_int (fun _ _ => rfl)) (pv 4)) rfl) (pss_one (ps_ret pe_str)) pss_nil)
      (pss_cons (ps_if (pt_cmpR op_gt (pe_ix  ix_tup (pv 1) pe_int (fun _ _ => rfl)) (pe_op op_add (pv 2) pe_int) (nomark _)) (pss_one (ps_ret pe_str)) pss_nil)
      (pss_cons (ps_if (PW.pt (pw_and (pt_cmpR op_eq (pe_ix  ix_tup (pv 1) pe_int (fun _ _ => rfl)) (pe_op op_add (pv 2) pe_int) (nomark _)) (pw_and1 (pt_not (pt_val (pe_callD G__law_fits hr (pa_cons (pv 3) (pa_cons (pv 5) pa_nil)))))))) (pss_one (ps_ret pe_str)) pss_nil)
      (pss_cons (ps_dput (hu_of hr) (pv 4) (pe_ix  ix_tup (pv 1) pe_int (fun _ _ => rfl)) (pv 5) rfl)
      (pss_cons (ps_set (i := 6) sc_law_due.nd rfl (.inl rfl) pe_int)
      (pss_cons (ps_while PassesOwn.never (pt_cmp (pc_din (hu_of hr) (pe_op op_add (pe_ix  ix_list (pv 0) pe_int (fun _ _ => rfl)) pe_int) (pv 4)) rfl) (pss_cons (ps_set (i := 5) sc_law_due.nd rfl (.inl rfl) (pe_dpop1 (pv 4) (pe_op op_add (pe_ix  ix_list (pv 0) pe_int (fun _ _ => rfl)) pe_int) ⟨rfl, rfl, rfl, rfl⟩))
      (pss_cons (ps_if (pt_not (pt_val (pe_callD G__law_fits hr (pa_cons (pe_ix  ix_list (pv 0) pe_int (fun _ _ => rfl)) (pa_cons (pv 5) pa_nil))))) (pss_one (ps_ret (pv 6))) pss_nil)
      (pss_cons (ps_asg (pe_callD G__law_turned hr (pa_cons (pe_ix  ix_list (pv 0) pe_int (fun _ _ => rfl)) (pa_cons (pv 5) pa_nil))) (pg_sub (pv 0) pe_int set_list))
      (pss_cons (ps_asg (pe_op op_add (pe_ix  ix_list (pv 0) pe_int (fun _ _ => rfl)) pe_int) (pg_sub (pv 0) pe_int set_list))
      (pss_one (ps_set (i := 6) sc_law_due.nd rfl (.inl rfl) (pe_op op_add (pv 6) pe_int))))))))
      (pss_one (ps_ret (pv 6))))))))))))), ?_⟩
    obtain ⟨t, kvs, h1, h2, h3, h4⟩ := id hS
    refine ⟨.ref st, rfl, st, _, rfl, .inl (.inl h1), rfl, _, _, rfl, _, _, rfl, _, _, rfl, rfl, ?_⟩
    refine ⟨.ref p, rfl, p, _, 2, .ref gl, rfl, rfl, .inl (.inl hp), rfl, .ref p, rfl, p, _, 3, .ref xl, rfl, rfl, .inl (.inl hp), rfl, by show 2 ≤ sizeLine; decide, fun c nc => ?_⟩
    have s1 := Sm.new (o := .tup [.ref gl, .ref xl]) nc
    have hC : ChAt K (upd H c (.tup [.ref gl, .ref xl])) c gs xs := ⟨gl, xl, upd_same, hg.sm s1, hx.sm s1⟩
    generalize upd H c (.tup [.ref gl, .ref xl]) = H1 at s1 hC
    have hp1 := s1.tup hp
    have hSs := hS.sm s1
    have h1 := s1.lst h1
    have h2 := h2.sm s1
    have h3 := s1.keep _ _ h3 fun _ z => nomatch z
    have h4 := WAt.mono (fun _ _ _ z => ChAt.sm s1 z) h4
    refine ⟨.ref p, rfl, p, _, 0, .str es, rfl, rfl, .inl (.inl hp1), rfl, rfl, _, rfl, ?_⟩
    by_cases ce : es = ("s" : Str)
    · refine iteF' (by rw [decide_eq_true (congrArg V.str ce)]; rfl) ?_
      refine ⟨.ref p, rfl, p, _, 1, .int r, rfl, rfl, .inl (.inl hp1), rfl, .int n, rfl, r, n, rfl, rfl, _, rfl, ?_⟩
      refine cutP (old n W r (gs, xs) = false → ?G) (fun go => ?br) ?later
      case br =>
        by_cases c1 : r ≤ n
        · refine iteT' (decide_eq_true c1) ?_
          exact q2 ce (by unfold old; rw [decide_eq_true c1]; rfl) H1 s1
        · refine iteF' (decide_eq_false c1) ?_
          refine ⟨.ref l, rfl, l, rfl, .inl ⟨kvs, .inl h3⟩, .ref p, rfl, p, _, 1, .int r, rfl, rfl, .inl (.inl hp1), rfl, _, .inl ⟨kvs, .inl r, .inl h3, rfl, rfl⟩, .ref c, rfl, ?_⟩
          cases e : getW W r with
          | none =>
            rw [(h4.get r).1 e]
            refine eq_nonCh (v := (gs, xs)) hC ⟨_, rfl, iteF' rfl ?_⟩
            refine go ?_
            unfold old
            rw [decide_eq_false c1, e]
            rfl
          | some ch =>
            obtain ⟨c', ev, hc'⟩ := (h4.get r).2 ch e
            rw [ev]
            refine eq_ch (u := ch) (v := (gs, xs)) hc' hC ⟨_, rfl, ?_⟩
            by_cases c2 : ch = (gs, xs)
            · refine iteT' (decide_eq_true c2) ?_
              exact q2 ce (by unfold old; rw [e, c2, decide_eq_true (rfl : some (gs, xs) = some (gs, xs)), Bool.or_true]) H1 s1
            · refine iteF' (decide_eq_false c2) ?_
              refine go ?_
              unfold old
              rw [decide_eq_false c1, e, decide_eq_false fun z => c2 (Option.some.inj z)]
              rfl
      case later =>
        intro ho
        refine ⟨.ref p, rfl, p, _, 1, .int r, rfl, rfl, .inl (.inl hp1), rfl, .ref l, rfl, l, _, rfl, .inl ⟨kvs, .inl r, .inl h3, rfl, rfl⟩, _, rfl, ?_⟩
        have ev : (valV kvs (.inl r)).isSome = (getW W r).isSome := by
          cases e : getW W r with
          | none =>
            rw [(h4.get r).1 e]
            rfl
          | some ch =>
            obtain ⟨c', z, _⟩ := (h4.get r).2 ch e
            rw [z]
            rfl
        rw [ev]
        by_cases c1 : (getW W r).isSome = true
        · refine iteT' c1 ?_
          exact q3 ce ho msgK (if_pos c1) H1 s1
        have c1f : (getW W r).isSome = false := by
          cases z : (getW W r).isSome with
          | false => rfl
          | true => exact absurd z c1
        refine iteF' c1f ?_
        have e1 : chk n Tb W r gs xs = if decide (r > n + 40) = true then some msgF else if (decide (r = n + 1) && !fitsB Tb gs xs) = true then some msgN else none := if_neg c1
        refine ⟨.ref p, rfl, p, _, 1, .int r, rfl, rfl, .inl (.inl hp1), rfl, .int n, rfl, n, 40, rfl, rfl, r, _, rfl, rfl, _, rfl, ?_⟩
        by_cases c2 : r > n + 40
        · refine iteT' (decide_eq_true c2) ?_
          exact q3 ce ho msgF (by rw [e1, if_pos (decide_eq_true c2)]) H1 s1
        refine iteF' (decide_eq_false c2) ?_
        have e2 : chk n Tb W r gs xs = if (decide (r = n + 1) && !fitsB Tb gs xs) = true then some msgN else none := by rw [e1, if_neg (by rw [decide_eq_false c2]; exact Bool.false_ne_true)]
        refine cutP (chk n Tb W r gs xs = none → ?G2) (fun go => ?br2) ?later2
        case br2 =>
          refine ⟨.ref p, rfl, p, _, 1, .int r, rfl, rfl, .inl (.inl hp1), rfl, .int n, rfl, n, 1, rfl, rfl, rfl, _, rfl, ?_⟩
          by_cases c3 : r = n + 1
          · refine iteT' (decide_eq_true (by rw [c3])) ?_
            refine ⟨.ref t, rfl, .ref c, rfl, t, c, Tb, gs, xs, rfl, h2, hC, _, rfl, ?_⟩
            cases e : fitsB Tb gs xs with
            | false =>
              refine iteT' rfl ?_
              exact q3 ce ho msgN (by rw [e2, e, decide_eq_true c3]; rfl) H1 s1
            | true =>
              refine iteF' rfl ?_
              refine go ?_
              rw [e2, e, Bool.not_true, Bool.and_false]
              rfl
          · refine iteF' (decide_eq_false fun z => c3 (V.int.inj z)) ?_
            refine go ?_
            rw [e2, decide_eq_false c3]
            rfl
        case later2 =>
          intro hk
          have hlen : kvs.length < sizeLine := by
            rw [h4.len]
            exact small1000 (by omega)
          refine ⟨.ref c, rfl, .ref l, rfl, .ref p, rfl, p, _, 1, .int r, rfl, rfl, .inl (.inl hp1), rfl, l, _, rfl, .inl ⟨kvs, .inl r, h3, rfl, hlen, rfl⟩, ?_⟩
          have hw : WAt K H1 (putK kvs (.inl r) (.ref c)) (W ++ [(r, (gs, xs))]) := h4.put (ch := (gs, xs)) (chk_none hk) hC
          obtain ⟨hS5, x5⟩ := hSs.setW hw
          have sm5 : SmX (two st l) H (upd H1 l (.dK (putK kvs (.inl r) (.ref c)))) := (SmX.of s1).trans x5
          generalize upd H1 l (.dK (putK kvs (.inl r) (.ref c))) = H5 at hS5 x5 sm5
          have gW : Good Tb (W ++ [(r, (gs, xs))]) := ⟨hG.asc, hG.dr, fun e he => by
            rcases List.mem_append.mp he with z | z
            · exact hG.w e z
            · rw [List.mem_singleton.mp z]
              exact ⟨dg, dx'⟩⟩
          cases et : drain ((W ++ [(r, (gs, xs))]).length + 1) n Tb (W ++ [(r, (gs, xs))]) 0 with
          | mk N r1 =>
          obtain ⟨TT, WW, KK⟩ := r1
          have Qe := q4 ce ho hk N TT WW KK et
          have nt := hS.noTab
          refine ⟨fun m σ H' => ∃ (n' : Int) (T' : List (List Str)) (W' : Wt) (k : Nat) (u : Option V), σ = [some (.ref st), some (.ref p), some (.int n), some (.ref t), some (.ref l), u, some (.int (k : Nat))] ∧ W'.length < m ∧ SmX (two st l) H H' ∧ StAt K H' st l n' T' W' ∧ Good T' W' ∧ drain m n' T' W' k = (N, TT, WW, KK),
            ⟨_, n, Tb, _, 0, _, rfl, Nat.lt_succ_self _, sm5, hS5, gW, et⟩, fun m σ H' hP => ?_⟩
          obtain ⟨n', T', W', k, u, rfl, hm, sm, hR', hG', ed⟩ := hP
          obtain ⟨f, rfl⟩ : ∃ f, m = f + 1 := ⟨m - 1, by omega⟩
          have hR0 := hR'
          obtain ⟨tt, kv, i1, i2, i3, i4⟩ := hR'
          refine ⟨.ref st, rfl, st, _, 0, .int n', rfl, rfl, .inl (.inl i1), rfl, n', 1, rfl, rfl, .ref l, rfl, l, _, rfl, .inl ⟨kv, .inl (n' + 1), .inl i3, rfl, rfl⟩, ?_⟩
          refine ⟨_, rfl, ?_⟩
          cases e : getW W' (n' + 1) with
          | none =>
            rw [(i4.get (n' + 1)).1 e]
            refine iteF' rfl ?_
            have ed2 : drain (f + 1) n' T' W' k = (n', T', W', k) := by
              unfold drain
              rw [e]
            rw [ed2] at ed
            cases ed
            exact ⟨_, rfl, Qe H' sm hR0 hG'⟩
          | some ch =>
            obtain ⟨c', ev', hc⟩ := (i4.get (n' + 1)).2 ch e
            rw [ev']
            obtain ⟨dg', dx2⟩ := hG'.w _ (getW_mem e)
            refine iteT' rfl ⟨_, fun σ' H'' h => ⟨f, Nat.lt_succ_self _, h⟩, ?_⟩
            refine ⟨.ref l, rfl, l, rfl, .inl ⟨kv, .inl i3⟩, .ref st, rfl, st, _, 0, .int n', rfl, rfl, .inl (.inl i1), rfl, n', 1, rfl, rfl, kv, .inl (n' + 1), .ref c', i3, rfl, ev', ?_⟩
            have own := hR0.own
            obtain ⟨hR1, x1⟩ := hR0.setW (WAt.drop (n' + 1) i4)
            have hc1 := hc.smX2 x1 own
            have sm1 := sm.trans x1
            generalize upd H' l (.dK (dropK kv (.inl (n' + 1)))) = H2 at hR1 x1 hc1 sm1
            have hRs := hR1
            obtain ⟨ta, kva, j1, j2, j3, j4⟩ := hR1
            refine ⟨.ref st, rfl, st, _, 1, .ref ta, rfl, rfl, .inl (.inl j1), rfl, .ref c', rfl, ta, c', T', ch.1, ch.2, rfl, j2, hc1, _, rfl, ?_⟩
            have gW' : ∀ e ∈ dropW W' (n' + 1), Dr e.2.1 ∧ Dr e.2.2 := fun e he => hG'.w e (mem_dropW he)
            cases ef : fitsB T' ch.1 ch.2 with
            | false =>
              refine iteT' rfl ?_
              have ed2 : drain (f + 1) n' T' W' k = (n', T', dropW W' (n' + 1), k) := by
                unfold drain
                rw [e]
                exact if_neg (by rw [ef]; exact Bool.false_ne_true)
              rw [ed2] at ed
              cases ed
              exact ⟨_, rfl, Qe H2 sm1 hRs ⟨hG'.asc, hG'.dr, gW'⟩⟩
            | true =>
              refine iteF' rfl ?_
              have ed2 : drain (f + 1) n' T' W' k = drain f (n' + 1) (turned T' ch.1 ch.2) (dropW W' (n' + 1)) (k + 1) := by
                show (match getW W' (n' + 1) with | none => _ | some ch => _) = _
                rw [e]
                exact if_pos ef
              rw [ed2] at ed
              refine ⟨.ref st, rfl, st, _, 1, .ref ta, rfl, rfl, .inl (.inl j1), rfl, .ref c', rfl, ta, c', T', ch.1, ch.2, rfl, j2, hc1, hG'.dr, dg', ef, fun H3 pr s3 np hp3 => ?_⟩
              have hR3 := hRs.sm s3
              have k1 := s3.lst j1
              refine ⟨.ref st, rfl, st, _, 1, 1, rfl, rfl, k1, rfl, ?_⟩
              obtain ⟨hR4, x4⟩ := hR3.setS (n' := n') hp3
              have hp4 := hp3.smX2 x4 hR3.own
              have sm4 := (sm1.trans (SmX.of s3)).trans x4
              have e4 : upd H3 st (.lst [.int n', .ref pr, .ref l]) st = some (.lst [.int n', .ref pr, .ref l]) := upd_same
              have c4 : ([.int n', .ref ta, .ref l] : List V).set 1 (.ref pr) = [.int n', .ref pr, .ref l] := rfl
              rw [c4]
              generalize upd H3 st (.lst [.int n', .ref pr, .ref l]) = H4 at hR4 x4 hp4 sm4 e4
              refine ⟨.ref st, rfl, st, _, 0, .int n', rfl, rfl, .inl (.inl e4), rfl, n', 1, rfl, rfl, .ref st, rfl, st, _, 0, 0, rfl, rfl, e4, rfl, ?_⟩
              obtain ⟨hR5, x5'⟩ := hR4.setS (n' := n' + 1) hp4
              have sm6 := sm4.trans x5'
              have c5 : ([.int n', .ref pr, .ref l] : List V).set 0 (.int (n' + 1)) = [.int (n' + 1), .ref pr, .ref l] := rfl
              rw [c5]
              refine ⟨.int (k : Nat), rfl, (k : Nat), 1, rfl, rfl, ?_⟩
              have dl := dropW_len e
              exact ⟨n' + 1, turned T' ch.1 ch.2, dropW W' (n' + 1), k + 1, some (.ref c'), rfl, by omega, sm6, hR5, ⟨turned_asc hG'.dr dg' ef, turned_dr hG'.dr dg' ef, gW'⟩, ed⟩
    · refine iteT' (by rw [decide_eq_false fun z => ce (V.str.inj z)]; rfl) ?_
      exact q1 ce H1 s1
end
end A7

set_option Elab.async false
set_option linter.all false
set_option maxRecDepth 100000
set_option maxHeartbeats 4000000
namespace A7
open PySem PySem.Spec PyProof.Rows L2 AS
def revs : List Int := [1, 1, 2, 3, 0, 41, 40, -1]
def stores : List Str := ["s", "s", "s", "s", "t"]
def spEntry (K : PySem.W.Frag) : Sp := fun vs H Q _ => ∃ (c n : Int), vs = [.int c, .int n] ∧ ∀ H' p gl xl es r gs xs, Sm H H' → H p = none → H' p = some (.tup [.str es, .int r, .ref gl, .ref xl]) → GLs K H' gl gs → GLs K H' xl xs → Dr gs → Dr xs → Q (.ref p) H'
section
variable {P : Program} {w : World} {K : PySem.W.Frag} {mg : Str → Option Value} {base : Heap}
theorem ok_law_entry (T : Top NN K mg base) : D P w K mg base 2 "_law_entry" ["cell", "number"] (spEntry K) := by
  refine T.ok0 (d := d_law_entry) i_law_entry rfl rfl rfl rfl (by decide +kernel) sc_law_entry (fun _ _ _ _ _ _ us hl => match us, hl with | [_, _], _ => rfl) (fun vs H Q E h => ?_) (fun cdv A outer s H vs Q E ec hr h => ?_)
  · obtain ⟨c, n, rfl, _⟩ := h
    rfl
  · obtain ⟨c, n, rfl, q⟩ := h
    have n_range := T.f "range" (by decide +kernel)
    have n_max := T.f "max" (by decide +kernel)
    have G__law_draws := ok_law_draws (P := P) (w := w) T
    have G__law_grant := ok_law_grant (P := P) (w := w) T
    have G__law_once := ok_law_once (P := P) (w := w) T
    refine ⟨_, (pss_cons (ps_set (i := 2) sc_law_entry.nd rfl (.inr rfl) (pe_callD G__law_draws hr (pa_cons (pv 0) (pa_cons pe_int pa_nil))))
        (pss_cons (ps_set (i := 3) sc_law_entry.nd rfl (.inl rfl) (pe_op op_add (pv 1) (pe_ix  ix_list (pe_lst (pa_cons pe_int (pa_cons pe_int (pa_cons pe_int (pa_cons pe_int (pa_cons pe_int (pa_cons pe_int (pa_cons pe_int (pa_cons (pe_un un_neg pe_int) pa_nil))))))))) (pe_op op_mod (pe_ix  ix_list (pv 2) pe_int (fun _ _ => rfl)) pe_int) (fun _ _ => rfl))))
        (pss_cons (ps_set (i := 4) sc_law_entry.nd rfl (.inr rfl) (pe_callD G__law_once hr (pa_cons (pe_lc (own := [("k", 7)]) (g := gName 7) (tt := tYes) rfl sc_law_entry.nd (pi_range2 rfl n_range (pa_cons pe_int (pa_cons (pe_op op_add pe_int (pe_op op_mod (pe_ix  ix_list (pv 2) pe_int (fun _ _ => rfl)) pe_int)) pa_nil))) (blkOk_by (N := ["cell", "number", "draws", "revision", "gained", "lost", "grant", "k"]) (sc := defScope s_law_entry) (by decide +kernel)) (fun _ _ _ _ _ => (pg_name (i := 7) sc_law_entry.nd rfl (.inl rfl))) (fun _ _ _ _ _ => pts_nil) (fun _ _ _ _ _ => (pe_callD G__law_grant hr (pa_cons (pe_ix (r := rIxL K) ix_list (pv 2) (pv 7) (fun _ _ => rfl)) pa_nil)))) pa_nil)))
        (pss_cons (ps_set (i := 5) sc_law_entry.nd rfl (.inl rfl) (pe_callD G__law_once hr (pa_cons (pe_lc (own := [("k", 7)]) (g := gName 7) (tt := tYes) rfl sc_law_entry.nd (pi_range2 rfl n_range (pa_cons pe_int (pa_cons (pe_op op_add pe_int (pe_op op_mod (pe_ix  ix_list (pv 2) pe_int (fun _ _ => rfl)) pe_int)) pa_nil))) (blkOk_by (N := ["cell", "number", "draws", "revision", "gained", "lost", "grant", "k"]) (sc := defScope s_law_entry) (by decide +kernel)) (fun _ _ _ _ _ => (pg_name (i := 7) sc_law_entry.nd rfl (.inl rfl))) (fun _ _ _ _ _ => pts_nil) (fun _ _ _ _ _ => (pe_callD G__law_grant hr (pa_cons (pe_ix (r := rIxL K) ix_list (pv 2) (pv 7) (fun _ _ => rfl)) pa_nil)))) pa_nil)))
        (pss_cons (ps_setLc (i := 5) (own := [("grant", 6)]) (g := gName 6)  rfl sc_law_entry.nd rfl rfl (sw_true rfl rfl rfl (by decide +kernel)) (pi_list (pv 5)) (blkOk_by (N := ["cell", "number", "draws", "revision", "gained", "lost", "grant", "k"]) (sc := defScope s_law_entry) (by decide +kernel)) (fun _ _ _ _ _ => (pg_name (i := 6) sc_law_entry.nd rfl (.inl rfl))) (fun _ _ _ _ _ => pts_one (pt_cmpR (op_notInK (K := K) hr.units) (pv 6) (pv 4) rfl)) (fun _ _ _ _ _ => (pv 6)))
        (pss_one (ps_ret (pe_tup (pa_cons (pe_ix  ix_list (pe_lst (pa_cons pe_str (pa_cons pe_str (pa_cons pe_str (pa_cons pe_str (pa_cons pe_str pa_nil)))))) (pe_op op_mod (pe_ix  ix_list (pv 2) pe_int (fun _ _ => rfl)) pe_int) (fun _ _ => rfl)) (pa_cons (pe_callB (call_max2 rfl) (by rfl) n_max (by decide +kernel) (pa_cons pe_int (pa_cons (pv 3) pa_nil))) (pa_cons (pv 4) (pa_cons (pv 5) pa_nil)))))))))))), ?_⟩
    refine ⟨.int c, rfl, c, 8, rfl, by decide, fun H1 o ds hds s1 no eo => ?_⟩
    have hdl := hds.1
    have big : (1000 : Nat) ≤ sizeLine := by decide
    -- the revision
    refine ⟨.int n, rfl, 1, rfl, by show 8 ≤ sizeLine; decide, fun o2 no2 => ?_⟩
    have s2 := Sm.new (o := .lst (revs.map V.int)) no2
    have e2 : upd H1 o2 (.lst (revs.map V.int)) o2 = some (.lst (revs.map V.int)) := upd_same
    have eo := s2.lst eo
    have s12 := s1.trans s2
    have c2 : upd H1 o2 (.lst [.int 1, .int 1, .int 2, .int 3, .int 0, .int 41, .int 40, .int (-1)]) = upd H1 o2 (.lst (revs.map V.int)) := rfl
    rw [c2]
    generalize upd H1 o2 (.lst (revs.map V.int)) = H2 at s2 e2 eo s12
    obtain ⟨m, em, hm⟩ := mod_nat ds[0] 8 (by decide)
    have hm8 : m < revs.length := hm
    refine ⟨.ref o, rfl, o, _, 0, _, rfl, rfl, .inl (.inl eo), at_int (k := 0) (by omega), _, 8, rfl, rfl, by show (0 : Int) < 8; decide, o2, revs.map V.int, ds[0] % 8, .int revs[m], rfl, rfl, .inl (.inl e2), by rw [show ds[0] % 8 = (m : Int) from em]; exact at_int hm8, n, _, rfl, rfl, ?_⟩
    -- what is gained
    obtain ⟨m5, em5, hm5⟩ := mod_nat ds[5] 3 (by decide)
    have r5 : (1 : Int) + ds[5] % 3 = ((1 + m5 : Nat) : Int) := by rw [show ds[5] % 3 = (m5 : Int) from em5]; omega
    refine ⟨.ref o, rfl, o, _, 5, _, rfl, rfl, .inl (.inl eo), at_int (k := 5) (by omega), _, 3, rfl, rfl, by show (0 : Int) < 3; decide, 1, _, rfl, rfl, 1, ((1 + m5 : Nat) : Int), congrArg (fun z => [V.int 1, V.int z]) r5, ⟨by decide, by decide, by omega, by omega⟩, fun D nD => ?_⟩
    refine lc_range (lo := 1) (n := (((1 + m5 : Nat) : Int) - 1).toNat) (fun i H' => Sm H2 H' ∧ ∃ M : List (Addr × List Str), H' D = some (.lst (M.map fun p => V.ref p.1)) ∧ TupN K H' M ∧ (∀ p ∈ M, p.2 ∈ uniL) ∧ M.length = i) ⟨Sm.new nD, [], upd_same, (fun p hp => nomatch hp), (fun p hp => nomatch hp), rfl⟩ (fun i H' hi hP => ?_) fun H3 hP => ?_
    · obtain ⟨sm, M, eD, tM, uM, lM⟩ := hP
      have hi2 : i < m5 := by omega
      have hk : 1 + i < ds.length := by omega
      have ek : (1 : Int) + (i : Nat) = ((1 + i : Nat) : Int) := by omega
      have d0 := (hds.2 _ (List.getElem_mem hk)).1
      refine ⟨rfl, ?_⟩
      refine ⟨.ref o, rfl, .int (1 + (i : Nat)), rfl, o, _, _, .int ds[1 + i], rfl, rfl, .inl (.inl (sm.lst eo)), by rw [ek]; exact at_int hk, ds[1 + i].toNat, congrArg (fun z => [V.int z]) (by omega), fun H3 p k s3 np ep hk => ?_⟩
      have eD3 := s3.lst eD
      refine ⟨_, eD3, by rw [List.length_map]; exact small1000 (by omega), (sm.trans s3).put nD, M ++ [(p, k)], by rw [upd_same, List.map_append]; rfl, TupN.upd (fun x hx => ?_) eD3, fun x hx => ?_, by rw [List.length_append, lM]; rfl⟩
      · rcases List.mem_append.mp hx with h | h
        · exact s3.seqT (tM x h)
        · rw [List.mem_singleton.mp h]
          exact .inl (.inl ep)
      · rcases List.mem_append.mp hx with h | h
        · exact uM x h
        · rw [List.mem_singleton.mp h]
          exact hk
    obtain ⟨as, aM, aD, aT, aU, aL⟩ := hP
    have aG : GLs K H3 D (aM.map (·.2)) := ⟨aM, aD, aT, rfl⟩
    refine ⟨D, _, rfl, aG, fun k hk => ?_, by rw [List.length_map]; omega, fun H4 g gs s4 ng hg asc dg => ?_⟩
    · obtain ⟨x, hx, rfl⟩ := List.mem_map.mp hk
      exact aU x hx
    have s24 := as.trans s4
    have eo4 := s24.lst eo
    obtain ⟨m6, em6, hm6⟩ := mod_nat ds[6] 2 (by decide)
    have r6 : (3 : Int) + ds[6] % 2 = ((3 + m6 : Nat) : Int) := by rw [show ds[6] % 2 = (m6 : Int) from em6]; omega
    refine ⟨.ref o, rfl, o, _, 6, _, rfl, rfl, .inl (.inl eo4), at_int (k := 6) (by omega), _, 2, rfl, rfl, by show (0 : Int) < 2; decide, 3, _, rfl, rfl, 3, ((3 + m6 : Nat) : Int), congrArg (fun z => [V.int 3, V.int z]) r6, ⟨by decide, by decide, by omega, by omega⟩, fun E2 nE2 => ?_⟩
    refine lc_range (lo := 3) (n := (((3 + m6 : Nat) : Int) - 3).toNat) (fun i H' => Sm H4 H' ∧ ∃ M : List (Addr × List Str), H' E2 = some (.lst (M.map fun p => V.ref p.1)) ∧ TupN K H' M ∧ (∀ p ∈ M, p.2 ∈ uniL) ∧ M.length = i) ⟨Sm.new nE2, [], upd_same, (fun p hp => nomatch hp), (fun p hp => nomatch hp), rfl⟩ (fun i H' hi hP => ?_) fun H5 hP => ?_
    · obtain ⟨sm, M, eD, tM, uM, lM⟩ := hP
      have hi2 : i < m6 := by omega
      have hk : 3 + i < ds.length := by omega
      have ek : (3 : Int) + (i : Nat) = ((3 + i : Nat) : Int) := by omega
      have d0 := (hds.2 _ (List.getElem_mem hk)).1
      refine ⟨rfl, ?_⟩
      refine ⟨.ref o, rfl, .int (3 + (i : Nat)), rfl, o, _, _, .int ds[3 + i], rfl, rfl, .inl (.inl (sm.lst eo4)), by rw [ek]; exact at_int hk, ds[3 + i].toNat, congrArg (fun z => [V.int z]) (by omega), fun H3 p k s3 np ep hk => ?_⟩
      have eD3 := s3.lst eD
      refine ⟨_, eD3, by rw [List.length_map]; exact small1000 (by omega), (sm.trans s3).put nE2, M ++ [(p, k)], by rw [upd_same, List.map_append]; rfl, TupN.upd (fun x hx => ?_) eD3, fun x hx => ?_, by rw [List.length_append, lM]; rfl⟩
      · rcases List.mem_append.mp hx with h | h
        · exact s3.seqT (tM x h)
        · rw [List.mem_singleton.mp h]
          exact .inl (.inl ep)
      · rcases List.mem_append.mp hx with h | h
        · exact uM x h
        · rw [List.mem_singleton.mp h]
          exact hk
    obtain ⟨bs, bM, bD, bT, bU, bL⟩ := hP
    have bG : GLs K H5 E2 (bM.map (·.2)) := ⟨bM, bD, bT, rfl⟩
    refine ⟨E2, _, rfl, bG, fun k hk => ?_, by rw [List.length_map]; omega, fun H6 x1 zs s6 nx1 hx1 asc2 dz => ?_⟩
    · obtain ⟨x, hx, rfl⟩ := List.mem_map.mp hk
      exact bU x hx
    have s46 := bs.trans s6
    have hg6 := hg.sm s46
    have lz := dz.len
    obtain ⟨M, m1, m2, m3⟩ := hx1
    have lM : M.length ≤ 6 := by
      rw [← m3, List.length_map] at lz
      exact lz
    refine ⟨.ref x1, rfl, x1, rfl, ⟨_, .inl (.inl m1)⟩, fun D3 nD3 => ?_⟩
    refine lc_list (K := K) (a := x1) (xs := M.map fun p => V.ref p.1) (fun i H' => Sm H6 H' ∧ H' D3 = some (.lst (((M.take i).filter fun p => !decide (p.2 ∈ gs)).map fun p => V.ref p.1))) ⟨Sm.new nD3, upd_same⟩ (fun i H' _ hP => .inl (.inl (hP.1.lst m1))) (fun i z H' hz hP => ?_) fun H7 hP => ?_
    · obtain ⟨sm, eD⟩ := hP
      rw [List.getElem?_map] at hz
      obtain ⟨p, hp, rfl⟩ := Option.map_eq_some_iff.mp hz
      have tk : M.take (i + 1) = M.take i ++ [p] := by
        rw [List.take_add_one, hp]
        rfl
      refine ⟨rfl, ?_⟩
      refine ⟨.ref p.1, rfl, .ref g, rfl, in_gls (k := p.2) (m2.sm sm _ (List.mem_of_getElem? hp)) (hg6.sm sm) ?_⟩
      refine ⟨_, rfl, ?_⟩
      refine iteB (fun ck => ?_) fun ck => ?_
      · have ck : (!decide (p.2 ∈ gs)) = true := ck
        refine ⟨.ref p.1, rfl, _, eD, ?_, sm.put nD3, ?_⟩
        · rw [List.length_map]
          exact small1000 (Nat.le_trans (List.length_filter_le _ _) (Nat.le_trans (List.length_take_le' _ _) (by omega)))
        · rw [upd_same, tk, List.filter_append, List.filter_cons, if_pos ck, List.map_append]
          rfl
      · have ck : (!decide (p.2 ∈ gs)) = false := ck
        refine ⟨sm, ?_⟩
        rw [eD, tk, List.filter_append, List.filter_cons, if_neg (by rw [ck]; exact Bool.false_ne_true), List.filter_nil, List.append_nil]
    obtain ⟨s7, eD⟩ := hP
    rw [List.length_map, List.take_length] at eD
    have hx7 : GLs K H7 D3 ((M.filter fun p => !decide (p.2 ∈ gs)).map (·.2)) := ⟨_, eD, fun p hp => m2.sm s7 p (List.mem_filter.mp hp).1, rfl⟩
    have dx7 : Dr ((M.filter fun p => !decide (p.2 ∈ gs)).map (·.2)) := ⟨(dz.1.sublist (by rw [← m3]; exact List.filter_sublist.map _)), fun k hk => by
      obtain ⟨p, hp, rfl⟩ := List.mem_map.mp hk
      exact dz.2 _ (by rw [← m3]; exact List.mem_map.mpr ⟨p, (List.mem_filter.mp hp).1, rfl⟩)⟩
    have s67 := s24.trans (s46.trans s7)
    refine ⟨by show 5 ≤ sizeLine; decide, fun o3 no3 => ?_⟩
    have s8 := Sm.new (o := .lst (stores.map V.str)) no3
    have c8 : upd H7 o3 (.lst [.str "s", .str "s", .str "s", .str "s", .str "t"]) = upd H7 o3 (.lst (stores.map V.str)) := rfl
    rw [c8]
    have e8 : upd H7 o3 (.lst (stores.map V.str)) o3 = some (.lst (stores.map V.str)) := upd_same
    generalize upd H7 o3 (.lst (stores.map V.str)) = H8 at s8 e8
    have eo8 := (s67.trans s8).lst eo
    obtain ⟨m7, em7, hm7⟩ := mod_nat ds[7] 5 (by decide)
    have hm75 : m7 < stores.length := hm7
    refine ⟨.ref o, rfl, o, _, 7, _, rfl, rfl, .inl (.inl eo8), at_int (k := 7) (by omega), _, 5, rfl, rfl, by show (0 : Int) < 5; decide, o3, stores.map V.str, ds[7] % 5, .str stores[m7], rfl, rfl, .inl (.inl e8), by rw [show ds[7] % 5 = (m7 : Int) from em7]; exact at_str hm75, ?_⟩
    refine ⟨.int (n + revs[m]), rfl, 1, n + revs[m], rfl, .ref g, rfl, .ref D3, rfl, by show 4 ≤ sizeLine; decide, fun p np => ?_⟩
    have sE := (s12.trans s67).trans s8
    exact q _ p g D3 _ _ _ _ (sE.put (sE.free np)) (sE.free np) upd_same ((hg6.sm (s7.trans s8)).sm (Sm.new np)) ((hx7.sm s8).sm (Sm.new np)) dg dx7
end
end A7

set_option Elab.async false
set_option linter.all false
set_option maxRecDepth 100000
set_option maxHeartbeats 4000000
namespace A7
open PySem PySem.Spec PyProof.Rows L2 AS
theorem SmX.toSm {p : Addr → Prop} {H H1 H2 : Hp} (a : Sm H H1) (x : SmX p H1 H2) (f : ∀ b, p b → H b = none) : Sm H H2 where
  keep := fun b o h t => x.keep b o (fun z => by rw [f b z] at h; cases h) (a.keep b o h t) t
  tab := fun b ps h => by
    obtain ⟨q1, h1, t1⟩ := a.tab b ps h
    obtain ⟨q2, h2, t2⟩ := x.tab b q1 h1
    exact ⟨q2, h2, fun z => t2 (t1 z)⟩
theorem StAt.smX {K : PySem.W.Frag} {H H' : Hp} {a q s l : Addr} {n : Int} {T : List (List Str)} {W : Wt} (h : StAt K H s l n T W) (e : SmX (two a q) H H') (o : Own (two a q) H) (n1 : ¬ two a q s) (n2 : ¬ two a q l) : StAt K H' s l n T W := by
  obtain ⟨t, kvs, h1, h2, h3, h4⟩ := h
  exact ⟨t, kvs, e.keep s _ n1 h1 fun _ z => (nomatch z), h2.smX e o, e.keep l _ n2 h3 fun _ z => (nomatch z), WAt.mono (fun _ _ _ z => z.smX e o) h4⟩
theorem RepAt.smX2 {K : PySem.W.Frag} {H H' : Hp} {a q s l : Addr} {st : Str} {n : Int} {T : List (List Str)} {W : Wt} (h : RepAt K H a q st n T W) (e : SmX (two s l) H H') (o : Own2 (two s l) H) (n1 : ¬ two s l a) (n2 : ¬ two s l q) : RepAt K H' a q st n T W := by
  obtain ⟨dx, g, kvs, h1, h2, h3, h4⟩ := h
  exact ⟨dx, g, kvs, e.keep a _ n1 h1 fun _ z => (nomatch z), h2.smX2 e o, e.keep q _ n2 h3 fun _ z => (nomatch z), WAt.mono (fun _ _ _ z => z.smX2 e o) h4⟩
theorem drain_bound : ∀ (f : Nat) (n : Nat) (T : List (List Str)) (W : Wt) (k : Nat) {n' : Int} {T' : List (List Str)} {W' : Wt} {k' : Nat}, drain f n T W k = (n', T', W', k') → ∃ m : Nat, n' = (m : Nat) ∧ m + W'.length ≤ n + W.length
  | 0, n, T, W, k, _, _, _, _, h => by
    cases h
    exact ⟨n, rfl, Nat.le_refl _⟩
  | f + 1, n, T, W, k, n', T', W', k', h => by
    unfold drain at h
    cases e : getW W ((n : Int) + 1) with
    | none =>
      rw [e] at h
      cases h
      exact ⟨n, rfl, Nat.le_refl _⟩
    | some ch =>
      rw [e] at h
      have dl := dropW_len e
      by_cases c : fitsB T ch.1 ch.2 = true
      · have h : drain f ((n : Int) + 1) (turned T ch.1 ch.2) (dropW W ((n : Int) + 1)) (k + 1) = (n', T', W', k') := by
          rw [← h]
          exact (if_pos c).symm
        obtain ⟨m, e1, e2⟩ := drain_bound f (n + 1) _ _ (k + 1) h
        exact ⟨m, e1, by omega⟩
      · have h : ((n : Int), T, dropW W ((n : Int) + 1), k) = (n', T', W', k') := by
          rw [← h]
          exact (if_neg c).symm
        cases h
        exact ⟨n, rfl, by omega⟩
theorem snap_eqv (n : Int) (T : List (List Str)) : PyData.eqv (.tuple [.str "s", .int n, ksD T]) (.tuple [.str "s", .int n, ksD T]) = true := by
  show PyData.eqvAll [.str "s", .int n, ksD T] [.str "s", .int n, ksD T] = true
  simp only [PyData.eqvAll, ks_eqv]
  simp [PyData.eqv]
theorem snap_depth (n : Int) (T : List (List Str)) : PyData.depth (.tuple [.str "s", .int n, ksD T]) ≤ 3 := by
  have h := ks_depth T
  simp only [PyData.depth, PyData.depthAll]
  omega
theorem ne_snap {K : PySem.W.Frag} {H : Hp} {p e g t : Addr} {n : Int} {T : List (List Str)} (h1 : H p = some (.tup [.str "s", .int n, .ref g])) (h2 : GLs K H g T) (h3 : H e = some (.tup [.str "s", .int n, .ref t])) (h4 : GLs K H t T) {Q : VK} (q : Q (.bl false) H) : rEqP K true (.ref p) (.ref e) H Q := by
  have d1 := snap_depth n T
  have pl : PyData.plain (.tuple [.str "s", .int n, ksD T]) = true := by
    show (true && (true && (PyData.plainAll (T.map strsD) && true))) = true
    rw [ks_plainAll]
    rfl
  refine ⟨.tuple [.str "s", .int n, ksD T], .tuple [.str "s", .int n, ksD T], .tup (.inl (.inl h1)) (.cons (.str "s") (.cons (.int n) (.cons h2.dp .nil))), .tup (.inl (.inl h3)) (.cons (.str "s") (.cons (.int n) (.cons h4.dp .nil))), pl, pl, by omega, toBl ?_ q⟩
  show (!PyData.eqv _ _) = false
  rw [snap_eqv]
  rfl
theorem dp_ints (K : PySem.W.Frag) (H : Hp) : ∀ zs : List Int, DpAll K H (zs.map V.int) (zs.map PyData.int)
  | [] => .nil
  | z :: r => .cons (.int z) (dp_ints K H r)
theorem ints_eqv : ∀ zs : List Int, PyData.eqvAll (zs.map PyData.int) (zs.map PyData.int) = true
  | [] => by simp [PyData.eqvAll]
  | z :: r => by
    simp only [List.map_cons, PyData.eqvAll, ints_eqv r]
    simp [PyData.eqv]
theorem ints_plain : ∀ zs : List Int, PyData.plainAll (zs.map PyData.int) = true
  | [] => rfl
  | _ :: r => ints_plain r
theorem ints_depth : ∀ zs : List Int, PyData.depthAll (zs.map PyData.int) = 0
  | [] => rfl
  | _ :: r => by simp [PyData.depthAll, PyData.depth, ints_depth r]
theorem ne_ints {K : PySem.W.Frag} {H : Hp} {p e : Addr} {zs : List Int} (h1 : H p = some (.lst (zs.map V.int))) (h2 : H e = some (.lst (zs.map V.int))) {Q : VK} (q : Q (.bl false) H) : rEqP K true (.ref p) (.ref e) H Q := by
  have d1 : PyData.depth (.list (zs.map PyData.int)) ≤ 2 := by
    simp only [PyData.depth, ints_depth]
    decide
  refine ⟨.list (zs.map PyData.int), .list (zs.map PyData.int), .lst (.inl (.inl h1)) (dp_ints K H zs), .lst (.inl (.inl h2)) (dp_ints K H zs), ints_plain zs, ints_plain zs, by omega, toBl ?_ q⟩
  show (!PyData.eqvAll _ _) = false
  rw [ints_eqv]
  rfl
theorem tok_s : ∀ n, n < 27 → revOf (tokS "s" (n : Nat)) "s" = some n := by decide +kernel
theorem rev_t : revOf "t@0" "s" = none := by decide +kernel
theorem rev_0 : revOf "" "s" = none := by decide +kernel
theorem s_at : ("s@" : Str) = ("s" : Str) ++ atS := by decide +kernel
theorem dueD_eqv (b : Bool) (z : Str) : PyData.eqv (.tuple [.bool b, .str z]) (.tuple [.bool b, .str z]) = true := by
  show PyData.eqvAll [.bool b, .str z] [.bool b, .str z] = true
  simp [PyData.eqvAll, PyData.eqv]
theorem eq_due {K : PySem.W.Frag} {H : Hp} {p e : Addr} {b : Bool} {z : Str} (h1 : H p = some (.tup [.bl b, .str z])) (h2 : H e = some (.tup [.bl b, .str z])) {Q : VK} (q : Q (.bl true) H) : rEqP K false (.ref p) (.ref e) H Q := by
  refine ⟨.tuple [.bool b, .str z], .tuple [.bool b, .str z], .tup (.inl (.inl h1)) (.cons (.bl b) (.cons (.str z) .nil)), .tup (.inl (.inl h2)) (.cons (.bl b) (.cons (.str z) .nil)), rfl, rfl, by show 1 ≤ 16; decide, toBl ?_ q⟩
  exact dueD_eqv b z
theorem cutV {A : Prop} {C : V → Hp → Prop} (G : V → Hp → Prop) (b : (∀ v H, C v H → G v H) → A) (l : ∀ v H, C v H → G v H) : A := b l
def spLaw (K : PySem.W.Frag) : Sp := fun vs H Q _ => ∃ (a : Addr) (ns : List Int), vs = [.ref a] ∧ SqL K H a (ns.map V.int) ∧ ns.length ≤ 63 ∧ Tabs K NN.tf H ∧ ∀ H', Q (.bl true) H'
section
variable {P : Program} {w : World} {K : PySem.W.Frag} {mg : Str → Option Value} {base : Heap}
theorem ok_law (T : Top NN K mg base) (B : VeInit K (He.ga K "AuthError")) (R : ErrC K mg "Refused" "what" "index") (RR : RC K mg) {fd : FuncData} (F : FunD K dlaw.name dlaw.qual dlaw.params dlaw.body dlaw.scope [] [] (He.ga K "law") fd) : FnOk P w K mg base CX0 7 (He.ga K "law") fd ["script"] (spLaw K) := by
  refine okF F sclaw (fun vs H Q E h => ?_) (fun cdv A outer s H vs Q E hr h => ?_)
  · obtain ⟨a, ns, rfl, _⟩ := h
    rfl
  · obtain ⟨ar, ns, rfl, hS, hn, hT, q⟩ := h
    have R_Replica := RR
    have hr2 := hr.mono (show 2 ≤ 6 by decide)
    have G__law_cell := (ok_law_cell (P := P) (w := w) T).mono (show 1 ≤ 6 by decide)
    have G__law_draws := (ok_law_draws (P := P) (w := w) T).mono (show 1 ≤ 6 by decide)
    have G__law_grant := (ok_law_grant (P := P) (w := w) T).mono (show 1 ≤ 6 by decide)
    have G__law_once := (ok_law_once (P := P) (w := w) T).mono (show 1 ≤ 6 by decide)
    have G__law_entry := (ok_law_entry (P := P) (w := w) T).mono (show 2 ≤ 6 by decide)
    have G__law_due := (ok_law_due (P := P) (w := w) T).mono (show 2 ≤ 6 by decide)
    have G__law_told := ok_law_told (P := P) (w := w) T RR B R
    have G__law_check := ok_law_check (P := P) (w := w) T RR B R
    have G_Replica_init := ok_rinit (P := P) (w := w) T RR
    have G_Replica_snapshot := (ok_rsnap (P := P) (w := w) T RR).mono (show 1 ≤ 6 by decide)
    have G_Replica_waiting := (ok_rwait (P := P) (w := w) T RR).mono (show 1 ≤ 6 by decide)
    have n_list := T.f "list" (by decide +kernel)
    have n_range := T.f "range" (by decide +kernel)
    have n_sorted := T.f "sorted" (by decide +kernel)
    have n_str := T.f "str" (by decide +kernel)
    refine ⟨_, (pss_cons (ps_set (i := 1) sclaw.nd rfl (.inr rfl) (pe_callD G__law_draws hr (pa_cons (pe_callD G__law_cell hr (pa_cons (pv 0) (pa_cons pe_int pa_nil))) (pa_cons pe_int pa_nil))))
        (pss_cons (ps_set (i := 3) sclaw.nd rfl (.inl rfl) (pe_callD G__law_once hr (pa_cons (pe_lc (own := [("k", 2)]) (g := gName 2) (tt := tYes) rfl sclaw.nd (pi_range1 rfl n_range (pa_cons (pe_op op_mod (pe_ix  ix_list (pv 1) pe_int (fun _ _ => rfl)) pe_int) pa_nil)) (blkOk_by (N := ["script", "draws", "k", "table", "state", "replica", "entry", "told", "number", "due"]) (sc := defScope slaw) (by decide +kernel)) (fun _ _ _ _ _ => (pg_name (i := 2) sclaw.nd rfl (.inl rfl))) (fun _ _ _ _ _ => pts_nil) (fun _ _ _ _ _ => (pe_callD G__law_grant hr (pa_cons (pe_ix (r := rIxL K) ix_list (pv 1) (pv 2) (fun _ _ => rfl)) pa_nil)))) pa_nil)))
        (pss_cons (ps_set (i := 4) sclaw.nd rfl (.inl rfl) (pe_lst (pa_cons (pe_op op_mod (pe_callD G__law_cell hr (pa_cons (pv 0) (pa_cons pe_int pa_nil))) pe_int) (pa_cons (pv 3) (pa_cons pe_dnewK pa_nil)))))
        (pss_cons (ps_set (i := 5) sclaw.nd rfl (.inl rfl) (pe_makeD (K := K) G_Replica_init R_Replica hr2 (pa_cons (pe_tup (pa_cons pe_str (pa_cons (pe_ix  ix_list (pv 4) pe_int (fun _ _ => rfl)) (pa_cons (pe_callTy call_list_of (by rfl) n_list (by decide +kernel) (pa_cons (pv 3) pa_nil)) pa_nil)))) pa_nil)))
        (pss_cons (ps_for PassesOwn.never rfl (pi_range1 rfl n_range (pa_cons (pe_op op_mod (pe_callD G__law_cell hr (pa_cons (pv 0) (pa_cons pe_int pa_nil))) pe_int) pa_nil)) (pg_name (i := 2) sclaw.nd rfl (.inl rfl)) (pss_cons (ps_set (i := 6) sclaw.nd rfl (.inl rfl) (pe_callD G__law_entry hr (pa_cons (pe_callD G__law_cell hr (pa_cons (pv 0) (pa_cons (pe_op op_add pe_int (pv 2)) pa_nil))) (pa_cons (pe_ix  ix_list (pv 4) pe_int (fun _ _ => rfl)) pa_nil))))
        (pss_cons (ps_set (i := 7) sclaw.nd rfl (.inl rfl) (pe_callD G__law_told hr (pa_cons (pv 5) (pa_cons (pv 6) pa_nil))))
        (pss_cons (ps_if (pt_cmpR op_ne (pv 7) (pe_callD G__law_due hr (pa_cons (pv 4) (pa_cons (pv 6) pa_nil))) (nomark _)) (pss_one (ps_ret pe_bl)) pss_nil)
        (pss_one (ps_if (PW.pt (pw_or (pt_cmpR (op_neP hr.units) (pe_methD0 (K := K) G_Replica_snapshot R_Replica (by decide) hr (pv 5)) (pe_tup (pa_cons pe_str (pa_cons (pe_ix  ix_list (pv 4) pe_int (fun _ _ => rfl)) (pa_cons (pe_ix  ix_list (pv 4) pe_int (fun _ _ => rfl)) pa_nil)))) (nomark _)) (pw_or1 (pt_cmpR (op_neP hr.units) (pe_methD0 (K := K) G_Replica_waiting R_Replica (by decide) hr (pv 5)) (pe_callB (call_sortedDI rfl) (by rfl) n_sorted (by decide +kernel) (pa_cons (pe_ix  ix_list (pv 4) pe_int (fun _ _ => rfl)) pa_nil)) (nomark _))))) (pss_one (ps_ret pe_bl)) pss_nil))))))
        (pss_cons (ps_set (i := 8) sclaw.nd rfl (.inl rfl) (pe_ix  ix_list (pv 4) pe_int (fun _ _ => rfl)))
        (pss_cons (ps_if (PW.pt (pw_or (pt_cmpR op_ne (pe_callD G__law_check hr (pa_cons (pv 5) (pa_cons pe_str pa_nil))) pe_str (nomark _)) (pw_or1 (pt_cmpR op_ne (pe_callD G__law_check hr (pa_cons (pv 5) (pa_cons (pe_op op_add_str pe_str (pe_callTy call_str_int (by rfl) n_str (by decide +kernel) (pa_cons (pe_op op_add (pv 8) pe_int) pa_nil))) pa_nil))) pe_str (nomark _))))) (pss_one (ps_ret pe_bl)) pss_nil)
        (pss_cons (ps_set (i := 9) sclaw.nd rfl (.inl rfl) (pe_tup (pa_cons (pe_cmpR (op_inP hr.units) (pe_tup (pa_cons pe_str (pa_cons pe_str (pa_cons pe_str pa_nil)))) (pe_ix  ix_list (pv 4) pe_int (fun _ _ => rfl)) rfl) (pa_cons (pe_op op_add_str pe_str (pe_callTy call_str_int (by rfl) n_str (by decide +kernel) (pa_cons (pv 8) pa_nil))) pa_nil))))
        (pss_one (ps_ret (pe_and (pe_cmpR (op_eqP hr.units) (pe_callD G__law_check hr (pa_cons (pv 5) (pa_cons pe_str pa_nil))) (pv 9) (nomark _)) (pe_one (pe_cmpR (op_eqP hr.units) (pe_callD G__law_check hr (pa_cons (pv 5) (pa_cons (pe_op op_add_str pe_str (pe_callTy call_str_int (by rfl) n_str (by decide +kernel) (pa_cons (pv 8) pa_nil))) pa_nil))) (pv 9) (nomark _)))))))))))))), ?_⟩
    have big : (1000 : Nat) ≤ sizeLine := by decide
    refine ⟨.ref ar, rfl, ar, ns, 0, rfl, hS, hn, _, 8, rfl, by decide, fun H1 o ds hds s1 no eo => ?_⟩
    have hdl := hds.1
    obtain ⟨m7, em7, hm7⟩ := mod_nat ds[7] 7 (by decide)
    refine ⟨.ref o, rfl, o, _, 7, _, rfl, rfl, .inl (.inl eo), at_int (k := 7) (by omega), _, 7, rfl, rfl, by show (0 : Int) < 7; decide, (m7 : Int), congrArg (fun z => [V.int z]) em7, by omega, by omega, fun D nD => ?_⟩
    refine lc_range (n := ((m7 : Nat) : Int).toNat) (fun i H' => Sm H1 H' ∧ ∃ M : List (Addr × List Str), H' D = some (.lst (M.map fun p => V.ref p.1)) ∧ TupN K H' M ∧ (∀ p ∈ M, p.2 ∈ uniL) ∧ M.length = i) ⟨Sm.new nD, [], upd_same, (fun p hp => nomatch hp), (fun p hp => nomatch hp), rfl⟩ (fun i H' hi hP => ?_) fun H2 hP => ?_
    · obtain ⟨sm, M, eD, tM, uM, lM⟩ := hP
      have hi2 : i < m7 := by omega
      have hk : i < ds.length := by omega
      have d0 := (hds.2 _ (List.getElem_mem hk)).1
      refine ⟨rfl, ?_⟩
      rw [Int.zero_add]
      refine ⟨.ref o, rfl, .int (i : Nat), rfl, o, _, _, .int ds[i], rfl, rfl, .inl (.inl (sm.lst eo)), at_int hk, ds[i].toNat, congrArg (fun z => [V.int z]) (by omega), fun H3 p k s3 np ep hk => ?_⟩
      have eD3 := s3.lst eD
      refine ⟨_, eD3, by rw [List.length_map]; exact small1000 (by omega), (sm.trans s3).put nD, M ++ [(p, k)], by rw [upd_same, List.map_append]; rfl, TupN.upd (fun x hx => ?_) eD3, fun x hx => ?_, by rw [List.length_append, lM]; rfl⟩
      · rcases List.mem_append.mp hx with h | h
        · exact s3.seqT (tM x h)
        · rw [List.mem_singleton.mp h]
          exact .inl (.inl ep)
      · rcases List.mem_append.mp hx with h | h
        · exact uM x h
        · rw [List.mem_singleton.mp h]
          exact hk
    obtain ⟨s2, M, eD, tM, uM, lM⟩ := hP
    refine ⟨D, _, rfl, ⟨M, eD, tM, rfl⟩, fun k hk => ?_, by rw [List.length_map]; omega, fun H3 g tb s3 ng hg asc dg => ?_⟩
    · obtain ⟨x, hx, rfl⟩ := List.mem_map.mp hk
      exact uM x hx
    have sm3 := s1.trans (s2.trans s3)
    clear eo hds eD tM uM lM nD no
    -- the state
    obtain ⟨n0, en0, hn0⟩ := mod_nat (ns.getD 1 0) 5 (by decide)
    refine ⟨.ref ar, rfl, ar, ns, 1, rfl, sm3.seq hS, hn, _, 5, rfl, rfl, by show (0 : Int) < 5; decide, .ref g, rfl, fun l nl => ⟨by show 3 ≤ sizeLine; decide, fun s nos => ?_⟩⟩
    have en0' : ns.getD 1 0 % 5 = ((n0 : Nat) : Int) := en0
    have s4 := Sm.new (o := .dK []) nl
    have el : upd H3 l (.dK []) l = some (.dK []) := upd_same
    generalize upd H3 l (.dK []) = H4 at s4 el nos
    have s5 := Sm.new (o := .lst [.int (ns.getD 1 0 % 5), .ref g, .ref l]) nos
    have es : upd H4 s (.lst [.int (ns.getD 1 0 % 5), .ref g, .ref l]) s = some (.lst [.int (n0 : Nat), .ref g, .ref l]) := by rw [← en0']; exact upd_same
    have sm5 := sm3.trans (s4.trans s5)
    have St0 : StAt K (upd H4 s (.lst [.int (ns.getD 1 0 % 5), .ref g, .ref l])) s l (n0 : Nat) tb [] := ⟨g, [], es, hg.sm (s4.trans s5), s5.keep _ _ el fun _ z => (nomatch z), trivial⟩
    have fs : H s = none := (sm3.trans s4).free nos
    have fl : H l = none := sm3.free nl
    generalize upd H4 s (.lst [.int (ns.getD 1 0 % 5), .ref g, .ref l]) = H5 at s5 es sm5 St0
    have hg5 := hg.sm (s4.trans s5)
    obtain ⟨ys, l1, l2⟩ := hg5.copy
    refine ⟨.ref s, rfl, s, _, 0, .int (n0 : Nat), rfl, rfl, .inl (.inl es), rfl, .ref g, rfl, g, ys, rfl, .inl l1, fun o2 no2 => ⟨by show 3 ≤ sizeLine; decide, fun p np => ?_⟩⟩
    have g2 := l2 o2 no2
    have s6 := Sm.new (o := .lst ys) no2
    generalize upd H5 o2 (.lst ys) = H6 at s6 g2 np
    have s7 := Sm.new (o := .tup [.str "s", .int (n0 : Nat), .ref o2]) np
    have ep : upd H6 p (.tup [.str "s", .int (n0 : Nat), .ref o2]) p = some (.tup [.str "s", .int (n0 : Nat), .ref o2]) := upd_same
    generalize upd H6 p (.tup [.str "s", .int (n0 : Nat), .ref o2]) = H7 at s7 ep
    have sm7 := sm5.trans (s6.trans s7)
    have St7 := St0.sm (s6.trans s7)
    have g7 := g2.sm s7
    clear s4 s5 s6 s7 St0 hg5 l1 l2 g2 np no2 nos el es
    intro x dx nx ndx ndxx
    have s8 : Sm H7 (upd (upd H7 dx (.own x)) x (.ins (He.ga K "Replica") dx [])) := (Sm.new ndx).put nx
    have ex8 : upd (upd H7 dx (.own x)) x (.ins (He.ga K "Replica") dx []) x = some (.ins (He.ga K "Replica") dx []) := upd_same
    have fx : H x = none := sm7.free nx
    generalize upd (upd H7 dx (.own x)) x (.ins (He.ga K "Replica") dx []) = H8 at s8 ex8
    have sm8 := sm7.trans s8
    refine ⟨x, p, o2, dx, "s", (n0 : Nat), tb, rfl, ex8, s8.tup ep, g7.sm s8, asc, dg.full, fun H9 qd hR x1 nq => ⟨rfl, ?_⟩⟩
    have sm9 : Sm H H9 := x1.toSm sm8 fun b hb => by
      have hb : b = x := hb
      rw [hb]
      exact fx
    have fq : H qd = none := sm8.free nq
    have St8 := St7.sm s8
    have neql : qd ≠ l := fun z => by
      obtain ⟨t, kvs, i1, i2, i3, i4⟩ := St8
      rw [← z, nq] at i3
      cases i3
    have St9 : StAt K H9 s l (n0 : Nat) tb [] := by
      obtain ⟨t, kvs, i1, i2, i3, i4⟩ := St8
      exact ⟨t, kvs, x1.keep s _ (fun z => by have z : s = x := z; rw [z, ex8] at i1; cases i1) i1 (fun _ z => nomatch z), i2.smX x1 (own_one ex8), x1.keep l _ (fun z => by have z : l = x := z; rw [z, ex8] at i3; cases i3) i3 (fun _ z => nomatch z), WAt.mono (fun _ _ _ z => z.smX x1 (own_one ex8)) i4⟩
    clear St7 St8 x1 s8 ex8 sm8 sm7 g7 ep nx ndx ndxx nq
    -- the entries
    obtain ⟨nk, enk, hnk⟩ := mod_nat (ns.getD 2 0) 21 (by decide)
    refine ⟨.ref ar, rfl, ar, ns, 2, rfl, sm9.seq hS, hn, _, 21, rfl, rfl, by show (0 : Int) < 21; decide, (nk : Int), congrArg (fun z => [V.int z]) enk, by omega, by omega, ?_⟩
    refine for_range (n := ((nk : Nat) : Int).toNat) (fun i σ H' => ∃ (u2 u6 u7 u8 u9 : Option V) (N : Nat) (T' : List (List Str)) (W' : Wt), σ = [some (.ref ar), some (.ref o), u2, some (.ref g), some (.ref s), some (.ref x), u6, u7, u8, u9] ∧ Sm H H' ∧ StAt K H' s l (N : Nat) T' W' ∧ RepAt K H' x qd "s" (N : Nat) T' W' ∧ Good T' W' ∧ N + W'.length ≤ 4 + i)
      ⟨_, _, _, _, _, n0, tb, [], rfl, sm9, St9, hR, ⟨asc, dg, fun e he => nomatch he⟩, by show n0 + 0 ≤ 4 + 0; omega⟩ (fun i σ H' hi hP => ?_) fun σ H' hP => ?_
    · obtain ⟨u2, u6, u7, u8, u9, N, T', W', rfl, sm, St, Rp, hG, bd⟩ := hP
      have hi21 : i < 21 := by omega
      obtain ⟨t, kvs, i1, i2, i3, i4⟩ := id St
      refine ⟨.ref ar, rfl, .int (0 + (i : Nat)), rfl, 3, _, rfl, rfl, ar, ns, 3 + i, congrArg (fun z => [V.ref ar, V.int z]) (by omega), sm.seq hS, hn, .ref s, rfl, s, _, 0, .int (N : Nat), rfl, rfl, .inl (.inl i1), rfl, _, _, rfl, fun H10 en gl xl es r gs xs s10 nen een hgl hxl dgs dxs => ?_⟩
      have sm10 := sm.trans s10
      have St10 := St.sm s10
      have Rp10 := Rp.sm s10
      refine cutV (C := fun v H' => ∃ (N2 : Nat) (T2 : List (List Str)) (W2 : Wt), Sm H H' ∧ StAt K H' s l (N2 : Nat) T2 W2 ∧ RepAt K H' x qd "s" (N2 : Nat) T2 W2 ∧ Good T2 W2 ∧ N2 + W2.length ≤ 4 + (i + 1)) ?G (fun go => ?br) ?later
      case br =>
        refine ⟨.ref x, rfl, .ref en, rfl, x, qd, en, gl, xl, "s", es, (N : Nat), r, T', W', gs, xs, rfl, Rp10, hG, by omega, een, hgl, hxl, dgs, dxs, fun c H11 s11 => ?_, fun c ho H11 s11 => ?_, fun c ho m hm H11 s11 => ?_, fun c ho hk n' T2 W2 k hd H11 x11 Rp11 hG11 => ?_⟩
        · refine ⟨.str msgS, rfl, .ref s, rfl, .ref en, rfl, s, en, l, gl, xl, es, (N : Nat), r, T', W', gs, xs, rfl, St10.sm s11, hG, by omega, s11.tup een, hgl.sm s11, hxl.sm s11, dgs, dxs, fun _ H12 s12 => ?_, fun c' => absurd c' c, fun c' => absurd c' c, fun c' => absurd c' c⟩
          refine ⟨rfl, _, rfl, iteF' (by rw [decide_eq_true rfl]; rfl) ?_⟩
          generalize V.str msgS = v
          exact go v H12 ⟨N, T', W', (sm10.trans s11).trans s12, (St10.sm s11).sm s12, (Rp10.sm s11).sm s12, hG, by omega⟩
        · refine ⟨.int 0, rfl, .ref s, rfl, .ref en, rfl, s, en, l, gl, xl, es, (N : Nat), r, T', W', gs, xs, rfl, St10.sm s11, hG, by omega, s11.tup een, hgl.sm s11, hxl.sm s11, dgs, dxs, fun c' => absurd c c', fun _ _ H12 s12 => ?_, fun _ h => absurd (ho.symm.trans h) (by decide), fun _ h => absurd (ho.symm.trans h) (by decide)⟩
          refine ⟨rfl, _, rfl, iteF' (by rw [decide_eq_true rfl]; rfl) ?_⟩
          exact go _ H12 ⟨N, T', W', (sm10.trans s11).trans s12, (St10.sm s11).sm s12, (Rp10.sm s11).sm s12, hG, by omega⟩
        · refine ⟨.str m, rfl, .ref s, rfl, .ref en, rfl, s, en, l, gl, xl, es, (N : Nat), r, T', W', gs, xs, rfl, St10.sm s11, hG, by omega, s11.tup een, hgl.sm s11, hxl.sm s11, dgs, dxs, fun c' => absurd c c', fun _ h => absurd (ho.symm.trans h) (by decide), fun _ _ m' hm' H12 s12 => ?_, fun _ _ h => absurd (hm.symm.trans h) (by intro z; cases z)⟩
          obtain rfl : m = m' := Option.some.inj (hm.symm.trans hm')
          refine ⟨rfl, _, rfl, iteF' (by rw [decide_eq_true rfl]; rfl) ?_⟩
          exact go _ H12 ⟨N, T', W', (sm10.trans s11).trans s12, (St10.sm s11).sm s12, (Rp10.sm s11).sm s12, hG, by omega⟩
        · have own := Rp10.own
          obtain ⟨N2, rfl, b2⟩ := drain_bound _ N _ _ _ hd
          rw [List.length_append] at b2
          have b2 : N2 + W2.length ≤ N + (W'.length + 1) := b2
          have nx1 : ¬ two x qd s := fun z => by
            obtain ⟨t0, kv0, k1, _, _, _⟩ := St10
            rcases own s z with ⟨_, _, _, e⟩ | ⟨_, e⟩ <;> · rw [k1] at e; cases e
          have nx2 : ¬ two x qd l := fun z => by
            obtain ⟨t0, kv0, _, _, k3, _⟩ := St10
            rcases z with z | z
            · obtain ⟨dx0, g0, kv1, r1, _, _, _⟩ := Rp10
              rw [z, r1] at k3
              cases k3
            · exact neql z.symm
          have sm11 : Sm H H11 := x11.toSm sm10 fun b hb => by
            rcases hb with rfl | rfl
            · exact fx
            · exact fq
          have St11 := St10.smX x11 own nx1 nx2
          refine ⟨.int (k : Nat), rfl, .ref s, rfl, .ref en, rfl, s, en, l, gl, xl, es, (N : Nat), r, T', W', gs, xs, rfl, St11, hG, by omega, x11.tup own een, hgl.smX x11 own, hxl.smX x11 own, dgs, dxs, fun c' => absurd c c', fun _ h => absurd (h.symm.trans ho) (by decide), fun _ _ m' hm' => absurd (hm'.symm.trans hk) (by intro z; cases z), fun _ _ _ n2 T3 W3 k2 hd2 H12 x12 St12 hG12 => ?_⟩
          rw [hd] at hd2
          cases hd2
          have own2 := St11.own
          have ny1 : ¬ two s l x := fun z => by
            obtain ⟨dx0, g0, kv1, r1, _, _, _⟩ := Rp11
            rcases own2 x z with ⟨_, _, e⟩ | ⟨_, e⟩ <;> · rw [r1] at e; cases e
          have ny2 : ¬ two s l qd := fun z => by
            rcases z with z | z
            · obtain ⟨dx0, g0, kv1, _, _, r3, _⟩ := Rp11
              obtain ⟨t0, kv0, k1, _, _, _⟩ := St11
              rw [z, k1] at r3
              cases r3
            · exact neql z
          have sm12 : Sm H H12 := x12.toSm sm11 fun b hb => by
            rcases hb with rfl | rfl
            · exact fs
            · exact fl
          refine ⟨rfl, _, rfl, iteF' (by rw [decide_eq_true rfl]; rfl) ?_⟩
          exact go _ H12 ⟨N2, T2, W2, sm12, St12, Rp11.smX2 x12 own2 ny1 ny2, hG12, by omega⟩
      case later =>
        rintro v H12 ⟨N2, T2, W2, sm12, St12, Rp12, hG12, b12⟩
        obtain ⟨t2, kv2, j1, j2, j3, j4⟩ := id St12
        obtain ⟨dx2, g2, kv3, r1, r2, r3, r4⟩ := id Rp12
        refine ⟨.ref x, rfl, x, dx2, _, rfl, r1, rfl, x, qd, "s", (N2 : Nat), T2, W2, rfl, Rp12, fun H13 p13 g13 s13 np13 ep13 hg13 => ?_⟩
        have j1a := s13.lst j1
        refine ⟨.ref s, rfl, s, _, 0, .int (N2 : Nat), rfl, rfl, .inl (.inl j1a), rfl, .ref s, rfl, s, _, 1, .ref t2, rfl, rfl, .inl (.inl j1a), rfl, by show 3 ≤ sizeLine; decide, fun e ne => ?_⟩
        have s14 := Sm.new (o := .tup [.str "s", .int (N2 : Nat), .ref t2]) ne
        refine ne_snap (s14.tup ep13) (hg13.sm s14) upd_same ((j2.sm s13).sm s14) ⟨_, rfl, iteF' rfl ?_⟩
        have s24 := s13.trans s14
        generalize upd H13 e (.tup [.str "s", .int (N2 : Nat), .ref t2]) = H14 at s24
        have r1b := s24.keep _ _ r1 fun _ z => nomatch z
        refine ⟨.ref x, rfl, x, dx2, _, rfl, r1b, rfl, x, qd, "s", (N2 : Nat), T2, W2, rfl, Rp12.sm s24, by omega, fun ys2 H15 p15 pm srt s15 np15 ep15 => ?_⟩
        have s25 := s24.trans s15
        have j1c := s25.lst j1
        have j3c := s25.keep _ _ j3 fun _ z => nomatch z
        refine ⟨.ref s, rfl, s, _, 2, .ref l, rfl, rfl, .inl (.inl j1c), rfl, l, kv2, W2.map (·.1), rfl, .inl j3c, j4.keys, by rw [List.length_map]; omega, fun zs p16 pm2 srt2 np16 => ?_⟩
        have ezs : ys2 = zs := (pm.trans pm2.symm).eq_of_pairwise (fun a b _ _ h1 h2 => by omega) srt srt2
        subst ezs
        have s16 := Sm.new (o := .lst (ys2.map V.int)) np16
        refine ne_ints (s16.lst ep15) upd_same ⟨_, rfl, iteF' rfl ?_⟩
        have sA := s25.trans s16
        exact ⟨_, _, _, _, _, N2, T2, W2, rfl, sm12.trans sA, St12.sm sA, Rp12.sm sA, hG12, b12⟩
    · obtain ⟨u2, u6, u7, u8, u9, N, T', W', rfl, sm, St, Rp, hG, bd⟩ := hP
      have hN : N ≤ 24 := by
        have : ((nk : Nat) : Int).toNat = nk := by omega
        omega
      obtain ⟨t, kvs, i1, i2, i3, i4⟩ := id St
      refine ⟨.ref s, rfl, s, _, 0, .int (N : Nat), rfl, rfl, .inl (.inl i1), rfl, ?_⟩
      refine ⟨.ref x, rfl, x, qd, "t@0", "s", N, T', W', rfl, Rp, by decide +kernel, by decide +kernel, by omega, sm.tabs hT, fun h => ?_, fun _ _ Ha sa => ?_, fun _ m hm => ?_⟩
      · exfalso
        rcases h with h | ⟨m, hm, _⟩
        · revert h
          decide +kernel
        · rw [rev_t] at hm
          cases hm
      · refine ⟨rfl, _, rfl, iteF' (by unfold msgT; rw [decide_eq_true rfl]; rfl) ?_⟩
        have ln : (toString (((N + 1 : Nat) : Nat) : Int) : Str).length ≤ 7 := num_len (by omega)
        have ln0 : (toString ((N : Nat) : Int) : Str).length ≤ 7 := num_len (by omega)
        have l2 : ("s@" : Str).length = 2 := by decide +kernel
        refine ⟨.ref x, rfl, .int (N : Nat), rfl, (N : Nat), 1, rfl, rfl, ((N + 1 : Nat) : Int), rfl, log2_small (by omega), "s@", toString (((N + 1 : Nat) : Nat) : Int), rfl, rfl, by omega, ?_⟩
        have e1 : ("s@" : Str) ++ toString (((N + 1 : Nat) : Nat) : Int) = tokS "s" ((N + 1 : Nat) : Nat) := by rw [s_at]; rfl
        have t1 := tok_s (N + 1) (by omega)
        refine ⟨x, qd, _, "s", N, T', W', rfl, Rp.sm sa, by rw [Str.length_append]; omega, by decide +kernel, by omega, (sm.trans sa).tabs hT, fun h => ?_, fun _ h => ?_, fun _ m hm lt Hb sb => ?_⟩
        · exfalso
          rw [e1] at h
          rcases h with h | ⟨m, hm, lm⟩
          · rw [h, rev_0] at t1
            cases t1
          · rw [t1] at hm
            cases hm
            omega
        · exfalso
          rw [e1, t1] at h
          cases h
        · refine ⟨rfl, _, rfl, iteF' (by unfold msgB; rw [decide_eq_true rfl]; rfl) ?_⟩
          have sab := sa.trans sb
          refine ⟨by show 3 ≤ sizeLine; decide, fun e ne => ?_⟩
          have sc := Sm.new (o := .tup [.str "d:1", .str "v", .str "user:a"]) ne
          have ee : upd Hb e (.tup [.str "d:1", .str "v", .str "user:a"]) e = some (.tup ([("d:1" : Str), ("v" : Str), ("user:a" : Str)].map V.str)) := upd_same
          generalize upd Hb e (.tup [.str "d:1", .str "v", .str "user:a"]) = Hc at sc ee
          have sac := sab.trans sc
          refine ⟨.ref s, rfl, s, _, 1, .ref t, rfl, rfl, .inl (.inl (sac.lst i1)), rfl, in_gls (.inl (.inl ee)) (i2.sm sac) ?_⟩
          have e0 : ("s@" : Str) ++ toString ((N : Nat) : Int) = tokS "s" (N : Nat) := by rw [s_at]; rfl
          have t0 := tok_s N (by omega)
          refine ⟨.int (N : Nat), rfl, (N : Nat), rfl, log2_small (by omega), "s@", toString ((N : Nat) : Int), rfl, rfl, by omega, by show 2 ≤ sizeLine; decide, fun du ndu => ?_⟩
          rw [e0]
          have sd := Sm.new (o := .tup [.bl (decide ([("d:1" : Str), ("v" : Str), ("user:a" : Str)] ∈ T')), .str (tokS "s" (N : Nat))]) ndu
          have ed : upd Hc du (.tup [.bl (decide ([("d:1" : Str), ("v" : Str), ("user:a" : Str)] ∈ T')), .str (tokS "s" (N : Nat))]) du = some (.tup [.bl (decide ([("d:1" : Str), ("v" : Str), ("user:a" : Str)] ∈ T')), .str (tokS "s" (N : Nat))]) := upd_same
          have cq : upd Hc du (.tup [.bl (if false = true then !decide ([("d:1" : Str), ("v" : Str), ("user:a" : Str)] ∈ T') else decide ([("d:1" : Str), ("v" : Str), ("user:a" : Str)] ∈ T')), .str (tokS "s" (N : Nat))]) = upd Hc du (.tup [.bl (decide ([("d:1" : Str), ("v" : Str), ("user:a" : Str)] ∈ T')), .str (tokS "s" (N : Nat))]) := rfl
          rw [cq]
          generalize upd Hc du (.tup [.bl (decide ([("d:1" : Str), ("v" : Str), ("user:a" : Str)] ∈ T')), .str (tokS "s" (N : Nat))]) = Hd at sd ed
          have sad := sac.trans sd
          refine ⟨.ref x, rfl, x, qd, "", "s", N, T', W', rfl, Rp.sm sad, by decide +kernel, by decide +kernel, by omega, (sm.trans sad).tabs hT, fun _ He p1 se np1 ep1 => ?_, fun h => absurd rfl h, fun h => absurd rfl h⟩
          refine ⟨.ref du, rfl, eq_due ep1 (se.tup ed) ?_⟩
          refine ⟨true, rfl, iteT ?_⟩
          have sae := sad.trans se
          refine ⟨.ref x, rfl, .int (N : Nat), rfl, (N : Nat), rfl, log2_small (by omega), "s@", toString ((N : Nat) : Int), rfl, rfl, by omega, x, qd, _, "s", N, T', W', rfl, Rp.sm sae, by rw [Str.length_append]; omega, by decide +kernel, by omega, (sm.trans sae).tabs hT, fun _ Hf p2 sf np2 ep2 => ⟨.ref du, rfl, eq_due ep2 ((se.trans sf).tup ed) (q _)⟩, fun _ h => ?_, fun _ m hm lt => ?_⟩
          · exfalso
            rw [e0, t0] at h
            cases h
          · exfalso
            rw [e0, t0] at hm
            cases hm
            omega
      · exfalso
        rw [rev_t] at hm
        cases hm

end
end A7

set_option Elab.async false
set_option linter.all false
set_option maxRecDepth 100000
set_option maxHeartbeats 2000000
namespace AS
open PySem PySem.Spec PyProof.Rows He
/-- what the names reach in n steps, and the table of the interpreter's own statics: reading an attribute of a class looks there -/
def asY (g : Addr → Option Obj) (n : Nat) : List Addr := asD g n ++ [cStatics]
def obsY (n : Nat) (fa : List Fa) (fn : List DefD) (ts : List Tab) (tf : List Defn) (ex : PySem.W.Frag → Bool) (g : Addr → Option Obj) : AlX := (obsT fa fn ts (frT g (asY g n)), ex (frT g (asY g n)) && tabsB g tf (frT g (asY g n)))
theorem saysY_of {n : Nat} {fa : List Fa} {fn : List DefD} {ts : List Tab} {tf : List Defn} {ex : PySem.W.Frag → Bool} {w : World} {h : Heap} (e : obsY n fa fn ts tf ex h.get? = valX fn ts w) : SaysX fa fn ts tf ex w h (frT h.get? (asY h.get? n)) := by
  have e1 : obsT fa fn ts (frT h.get? (asY h.get? n)) = valT fn ts w := congrArg (fun z : AlX => z.1) e
  have e2 : (ex (frT h.get? (asY h.get? n)) && tabsB h.get? tf (frT h.get? (asY h.get? n))) = true := congrArg (fun z : AlX => z.2) e
  obtain ⟨h1, h2⟩ := ba e2
  have key : ∀ p ∈ tf, PySem.W.codeHdIn (frT h.get? (asY h.get? n)) (cT (frT h.get? (asY h.get? n)) p).1 (cT (frT h.get? (asY h.get? n)) p).2 = true ∧ ∃ o, h.get? (cT (frT h.get? (asY h.get? n)) p).2 = some o ∧ emptyTab o = true := fun p hp => by
    obtain ⟨h3, h4⟩ := ba (List.all_eq_true.mp h2 p hp)
    refine ⟨h3, ?_⟩
    cases q : h.get? (cT (frT h.get? (asY h.get? n)) p).2 with
    | none =>
      rw [q] at h4
      cases h4
    | some o =>
      rw [q] at h4
      exact ⟨o, rfl, h4⟩
  exact ⟨e1, h1, fun p hp => (key p hp).1, fun p hp => by
    obtain ⟨_, o, q, z⟩ := key p hp
    exact frT_none q z, fun p hp => by
    obtain ⟨_, o, q, z⟩ := key p hp
    rw [q, emptyTab_eq z]⟩
def hookY (n : Nat) (fa : List Fa) (fn : List DefD) (ts : List Tab) (tf : List Defn) (ex : PySem.W.Frag → Bool) : PySem.W.Hook where
  α := AlX
  obs := fun s => obsY n fa fn ts tf ex s.heap.get?
  val := fun w => valX fn ts w
  says := fun w h => ∃ K : PySem.W.Frag, K.In h ∧ SaysX fa fn ts tf ex w h K
  of := fun _ _ e => ⟨_, frT_in, saysY_of e⟩
  keeps := fun _ _ _ ⟨K, hK, c⟩ k => ⟨K, PySem.W.Frag.In.keeps hK k, ⟨c.t, c.more, c.hd, c.out, fun p hp => k _ _ (c.empty p hp)⟩⟩
theorem obsY_eq {n : Nat} {fa : List Fa} {fn : List DefD} {ts : List Tab} {tf : List Defn} {ex : PySem.W.Frag → Bool} {g : Addr → Option Obj} {s : Shared} (h : ∀ a, g a = s.heap.get? a) : obsY n fa fn ts tf ex g = (hookY n fa fn ts tf ex).obs s := by
  have e : g = s.heap.get? := funext h
  rw [e] <;> rfl
end AS

set_option Elab.async false
set_option linter.all false
set_option maxRecDepth 100000
set_option maxHeartbeats 0
namespace A7
open PySem PySem.Spec PyProof.Rows L2 AS
abbrev R : PySem.W.OpenRow := PySem.W.OpenLaw.row PySem.Challenge.rw_authsync_k41_entries_that_are_refused
abbrev ex0 : PySem.W.Frag → Bool := fun K => veInitB K (He.ga K "AuthError") && (errB K "Refused" "what" "index" && clsB K "Replica" ["_store", "_revision", "_grants", "_waiting"] ["revision", "receive", "waiting", "check", "snapshot", "_check_entry", "_fits", "_take_waiting"])
abbrev hk : PySem.W.Hook := AS.hookY 4 NN.fa NN.fn [] NN.tf ex0
def ob (s : PySem.W.SharedT) : He.AlX := AS.obsY 4 NN.fa NN.fn [] NN.tf ex0 (HandSHeadRun.getT s)
theorem ob_eq (s : PySem.W.SharedT) : ob s = hk.obs s.abs := AS.obsY_eq (HandSHeadRun.getT_eq s)
def loose : List Str := ["_wall", "AuthError", "Refused", "without", "_in_both", "applies", "apply_change", "_is_word", "is_identifier", "read_revision", "token_of", "split_token", "revision_of", "Replica", "_law_cell", "_law_draws", "_law_grant", "_law_once", "_law_entry", "_law_fits", "_law_turned", "_law_due", "_law_told", "_law_check", "LETTERS", "DIGITS", "WORD_SIGNS", "WORD_LIMIT", "GREATEST_REVISION", "REVISION_DIGITS", "GRANT_LIMIT", "AHEAD_LIMIT"]
theorem run (w : World) : HandSHeadRun.RunEq R (PySem.W.view R.prog [38]) hk ob 8000 loose w := by
  intro os
  kernel_rfl
end A7

set_option Elab.async false
set_option linter.all false
set_option maxRecDepth 100000
set_option maxHeartbeats 0
open PySem PySem.W PySem.Calls PyProof.Rows
theorem PySem.Challenge.cw_authsync_k41_entries_that_are_refused_holds : PySem.Challenge.rw_authsync_k41_entries_that_are_refused.Holds := by
  w_on; o_law
  refine HandSHeadRun.head_any (r := A7.R) (q := view A7.R.prog [38]) (H := A7.hk) (ob := A7.ob) (M := 8000) (loose := A7.loose) (d := HandSHeadRun.topDef A7.R.prog 38) (kwd := []) A7.ob_eq
    (by kernel_rfl) (fun s => by kernel_rfl) A7.run (by kernel_rfl) (by kernel_rfl) (by kernel_rfl) (by rfl) (by first | assumption | decide +kernel) (by decide +kernel) ⟨rfl, rfl, rfl, rfl, rfl, by decide +kernel⟩ ?hw ?hc
  case hw => w_witness2
  case hc =>
    refine LamX.walk_ofTsE (l := PySem.Challenge.rw_authsync_k41_entries_that_are_refused) (n := 63) (k := 7) (x := "script") (CX := fun _ => L2.CX0) rfl (by decide) (by kernel_rfl) ⟨rfl, by decide, by decide⟩ ?F (fun _ _ _ _ _ z => z)
    intro w mg fa h Y G hmg0
    obtain ⟨K, KX, c⟩ := Y
    have hmg : mg ("law" : PySem.Str) = some (.ref fa) := by
      have e : (HandSHeadRun.topDef A7.R.prog 38).name = ("law" : PySem.Str) := by kernel_rfl
      rw [← e]
      exact hmg0
    obtain ⟨m1, m23⟩ := He.ba c.more
    obtain ⟨m2, m3⟩ := He.ba m23
    refine ⟨K, KX, AS.lawAt (N := A7.NN) (d := A7.dlaw) (sp := A7.spLaw K) KX G c hmg (by decide +kernel) 34 rfl rfl rfl rfl (fun _ _ _ _ _ _ us hl => match us, hl with | [_], _ => rfl) (fun H a ns hl _ hT hS => ⟨a, ns, rfl, hS, hl, hT, fun _ => rfl⟩) fun base fd T F => A7.ok_law T (AS.veInitB_ok m1) (AS.errB_ok (T.g "Refused" (by decide +kernel)) m2) (AS.clsB_ok (T.g "Replica" (by decide +kernel)) m3) F⟩
