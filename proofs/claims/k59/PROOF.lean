import PyProof.Rows.All
import Wide.All
import OpenK.AllK
import Wide.FinOn
import HandS.AnyAll
import HandS.EndTab
import HandS.ForSpec
import HandS.ForMost
import HandS.Flow
import HandS.HeadWalk
import HandS.HeadHook4
import HandS.Head0
import HandS.Head1
import HandS.Head2
import HandS.HeadEnd
import HandS.IsInst
import HandS.FStr
import HandS.StrMore
import HandS.Wide
import HandS.Codes
import HandS.DeepEq
import HandS.Star
import HandS.Deep
import HandS.ExcInit
import HandS.ExcField
import HandS.TryOnly
import HandS.CallSlots
import KE.GoesEnumKw
import KE.DataCmp
import KE.DataEq
import HandS.ExcIs
import KE.KExcIs
import PySem.Challenge.RW_authsync_k59_bad_texts_of_feeds
import HandS.NoneIn
set_option Elab.async false
set_option linter.all false
set_option maxRecDepth 100000
set_option maxHeartbeats 2000000
namespace AS
open PySem PySem.Spec PyProof.Rows L2 GxR

/-- an element of a generator expression over signs that may read the module's names -/
def EltM (X : Cx) (scope : Scope) (x : Str) (elt : Expr) (pb : Nat → Bool) : Prop :=
  ∀ (ce : Env) (B : Around) (F : Value → Shared → Prop) (c : Nat) (t : Tok) (u : Shared) (m : Str → Option Value),
    ce.scope = scope → ce.globals = mainGlobals → u.heap.Ns mainGlobals X.mg → u.heap.Ns ce.locals m →
    m x = some (.str ⟨#[c]⟩ t) →
    wpAny (model X.prog X.w) B (eval elt ce) (fun y v => y = .bool (pb c) ∧ Keeps u v) F u

section
variable {X : Cx} {pins : List (Addr × Obj)} {σ : L2.St} {H : Hp} {s : Shared}

/-- x in NAME, NAME a text of the module's top -/
theorem elt_in {scope : Scope} {x g k : Str} {tk : Tok} {p1 p2 p3 : Pos}
    (hk : scope.kind = .function) (hl : scope.names.lookup x = some .local)
    (hg : scope.names.lookup g = some .globalImplicit) (hm : X.mg g = some (.str k tk))
    (hd : (x == ("__debug__" : Str)) = false := by decide) (hd2 : (g == ("__debug__" : Str)) = false := by decide) :
    EltM X scope x (.Compare (.Name x p1) [.In] [.Name g p2] p3)
      (fun c => decide (c ∈ k.cps.toList)) := by
  intro ce B F c t u m hs hgl hM hn hx
  refine wpAny_Compare1 ?_
  refine wpAny_Name (wpAny_loadName_local (by rw [hs]; exact hk)
    (show ce.scope.names.lookup x = some .local by rw [hs]; exact hl) hn hx ?_) hd
  refine Calls.Name_function_global (by rw [hs]; exact hk)
    (show ce.scope.names.lookup g = some .globalImplicit by rw [hs]; exact hg)
    (Calls.loadGlobal_global (by rw [hgl]; exact hM) hm ?_) hd2
  exact PySem.P.in_str ⟨congrArg Value.bool (PySem.StrLaws.found_one k c), keeps_tok _ _⟩

/-- what the walk's state is behind the iterator's making and the code object's finding: the heap m3 -/
theorem gen_tail {c P : Addr} {elt : Expr} {x : Str} {scope : Scope} {pb : Nat → Bool} {R : Str → Hp → Prop}
    {W' : Value → Shared → Prop} {a : Str} {H1 : Hp} {s1 : Shared} {o : Obj} {St : Nat → Heap → Prop} {ps : Array Value}
    {k : Nat} (hr : Room k X.A) (tb : TabB X.base X.mg c P) (gs : GenS X.env scope x) (hel : EltM X scope x elt pb)
    (J : Inv X pins σ H1 s1) (hP : H1 P = some (.tbl ps)) (hR : R a H1)
    (hW : ∀ a H1 g s5, R a H1 → Ready X pins σ H1 P a pb g s5 → W' (.ref g) s5)
    (wk : ∀ A' : Around, A'.handled = none →
      Walks X.prog X.w A' s1.heap.objs.size [s1.heap.objs.size] [s1.heap.objs.size] a.cps.size (SignAt a) St)
    (hst : St 0 (s1.heap.push o))
    (code : Value) (m3 : Heap) (tk : Nat) (qs : Array Value) (ext : Heap.ExtBut P (s1.heap.push o) m3)
    (grow : (s1.heap.push o).objs.size ≤ m3.objs.size)
    (at3 : m3.get? P = some { cls := .none, data := .fields qs }) (more : ∃ z, qs = ps ++ z) (trip : TriplesOk qs.toList) :
    wpAny (model X.prog X.w) X.A (builtinsFor X.env.globals X.env.builtins) (fun bi s₄ =>
      ∃ J fp wr n₀ Pf S0 pz F, Value.ref s1.heap.objs.size = .ref J ∧
        (∀ A' : Around, A'.handled = none → Walks X.prog X.w A' J fp wr n₀ Pf S0) ∧ S0 0 s₄.heap ∧
        (∀ b ∈ fp, b < s₄.heap.objs.size) ∧ s₄.heap.NoLimit ∧ cStatics ∉ wr ∧
        (∀ rf : Heap, (∀ b o, s₄.heap.get? b = some o → rf.get? b = some o) →
          QuietGen X.prog X.w (genEnv scope (cloFrom X.env.cells scope.names []) s₄.heap.objs.size code bi X.env)
            x [] elt (List.range s₄.heap.objs.size) wr Pf pz F rf) ∧
        (∀ g h₅ t5 st, st.bare = true → s₄.heap.objs.size < g → h₅.objs.size = g + 1 →
          (∀ b o, s₄.heap.get? b = some o → h₅.get? b = some o) →
          WalksS X.prog X.w X.A.in4 g (g :: s₄.heap.objs.size :: List.range s₄.heap.objs.size)
            (s₄.heap.objs.size :: wr) (GenOnlyQ s₄.gens.size) (passing pz n₀ 0).length
            (fun j y => ∃ i, (passing pz n₀ 0)[j]? = some i ∧ F i y)
            (GenAt X.prog X.w X.A.in4 g s₄.gens.size s₄.heap.objs.size (List.range s₄.heap.objs.size) wr pz n₀ F) →
          GenAt X.prog X.w X.A.in4 g s₄.gens.size s₄.heap.objs.size (List.range s₄.heap.objs.size) wr pz n₀ F 0
            { s₄ with gens := s₄.gens.push st, toks := t5, heap := h₅ } →
          W' (.ref g) { s₄ with gens := s₄.gens.push st, toks := t5, heap := h₅ })) X.xe { s1 with heap := m3, toks := tk } := by
  have tabAt : s1.heap.get? P = some { cls := .none, data := .fields ps } := J.hok P _ hP
  have tabLt := Heap.lt_size tabAt
  have lim := J.nolimit.push o
  obtain ⟨_, limNs, _⟩ := J.nolimit
  have stNe : cStatics ≠ P := fun z => by
    obtain ⟨ob, _, _, e, d, _⟩ := limNs
    rw [z, tabAt] at e
    cases e
    cases d
  have stLt := limNs.lt
  have glob1 : s1.heap.Ns mainGlobals X.mg := J.mod.glob.keeps J.bk
  have glob3 : m3.Ns mainGlobals X.mg := (glob1.push o).extBut ext tb.gP
  have szP : (s1.heap.push o).objs.size = s1.heap.objs.size + 1 := Heap.size_push ..
  have kept : ∀ b v, b ≠ P → s1.heap.get? b = some v → m3.get? b = some v :=
    fun b v n e => ext b v n (Heap.get?_push_of_some _ e)
  obtain ⟨bm, bo, b1, b2, b3, b4, b5, b6, b7, b8⟩ := tb.bm
  refine wpAny_builtinsFor (m := X.mg) (by rw [J.ok.glob]; exact glob3) b1 b2 (kept _ _ b4 (J.bk _ _ b5)) b6 b7 b8 ?_
  have one : ∀ b : Addr, b ∈ [s1.heap.objs.size] → b = s1.heap.objs.size := fun b hb => List.mem_singleton.mp hb
  refine ⟨_, _, _, _, _, _, (fun _ => true), (fun i y => ∃ cc, a.cps[i]? = some cc ∧ y = .bool (pb cc)), rfl, wk, ?_, ?_,
    lim.extBut ext stNe, fun z => Nat.ne_of_lt stLt (one _ z), ?_, ?_⟩
  · refine (wk X.A hr.hd).frame _ _ _ hst fun b hb v e => ext b v (fun z => ?_) e
    rw [z] at hb
    exact Nat.ne_of_lt tabLt (one _ hb)
  · intro b hb
    rw [one b hb]
    show s1.heap.objs.size < m3.objs.size
    omega
  · intro rf hrf
    constructor
    · intro A' E' i v s₂ m₂ _ _ _ _ _
      simp only [List.forIn_nil]
      exact wpAny_pure ⟨rfl, keeps_refl _⟩
    · intro A' E' i v s₂ m₂ _ hv _ hn hm hk
      obtain ⟨cc, u, hcc, rfl⟩ := hv
      have g2 : s₂.heap.Ns mainGlobals X.mg := by
        have hlt : mainGlobals < s1.heap.objs.size := glob1.lt
        obtain ⟨og, es, ep, e, r⟩ := glob3
        refine ⟨og, es, ep, hk mainGlobals (List.mem_range.mpr (Heap.lt_size e)) (fun z => Nat.ne_of_lt hlt (one _ z)) og (hrf _ _ e), r⟩
      exact wpAny_mono (hel _ A' E' cc u s₂ m₂ rfl J.ok.glob g2 hn hm) (fun y s3 r => ⟨⟨cc, hcc, r.1⟩, r.2⟩) fun _ _ e => e
  · intro g h5 t5 st bare lt5 sz5 keep5 W5 at5
    have full : passing (fun _ => true) a.cps.size 0 = List.range a.cps.size := passing_true _
    rw [full, List.length_range] at W5
    refine hW a H1 g _ hR ⟨_, _, _, _, _, W5.in4_1, at5, ?_, ?_⟩
    · intro j y sj Qj Ej hy hQj
      obtain ⟨i, hij, cc, hcc, rfl⟩ := hy
      obtain ⟨hj, ej⟩ := List.getElem?_eq_some_iff.mp hij
      rw [List.getElem_range] at ej
      subst ej
      have e9 : a.cps.toList[j]? = some cc := Array.getElem?_toList.trans hcc
      have e8 : trF pb a.cps.toList j = pb cc := trF_some e9
      have hQ2 : Qj (trF pb a.cps.toList j) sj := hQj
      rw [e8] at hQ2
      exact wpAny_truthy_bool hQ2
    · intro s' mv
      obtain ⟨z, ez⟩ := more
      have nw : ∀ b v, s1.heap.get? b = some v → b ∉ m3.objs.size :: [s1.heap.objs.size] := fun b v e hb => by
        have lt := Heap.lt_size e
        rcases List.mem_cons.mp hb with q | q
        · rw [q] at lt
          have l2 : s1.heap.objs.size < m3.objs.size := by omega
          exact Nat.lt_asymm l2 lt
        · rw [one b q] at lt
          exact Nat.lt_irrefl _ lt
      have grown : s'.heap.get? P = some { cls := .none, data := .fields (ps ++ z) } := by
        rw [← ez]
        exact mv.heap P _ (nw P _ tabAt) (keep5 P _ at3)
      have K := inv_tab (more := z) (h' := s'.heap) (g' := s'.gens) (d' := s'.drawn) (t' := s'.toks) J hP
        (fun b v n e => mv.heap b v (nw b v e) (keep5 b v (kept b v n e))) grown (AllBare.movedS (J.bare.push bare) mv)
      rw [sh_eta s1 s' mv.os] at K
      exact ⟨_, ⟨⟨ps ++ z, upd_same, by rw [← ez]; exact trip⟩, fun b n => upd_ne n⟩, K⟩

theorem gen_strM {c P : Addr} {elt iter : Expr} {x : Str} {px gpos : Pos} {scope : Scope} {pb : Nat → Bool}
    {te : TE} {k : Nat} {W' : Value → Shared → Prop} {R : Str → Hp → Prop}
    (hr : Room k X.A) (tb : TabB X.base X.mg c P) (hc : X.env.code = .ref c) (gs : GenS X.env scope x)
    (hi : PE X iter te) (hel : EltM X scope x elt pb) (hs : ∀ v, genFold iter X.env v = pure v)
    (I : Inv X pins σ H s) (h : te σ H fun v H1 => ∃ a : Str, v = .str a ∧ TabG H1 P ∧ R a H1)
    (hW : ∀ a H1 g s5, R a H1 → Ready X pins σ H1 P a pb g s5 → W' (.ref g) s5) :
    wpAny (model X.prog X.w) X.A (eval (.GeneratorExp elt [⟨.Name x px, iter, [], 0⟩] scope gpos) X.env) W' X.xe s := by
  have dp := hr.dp
  refine wpAny_GeneratorExp_walksQ hr.hd gs.co (closure_ok gs.free) gs.cell gs.dot gs.loc gs.kind (by omega) ?_ hs
  refine thn (hi.run pins s σ H _ I h) fun xv s1 r => ?_
  obtain ⟨v, H1, J, rv, a, rfl, ⟨ps, hP, ht⟩, hR⟩ := r
  obtain ⟨t, rfl⟩ := (show ∃ t, xv = Value.str a t from rv)
  refine wpAny_pyIter_str fun o St wk hst => ⟨J.nolimit.push o, ?_⟩
  have tabP : (s1.heap.push o).get? P = some { cls := .none, data := .fields ps } := Heap.get?_push_of_some _ (J.hok P _ hP)
  have cd : PySem.W.CodeHd (s1.heap.push o) c P := tb.code.keeps fun b u e => Heap.get?_push_of_some _ (J.bk b u e)
  have go := @gen_tail X pins σ c P elt x scope pb R W' a H1 s1 o St ps k hr tb gs hel J hP hR hW wk hst
  cases hf : codeAmong gpos ps.toList with
  | some cv =>
    exact wpAny_genexprCode_hit hc (cd.code tabP ht) hf (go cv _ s1.toks ps (Heap.ExtBut.refl _ _) (Nat.le_refl _) tabP ⟨#[], by simp⟩ ht)
  | none =>
    refine wpAny_genexprCodeX hc (cd.code tabP ht) (cd.tab tabP) hf fun c' h' tk hx hge hlt hco' _ htab' _ => ?_
    obtain ⟨o1, vs, f1, tf, fl, tg, inF, tx, tt, op, _, _, _, _, _, _, _, _, _, htr, _⟩ := hco'
    exact go _ h' tk _ hx (Nat.le_trans hge (Nat.le_of_lt hlt)) htab'.2 ⟨_, rfl⟩ htr

/-- all(test for x in e), e a text, the test an EltM -/
theorem pe_allM {c P : Addr} {elt iter : Expr} {x : Str} {px p pos gpos : Pos} {scope : Scope} {pb : Nat → Bool} {te : TE} {k : Nat}
    (hr : Room k X.A) (hg : Gl X "all") (hm : X.mg "all" = none) (tb : TabB X.base X.mg c P) (hc : X.env.code = .ref c)
    (gs : GenS X.env scope x) (hi : PE X iter te) (hel : EltM X scope x elt pb) (hs : ∀ v, genFold iter X.env v = pure v)
    (hb : bootBuiltins "all" = some (.builtin "all") := by decide +kernel)
    (he : starEach [.GeneratorExp elt [⟨.Name x px, iter, [], 0⟩] scope gpos] X.env =
      (false, eval (.GeneratorExp elt [⟨.Name x px, iter, [], 0⟩] scope gpos) X.env) :: starEach [] X.env := by rfl) :
    PE X (.Call (.Name "all" p) [.GeneratorExp elt [⟨.Name x px, iter, [], 0⟩] scope gpos] [] pos) (tAllS P pb te) := by
  constructor
  intro pins s σ H Q I h
  refine wpAny_Call_Name_kw (ld_blt I hg hm hb (PyProof.Rows.callWith_builtin1 ?_ he (by rfl)))
  rw [he]
  show wpAny _ _ (spliced ((false, eval (.GeneratorExp elt [⟨.Name x px, iter, [], 0⟩] scope gpos) X.env) ::
    backTo pos (starEach [] X.env))) _ _ s
  refine Calls.spliced_cons (gen_strM (R := fun a H1 => ∀ H2, Tabbed P H1 H2 → Q (.bl (a.cps.toList.all pb)) H2)
    hr tb hc gs hi hel hs I h fun a H1 g s5 hR hG => Calls.spliced_nil ?_)
  obtain ⟨fp, wr, G, F, St, W, hst, htr, hI⟩ := hG
  refine call_all_walkS (W.self 0 _ _ _ hst ⟨g, fp, wr, G, _, F, St, _, rfl, W, hst, htr, fun s' mv => ?_⟩)
  obtain ⟨H2, hT, J⟩ := hI s' mv
  have q := hR H2 hT
  rw [← all_signs a pb] at q
  exact ⟨.bl _, H2, J, rfl, q⟩
end
end AS

set_option Elab.async false
set_option linter.all false
set_option maxRecDepth 100000
set_option maxHeartbeats 2000000
namespace AS
open PySem PySem.Spec PyProof.Rows L2

/-! ### the facts behind the top, by names -/
structure Names where
  glos : List Str
  frees : List Str
  txts : List (Str × Str)
  nums : List (Str × Int)
  fn : List He.DefD
  tf : List He.Defn
def Names.fa (N : Names) : List He.Fa := N.glos.map .glo ++ (N.frees.map .free ++ (N.txts.map (fun p => .str p.1 p.2) ++ N.nums.map fun p => .int p.1 p.2))
structure Top (N : Names) (K : PySem.W.Frag) (mg : Str → Option Value) (base : Heap) : Prop where
  d : He.SaysD N.fa N.fn K
  g : ∀ x ∈ N.glos, mg x = some (.ref (He.ga K x))
  f : ∀ x ∈ N.frees, mg x = none
  s : ∀ p ∈ N.txts, ∃ t, mg p.1 = some (.str p.2 t)
  i : ∀ p ∈ N.nums, ∃ t, mg p.1 = some (.int p.2 t)
  tb : ∀ p ∈ N.tf, GxR.TabB base mg (He.cT K p).1 (He.cT K p).2

theorem Top.mk' {N : Names} {K : PySem.W.Frag} {mg : Str → Option Value} {base h : Heap} (X : K.In h) (G : h.Ns mainGlobals mg) (c : He.SaysD N.fa N.fn K)
    (tb : ∀ p ∈ N.tf, GxR.TabB base mg (He.cT K p).1 (He.cT K p).2) : Top N K mg base where
  d := c
  tb := tb
  g := fun x hx => He.glo_ok X G (c.facts (f := .glo x) (List.mem_append_left _ (List.mem_map.mpr ⟨x, hx, rfl⟩)))
  f := fun x hx => He.free_ok X G (c.facts (f := .free x) (List.mem_append_right _ (List.mem_append_left _ (List.mem_map.mpr ⟨x, hx, rfl⟩))))
  s := fun p hp => He.str_ok X G (c.facts (f := .str p.1 p.2) (List.mem_append_right _ (List.mem_append_right _ (List.mem_append_left _ (List.mem_map.mpr ⟨p, hp, rfl⟩)))))
  i := fun p hp => He.int_ok X G (c.facts (f := .int p.1 p.2) (List.mem_append_right _ (List.mem_append_right _ (List.mem_append_right _ (List.mem_map.mpr ⟨p, hp, rfl⟩)))))

/-! ### a def that keeps a promise, and its call -/
structure DOk (P : Program) (w : World) (K : PySem.W.Frag) (mg : Str → Option Value) (base : Heap) (CX : CXT) (k : Nat) (x : Str) (ps : List Str) (sp : Sp) : Prop where
  ex : ∃ fd, FnOk P w K mg base CX k (He.ga K x) fd ps sp ∧ Binds K fd ps []
  kp : PySem.W.keepIn K (.ref (He.ga K x)) = true
  gl : mg x = some (.ref (He.ga K x))
section
variable {P : Program} {w : World} {K : PySem.W.Frag} {mg : Str → Option Value} {base : Heap} {N : Names}
theorem DOk.mono {CX : CXT} {j k : Nat} {x : Str} {ps : List Str} {sp : Sp} (G : DOk P w K mg base CX j x ps sp) (h : j ≤ k) : DOk P w K mg base CX k x ps sp := by
  obtain ⟨⟨fd, F, b⟩, kp, gl⟩ := G
  exact ⟨⟨fd, F.mono h, b⟩, kp, gl⟩
/-- THE RULE for a def of the list; it also tells which code object the frame runs -/
theorem Top.ok {CX : CXT} {d : He.DefD} {x : Str} {ps L : List Str} {k : Nat} {sp : Sp} (T : Top N K mg base) (i : Nat) (hi : N.fn[i]? = some d) (hat : d.at_ = (x, none)) (hdf : d.dfl = []) (hkw : d.kwd = []) (hx : x ∈ N.glos)
    (S : FnScope L ps d.scope)
    (hb : ∀ (kV doc pm : Value) (an : Option Addr) (cdv ct : Value) (us : List Value), us.length = ps.length → bindArgs (PySem.W.fnOf d.name d.qual d.params d.body d.scope .none kV doc pm an cdv ct) ⟨us, []⟩ = pure (ps.zip us))
    (len : ∀ vs H Q E, sp vs H Q E → vs.length = ps.length)
    (hbody : ∀ (cdv : Value) (A : Around) (outer : List Env) (s : Shared) (H : Hp) (vs : List V) (Q : VK) (E : XK), cdv = .ref (He.codeOf K (x, none)) → Room k (A.deeper (envOfC d.qual d.scope s.heap.objs.size (He.ga K x) cdv)) → sp vs H Q E →
      ∃ t, PSs (cxOf CX P w K mg base L d.qual d.scope (He.ga K x) cdv A outer s H E) d.body t ∧ t { nx := fun _ H' => Q .non H', rt := Q } (start L vs) H) :
    DOk P w K mg base CX (k + 1) x ps sp := by
  obtain ⟨fd, F⟩ := T.d.def_ i hi
  have e1 : d.dvs K = [] := by unfold He.DefD.dvs; rw [hdf]; rfl
  have e2 : d.kws K = [] := by unfold He.DefD.kws; rw [hkw]; rfl
  have e3 : He.fAd K d.at_ = He.ga K x := by rw [hat]; rfl
  rw [e1, e2, e3] at F
  refine ⟨⟨fd, ?_, F.bindsN hb⟩, F.kp, T.g x hx⟩
  obtain ⟨oc, od, dV, kV, doc, pm, an, cdv, ct, osl, rfl, lk, hcd, hD, _⟩ := F.ex
  obtain ⟨c, ec⟩ := He.codeIn_ref hcd
  have lk2 : K.lookup (He.fAd K (x, none)) = some ⟨oc, od, .func (PySem.W.fnOf d.name d.qual d.params d.body d.scope dV kV doc pm an cdv ct), osl⟩ := lk
  have ek : cdv = .ref (He.codeOf K (x, none)) := by
    rw [He.codeOf_eq lk2 (show (PySem.W.fnOf d.name d.qual d.params d.body d.scope dV kV doc pm an cdv ct).code = .ref c from ec), ec]
  exact fn_of lk hcd S len fun A outer s H vs Q E hr hsp => hbody cdv A outer s H vs Q E ek hr hsp
/-- .. for a def that lets nothing out -/
theorem Top.ok0 {d : He.DefD} {x : Str} {ps L : List Str} {k : Nat} {sp : Sp} (T : Top N K mg base) (i : Nat) (hi : N.fn[i]? = some d) (hat : d.at_ = (x, none)) (hdf : d.dfl = []) (hkw : d.kwd = []) (hx : x ∈ N.glos)
    (S : FnScope L ps d.scope)
    (hb : ∀ (kV doc pm : Value) (an : Option Addr) (cdv ct : Value) (us : List Value), us.length = ps.length → bindArgs (PySem.W.fnOf d.name d.qual d.params d.body d.scope .none kV doc pm an cdv ct) ⟨us, []⟩ = pure (ps.zip us))
    (len : ∀ vs H Q E, sp vs H Q E → vs.length = ps.length)
    (hbody : ∀ (cdv : Value) (A : Around) (outer : List Env) (s : Shared) (H : Hp) (vs : List V) (Q : VK) (E : XK), cdv = .ref (He.codeOf K (x, none)) → Room k (A.deeper (envOfC d.qual d.scope s.heap.objs.size (He.ga K x) cdv)) → sp vs H Q E →
      ∃ t, PSs (cxOf CX0 P w K mg base L d.qual d.scope (He.ga K x) cdv A outer s H E).nox d.body t ∧ t { nx := fun _ H' => Q .non H', rt := Q } (start L vs) H) :
    DOk P w K mg base CX0 (k + 1) x ps sp :=
  T.ok i hi hat hdf hkw hx S hb len fun cdv A outer s H vs Q E ec hr hsp => let ⟨t, h, q⟩ := hbody cdv A outer s H vs Q E ec hr hsp; ⟨t, h.nox, q⟩
end
section
variable {X : Cx} {CX : CXT} {k : Nat} {x : Str} {ps : List Str} {sp : Sp} {p pos : Pos} {e : Expr} {es : List Expr} {t : TA}
/-- f(e, ..) of a def that lets nothing out -/
theorem pe_callD (G : DOk X.prog X.w X.K X.mg X.base CX0 k x ps sp) (hr : Room k X.A) (ha : PA X (e :: es) t) (hg : Gl X x := by rfl) (hdb : (x == ("__debug__" : Str)) = false := by decide)
    (he : starEach (e :: es) X.env = (false, eval e X.env) :: starEach es X.env := by rfl) (hpl : (backTo pos (starEach es X.env)).any (·.1) = false := by rfl) : PE X (.Call (.Name x p) (e :: es) [] pos) (tCall sp [] E0 t) := by
  obtain ⟨fd, F, b⟩ := G.ex
  exact pe_call F hr hg G.gl G.kp b .nil pass0 ha hdb he hpl
end

/-- f(*xs) -/
def tStarCall (K : PySem.W.Frag) (sp : Sp) (te : TE) : TE := fun σ H Q => te σ H fun y H1 => ∃ a xs, y = V.ref a ∧ (SqT K H1 a xs ∨ SqL K H1 a xs) ∧ sp (xs ++ []) H1 Q E0
theorem pe_callStar {X : Cx} {k : Nat} {x : Str} {ps : List Str} {sp : Sp} {p pos ps2 : Pos} {e : Expr} {te : TE} {K : PySem.W.Frag} (G : DOk X.prog X.w X.K X.mg X.base CX0 k x ps sp) (hr : Room k X.A) (he : PE X e te) (hK : X.K = K := by rfl) (hg : Gl X x := by rfl)
    (hd : (x == ("__debug__" : Str)) = false := by decide) : PE X (.Call (.Name x p) [.Starred e ps2] [] pos) (tStarCall K sp te) := by
  subst hK
  obtain ⟨fd, F, b⟩ := G.ex
  exact StX.pe_callS1 (F.raw b .nil) hr G.kp hg G.gl pass0 he hd
section
variable {P : Program} {w : World} {K : PySem.W.Frag} {mg : Str → Option Value} {base : Heap} {N : Names}
/-- the law's own def, its function object given -/
theorem okF {d : He.DefD} {x : Str} {ps L : List Str} {k : Nat} {sp : Sp} {fd : FuncData} (F : FunD K d.name d.qual d.params d.body d.scope [] [] (He.ga K x) fd) (S : FnScope L ps d.scope)
    (len : ∀ vs H Q E, sp vs H Q E → vs.length = ps.length)
    (hbody : ∀ (cdv : Value) (A : Around) (outer : List Env) (s : Shared) (H : Hp) (vs : List V) (Q : VK) (E : XK), Room k (A.deeper (envOfC d.qual d.scope s.heap.objs.size (He.ga K x) cdv)) → sp vs H Q E →
      ∃ t, PSs (cxOf CX0 P w K mg base L d.qual d.scope (He.ga K x) cdv A outer s H E).nox d.body t ∧ t { nx := fun _ H' => Q .non H', rt := Q } (start L vs) H) :
    FnOk P w K mg base CX0 (k + 1) (He.ga K x) fd ps sp := by
  obtain ⟨oc, od, dV, kV, doc, pm, an, cdv, ct, osl, rfl, lk, hcd, hD, _⟩ := F.ex
  exact fn_of lk hcd S len fun A outer s H vs Q E hr hsp => let ⟨t, h, q⟩ := hbody cdv A outer s H vs Q E hr hsp; ⟨t, h.nox, q⟩

/-- the tables of the listed defs -/
def Tabs (K : PySem.W.Frag) (tf : List He.Defn) (H : Hp) : Prop := ∀ p ∈ tf, GxR.TabG H (He.cT K p).2

theorem lawAt {l : PySem.W.OpenLaw} {fa : Addr} {h : Heap} {ex : PySem.W.Frag → Bool} {k n : Nat} {sp : Sp} {d : He.DefD} (X : K.In h) (G : h.Ns mainGlobals mg) (c : He.SaysX N.fa N.fn [] N.tf ex w h K)
    (hfa : mg "law" = some (.ref fa)) (hl : ("law" : Str) ∈ N.glos) (i : Nat) (hi : N.fn[i]? = some d) (hat : d.at_ = (("law" : Str), none)) (hdf : d.dfl = []) (hkw : d.kwd = [])
    (hb : ∀ (kV doc pm : Value) (an : Option Addr) (cdv ct : Value) (us : List Value), us.length = [("script" : Str)].length → bindArgs (PySem.W.fnOf d.name d.qual d.params d.body d.scope .none kV doc pm an cdv ct) ⟨us, []⟩ = pure ([("script" : Str)].zip us))
    (hsp : ∀ (H : Hp) (a : Addr) (ns : List Int), ns.length ≤ n → (∀ z ∈ ns, Builtin.Int.intBits z ≤ 1048576) → Tabs K N.tf H → SqL K H a (ns.map V.int) → sp [.ref a] H (fun v _ => v = .bl true) fun _ _ _ => False)
    (hF : ∀ (base : Heap) (fd : FuncData), Top N K mg base → FunD K d.name d.qual d.params d.body d.scope [] [] (He.ga K "law") fd → FnOk l.prog w K mg base CX0 k (He.ga K "law") fd ["script"] sp) :
    LamX.LawAtS l w K CX0 k n "script" mg fa h := by
  obtain ⟨fd, F⟩ := c.t.d.def_ i hi
  have e1 : d.dvs K = [] := by unfold He.DefD.dvs; rw [hdf]; rfl
  have e2 : d.kws K = [] := by unfold He.DefD.kws; rw [hkw]; rfl
  have e3 : He.fAd K d.at_ = He.ga K "law" := by rw [hat]; rfl
  rw [e1, e2, e3] at F
  have eg : mg "law" = some (.ref (He.ga K "law")) := He.glo_ok X G (c.t.d.facts (f := .glo "law") (List.mem_append_left _ (List.mem_map.mpr ⟨_, hl, rfl⟩)))
  rw [hfa] at eg
  cases eg
  have mem : ∀ p, p ∈ N.tf.map (He.cT K) → ∃ q ∈ N.tf, He.cT K q = p := fun p hp => List.mem_map.mp hp
  refine ⟨fd, N.tf.map (He.cT K), sp, fun p hp => ?_, fun p hp => ?_, fun p hp => ?_, fun s u => FunD.bindsA (ps := [("script" : Str)]) F hb s [u] rfl, fun H a ns hl hbits hT hS => hsp H a ns hl hbits (fun q hq => ⟨_, hT _ (List.mem_map.mpr ⟨q, hq, rfl⟩), trivial⟩) hS, fun base X2 G2 hT => hF base fd (Top.mk' X2 G2 c.t.d fun q hq => have z := hT _ (List.mem_map.mpr ⟨q, hq, rfl⟩); ⟨z.code, z.bm, z.gP⟩) F⟩
  · obtain ⟨q, hq, rfl⟩ := mem p hp
    exact c.empty q hq
  · obtain ⟨q, hq, rfl⟩ := mem p hp
    exact c.out q hq
  · obtain ⟨q, hq, rfl⟩ := mem p hp
    exact PySem.W.codeHd_of_K X (c.hd q hq)
end
end AS

set_option Elab.async false
set_option linter.all false
set_option maxRecDepth 100000
set_option maxHeartbeats 2000000
namespace AS
open PySem PySem.Spec PyProof.Rows L2
/-- what a call leaves: all that stood, but that tables of code objects may have grown -/
structure Sm (H H' : Hp) : Prop where
  keep : ∀ b o, H b = some o → (∀ ps, o ≠ .tbl ps) → H' b = some o
  tab : ∀ b ps, H b = some (.tbl ps) → ∃ qs, H' b = some (.tbl qs) ∧ (TriplesOk ps.toList → TriplesOk qs.toList)
theorem Sm.refl (H : Hp) : Sm H H := ⟨fun _ _ h _ => h, fun _ ps h => ⟨ps, h, fun z => z⟩⟩
theorem Sm.trans {H H1 H2 : Hp} (a : Sm H H1) (b : Sm H1 H2) : Sm H H2 where
  keep := fun c o h n => b.keep c o (a.keep c o h n) n
  tab := fun c ps h => by
    obtain ⟨q1, h1, t1⟩ := a.tab c ps h
    obtain ⟨q2, h2, t2⟩ := b.tab c q1 h1
    exact ⟨q2, h2, fun z => t2 (t1 z)⟩
theorem Sm.free {H H' : Hp} (e : Sm H H') {l : Addr} (h : H' l = none) : H l = none := by
  cases q : H l with
  | none => rfl
  | some o =>
    cases o with
    | tbl ps =>
      obtain ⟨_, h1, _⟩ := e.tab l ps q
      rw [h] at h1
      cases h1
    | _ =>
      have h1 := e.keep l _ q (fun _ z => nomatch z)
      rw [h] at h1
      cases h1
/-- an object that the first heap does not know is laid or written -/
theorem Sm.put {H H' : Hp} (e : Sm H H') {l : Addr} {o : HO} (h : H l = none) : Sm H (upd H' l o) where
  keep := fun c u hc n => by
    rw [upd_ne (ne_of_none hc h)]
    exact e.keep c u hc n
  tab := fun c ps hc => by
    rw [upd_ne (ne_of_none hc h)]
    exact e.tab c ps hc
theorem Sm.new {H : Hp} {l : Addr} {o : HO} (h : H l = none) : Sm H (upd H l o) := (Sm.refl H).put h
theorem Sm.tabbed {H H' : Hp} {P : Addr} (g : GxR.TabG H P) (t : GxR.Tabbed P H H') : Sm H H' where
  keep := fun c u hc n => by
    by_cases h : c = P
    · obtain ⟨ps, hp, _⟩ := g
      rw [h, hp] at hc
      exact absurd (Option.some.inj hc).symm (n ps)
    · rw [t.2 c h]
      exact hc
  tab := fun c ps hc => by
    by_cases h : c = P
    · obtain ⟨qs, hq, z⟩ := t.1
      rw [h]
      exact ⟨qs, hq, fun _ => z⟩
    · rw [t.2 c h]
      exact ⟨ps, hc, fun z => z⟩
theorem Sm.same {H H' : Hp} (e : Same H H') : Sm H H' := ⟨fun b o h _ => e b o h, fun b ps h => ⟨ps, e b _ h, fun z => z⟩⟩
theorem Sm.seq {K : PySem.W.Frag} {H H' : Hp} {a : Addr} {xs : List V} (e : Sm H H') (h : SqL K H a xs) : SqL K H' a xs := by
  rcases h with (h | ⟨o, h⟩) | h
  · exact .inl (.inl (e.keep _ _ h fun _ z => nomatch z))
  · exact .inl (.inr ⟨o, e.keep _ _ h fun _ z => nomatch z⟩)
  · exact .inr h
theorem Sm.seqT {K : PySem.W.Frag} {H H' : Hp} {a : Addr} {xs : List V} (e : Sm H H') (h : SqT K H a xs) : SqT K H' a xs := by
  rcases h with (h | ⟨o, h⟩) | h
  · exact .inl (.inl (e.keep _ _ h fun _ z => nomatch z))
  · exact .inl (.inr ⟨o, e.keep _ _ h fun _ z => nomatch z⟩)
  · exact .inr h
theorem Sm.lst {H H' : Hp} (e : Sm H H') {a : Addr} {xs : List V} (h : H a = some (.lst xs)) : H' a = some (.lst xs) := e.keep _ _ h fun _ z => nomatch z
theorem Sm.tup {H H' : Hp} (e : Sm H H') {a : Addr} {xs : List V} (h : H a = some (.tup xs)) : H' a = some (.tup xs) := e.keep _ _ h fun _ z => nomatch z
theorem Sm.tabs {K : PySem.W.Frag} {tf : List He.Defn} {H H' : Hp} (e : Sm H H') (t : Tabs K tf H) : Tabs K tf H' := fun p hp => by
  obtain ⟨ps, h, z⟩ := t p hp
  obtain ⟨qs, h1, z1⟩ := e.tab _ ps h
  exact ⟨qs, h1, z1 z⟩

/-- a promise: one text, the answer a plain value, nothing changed -/
def sp1 (K : PySem.W.Frag) (tf : List He.Defn) (f : Str → V) : Sp := fun vs H Q _ => ∃ z : Str, vs = [.str z] ∧ z.length ≤ sizeLine ∧ Tabs K tf H ∧ ∀ H', Sm H H' → Q (f z) H'
theorem sp1_len {K : PySem.W.Frag} {tf : List He.Defn} {f : Str → V} {x : Str} : ∀ vs H Q E, sp1 K tf f vs H Q E → vs.length = [x].length := fun vs H Q E h => by
  obtain ⟨z, rfl, _⟩ := h
  rfl
theorem gs_mk {env : Env} {scope : Scope} {x : Str} (h1 : scope.kind = .function) (h2 : scope.isCoroutine = false) (h3 : ∀ y ∈ scope.names, y.2 ≠ .cell) (h4 : scope.names.lookup (".0" : Str) = some NameKind.local)
    (h5 : scope.names.lookup x = some .local) (h6 : ∀ y ∈ scope.names, y.2 ≠ .free) : GxR.GenS env scope x := ⟨h1, h2, h3, h4, h5, fun y hy e => absurd e (h6 y hy)⟩
end AS

set_option Elab.async false
set_option linter.all false
set_option maxRecDepth 100000
set_option maxHeartbeats 2000000
namespace AS
open PySem PySem.Spec PyProof.Rows L2
/-! ### facts of own error classes, as one Bool -/
def oexB (K : PySem.W.Frag) (C : Addr) : Bool := (match K.lookup C with
  | some ⟨.type t, _, .cls cd, sl⟩ => (match cd.mro, sl.toList with
    | .ref C' :: bm, [_, _, _, _, some (.builtin n), _] => decide (t = "type") && (decide (C' = C) && (decide (n = "ValueError.__new__") && (cd.hasDict && (!cd.hasDel && PySem.HandSPX.refsVE bm))))
    | _, _ => false)
  | _ => false) && (He.eqO (PySem.W.findIn K (.ref C) "__setattr__") (some (some (.builtin "object.__setattr__"))) && (decide (PySem.W.subIn K (.ref C) (.type "BaseException") = some true) && (decide (PySem.W.typeIn K (.ref C) = some (.type "type")) && PySem.W.keepIn K (.ref C))))
theorem oexB_ok {K : PySem.W.Frag} {C : Addr} (h : oexB K C = true) : OexC K C := by
  unfold oexB at h
  obtain ⟨h1, h⟩ := He.ba h
  obtain ⟨h2, h⟩ := He.ba h
  obtain ⟨h3, h⟩ := He.ba h
  obtain ⟨h4, h5⟩ := He.ba h
  refine ⟨?_, He.eqO_ok h2, of_decide_eq_true h3, of_decide_eq_true h4, h5⟩
  cases q : K.lookup C with
  | none =>
    rw [q] at h1
    cases h1
  | some o =>
    obtain ⟨oc, od, dt, osl⟩ := o
    rw [q] at h1
    cases oc with
    | type t =>
      cases dt with
      | cls cd =>
        obtain ⟨nm, bs, mro, ns, qn, hd, sn, sb, ab, col, del⟩ := cd
        cases mro with
        | nil => cases h1
        | cons m bm =>
          obtain ⟨l⟩ := osl
          cases m with
          | ref C' =>
            match l, h1 with
            | [k0, k1, k2, k3, some (.builtin n), k5], h1 =>
              obtain ⟨e1, h1⟩ := He.ba (show (decide (t = "type") && (decide (C' = C) && (decide (n = "ValueError.__new__") && (hd && (!del && PySem.HandSPX.refsVE bm))))) = true from h1)
              obtain ⟨e2, h1⟩ := He.ba h1
              obtain ⟨e3, h1⟩ := He.ba h1
              obtain ⟨e4, h1⟩ := He.ba h1
              obtain ⟨e5, e6⟩ := He.ba h1
              have f1 := of_decide_eq_true e1
              have f2 := of_decide_eq_true e2
              have f3 := of_decide_eq_true e3
              have f5 : del = false := by
                cases del with
                | false => rfl
                | true => cases e5
              have f4 : hd = true := e4
              subst f1 f2 f3 f5 f4
              exact ⟨_, _, _, _, bm, _, _, _, _, _, _, _, _, _, _, rfl, e6⟩
          | _ => cases h1
      | _ => cases h1
    | _ => cases dt <;> cases h1
/-- an own class whose __init__ is ValueError's -/
structure VeInit (K : PySem.W.Frag) (C : Addr) : Prop where
  ga : PySem.W.specialIn K (.ref C) "__getattribute__" = some (some (.builtin "type.__getattribute__"))
  rd : PySem.W.readsIn K C (.type "type") = true
  fd : PySem.W.findCls K (.ref C) (.type "type") "__init__" = some (.val (.builtin "ValueError.__init__"))
def isVal (x : Option PySem.W.CFound) (v : Value) : Bool := match x with
  | some (.val u) => decide (u = v)
  | _ => false
theorem isVal_ok {x : Option PySem.W.CFound} {v : Value} (h : isVal x v = true) : x = some (.val v) := by
  cases x with
  | none => cases h
  | some c =>
    cases c with
    | val u => rw [of_decide_eq_true (show decide (u = v) = true from h)]
    | _ => cases h
def veInitB (K : PySem.W.Frag) (C : Addr) : Bool := He.eqO (PySem.W.specialIn K (.ref C) "__getattribute__") (some (some (.builtin "type.__getattribute__"))) && (PySem.W.readsIn K C (.type "type") && isVal (PySem.W.findCls K (.ref C) (.type "type") "__init__") (.builtin "ValueError.__init__"))
theorem veInitB_ok {K : PySem.W.Frag} {C : Addr} (h : veInitB K C = true) : VeInit K C := by
  obtain ⟨h1, h⟩ := He.ba h
  obtain ⟨h2, h3⟩ := He.ba h
  exact ⟨He.eqO_ok h1, h2, isVal_ok h3⟩
section
variable {X : Cx} {e : Expr} {es : List Expr} {ta : TA} {p1 p2 pos : Pos} {x : Str} {C0 : Addr}
/-- Base.__init__(self, ..), Base an own class whose __init__ is ValueError's -/
theorem pe_clsinit {pl : Sem Bool} (hg : Gl X x) (hm : X.mg x = some (.ref C0)) (B : VeInit X.K C0) (ha : PA X (e :: es) ta)
    (hc : eval (.Call (.Attribute (.Name x p1) "__init__" p2) (e :: es) [] pos) X.env = (do
      let ov ← eval (.Name x p1) X.env
      standAt p2.atName
      let (f, first) ← holding [ov] (getMethod ov "__init__" pl)
      callWith pos f first (backTo pos (starEach (e :: es) X.env)) (backToKw pos (keywordEach [] X.env))) := by rfl)
    (hd : (x == ("__debug__" : Str)) = false := by decide)
    (he : starEach (e :: es) X.env = (false, eval e X.env) :: starEach es X.env := by rfl) (hpl : (backTo pos (starEach es X.env)).any (·.1) = false := by rfl) :
    PE X (.Call (.Attribute (.Name x p1) "__init__" p2) (e :: es) [] pos) (tVeI X.K ta) := by
  constructor
  intro pins s σ H Q I h
  refine PySem.W.methodCall_KW (ld_glob I hg hm ?_ hd) hc
  refine PySem.W.method_cls I.kIn B.ga (PySem.W.cls_value I.kIn B.rd B.fd (by decide +kernel) ?_)
  show wpAny _ _ (callWith pos (Value.builtin "ValueError.__init__") [] (backTo pos (starEach (e :: es) X.env)) []) _ _ _
  refine PyProof.Rows.callWith_method1 (thn (ha.run pos pins _ σ H _ (I.tok _) h) fun us s1 hq => ?_) he hpl
  obtain ⟨vs, H1, J, r1, a, C, ws, rfl, hl, T, ea, q⟩ := hq
  cases r1 with
  | @cons _ u0 _ ur ra rw' =>
    obtain rfl : u0 = Value.ref a := ra
    have hlen : ur.length ≤ sizeLine := by
      rw [← Paired.length rw', sizeLine_eq]
      omega
    exact oinit_ok T J ea hlen fun s' J' => ⟨.non, H1, J', rfl, q⟩
end

/-! ### an error class with two fields -/
structure ErrC (K : PySem.W.Frag) (mg : Str → Option Value) (C f1 f2 : Str) : Prop where
  gl : mg C = some (.ref (He.ga K C))
  ox : OexC K (He.ga K C)
  xf : XfC K (He.ga K C)
  no1 : PySem.W.findIn K (.ref (He.ga K C)) f1 = some none
  no2 : PySem.W.findIn K (.ref (He.ga K C)) f2 = some none
  iC : PySem.W.findIn K (.ref (He.ga K C)) "__init__" = some (some (.ref (He.ma K (He.ga K C) "__init__")))
  tI : PySem.W.typeIn K (.ref (He.ma K (He.ga K C) "__init__")) = some (.type "function")
  te : PySem.W.exmOne K (.ref (He.ga K C)) (.ref (He.ga K C)) = some true
def errB (K : PySem.W.Frag) (C f1 f2 : Str) : Bool := oexB K (He.ga K C) && (xfB K (He.ga K C) && (He.eqO (PySem.W.findIn K (.ref (He.ga K C)) f1) (some none) && (He.eqO (PySem.W.findIn K (.ref (He.ga K C)) f2) (some none) &&
  (He.eqO (PySem.W.findIn K (.ref (He.ga K C)) "__init__") (some (some (.ref (He.ma K (He.ga K C) "__init__")))) && (decide (PySem.W.typeIn K (.ref (He.ma K (He.ga K C) "__init__")) = some (.type "function")) && decide (PySem.W.exmOne K (.ref (He.ga K C)) (.ref (He.ga K C)) = some true))))))
theorem errB_ok {K : PySem.W.Frag} {mg : Str → Option Value} {C f1 f2 : Str} (g : mg C = some (.ref (He.ga K C))) (h : errB K C f1 f2 = true) : ErrC K mg C f1 f2 := by
  obtain ⟨h1, h⟩ := He.ba h
  obtain ⟨h2, h⟩ := He.ba h
  obtain ⟨h3, h⟩ := He.ba h
  obtain ⟨h4, h⟩ := He.ba h
  obtain ⟨h5, h⟩ := He.ba h
  obtain ⟨h6, h7⟩ := He.ba h
  exact ⟨g, oexB_ok h1, xfB_ok h2, He.eqO_ok h3, He.eqO_ok h4, He.eqO_ok h5, of_decide_eq_true h6, of_decide_eq_true h7⟩
/-- what __init__ leaves: the two fields -/
def spInit (K : PySem.W.Frag) (f1 f2 : Str) : Sp := fun vs H Q _ => ∃ (a C : Addr) (x y : V), vs = [.ref a, x, y] ∧
  ((∃ n : Int, x = .int n ∧ -1 ≤ n ∧ n ≤ 1000000) ∨ ∃ z : Str, x = .str z ∧ z.length ≤ 1000) ∧ ((∃ n : Int, y = .int n ∧ -1 ≤ n ∧ n ≤ 1000000) ∨ ∃ z : Str, y = .str z ∧ z.length ≤ 1000) ∧
  OexC K C ∧ PySem.W.findIn K (.ref C) f1 = some none ∧ PySem.W.findIn K (.ref C) f2 = some none ∧ H a = some (exo a C none) ∧
  ∀ d, H d = none → d ≠ a → Q .non (upd (upd (upd H d (exd d [(f1, x)])) a (exo a C (some d))) d (exd d [(f2, y), (f1, x)]))
/-- what stood stands, behind a raised error -/
theorem sm_exc {H1 H2 : Hp} {a d : Addr} {fs : List (Str × V)} (h : ∀ b, b ≠ a → b ≠ d → H2 b = H1 b) (ha : H1 a = none) (hd : H1 d = none) : Sm H1 (upd (del H2 a) d (.xd fs)) := by
  have at_ : ∀ b o, H1 b = some o → upd (del H2 a) d (.xd fs) b = some o := fun b o e => by
    have n1 : b ≠ a := ne_of_none e ha
    have n2 : b ≠ d := ne_of_none e hd
    rw [upd_ne n2, del_ne n1, h b n1 n2]
    exact e
  exact ⟨fun b o e _ => at_ b o e, fun b ps e => ⟨ps, at_ b _ e, fun z => z⟩⟩
/-- a field of an error: a number or a short text -/
def Fld (x : V) : Prop := (∃ n : Int, x = .int n ∧ -1 ≤ n ∧ n ≤ 1000000) ∨ ∃ z : Str, x = .str z ∧ z.length ≤ 1000
/-- how the making of such an error reads: what its raising asks -/
theorem mk_read {K : PySem.W.Frag} {mg : Str → Option Value} {c f1 f2 : Str} {W : Value → Option Addr → Hp → Prop} {H1 : Hp} {x y : V} (R : ErrC K mg c f1 f2) (hx : Fld x) (hy : Fld y)
    (q : ∀ d H', Sm H1 H' → H1 d = none → H' d = some (.xd [(f2, y), (f1, x)]) → W (.ref (He.ga K c)) (some d) H') :
    [x, y].length ≤ 1000 ∧ ∀ a, H1 a = none → spInit K f1 f2 (.ref a :: ([x, y] ++ [])) (upd H1 a (exo a (He.ga K c) none))
      (fun v H2 => v = .non ∧ ∃ (d : Addr) (fs : List (Str × V)), H2 a = some (exo a (He.ga K c) (some d)) ∧ H2 d = some (exd d fs) ∧ H1 d = none ∧ W (.ref (He.ga K c)) (some d) (upd (del H2 a) d (.xd fs))) (fun _ _ _ => False) := by
  refine ⟨by show 2 ≤ 1000; decide, fun a ha => ⟨a, He.ga K c, x, y, rfl, hx, hy, R.ox, R.no1, R.no2, upd_same, fun d hd hda => ?_⟩⟩
  have hd1 : H1 d = none := by
    rw [upd_ne hda] at hd
    exact hd
  refine ⟨rfl, d, [(f2, y), (f1, x)], ?_, upd_same, hd1, q d _ (sm_exc (fun b n1 n2 => ?_) ha hd1) hd1 upd_same⟩
  · rw [upd_ne (Ne.symm hda), upd_same]
  · rw [upd_ne n2, upd_ne n1, upd_ne n2, upd_ne n1]
section
variable {P : Program} {w : World} {K : PySem.W.Frag} {mg : Str → Option Value} {base : Heap} {N : Names}
/-- THE RULE for a method of the list -/
theorem Top.okM {CX : CXT} {d : He.DefD} {c m : Str} {ps L : List Str} {k : Nat} {sp : Sp} (T : Top N K mg base) (i : Nat) (hi : N.fn[i]? = some d) (hat : d.at_ = (c, some m)) (hdf : d.dfl = []) (hkw : d.kwd = []) (S : FnScope L ps d.scope)
    (hb : ∀ (kV doc pm : Value) (an : Option Addr) (cdv ct : Value) (us : List Value), us.length = ps.length → bindArgs (PySem.W.fnOf d.name d.qual d.params d.body d.scope .none kV doc pm an cdv ct) ⟨us, []⟩ = pure (ps.zip us))
    (len : ∀ vs H Q E, sp vs H Q E → vs.length = ps.length)
    (hbody : ∀ (cdv : Value) (A : Around) (outer : List Env) (s : Shared) (H : Hp) (vs : List V) (Q : VK) (E : XK), Room k (A.deeper (envOfC d.qual d.scope s.heap.objs.size (He.ma K (He.ga K c) m) cdv)) → sp vs H Q E →
      ∃ t, PSs (cxOf CX P w K mg base L d.qual d.scope (He.ma K (He.ga K c) m) cdv A outer s H E) d.body t ∧ t { nx := fun _ H' => Q .non H', rt := Q } (start L vs) H) :
    ∃ fd, FnOk P w K mg base CX (k + 1) (He.ma K (He.ga K c) m) fd ps sp ∧ Binds K fd ps [] := by
  obtain ⟨fd, F⟩ := T.d.def_ i hi
  have e1 : d.dvs K = [] := by unfold He.DefD.dvs; rw [hdf]; rfl
  have e2 : d.kws K = [] := by unfold He.DefD.kws; rw [hkw]; rfl
  have e3 : He.fAd K d.at_ = He.ma K (He.ga K c) m := by rw [hat]; rfl
  rw [e1, e2, e3] at F
  refine ⟨fd, ?_, F.bindsN hb⟩
  obtain ⟨oc, od, dV, kV, doc, pm, an, cdv, ct, osl, rfl, lk, hcd, hD, _⟩ := F.ex
  exact fn_of lk hcd S len fun A outer s H vs Q E hr hsp => hbody cdv A outer s H vs Q E hr hsp
end
theorem fmt_len {n : Int} (h0 : -1 ≤ n) (h1 : n ≤ 1000000) : (Str.ofString (toString n)).length ≤ 7 := by
  by_cases h : n = -1
  · subst h
    decide +kernel
  · exact PyProof.Rows.toString_length_le (by omega) (by decide) (by omega)
/-- {x}, x a field of an error -/
theorem fmt_fld {x : V} (hx : Fld x) {S : Str → Prop} (q : ∀ y : Str, y.length ≤ 1000 → S y) :
    (∃ y : Str, x = .str y ∧ y.length ≤ sizeLine ∧ S y) ∨ ∃ i : Int, x = .int i ∧ i.natAbs.log2 < 1920 ∧ S (toString i) := by
  have big : (1000 : Nat) ≤ sizeLine := by decide
  rcases hx with ⟨n, rfl, h0, h1⟩ | ⟨z, rfl, hz⟩
  · refine .inr ⟨n, rfl, ?_, q _ (Nat.le_trans (fmt_len h0 h1) (by decide))⟩
    by_cases h : n.natAbs = 0
    · rw [h]
      decide
    · have h2 : n.natAbs.log2 < 64 := (Nat.log2_lt h).mpr (by omega)
      omega
  · exact .inl ⟨z, rfl, Nat.le_trans hz big, q _ hz⟩
end AS

set_option Elab.async false
set_option linter.all false
set_option maxRecDepth 100000
set_option maxHeartbeats 2000000
namespace AS
open PySem PySem.Spec PyProof.Rows L2
/-! ### enumerate(list, start=k) -/
section
variable {M : Model} {A : Around} {E : Value → Shared → Prop} {s : Shared}
theorem cw_type {pos : Pos} {T : String} {as : List (Bool × Sem Value)} {ks : List (Option Str × Sem Value)} {Q : Value → Shared → Prop}
    (n1 : as.any (·.1) = false) (n2 : ks.any (·.1.isNone) = false)
    (h : wpAny M A (evalArgs (.type T) true as ks) (fun a u => wpAny M A (call (.type T) a.pos a.kw) Q E u) E s) :
    wpAny M A (callWith pos (.type T) [] as ks) Q E s := by
  unfold callWith
  refine wpAny_bind (wpAny_holding (wpAny_mono h (fun a u g => wpAny_bind (wpAny_standAt ?_)) fun _ _ z => z))
  simp only [n1, n2, Bool.or_false]
  exact wpAny_bind (wpAny_pure (wpAny_bind (wpAny_mono g (fun r v hr => wpAny_bind (wpAny_holding (wpAny_point (wpAny_pure hr)))) fun _ _ z => z)))
end
/-- the list at a as it stands at each turn, each item behind its number, from k on -/
def ItE (K : PySem.W.Frag) (k : Int) (a : Addr) : It :=
  ⟨fun i H => ∃ (xs : List V) (x : V), SqL K H a xs ∧ xs[i]? = some x,
   fun i H v H' => ∃ T x, v = .ref T ∧ H T = none ∧ H' = upd H T (.tup [.int (k + (i : Nat)), x]) ∧ ∀ xs, SqL K H a xs → xs[i]? = some x,
   fun i H => ∃ xs : List V, SqL K H a xs ∧ xs.length = i⟩
theorem turn_enumK {P : Program} {w : World} {K : PySem.W.Frag} {elts : List Expr} {kk : Nat} {tpos : Pos} (k : Int) (a e it : Addr) (nea : e ≠ a) (nia : a ≠ it) :
    Turn P w K (.Tuple elts kk tpos) (ItE K k a) [e, it] e (fun i h => (∃ old, IsEnum h e it (k + (i : Nat)) old) ∧ h.IsListIter it a i ∧ e ≠ it) where
  mem := by simp
  obj := fun i h st b hb => by
    obtain ⟨⟨old, he⟩, ⟨o, ho, hc, hd⟩, _⟩ := st
    rcases List.mem_cons.mp hb with z | z
    · rw [z]
      exact ⟨_, he, fun v q => nomatch q⟩
    · rw [List.mem_singleton.mp z]
      exact ⟨o, ho, fun v q => by rw [hd] at q; cases q⟩
  keep := fun i h h' st kp => by
    obtain ⟨⟨old, he⟩, hi, hne⟩ := st
    exact ⟨⟨old, kp e (by simp) _ he⟩, hi.at fun o q => kp it (by simp) o q, hne⟩
  item := by
    intro X hP hw hK hc i pins s σ H E I hf st hg
    subst hP hw hK
    obtain ⟨⟨old, he⟩, hit, hne⟩ := st
    obtain ⟨xs, x, hq, hx⟩ := hg
    obtain ⟨its, rv, p, hz⟩ := I.list hq
    obtain ⟨u, hu, ru⟩ := rv.get hx
    have hlt : i < its.toArray.size := by
      have q := (List.getElem?_eq_some_iff.mp hu).1
      simpa using q
    have eL : e < s.heap.objs.size := Heap.lt_size he
    have iL : it < s.heap.objs.size := by
      obtain ⟨_, q, _⟩ := hit
      exact Heap.lt_size q
    have DD := Draws.list (prog := X.prog) (w := X.w) (A := X.A.in1) (I.ok.hd hc) it a nia its.toArray
    refine wpAny_pyNext_enum_itemC DD he ⟨hit, p.isList⟩ hlt hne (by simp [hne, nea]) fun y h' tk hy ho hst hT hsz hk => ?_
    have ey : y = u := by
      have z : its[i]? = some y := by simpa using hy
      rw [hu] at z
      exact (Option.some.inj z).symm
    subst ey
    refine ⟨_, rfl, wpAny_letOwnedTupleGo_enum (s := { s with heap := h', toks := tk + 1 }) ho fun h2 he2 sb => ?_⟩
    have hT2 : h2.get? s.heap.objs.size = some { cls := .type "tuple", data := .seq #[.int (k + (i : Nat)) tk, y] } := (sb.2 _ (Nat.ne_of_gt eL)).trans hT
    have fresh := I.hok.fresh (Nat.le_refl s.heap.objs.size)
    have new : ObjOk X.prog X.w (upd H s.heap.objs.size (.tup [.int (k + (i : Nat)), x])) h2 s.heap.objs.size (.tup [.int (k + (i : Nat)), x]) :=
      ⟨by show 2 ≤ sizeLine; decide, [.int (k + (i : Nat)) tk, y], .cons ⟨_, rfl⟩ (.cons ru .nil), ⟨_, hT2, rfl, _, rfl⟩⟩
    have J : Inv X pins σ (upd H s.heap.objs.size (.tup [.int (k + (i : Nat)), x])) { s with heap := h2, toks := tk + 1 } :=
      I.turnedNew (ch := [e, it]) (fun b ob hb q => (sb.2 b (fun z => hb (by simp [z]))).trans (hk b ob (fun z => hb (by simp [z])) (fun z => hb (by simp [z])) q)) hf (Nat.le_refl _) new
    refine ⟨.ref s.heap.objs.size, _, J, rfl, ⟨_, x, rfl, fresh, rfl, fun ys hys => by rw [I.list_inj hys hq]; exact hx⟩, ⟨⟨y, ?_⟩, hst.1.at fun o q => (sb.2 it (Ne.symm hne)).trans q, hne⟩, fun b hb => ?_⟩
    · have e1 : k + ((i + 1 : Nat) : Int) = k + (i : Int) + 1 := by omega
      rw [e1]
      exact he2
    · have hb' : b < s.heap.objs.size := by
        rcases List.mem_cons.mp hb with z | z
        · rw [z]; exact eL
        · rw [List.mem_singleton.mp z]; exact iL
      rw [upd_ne (Nat.ne_of_lt hb')]
      exact (hf b hb).1
  done := by
    intro X hP hw hK hc i pins s σ H E I hf st hg
    subst hP hw hK
    obtain ⟨⟨old, he⟩, hit, hne⟩ := st
    obtain ⟨xs, hq, hx⟩ := hg
    obtain ⟨its, rv, p, hz⟩ := I.list hq
    obtain ⟨f0, f1, f2, f3, f4, f5⟩ := hf it (by simp)
    have hl := rv.length
    have DD := Draws.list (prog := X.prog) (w := X.w) (A := X.A.in1) (I.ok.hd hc) it a nia its.toArray
    have hn : its.toArray.size = i := by simp; omega
    have hit2 : s.heap.IsListIter it a its.toArray.size := by rw [hn]; exact hit
    exact wpAny_pyNext_enum_endD DD he ⟨hit2, p.isList⟩ fun h' eb => ⟨rfl, I.turned (t' := s.toks) (fun b o hb q => eb b o hb q) f0 f1 f3 f4 f5⟩
  self := fun A i s Q E st h => by
    obtain ⟨⟨_, he⟩, _⟩ := st
    exact wpAny_pyIter_enum he h
def iEnumK (K : PySem.W.Frag) (ta tk : TA) : TI := fun σ H R => ta σ H fun vs H1 => tk σ H1 fun zs H2 => ∃ a xs k, vs = [.ref a] ∧ zs = [.int k] ∧ -(2 ^ 63) ≤ k ∧ k < 2 ^ 63 ∧ SqL K H2 a xs ∧ R (ItE K k a) H2
/-- for i, x in enumerate(xs, start=k), xs a list -/
theorem pi_enumK {X : Cx} {e : Expr} {ta tk : TA} {p pos tpos : Pos} {elts : List Expr} {kk : Nat} {kws : List Keyword} (hg : Gl X "enumerate") (hm : X.mg "enumerate" = none) (ha : PA X [e] ta) (hkw : PK X kws tk)
    (hall : (backToKw pos (keywordEach kws X.env)).all (·.1.isSome) = true := by rfl) (hks : (backToKw pos (keywordEach kws X.env)).filterMap (·.1) = [("start" : Str)] := by rfl)
    (he : starEach [e] X.env = (false, eval e X.env) :: starEach [] X.env := by rfl)
    (hpl : (backTo pos (starEach [e] X.env)).any (·.1) = false := by rfl) (hno : (backToKw pos (keywordEach kws X.env)).any (·.1.isNone) = false := by rfl) :
    PI X (.Tuple elts kk tpos) (.Call (.Name "enumerate" p) [e] kws pos) (iEnumK X.K ta tk) := by
  constructor
  intro pins s σ H R I h
  refine wpAny_Call_Name_kw (ld_blt I hg hm boot_enumerate (cw_type hpl hno ?_))
  have run := ha.run pos pins s σ H _ I h
  rw [he] at run ⊢
  refine PyProof.Rows.evalArgs_kwB hall (thn run fun us s1 r => ?_)
  obtain ⟨vs, H1, J, rv, q1⟩ := r
  refine thn (hkw.run pos pins s1 σ H1 _ J q1) fun ws s2 r2 => ?_
  obtain ⟨zs, H2, L, rz, a, xs, k, rfl, rfl, h0, h1, hq, q⟩ := r2
  rw [hks]
  cases rv with
  | @cons _ ua _ ur ra rt =>
    cases rt
    obtain rfl : ua = Value.ref a := ra
    cases rz with
    | @cons _ uk _ ul rk rl =>
      cases rl
      obtain ⟨t, rfl⟩ := (show ∃ t, uk = Value.int k t from rk)
      obtain ⟨its, rv2, p', hz⟩ := L.list hq
      have p'' : s2.heap.IsList a its.toArray := p'.isList
      have old : ∀ b o, s2.heap.get? b = some o → b < s2.heap.objs.size := fun b o q => Heap.lt_size q
      have al : a < s2.heap.objs.size := by
        obtain ⟨o, ho, _⟩ := p''
        exact old a o ho
      show wpAny _ _ (call (.type "enumerate") [.ref a] [(("start" : Str), .int k t)]) _ _ _
      refine enum_begins_start (begins_list a its.toArray) p'' h0 h1 fun h' hE hit hsz kp => wpAny_pyIter_enum hE ?_
      have J2 : Inv X pins σ H2 { s2 with heap := h' } := L.kept (t' := s2.toks) kp
      refine ⟨s2.heap.objs.size + 1, [s2.heap.objs.size + 1, s2.heap.objs.size], _, _, H2, rfl, J2,
        turn_enumK k a (s2.heap.objs.size + 1) s2.heap.objs.size (fun z => by rw [← z] at al; exact absurd al (Nat.not_lt.mpr (Nat.le_succ _))) (Nat.ne_of_lt al), ⟨⟨.none, ?_⟩, ⟨_, hit, rfl, rfl⟩, Nat.succ_ne_self _⟩, fun b hb => ?_, q⟩
      · have z : k + ((0 : Nat) : Int) = k := by omega
        rw [z]
        exact hE
      · have ge : s2.heap.objs.size ≤ b := by
          rcases List.mem_cons.mp hb with z | z
          · rw [z]
            exact Nat.le_succ _
          · rw [List.mem_singleton.mp z]
            exact Nat.le_refl _
        exact L.fpOk ge (L.hok.fresh ge)
/-- the bookkeeping of such a loop -/
theorem for_enumK {K : PySem.W.Frag} {k : Int} {a : Addr} {xs : List V} {g : TG} {tb : TS} {D : Ends} {σ : L2.St} {H : Hp} (Pv : Nat → L2.St → Hp → Prop) (h0 : Pv 0 σ H) (hl : ∀ i σ H, i ≤ xs.length → Pv i σ H → SqL K H a xs)
    (hs : ∀ (i : Nat) x T σ H, xs[i]? = some x → Pv i σ H → H T = none → g (.ref T) σ (upd H T (.tup [.int (k + (i : Nat)), x])) fun σ2 H2 => tb { D with nx := Pv (i + 1), ct := Pv (i + 1), bk := D.nx } σ2 H2)
    (hd : ∀ σ H, Pv xs.length σ H → D.nx σ H) :
    ∃ W : Nat → Nat → L2.St → Hp → Prop, (∃ m, W 0 m σ H) ∧ ∀ i m σ H, W i m σ H →
      ((ItE K k a).stop i H ∧ D.nx σ H) ∨ ((ItE K k a).go i H ∧ ∃ N : L2.St → Hp → Prop, (∀ σ' H', N σ' H' → ∃ m', m' < m ∧ W (i + 1) m' σ' H') ∧ ∀ x H', (ItE K k a).yld i H x H' → g x σ H' fun σ2 H2 => tb { D with nx := N, ct := N, bk := D.nx } σ2 H2) := by
  refine ⟨fun i m σ H => m = xs.length - i ∧ i ≤ xs.length ∧ Pv i σ H, ⟨_, rfl, Nat.zero_le _, h0⟩, ?_⟩
  intro i m σ H hW
  obtain ⟨em, hi, hp⟩ := hW
  have q := hl i σ H hi hp
  by_cases hlt : i < xs.length
  · refine .inr ⟨⟨xs, xs[i], q, List.getElem?_eq_getElem hlt⟩, Pv (i + 1), fun σ' H' hp' => ⟨xs.length - (i + 1), by omega, rfl, hlt, hp'⟩, fun x H' y => ?_⟩
    obtain ⟨T, z, rfl, nT, rfl, f⟩ := y
    exact hs i z T σ H (f xs q) hp nT
  · have e : i = xs.length := by omega
    subst e
    exact .inl ⟨⟨xs, q, rfl⟩, hd σ H hp⟩
end AS

set_option Elab.async false
set_option linter.all false
set_option maxRecDepth 100000
set_option maxHeartbeats 2000000
namespace AS
open PySem PySem.Spec PyProof.Rows He
/-- what the names reach in n steps, and the table of the interpreter's own statics: reading an attribute of a class looks there -/
def asY (g : Addr → Option Obj) (n : Nat) : List Addr := asD g n ++ [cStatics]
def obsY (n : Nat) (fa : List Fa) (fn : List DefD) (ts : List Tab) (tf : List Defn) (ex : PySem.W.Frag → Bool) (g : Addr → Option Obj) : AlX := (obsT fa fn ts (frT g (asY g n)), ex (frT g (asY g n)) && tabsB g tf (frT g (asY g n)))
theorem saysY_of {n : Nat} {fa : List Fa} {fn : List DefD} {ts : List Tab} {tf : List Defn} {ex : PySem.W.Frag → Bool} {w : World} {h : Heap} (e : obsY n fa fn ts tf ex h.get? = valX fn ts w) : SaysX fa fn ts tf ex w h (frT h.get? (asY h.get? n)) := by
  have e1 : obsT fa fn ts (frT h.get? (asY h.get? n)) = valT fn ts w := congrArg (fun z : AlX => z.1) e
  have e2 : (ex (frT h.get? (asY h.get? n)) && tabsB h.get? tf (frT h.get? (asY h.get? n))) = true := congrArg (fun z : AlX => z.2) e
  obtain ⟨h1, h2⟩ := ba e2
  have key : ∀ p ∈ tf, PySem.W.codeHdIn (frT h.get? (asY h.get? n)) (cT (frT h.get? (asY h.get? n)) p).1 (cT (frT h.get? (asY h.get? n)) p).2 = true ∧ ∃ o, h.get? (cT (frT h.get? (asY h.get? n)) p).2 = some o ∧ emptyTab o = true := fun p hp => by
    obtain ⟨h3, h4⟩ := ba (List.all_eq_true.mp h2 p hp)
    refine ⟨h3, ?_⟩
    cases q : h.get? (cT (frT h.get? (asY h.get? n)) p).2 with
    | none =>
      rw [q] at h4
      cases h4
    | some o =>
      rw [q] at h4
      exact ⟨o, rfl, h4⟩
  exact ⟨e1, h1, fun p hp => (key p hp).1, fun p hp => by
    obtain ⟨_, o, q, z⟩ := key p hp
    exact frT_none q z, fun p hp => by
    obtain ⟨_, o, q, z⟩ := key p hp
    rw [q, emptyTab_eq z]⟩
def hookY (n : Nat) (fa : List Fa) (fn : List DefD) (ts : List Tab) (tf : List Defn) (ex : PySem.W.Frag → Bool) : PySem.W.Hook where
  α := AlX
  obs := fun s => obsY n fa fn ts tf ex s.heap.get?
  val := fun w => valX fn ts w
  says := fun w h => ∃ K : PySem.W.Frag, K.In h ∧ SaysX fa fn ts tf ex w h K
  of := fun _ _ e => ⟨_, frT_in, saysY_of e⟩
  keeps := fun _ _ _ ⟨K, hK, c⟩ k => ⟨K, PySem.W.Frag.In.keeps hK k, ⟨c.t, c.more, c.hd, c.out, fun p hp => k _ _ (c.empty p hp)⟩⟩
theorem obsY_eq {n : Nat} {fa : List Fa} {fn : List DefD} {ts : List Tab} {tf : List Defn} {ex : PySem.W.Frag → Bool} {g : Addr → Option Obj} {s : Shared} (h : ∀ a, g a = s.heap.get? a) : obsY n fa fn ts tf ex g = (hookY n fa fn ts tf ex).obs s := by
  have e : g = s.heap.get? := funext h
  rw [e] <;> rfl
end AS

set_option Elab.async false
set_option linter.all false
set_option maxRecDepth 100000
set_option maxHeartbeats 2000000
namespace AS
open PySem PySem.Spec PyProof.Rows L2
/-! ### order of tuples, lists and texts, told of the data -/
def rOrdD (K : PySem.W.Frag) (f : PyData → PyData → Bool) : R2 := fun x y H Q => ∃ d e, Dp K H x d ∧ Dp K H y e ∧ PySem.W.alike d e = true ∧ d ≠ .none ∧ min d.depth e.depth ≤ 16 ∧ Q (.bl (f d e)) H
section
variable {X : Cx}
theorem op_gtD (hu : X.A.units + 64 < cLine) : OpR X (compareOp .Gt) (rOrdD X.K fun d e => PySem.W.dataLt e d) := by
  intro pins s σ H x y v u Q I rx ry h
  obtain ⟨d, e, hd, he, ha, hn, hr, q⟩ := h
  obtain ⟨as, r1⟩ := Dp.reads I d x v hd rx
  obtain ⟨bs, r2⟩ := Dp.reads I e y u he ry
  exact PySem.W.gt_data r1 r2 ha hn (by omega) ⟨.bl _, H, I, rfl, q⟩
theorem op_ltD (hu : X.A.units + 64 < cLine) : OpR X (compareOp .Lt) (rOrdD X.K fun d e => PySem.W.dataLt d e) := by
  intro pins s σ H x y v u Q I rx ry h
  obtain ⟨d, e, hd, he, ha, hn, hr, q⟩ := h
  obtain ⟨as, r1⟩ := Dp.reads I d x v hd rx
  obtain ⟨bs, r2⟩ := Dp.reads I e y u he ry
  exact PySem.W.lt_data r1 r2 ha hn (by omega) ⟨.bl _, H, I, rfl, q⟩
theorem op_leD (hu : X.A.units + 64 < cLine) : OpR X (compareOp .LtE) (rOrdD X.K fun d e => !PySem.W.dataLt e d) := by
  intro pins s σ H x y v u Q I rx ry h
  obtain ⟨d, e, hd, he, ha, hn, hr, q⟩ := h
  obtain ⟨as, r1⟩ := Dp.reads I d x v hd rx
  obtain ⟨bs, r2⟩ := Dp.reads I e y u he ry
  exact PySem.W.le_data r1 r2 ha hn (by omega) ⟨.bl _, H, I, rfl, q⟩
theorem op_geD (hu : X.A.units + 64 < cLine) : OpR X (compareOp .GtE) (rOrdD X.K fun d e => !PySem.W.dataLt d e) := by
  intro pins s σ H x y v u Q I rx ry h
  obtain ⟨d, e, hd, he, ha, hn, hr, q⟩ := h
  obtain ⟨as, r1⟩ := Dp.reads I d x v hd rx
  obtain ⟨bs, r2⟩ := Dp.reads I e y u he ry
  exact PySem.W.ge_data r1 r2 ha hn (by omega) ⟨.bl _, H, I, rfl, q⟩
end
/-! ### equality and membership, told of the data: nothing is asked of texts -/
def rEqP (K : PySem.W.Frag) (neg : Bool) : R2 := fun x y H Q => ∃ d e, Dp K H x d ∧ Dp K H y e ∧ d.plain = true ∧ e.plain = true ∧ min d.depth e.depth ≤ 16 ∧ Q (.bl (if neg then !PyData.eqv d e else PyData.eqv d e)) H
def rInP (K : PySem.W.Frag) (neg : Bool) : R2 := fun x y H Q => ∃ d es, Dp K H x d ∧ Dp K H y (.list es) ∧ d.plain = true ∧ PyData.plainAll es = true ∧ d.depth ≤ 16 ∧ Q (.bl (if neg then !(es.any fun z => PyData.eqv z d) else es.any fun z => PyData.eqv z d)) H
section
variable {X : Cx}
theorem op_eqP (hu : X.A.units + 64 < cLine) : OpR X (compareOp .Eq) (rEqP X.K false) := by
  intro pins s σ H x y v u Q I rx ry h
  obtain ⟨d, e, hd, he, pd, pe, hr, q⟩ := h
  obtain ⟨as, r1⟩ := Dp.reads I d x v hd rx
  obtain ⟨bs, r2⟩ := Dp.reads I e y u he ry
  exact PySem.SeqAt.eq_plain r1 r2 pd pe (by omega) ⟨.bl _, H, I, rfl, q⟩
theorem op_neP (hu : X.A.units + 64 < cLine) : OpR X (compareOp .NotEq) (rEqP X.K true) := by
  intro pins s σ H x y v u Q I rx ry h
  obtain ⟨d, e, hd, he, pd, pe, hr, q⟩ := h
  obtain ⟨as, r1⟩ := Dp.reads I d x v hd rx
  obtain ⟨bs, r2⟩ := Dp.reads I e y u he ry
  exact PySem.SeqAt.ne_plain r1 r2 pd pe (by omega) ⟨.bl _, H, I, rfl, q⟩
theorem op_inP (hu : X.A.units + 64 < cLine) : OpR X (compareOp .In) (rInP X.K false) := by
  intro pins s σ H x y v u Q I rx ry h
  obtain ⟨d, es, hd, he, pd, pe, hr, q⟩ := h
  obtain ⟨as, r1⟩ := Dp.reads I d x v hd rx
  obtain ⟨bs, r2⟩ := Dp.reads I (.list es) y u he ry
  exact PySem.SeqAt.in_list_data r2 r1 pe pd (by omega) ⟨.bl _, H, I, rfl, q⟩
theorem op_notInP (hu : X.A.units + 64 < cLine) : OpR X (compareOp .NotIn) (rInP X.K true) := by
  intro pins s σ H x y v u Q I rx ry h
  obtain ⟨d, es, hd, he, pd, pe, hr, q⟩ := h
  obtain ⟨as, r1⟩ := Dp.reads I d x v hd rx
  obtain ⟨bs, r2⟩ := Dp.reads I (.list es) y u he ry
  exact PySem.SeqAt.notIn_list_data r2 r1 pe pd (by omega) ⟨.bl _, H, I, rfl, q⟩
end
/-! ### tuples of texts -/
def strsD (zs : List Str) : PyData := .tuple (zs.map PyData.str)
theorem dp_strs (K : PySem.W.Frag) (H : Hp) : ∀ zs : List Str, DpAll K H (zs.map V.str) (zs.map PyData.str)
  | [] => .nil
  | z :: r => .cons (.str z) (dp_strs K H r)
theorem Sm.dp {K : PySem.W.Frag} {H H' : Hp} (e : Sm H H') {v : V} {d : PyData} (h : Dp K H v d) : Dp K H' v d := by
  refine Dp.rec (motive_1 := fun v d _ => Dp K H' v d) (motive_2 := fun vs ds _ => DpAll K H' vs ds) .non (fun b => .bl b) (fun i => .int i) (fun x => .str x) (fun hs _ ih => .lst (e.seq hs) ih) (fun hs _ ih => .tup (e.seqT hs) ih) .nil (fun _ _ h1 h2 => .cons h1 h2) h
theorem dp_tup {K : PySem.W.Frag} {H : Hp} {a : Addr} {zs : List Str} (h : H a = some (.tup (zs.map V.str))) : Dp K H (.ref a) (strsD zs) := .tup (.inl (.inl h)) (dp_strs K H zs)
theorem strs_plainAll : ∀ zs : List Str, PyData.plainAll (zs.map PyData.str) = true
  | [] => rfl
  | _ :: r => strs_plainAll r
theorem strs_depthAll : ∀ zs : List Str, PyData.depthAll (zs.map PyData.str) = 0
  | [] => rfl
  | _ :: r => by simp [PyData.depthAll, PyData.depth, strs_depthAll r]
theorem strs_eqv : ∀ xs ys : List Str, PyData.eqvAll (xs.map PyData.str) (ys.map PyData.str) = decide (xs = ys)
  | [], [] => by simp [PyData.eqvAll]
  | [], _ :: _ => by simp [PyData.eqvAll]
  | _ :: _, [] => by simp [PyData.eqvAll]
  | a :: r, b :: t => by
    simp only [List.map_cons, PyData.eqvAll, PyData.eqv, strs_eqv r t]
    by_cases h : a = b <;> by_cases h' : r = t <;> simp [h, h']
theorem strs_alike : ∀ xs ys : List Str, PySem.W.alikeAll (xs.map PyData.str) (ys.map PyData.str) = true
  | [], _ => by simp [PySem.W.alikeAll]
  | _ :: _, [] => by simp [PySem.W.alikeAll]
  | a :: r, b :: t => by
    simp only [List.map_cons, PySem.W.alikeAll, PySem.W.alike, Bool.true_and]
    exact strs_alike r t
/-! ### triples of texts: relationships, grants -/
structure Gr where
  t : Str
  n : Str
  s : Str
deriving DecidableEq
def Gr.zs (g : Gr) : List Str := [g.t, g.n, g.s]
def Gr.v (g : Gr) : List V := [.str g.t, .str g.n, .str g.s]
def Gr.d (g : Gr) : PyData := strsD g.zs
theorem Gr.zs_inj {g h : Gr} (e : g.zs = h.zs) : g = h := by
  cases g
  cases h
  simp only [Gr.zs, List.cons.injEq, and_true] at e
  obtain ⟨rfl, rfl, rfl⟩ := e
  rfl
theorem Gr.eqv (g h : Gr) : PyData.eqv g.d h.d = decide (g = h) := by
  show PyData.eqvAll (g.zs.map PyData.str) (h.zs.map PyData.str) = _
  rw [strs_eqv]
  exact decide_eq_decide.mpr ⟨Gr.zs_inj, fun e => by rw [e]⟩
theorem Gr.plain (g : Gr) : g.d.plain = true := rfl
theorem Gr.depth (g : Gr) : g.d.depth ≤ 1 := by
  show 1 + PyData.depthAll (g.zs.map PyData.str) ≤ 1
  rw [strs_depthAll]
  decide
theorem Gr.alike (g h : Gr) : PySem.W.alike g.d h.d = true := strs_alike g.zs h.zs
def ltG (g h : Gr) : Bool := PySem.W.dataLt g.d h.d
/-- a list of triples -/
def GRows (H : Hp) : List Addr → List Gr → Prop
  | [], [] => True
  | a :: as, g :: gs => H a = some (.tup g.v) ∧ GRows H as gs
  | _, _ => False
theorem GRows.sm {H H' : Hp} (e : Sm H H') : ∀ {as : List Addr} {gs : List Gr}, GRows H as gs → GRows H' as gs
  | [], [], _ => trivial
  | _ :: _, _ :: _, h => ⟨e.tup h.1, GRows.sm e h.2⟩
  | [], _ :: _, h => h.elim
  | _ :: _, [], h => h.elim
theorem GRows.len {H : Hp} : ∀ {as : List Addr} {gs : List Gr}, GRows H as gs → as.length = gs.length
  | [], [], _ => rfl
  | _ :: _, _ :: _, h => congrArg Nat.succ (GRows.len h.2)
  | [], _ :: _, h => h.elim
  | _ :: _, [], h => h.elim
theorem GRows.get {H : Hp} : ∀ {as : List Addr} {gs : List Gr} {i : Nat} {g : Gr}, GRows H as gs → gs[i]? = some g → ∃ a, as[i]? = some a ∧ H a = some (.tup g.v)
  | a :: _, s :: _, 0, g, h, e => by
    have e2 : s = g := Option.some.inj e
    rw [← e2]
    exact ⟨a, rfl, h.1⟩
  | _ :: as, _ :: gs, i + 1, g, h, e => GRows.get (i := i) h.2 e
  | [], [], _, _, _, e => by cases e
  | [], _ :: _, _, _, h, _ => h.elim
  | _ :: _, [], _, _, h, _ => h.elim
theorem GRows.snoc {H : Hp} {a : Addr} {g : Gr} (e : H a = some (.tup g.v)) : ∀ {as : List Addr} {gs : List Gr}, GRows H as gs → GRows H (as ++ [a]) (gs ++ [g])
  | [], [], _ => ⟨e, trivial⟩
  | _ :: _, _ :: _, h => ⟨h.1, GRows.snoc e h.2⟩
  | [], _ :: _, h => h.elim
  | _ :: _, [], h => h.elim
theorem GRows.other {H : Hp} {o : Addr} {h : HO} : ∀ {bs : List Addr} {gs : List Gr}, GRows H bs gs → (∃ xs, H o = some (.lst xs)) → GRows (upd H o h) bs gs
  | [], [], _, _ => trivial
  | b :: _, r :: _, hR, ho => by
    obtain ⟨xs, ho⟩ := ho
    refine ⟨?_, GRows.other hR.2 ⟨xs, ho⟩⟩
    have nb : b ≠ o := fun e => by
      have h1 := hR.1
      rw [e, ho] at h1
      cases h1
    rw [upd_ne nb]
    exact hR.1
  | [], _ :: _, hR, _ => hR.elim
  | _ :: _, [], hR, _ => hR.elim
theorem dp_gr {K : PySem.W.Frag} {H : Hp} {a : Addr} {g : Gr} (h : H a = some (.tup g.v)) : Dp K H (.ref a) g.d := dp_tup (zs := g.zs) h
theorem GRows.dp {K : PySem.W.Frag} {H : Hp} : ∀ {as : List Addr} {gs : List Gr}, GRows H as gs → DpAll K H (as.map V.ref) (gs.map Gr.d)
  | [], [], _ => .nil
  | _ :: _, _ :: _, h => .cons (dp_gr h.1) (GRows.dp h.2)
  | [], _ :: _, h => h.elim
  | _ :: _, [], h => h.elim
theorem grs_plain : ∀ gs : List Gr, PyData.plainAll (gs.map Gr.d) = true
  | [] => rfl
  | _ :: r => by
    show (true && PyData.plainAll (r.map Gr.d)) = true
    rw [grs_plain r]
    rfl
theorem grs_any (g : Gr) : ∀ gs : List Gr, ((gs.map Gr.d).any fun z => PyData.eqv z g.d) = decide (g ∈ gs)
  | [] => by simp
  | h :: r => by
    rw [List.map_cons, List.any_cons, grs_any g r, Gr.eqv]
    by_cases e : h = g
    · subst e
      simp
    · have e2 : ¬ g = h := fun z => e z.symm
      simp [e, e2]
theorem grs_eqvAll : ∀ xs ys : List Gr, PyData.eqvAll (xs.map Gr.d) (ys.map Gr.d) = decide (xs = ys)
  | [], [] => by simp [PyData.eqvAll]
  | [], _ :: _ => by simp [PyData.eqvAll]
  | _ :: _, [] => by simp [PyData.eqvAll]
  | a :: r, b :: t => by
    simp only [List.map_cons, PyData.eqvAll, Gr.eqv, grs_eqvAll r t]
    by_cases h : a = b <;> by_cases h' : r = t <;> simp [h, h']
end AS

set_option Elab.async false
set_option linter.all false
set_option maxRecDepth 100000
set_option maxHeartbeats 2000000
namespace AS
open PySem PySem.Spec PyProof.Rows L2
/-! ### isinstance of a caught error that has fields -/
def excCB (K : PySem.W.Frag) (D : Addr) : Bool := He.eqO (PySem.W.findIn K (.ref D) "__getattribute__") (some (some (.builtin "BaseException.__getattribute__"))) && (He.eqO (PySem.W.findIn K (.ref D) "__getattr__") (some none) && (decide (PySem.W.subIn K (.ref D) (.type "BaseException") = some true) && (PySem.W.hasDictIn K D &&
  (He.eqO (PySem.W.findIn K (.ref D) "__class__") (some (some (.builtin "object.__class__"))) && (He.eqO (PySem.W.specialIn K (.builtin "object.__class__") "__get__") (some (some (.builtin "getset_descriptor.__get__"))) && (decide (PySem.W.takesIn K (.builtin "object.__class__") = some true) && decide (PySem.W.mroIn K D (.type "object") = some true)))))))
theorem excCB_ok {K : PySem.W.Frag} {D : Addr} (h : excCB K D = true) : ExcC K D := by
  obtain ⟨h1, h⟩ := He.ba h
  obtain ⟨h2, h⟩ := He.ba h
  obtain ⟨h3, h⟩ := He.ba h
  obtain ⟨h4, h⟩ := He.ba h
  obtain ⟨h5, h⟩ := He.ba h
  obtain ⟨h6, h⟩ := He.ba h
  obtain ⟨h7, h8⟩ := He.ba h
  exact ⟨He.eqO_ok h1, He.eqO_ok h2, of_decide_eq_true h3, h4, He.eqO_ok h5, He.eqO_ok h6, of_decide_eq_true h7, of_decide_eq_true h8⟩
def rIsX (K : PySem.W.Frag) (D a : Addr) (cls : Value) (d : Option Addr) : List V → Hp → VK → Prop := fun xs H Q => ∃ (C : Addr) (b : Bool) (dd : Addr) (fs : List (Str × V)), xs = [.ref a, .ref C] ∧ cls = .ref D ∧ d = some dd ∧ H dd = some (.xd fs) ∧ PySem.W.kitOne K (.ref D) (.ref C) = some b ∧ Q (.bl b) H
theorem call_isX {X : Cx} {a D : Addr} {oe : Obj} {cls : Value} {d : Option Addr} {pn : List (Addr × Obj)} (C : ExcC X.K D) (hcl : (PySem.W.clsIn X.K D).isSome = true) (hz : Zc cls d oe) (hf : ∃ vs, oe.data = .fields vs) : CallR (X.suite a ((a, oe) :: pn)) (.builtin "isinstance") (rIsX X.K D a cls d) := by
  intro pins s σ H xs us Q I r h
  obtain ⟨c, b, dd, fs, rfl, rfl, rfl, ea, e, q⟩ := h
  cases r with
  | cons rx rr =>
    cases rr with
    | cons rt rr =>
      cases rr
      cases rx
      cases rt
      obtain ⟨hget, _⟩ := I.pin (a, oe) (List.mem_append.mpr (.inl List.mem_cons_self))
      obtain ⟨vs, hv⟩ := hf
      have hx : ObjOk X.prog X.w H s.heap dd (.xd fs) := I.hok dd _ ea
      obtain ⟨mA, hns, hr⟩ := hx
      obtain ⟨od, ho, hl⟩ := lookIn_ns hns
      have J : PySem.W.InstAt s.heap a oe D (some od) := ⟨hget, hz.1, by unfold PySem.W.notCls; rw [hv] <;> rfl, by rw [hz.2]; exact ho⟩
      exact PySem.W.kia_one (PySem.W.kitx_exc hcl C.hg C.hk C.hs C.ha C.hn C.ht C.hm) I.kIn J e (fun z => nomatch z) fun tk => ⟨.bl b, H, I.kept (t' := tk) fun _ _ z => z, rfl, q⟩
end AS

set_option Elab.async false
set_option linter.all false
set_option maxRecDepth 100000
set_option maxHeartbeats 4000000
namespace A9
open PySem PySem.Spec PyProof.Rows L2 AS
def top (i : Nat) : Stmt := PySem.Challenge.pw_authsync_k59_bad_texts_of_feeds.main.body.getD i (.Pass ⟨0, 0, 0, 0⟩)
abbrev sBadSchema_init : Stmt := inClass (top 2) 0
def dBadSchema_init : He.DefD := ⟨("BadSchema", some "__init__"), "__init__", "BadSchema.__init__", defArgs sBadSchema_init, defBody sBadSchema_init, defScope sBadSchema_init, [], []⟩
theorem scBadSchema_init : FnScope ["self", "line", "what"] ["self", "line", "what"] (defScope sBadSchema_init) := ⟨rfl, rfl, rfl, by decide +kernel, rfl, by decide +kernel, by decide +kernel⟩
abbrev sBadFeed_init : Stmt := inClass (top 3) 0
def dBadFeed_init : He.DefD := ⟨("BadFeed", some "__init__"), "__init__", "BadFeed.__init__", defArgs sBadFeed_init, defBody sBadFeed_init, defScope sBadFeed_init, [], []⟩
theorem scBadFeed_init : FnScope ["self", "line", "what"] ["self", "line", "what"] (defScope sBadFeed_init) := ⟨rfl, rfl, rfl, by decide +kernel, rfl, by decide +kernel, by decide +kernel⟩
abbrev s_is_word : Stmt := top 11
def d_is_word : He.DefD := ⟨("_is_word", none), "_is_word", "_is_word", defArgs s_is_word, defBody s_is_word, defScope s_is_word, [], []⟩
theorem sc_is_word : FnScope ["text"] ["text"] (defScope s_is_word) := ⟨rfl, rfl, rfl, by decide +kernel, rfl, by decide +kernel, by decide +kernel⟩
abbrev sis_identifier : Stmt := top 12
def dis_identifier : He.DefD := ⟨("is_identifier", none), "is_identifier", "is_identifier", defArgs sis_identifier, defBody sis_identifier, defScope sis_identifier, [], []⟩
theorem scis_identifier : FnScope ["text"] ["text"] (defScope sis_identifier) := ⟨rfl, rfl, rfl, by decide +kernel, rfl, by decide +kernel, by decide +kernel⟩
abbrev sis_object : Stmt := top 13
def dis_object : He.DefD := ⟨("is_object", none), "is_object", "is_object", defArgs sis_object, defBody sis_object, defScope sis_object, [], []⟩
theorem scis_object : FnScope ["text", "kind", "_", "rest"] ["text"] (defScope sis_object) := ⟨rfl, rfl, rfl, by decide +kernel, rfl, by decide +kernel, by decide +kernel⟩
abbrev sis_grant : Stmt := top 14
def dis_grant : He.DefD := ⟨("is_grant", none), "is_grant", "is_grant", defArgs sis_grant, defBody sis_grant, defScope sis_grant, [], []⟩
theorem scis_grant : FnScope ["target", "name", "subject"] ["target", "name", "subject"] (defScope sis_grant) := ⟨rfl, rfl, rfl, by decide +kernel, rfl, by decide +kernel, by decide +kernel⟩
abbrev sread_revision : Stmt := top 15
def dread_revision : He.DefD := ⟨("read_revision", none), "read_revision", "read_revision", defArgs sread_revision, defBody sread_revision, defScope sread_revision, [], []⟩
theorem scread_revision : FnScope ["text", "revision"] ["text"] (defScope sread_revision) := ⟨rfl, rfl, rfl, by decide +kernel, rfl, by decide +kernel, by decide +kernel⟩
abbrev sread_snapshot : Stmt := top 17
def dread_snapshot : He.DefD := ⟨("read_snapshot", none), "read_snapshot", "read_snapshot", defArgs sread_snapshot, defBody sread_snapshot, defScope sread_snapshot, [], []⟩
theorem scread_snapshot : FnScope ["text", "lines", "head", "grants", "number", "line", "grant"] ["text"] (defScope sread_snapshot) := ⟨rfl, rfl, rfl, by decide +kernel, rfl, by decide +kernel, by decide +kernel⟩
abbrev sread_feed : Stmt := top 18
def dread_feed : He.DefD := ⟨("read_feed", none), "read_feed", "read_feed", defArgs sread_feed, defBody sread_feed, defScope sread_feed, [], []⟩
theorem scread_feed : FnScope ["text", "entries", "gained", "lost", "number", "line", "head", "fault"] ["text"] (defScope sread_feed) := ⟨rfl, rfl, rfl, by decide +kernel, rfl, by decide +kernel, by decide +kernel⟩
abbrev s_head_of : Stmt := top 19
def d_head_of : He.DefD := ⟨("_head_of", none), "_head_of", "_head_of", defArgs s_head_of, defBody s_head_of, defScope s_head_of, [], []⟩
theorem sc_head_of : FnScope ["word", "least", "line", "words", "revision"] ["word", "least", "line"] (defScope s_head_of) := ⟨rfl, rfl, rfl, by decide +kernel, rfl, by decide +kernel, by decide +kernel⟩
abbrev s_grant_of : Stmt := top 20
def d_grant_of : He.DefD := ⟨("_grant_of", none), "_grant_of", "_grant_of", defArgs s_grant_of, defBody s_grant_of, defScope s_grant_of, [], []⟩
theorem sc_grant_of : FnScope ["sign", "line", "words"] ["sign", "line"] (defScope s_grant_of) := ⟨rfl, rfl, rfl, by decide +kernel, rfl, by decide +kernel, by decide +kernel⟩
abbrev s_is_behind : Stmt := top 21
def d_is_behind : He.DefD := ⟨("_is_behind", none), "_is_behind", "_is_behind", defArgs s_is_behind, defBody s_is_behind, defScope s_is_behind, [], []⟩
theorem sc_is_behind : FnScope ["grant", "grants"] ["grant", "grants"] (defScope s_is_behind) := ⟨rfl, rfl, rfl, by decide +kernel, rfl, by decide +kernel, by decide +kernel⟩
abbrev s_fault_of : Stmt := top 22
def d_fault_of : He.DefD := ⟨("_fault_of", none), "_fault_of", "_fault_of", defArgs s_fault_of, defBody s_fault_of, defScope s_fault_of, [], []⟩
theorem sc_fault_of : FnScope ["gained", "lost", "line", "gain", "loss"] ["gained", "lost", "line"] (defScope s_fault_of) := ⟨rfl, rfl, rfl, by decide +kernel, rfl, by decide +kernel, by decide +kernel⟩
abbrev s_law_cell : Stmt := top 24
def d_law_cell : He.DefD := ⟨("_law_cell", none), "_law_cell", "_law_cell", defArgs s_law_cell, defBody s_law_cell, defScope s_law_cell, [], []⟩
theorem sc_law_cell : FnScope ["script", "k"] ["script", "k"] (defScope s_law_cell) := ⟨rfl, rfl, rfl, by decide +kernel, rfl, by decide +kernel, by decide +kernel⟩
abbrev s_law_draws : Stmt := top 25
def d_law_draws : He.DefD := ⟨("_law_draws", none), "_law_draws", "_law_draws", defArgs s_law_draws, defBody s_law_draws, defScope s_law_draws, [], []⟩
theorem sc_law_draws : FnScope ["cell", "count", "found", "is_wide", "k", "mixed"] ["cell", "count"] (defScope s_law_draws) := ⟨rfl, rfl, rfl, by decide +kernel, rfl, by decide +kernel, by decide +kernel⟩
abbrev s_law_same : Stmt := top 26
def d_law_same : He.DefD := ⟨("_law_same", none), "_law_same", "_law_same", defArgs s_law_same, defBody s_law_same, defScope s_law_same, [], []⟩
theorem sc_law_same : FnScope ["actual", "expected", "k"] ["actual", "expected"] (defScope s_law_same) := ⟨rfl, rfl, rfl, by decide +kernel, rfl, by decide +kernel, by decide +kernel⟩
abbrev s_law_grant : Stmt := top 27
def d_law_grant : He.DefD := ⟨("_law_grant", none), "_law_grant", "_law_grant", defArgs s_law_grant, defBody s_law_grant, defScope s_law_grant, [], []⟩
theorem sc_law_grant : FnScope ["draws"] ["draws"] (defScope s_law_grant) := ⟨rfl, rfl, rfl, by decide +kernel, rfl, by decide +kernel, by decide +kernel⟩
abbrev s_law_line : Stmt := top 28
def d_law_line : He.DefD := ⟨("_law_line", none), "_law_line", "_law_line", defArgs s_law_line, defBody s_law_line, defScope s_law_line, [], []⟩
theorem sc_law_line : FnScope ["cell", "word", "draws", "kind", "sign"] ["cell", "word"] (defScope s_law_line) := ⟨rfl, rfl, rfl, by decide +kernel, rfl, by decide +kernel, by decide +kernel⟩
abbrev s_law_head : Stmt := top 29
def d_law_head : He.DefD := ⟨("_law_head", none), "_law_head", "_law_head", defArgs s_law_head, defBody s_law_head, defScope s_law_head, [], []⟩
theorem sc_law_head : FnScope ["line", "word", "least", "parts", "number"] ["line", "word", "least"] (defScope s_law_head) := ⟨rfl, rfl, rfl, by decide +kernel, rfl, by decide +kernel, by decide +kernel⟩
abbrev s_law_read : Stmt := top 30
def d_law_read : He.DefD := ⟨("_law_read", none), "_law_read", "_law_read", defArgs s_law_read, defBody s_law_read, defScope s_law_read, [], []⟩
theorem sc_law_read : FnScope ["line", "parts"] ["line"] (defScope s_law_read) := ⟨rfl, rfl, rfl, by decide +kernel, rfl, by decide +kernel, by decide +kernel⟩
abbrev s_law_feed : Stmt := top 31
def d_law_feed : He.DefD := ⟨("_law_feed", none), "_law_feed", "_law_feed", defArgs s_law_feed, defBody s_law_feed, defScope s_law_feed, [], []⟩
theorem sc_law_feed : FnScope ["lines", "entries", "k", "head", "found", "grants"] ["lines"] (defScope s_law_feed) := ⟨rfl, rfl, rfl, by decide +kernel, rfl, by decide +kernel, by decide +kernel⟩
abbrev s_law_snapshot : Stmt := top 32
def d_law_snapshot : He.DefD := ⟨("_law_snapshot", none), "_law_snapshot", "_law_snapshot", defArgs s_law_snapshot, defBody s_law_snapshot, defScope s_law_snapshot, [], []⟩
theorem sc_law_snapshot : FnScope ["lines", "head", "grants", "k", "found"] ["lines"] (defScope s_law_snapshot) := ⟨rfl, rfl, rfl, by decide +kernel, rfl, by decide +kernel, by decide +kernel⟩
abbrev s_law_told : Stmt := top 33
def d_law_told : He.DefD := ⟨("_law_told", none), "_law_told", "_law_told", defArgs s_law_told, defBody s_law_told, defScope s_law_told, [], []⟩
theorem sc_law_told : FnScope ["text", "is_feed", "e"] ["text", "is_feed"] (defScope s_law_told) := ⟨rfl, rfl, rfl, by decide +kernel, rfl, by decide +kernel, by decide +kernel⟩
abbrev slaw : Stmt := top 34
def dlaw : He.DefD := ⟨("law", none), "law", "law", defArgs slaw, defBody slaw, defScope slaw, [], []⟩
theorem sclaw : FnScope ["script", "lines", "due", "told", "grants", "k"] ["script"] (defScope slaw) := ⟨rfl, rfl, rfl, by decide +kernel, rfl, by decide +kernel, by decide +kernel⟩
abbrev iBadSchema_init : Nat := 0
abbrev iBadFeed_init : Nat := 1
abbrev i_is_word : Nat := 2
abbrev iis_identifier : Nat := 3
abbrev iis_object : Nat := 4
abbrev iis_grant : Nat := 5
abbrev iread_revision : Nat := 6
abbrev iread_snapshot : Nat := 7
abbrev iread_feed : Nat := 8
abbrev i_head_of : Nat := 9
abbrev i_grant_of : Nat := 10
abbrev i_is_behind : Nat := 11
abbrev i_fault_of : Nat := 12
abbrev i_law_cell : Nat := 13
abbrev i_law_draws : Nat := 14
abbrev i_law_same : Nat := 15
abbrev i_law_grant : Nat := 16
abbrev i_law_line : Nat := 17
abbrev i_law_head : Nat := 18
abbrev i_law_read : Nat := 19
abbrev i_law_feed : Nat := 20
abbrev i_law_snapshot : Nat := 21
abbrev i_law_told : Nat := 22
abbrev ilaw : Nat := 23
def NN : Names := {
  glos := ["AuthError", "BadSchema", "BadFeed", "_is_word", "is_identifier", "is_object", "is_grant", "read_revision", "read_snapshot", "read_feed", "_head_of", "_grant_of", "_is_behind", "_fault_of", "_law_cell", "_law_draws", "_law_same", "_law_grant", "_law_line", "_law_head", "_law_read", "_law_feed", "_law_snapshot", "_law_told", "law"],
  frees := ["ValueError", "all", "bool", "enumerate", "int", "isinstance", "len", "list", "range", "sorted", "str", "tuple"],
  txts := [("LETTERS", "abcdefghijklmnopqrstuvwxyz"), ("DIGITS", "0123456789"), ("WORD_SIGNS", "abcdefghijklmnopqrstuvwxyz0123456789_")],
  nums := [("WORD_LIMIT", 20), ("GREATEST_REVISION", 1000), ("REVISION_DIGITS", 4)],
  fn := [dBadSchema_init, dBadFeed_init, d_is_word, dis_identifier, dis_object, dis_grant, dread_revision, dread_snapshot, dread_feed, d_head_of, d_grant_of, d_is_behind, d_fault_of, d_law_cell, d_law_draws, d_law_same, d_law_grant, d_law_line, d_law_head, d_law_read, d_law_feed, d_law_snapshot, d_law_told, dlaw],
  tf := [("_is_word", none), ("read_revision", none)] }
end A9

set_option Elab.async false
set_option linter.all false
set_option maxRecDepth 100000
set_option maxHeartbeats 4000000
namespace A9
open PySem PySem.Spec PyProof.Rows L2 AS
/-! ### the mathematics of names -/
theorem iteB {b : Bool} {A B : Prop} (h1 : b = true → A) (h2 : b = false → B) : if b = true then A else B := by
  cases b with
  | true => exact iteT (h1 rfl)
  | false => exact iteF (h2 rfl)
theorem toBl {Q : VK} {b b' : Bool} {H : Hp} (e : b = b') (h : Q (.bl b') H) : Q (.bl b) H := by
  rw [e]
  exact h
abbrev tl (x : Str) : List Nat := x.cps.toList
def lettersS : Str := "abcdefghijklmnopqrstuvwxyz"
def digitsS : Str := "0123456789"
def signsS : Str := "abcdefghijklmnopqrstuvwxyz0123456789_"
def isWord (z : Str) : Bool := decide (1 ≤ z.length) && (decide (z.length ≤ 20) && (tl z).all fun c => decide (c ∈ tl signsS))
def headIn (z a : Str) : Bool := match tl z with
  | c :: _ => decide (c ∈ tl a)
  | [] => false
def isIdent (z : Str) : Bool := isWord z && headIn z lettersS
section
variable {P : Program} {w : World} {K : PySem.W.Frag} {mg : Str → Option Value} {base : Heap}
abbrev D (P : Program) (w : World) (K : PySem.W.Frag) (mg : Str → Option Value) (base : Heap) (k : Nat) (x : Str) (ps : List Str) (sp : Sp) : Prop := DOk P w K mg base CX0 k x ps sp
theorem ok_is_word (T : Top NN K mg base) : D P w K mg base 1 "_is_word" ["text"] (sp1 K NN.tf fun z => .bl (isWord z)) := by
  refine T.ok0 (d := d_is_word) i_is_word rfl rfl rfl rfl (by decide +kernel) sc_is_word (fun _ _ _ _ _ _ us hl => match us, hl with | [_], _ => rfl) sp1_len (fun cdv A outer s H vs Q E ec hr h => ?_)
  obtain ⟨z, rfl, hz, hT, q⟩ := h
  obtain ⟨t1, m1⟩ := T.i ("WORD_LIMIT", 20) (by decide +kernel)
  obtain ⟨t2, m2⟩ := T.s ("WORD_SIGNS", signsS) (by decide +kernel)
  have nl := T.f "len" (by decide +kernel)
  have na := T.f "all" (by decide +kernel)
  refine ⟨_, pss_one (ps_ret (pe_and (pe_chain op_le op_le pe_int (pe_callB call_len_str (by rfl) nl PySem.boot_len (pa_cons (pv 0) pa_nil)) (pe_glob (v := .int 20) rfl m1 ⟨_, rfl⟩))
    (pe_one (pe_allM (P := (He.cT K ("_is_word", none)).2) hr rfl na (T.tb ("_is_word", none) (by decide +kernel)) ec
      (gs_mk rfl rfl (by decide +kernel) rfl rfl (by decide +kernel)) (pv 0) (elt_in rfl rfl rfl m2) (fun _ => rfl))))), ?_⟩
  refine ⟨.str z, rfl, z, rfl, hz, 1, z.length, rfl, rfl, decide (1 ≤ (z.length : Int)), rfl, ?_⟩
  have e1 : decide (1 ≤ (z.length : Int)) = decide (1 ≤ z.length) := decide_eq_decide.mpr (by omega)
  have e2 : decide ((z.length : Int) ≤ 20) = decide (z.length ≤ 20) := decide_eq_decide.mpr (by omega)
  have fin : ∀ b, isWord z = b → Q (.bl b) H := fun b e => by
    rw [← e]
    exact q H (Sm.refl H)
  refine iteB (fun h1 => ?_) fun h1 => ?_
  · rw [e1] at h1
    refine ⟨z.length, 20, rfl, rfl, decide ((z.length : Int) ≤ 20), rfl, iteB (fun h2 => ?_) fun h2 => ?_⟩
    · rw [e2] at h2
      refine ⟨.str z, rfl, z, rfl, hT _ (by decide +kernel), fun H2 tb => ?_⟩
      have e3 : isWord z = (tl z).all fun c => decide (c ∈ tl signsS) := by
        unfold isWord
        rw [h1, h2]
        rfl
      rw [show (z.cps.toList.all fun c => decide (c ∈ tl signsS)) = isWord z from e3.symm]
      exact q H2 (Sm.tabbed (hT _ (by decide +kernel)) tb)
    · rw [e2] at h2
      exact fin _ (by unfold isWord; rw [h2, Bool.false_and, Bool.and_false])
  · rw [e1] at h1
    exact ⟨false, rfl, iteF (fin _ (by unfold isWord; rw [h1]; rfl))⟩
theorem ok_is_identifier (T : Top NN K mg base) : D P w K mg base 2 "is_identifier" ["text"] (sp1 K NN.tf fun z => .bl (isIdent z)) := by
  refine T.ok0 (d := dis_identifier) iis_identifier rfl rfl rfl rfl (by decide +kernel) scis_identifier (fun _ _ _ _ _ _ us hl => match us, hl with | [_], _ => rfl) sp1_len (fun cdv A outer s H vs Q E ec hr h => ?_)
  obtain ⟨z, rfl, hz, hT, q⟩ := h
  obtain ⟨t2, m2⟩ := T.s ("LETTERS", lettersS) (by decide +kernel)
  have G := ok_is_word (P := P) (w := w) T
  refine ⟨_, pss_one (ps_ret (pe_and (pe_callD G hr (pa_cons (pv 0) pa_nil)) (pe_one (pe_cmpR op_in_sign (pe_ix ix_str (pv 0) pe_int (fun _ _ => rfl)) (pe_glob (v := .str lettersS) rfl m2 ⟨_, rfl⟩) rfl)))), ?_⟩
  refine ⟨.str z, rfl, z, rfl, hz, hT, fun H1 s1 => ⟨isWord z, rfl, iteB (fun h1 => ?_) fun h1 => ?_⟩⟩
  · have h2 := h1
    unfold isWord at h2
    simp only [Bool.and_eq_true, decide_eq_true_eq] at h2
    obtain ⟨h3, _⟩ := h2
    cases e : tl z with
    | nil =>
      have e2 : z.length = (tl z).length := by simp [Str.length]
      rw [e] at e2
      rw [e2] at h3
      exact absurd h3 (by decide)
    | cons c r =>
      refine ⟨.str z, rfl, z, 0, c, rfl, rfl, hz, atI_nat (j := 0) (by show (tl z)[0]? = _; rw [e]; rfl), c, lettersS, rfl, rfl, ?_⟩
      have e3 : isIdent z = decide (c ∈ tl lettersS) := by
        unfold isIdent headIn
        rw [h1, e]
        rfl
      rw [show decide (c ∈ lettersS.cps.toList) = isIdent z from e3.symm]
      exact q H1 s1
  · have e3 : isIdent z = false := by
      unfold isIdent
      rw [h1]
      rfl
    rw [← e3]
    exact q H1 s1
/-! ### partition -/
abbrev colon : Str := ":"
abbrev hash : Str := "#"
abbrev atS : Str := "@"
theorem part_len (z y : Str) : (Txt.partition z y).1.length ≤ z.length ∧ (Txt.partition z y).2.1.length ≤ z.length ∧ (Txt.partition z y).2.2.length ≤ z.length := fact_partition z y
def isObj (z : Str) : Bool := isIdent (Txt.partition z colon).1 && isWord (Txt.partition z colon).2.2
def isRef (z : Str) : Bool := isObj (Txt.partition z hash).1 && (decide ((Txt.partition z hash).2.1 = Str.empty) || isIdent (Txt.partition z hash).2.2)
theorem ok_is_object (T : Top NN K mg base) : D P w K mg base 3 "is_object" ["text"] (sp1 K NN.tf fun z => .bl (isObj z)) := by
  refine T.ok0 (d := dis_object) iis_object rfl rfl rfl rfl (by decide +kernel) scis_object (fun _ _ _ _ _ _ us hl => match us, hl with | [_], _ => rfl) sp1_len (fun cdv A outer s H vs Q E ec hr h => ?_)
  obtain ⟨z, rfl, hz, hT, q⟩ := h
  have G1 := ok_is_identifier (P := P) (w := w) T
  have G2 := (ok_is_word (P := P) (w := w) T).mono (show 1 ≤ 2 by decide)
  obtain ⟨l1, l2, l3⟩ := part_len z colon
  refine ⟨_, pss_cons (ps_asg (pe_partition (pv 0) pe_str) (pg_tup (by rfl) (pgs_cons (pg_name (i := 1) scis_object.nd rfl (.inl rfl)) (pgs_cons (pg_name (i := 2) scis_object.nd rfl (.inl rfl)) (pgs_cons (pg_name (i := 3) scis_object.nd rfl (.inl rfl)) pgs_nil)))))
    (pss_one (ps_ret (pe_and (pe_callD G1 hr (pa_cons (pv 1) pa_nil)) (pe_one (pe_callD G2 hr (pa_cons (pv 3) pa_nil)))))), ?_⟩
  refine ⟨.str z, rfl, ⟨_, rfl⟩, z, colon, rfl, rfl, by decide +kernel, hz, fun p np => ?_⟩
  refine ⟨p, _, rfl, .inl (.inl upd_same), rfl, _, _, rfl, _, _, rfl, _, _, rfl, rfl, ?_⟩
  have s0 := Sm.new (o := .tup [.str (Txt.partition z colon).1, .str (Txt.partition z colon).2.1, .str (Txt.partition z colon).2.2]) np
  refine ⟨.str (Txt.partition z colon).1, rfl, _, rfl, Nat.le_trans l1 hz, s0.tabs hT, fun H1 s1 => ⟨_, rfl, iteB (fun h1 => ?_) fun h1 => ?_⟩⟩
  · refine ⟨.str (Txt.partition z colon).2.2, rfl, _, rfl, Nat.le_trans l3 hz, (s0.trans s1).tabs hT, fun H2 s2 => ?_⟩
    have e : isWord (Txt.partition z colon).2.2 = isObj z := by
      unfold isObj
      rw [h1, Bool.true_and]
    exact toBl e (q H2 ((s0.trans s1).trans s2))
  · have e : isObj z = false := by
      unfold isObj
      rw [h1, Bool.false_and]
    rw [← e]
    exact q H1 (s0.trans s1)
/-- a promise: one text, a new pair of texts -/
def spPair (K : PySem.W.Frag) (tf : List He.Defn) (f : Str → Str × Str) : Sp := fun vs H Q _ => ∃ z : Str, vs = [.str z] ∧ z.length ≤ sizeLine ∧ Tabs K tf H ∧ ∀ H' p, Sm H H' → H p = none → H' p = some (.tup [.str (f z).1, .str (f z).2]) → Q (.ref p) H'
theorem spPair_len {K : PySem.W.Frag} {tf : List He.Defn} {f : Str → Str × Str} {x : Str} : ∀ vs H Q E, spPair K tf f vs H Q E → vs.length = [x].length := fun vs H Q E h => by
  obtain ⟨z, rfl, _⟩ := h
  rfl
end
end A9

set_option Elab.async false
set_option linter.all false
set_option maxRecDepth 100000
set_option maxHeartbeats 4000000
namespace A9
open PySem PySem.Spec PyProof.Rows L2 AS
/-! ### revisions and tokens -/
def allDig (z : Str) : Bool := (tl z).all fun c => decide (c ∈ tl digitsS)
def zeroHead (z : Str) : Bool := match tl z with
  | c :: _ => decide (c = 48)
  | [] => false
def zeroS : Str := "0"
def readRev (z : Str) : Option Nat :=
  if (decide (1 ≤ z.length) && decide (z.length ≤ 4) && allDig z) = true then
    if (zeroHead z && !decide (z = zeroS)) = true then none else
      if NumText.digitsVal (tl z) ≤ 1000 then some (NumText.digitsVal (tl z)) else none
  else none
def revV : Option Nat → V
  | some n => .int n
  | none => .non
def splitTok (z : Str) : Option (Str × Nat) := match readRev (Txt.partition z atS).2.2 with
  | none => none
  | some n => if isIdent (Txt.partition z atS).1 = true then some ((Txt.partition z atS).1, n) else none
def tokS (s : Str) (n : Int) : Str := s ++ atS ++ toString n
theorem digits_tl : tl digitsS = [48, 49, 50, 51, 52, 53, 54, 55, 56, 57] := by decide +kernel
theorem allDig_digits {z : Str} (h : allDig z = true) : NumText.AllDigits (tl z) := fun c hc => by
  have h1 := of_decide_eq_true (List.all_eq_true.mp h c hc)
  rw [digits_tl] at h1
  simp only [List.mem_cons, List.not_mem_nil, or_false] at h1
  omega
theorem log2_small {n : Nat} (h : n < 2 ^ 64) : n.log2 < 1920 := by
  by_cases h0 : n = 0
  · subst h0
    decide
  · have h1 : n.log2 < 64 := (Nat.log2_lt h0).mpr h
    omega
theorem toZ {Q : VK} {v v' : V} {H : Hp} (e : v = v') (h : Q v' H) : Q v H := by
  rw [e]
  exact h
theorem len_tl (z : Str) : z.length = (tl z).length := by simp [Str.length]
section
variable {P : Program} {w : World} {K : PySem.W.Frag} {mg : Str → Option Value} {base : Heap}
theorem ok_read_revision (T : Top NN K mg base) : D P w K mg base 1 "read_revision" ["text"] (sp1 K NN.tf fun z => revV (readRev z)) := by
  refine T.ok0 (d := dread_revision) iread_revision rfl rfl rfl rfl (by decide +kernel) scread_revision (fun _ _ _ _ _ _ us hl => match us, hl with | [_], _ => rfl) sp1_len (fun cdv A outer s H vs Q E ec hr h => ?_)
  obtain ⟨z, rfl, hz, hT, q⟩ := h
  obtain ⟨t1, m1⟩ := T.i ("REVISION_DIGITS", 4) (by decide +kernel)
  obtain ⟨t2, m2⟩ := T.s ("DIGITS", digitsS) (by decide +kernel)
  obtain ⟨t3, m3⟩ := T.i ("GREATEST_REVISION", 1000) (by decide +kernel)
  have nl := T.f "len" (by decide +kernel)
  have na := T.f "all" (by decide +kernel)
  have ni := T.f "int" (by decide +kernel)
  have mP : GxR.TabG H (He.cT K ("read_revision", none)).2 := hT _ (by decide +kernel)
  refine ⟨_, pss_cons (ps_if (PW.pt (pw_or (pt_not (pt_chain op_le op_le pe_int (pe_callB call_len_str (by rfl) nl PySem.boot_len (pa_cons (pv 0) pa_nil)) (pe_glob (v := .int 4) rfl m1 ⟨_, rfl⟩)))
      (pw_or1 (pt_not (pt_val (pe_allM (P := (He.cT K ("read_revision", none)).2) hr rfl na (T.tb ("read_revision", none) (by decide +kernel)) ec
        (gs_mk rfl rfl (by decide +kernel) rfl rfl (by decide +kernel)) (pv 0) (elt_in rfl rfl rfl m2) (fun _ => rfl))))))) (pss_one (ps_ret pe_non)) pss_nil)
    (pss_cons (ps_if (PW.pt (pw_and (pt_cmpR op_eq (pe_ix ix_str (pv 0) pe_int (fun _ _ => rfl)) pe_str (nomark _)) (pw_and1 (pt_cmpR op_ne (pv 0) pe_str (nomark _))))) (pss_one (ps_ret pe_non)) pss_nil)
    (pss_cons (ps_set (i := 1) scread_revision.nd rfl (.inl rfl) (pe_callTy call_int_str (by rfl) ni (by decide +kernel) (pa_cons (pv 0) pa_nil)))
    (pss_one (ps_ret (pe_ifExp (pt_cmpR op_le (pv 1) (pe_glob (v := .int 1000) rfl m3 ⟨_, rfl⟩) (nomark _)) (pv 1) pe_non))))), ?_⟩
  refine ⟨.str z, rfl, z, rfl, hz, 1, z.length, rfl, rfl, decide (1 ≤ (z.length : Int)), rfl, ?_⟩
  have e1 : decide (1 ≤ (z.length : Int)) = decide (1 ≤ z.length) := decide_eq_decide.mpr (by omega)
  have e2 : decide ((z.length : Int) ≤ 4) = decide (z.length ≤ 4) := decide_eq_decide.mpr (by omega)
  have bad : (decide (1 ≤ z.length) && decide (z.length ≤ 4) && allDig z) = false → readRev z = none := fun e => by
    unfold readRev
    rw [e]
    exact if_neg Bool.false_ne_true
  refine iteB (fun h1 => ?_) fun h1 => ?_
  · rw [e1] at h1
    refine ⟨z.length, 4, rfl, rfl, decide ((z.length : Int) ≤ 4), rfl, ?_⟩
    show if (!decide ((z.length : Int) ≤ 4)) = true then _ else _
    rw [e2]
    refine iteB (fun h2 => ?_) fun h2 => ?_
    · have h3 : decide (z.length ≤ 4) = false := by
        rw [Bool.not_eq_true'] at h2
        exact h2
      exact iteT (toZ (v' := revV (readRev z)) (by rw [bad (by rw [h3, Bool.and_false, Bool.false_and])]; rfl) (q H (Sm.refl H)))
    · have h3 : decide (z.length ≤ 4) = true := by
        rw [Bool.not_eq_false'] at h2
        exact h2
      refine ⟨.str z, rfl, z, rfl, mP, fun H2 tb => ⟨_, rfl, ?_⟩⟩
      have s1 : Sm H H2 := Sm.tabbed mP tb
      show if (!allDig z) = true then _ else _
      refine iteB (fun h4 => ?_) fun h4 => ?_
      · have h5 : allDig z = false := by
          rw [Bool.not_eq_true'] at h4
          exact h4
        exact toZ (v' := revV (readRev z)) (by rw [bad (by rw [h5, Bool.and_false])]; rfl) (q H2 s1)
      · have h5 : allDig z = true := by
          rw [Bool.not_eq_false'] at h4
          exact h4
        have good : (decide (1 ≤ z.length) && decide (z.length ≤ 4) && allDig z) = true := by
          rw [h1, h3, h5]
          rfl
        have h6 : 1 ≤ z.length := of_decide_eq_true h1
        have h7 : z.length ≤ 4 := of_decide_eq_true h3
        obtain ⟨c, r, ez⟩ : ∃ c r, tl z = c :: r := by
          cases e : tl z with
          | nil =>
            rw [len_tl, e] at h6
            exact absurd h6 (by decide)
          | cons c r => exact ⟨c, r, rfl⟩
        -- if text[0] == '0' and text != '0'
        refine ⟨.str z, rfl, z, 0, c, rfl, rfl, hz, atI_nat (j := 0) (by show (tl z)[0]? = _; rw [ez]; rfl), rfl, _, rfl, ?_⟩
        have ec0 : decide (V.str (⟨#[c]⟩ : Str) = V.str zeroS) = zeroHead z := by
          unfold zeroHead
          rw [ez]
          show decide (V.str (⟨#[c]⟩ : Str) = V.str zeroS) = decide (c = 48)
          refine decide_eq_decide.mpr ⟨fun e => ?_, fun e => by rw [e]; rfl⟩
          have e9 := congrArg (fun y : Str => y.cps.toList) (V.str.inj e)
          have e10 : [c] = [48] := e9
          exact List.head_eq_of_cons_eq e10
        have go : (zeroHead z && !decide (z = zeroS)) = true → readRev z = none := fun e => by
          unfold readRev
          rw [if_pos good, if_pos e]
        have rest : (zeroHead z && !decide (z = zeroS)) = false → readRev z = if NumText.digitsVal (tl z) ≤ 1000 then some (NumText.digitsVal (tl z)) else none := fun e => by
          unfold readRev
          rw [if_pos good, if_neg (by rw [e]; exact Bool.false_ne_true)]
        have tail : readRev z = (if NumText.digitsVal (tl z) ≤ 1000 then some (NumText.digitsVal (tl z)) else none) →
            (tSeq (tAsg (tCB (fun xs H Q => ∃ a n, xs = [.str a] ∧ PySem.intText? a = some n ∧ a.length ≤ 640 ∧ Q (.int n) H) (tCons (tVar 0) tNil)) (gName 1)) (tRet (tIf (tTest (tOp (rI0 fun i j => .bl (decide (i ≤ j))) (tVar 1) (tC (.int 1000)))) (tVar 1) (tC .non)))) { nx := fun _ H' => Q .non H', rt := Q } (start ["text", "revision"] [.str z]) H2 := fun e => by
          have hv := intText_digits (x := z) (allDig_digits h5) (by show tl z ≠ []; rw [ez]; simp) (by omega)
          refine ⟨.str z, rfl, z, _, rfl, hv, by omega, ?_⟩
          refine ⟨_, rfl, _, 1000, rfl, rfl, _, rfl, iteB (fun g => ?_) fun g => ?_⟩
          · have g1 := of_decide_eq_true g
            refine ⟨_, rfl, toZ (v' := revV (readRev z)) ?_ (q H2 s1)⟩
            rw [e, if_pos (by exact Int.ofNat_le.mp g1)]
            rfl
          · have g1 := of_decide_eq_false g
            refine toZ (v' := revV (readRev z)) ?_ (q H2 s1)
            rw [e, if_neg (by intro z2; exact g1 (Int.ofNat_le.mpr z2))]
            rfl
        show if decide (V.str (⟨#[c]⟩ : Str) = V.str zeroS) = true then _ else _
        rw [ec0]
        refine iteB (fun g => ?_) fun g => ?_
        · refine ⟨.str z, rfl, rfl, _, rfl, ?_⟩
          have ez0 : decide (V.str z = V.str zeroS) = decide (z = zeroS) := decide_eq_decide.mpr ⟨V.str.inj, fun e => by rw [e]⟩
          show if (!decide (V.str z = V.str zeroS)) = true then _ else _
          rw [ez0]
          refine iteB (fun g2 => ?_) fun g2 => ?_
          · exact toZ (v' := revV (readRev z)) (by rw [go (by rw [g, g2]; rfl)]; rfl) (q H2 s1)
          · exact tail (rest (by rw [g2, Bool.and_false]))
        · exact iteF (tail (rest (by rw [g, Bool.false_and])))
  · rw [e1] at h1
    exact ⟨false, rfl, iteT (iteT (toZ (v' := revV (readRev z)) (by rw [bad (by rw [h1]; rfl)]; rfl) (q H (Sm.refl H))))⟩
/-- a promise: a text and a number, their token -/
def spTok (K : PySem.W.Frag) (tf : List He.Defn) : Sp := fun vs H Q _ => ∃ (z : Str) (n : Nat), vs = [.str z, .int n] ∧ z.length ≤ 100000 ∧ n ≤ 1000000 ∧ Q (.str (tokS z n)) H
theorem num_len {n : Nat} (h : n ≤ 1000000) : (toString (n : Int) : Str).length ≤ 7 := by
  have z := PyProof.Rows.toString_length_le (v := (n : Int)) (by omega) (show 0 < 7 by decide) (by omega)
  exact z
end
end A9

set_option Elab.async false
set_option linter.all false
set_option maxRecDepth 100000
set_option maxHeartbeats 4000000
namespace A9
open PySem PySem.Spec PyProof.Rows L2 AS
section
variable {P : Program} {w : World} {K : PySem.W.Frag} {mg : Str → Option Value} {base : Heap}
/-- a promise: one text, None or a new pair of a text and a number -/
def spTokSplit (K : PySem.W.Frag) (tf : List He.Defn) : Sp := fun vs H Q _ => ∃ z : Str, vs = [.str z] ∧ z.length ≤ sizeLine ∧ Tabs K tf H ∧
  (splitTok z = none → ∀ H', Sm H H' → Q .non H') ∧ ∀ a n, splitTok z = some (a, n) → ∀ H' p, Sm H H' → H p = none → H' p = some (.tup [.str a, .int (n : Nat)]) → Q (.ref p) H'
/-! ### the law's cells and draws -/
def spCell (K : PySem.W.Frag) : Sp := fun vs H Q _ => ∃ (a : Addr) (ns : List Int) (k : Nat), vs = [.ref a, .int k] ∧ SqL K H a (ns.map V.int) ∧ ns.length ≤ 63 ∧ Q (.int (ns.getD k 0)) H
theorem ok_law_cell (T : Top NN K mg base) : D P w K mg base 1 "_law_cell" ["script", "k"] (spCell K) := by
  refine T.ok0 (d := d_law_cell) i_law_cell rfl rfl rfl rfl (by decide +kernel) sc_law_cell (fun _ _ _ _ _ _ us hl => match us, hl with | [_, _], _ => rfl) (fun vs H Q E h => ?_) (fun cdv A outer s H vs Q E ec hr h => ?_)
  · obtain ⟨a, ns, k, rfl, _⟩ := h
    rfl
  · obtain ⟨a, ns, k, rfl, hS, hl, q⟩ := h
    have nl := T.f "len" (by decide +kernel)
    refine ⟨_, pss_cons (ps_if (pt_cmpR op_lt (pv 1) (pe_callB call_len_seq (by rfl) nl PySem.boot_len (pa_cons (pv 0) pa_nil)) (nomark _)) (pss_one (ps_ret (pe_ix ix_list (pv 0) (pv 1) (fun _ _ => rfl)))) pss_nil)
      (pss_one (ps_ret pe_int)), ?_⟩
    refine ⟨_, rfl, .ref a, rfl, a, _, rfl, .inl hS, k, _, rfl, rfl, _, rfl, iteB (fun h => ?_) fun h => ?_⟩
    · have h1 : (k : Int) < ((ns.map V.int).length : Int) := of_decide_eq_true h
      rw [List.length_map] at h1
      have h2 : k < ns.length := by omega
      refine ⟨.ref a, rfl, .int k, rfl, a, _, k, .int (ns.getD k 0), rfl, rfl, hS, atI_nat (j := k) ?_, q⟩
      rw [List.getElem?_map, List.getElem?_eq_getElem h2, List.getD_eq_getElem?_getD, List.getElem?_eq_getElem h2]
      rfl
    · have h1 : ¬ (k : Int) < ((ns.map V.int).length : Int) := of_decide_eq_false h
      rw [List.length_map] at h1
      have h2 : ns.length ≤ k := by omega
      have e : ns.getD k 0 = 0 := by rw [List.getD_eq_getElem?_getD, List.getElem?_eq_none h2]; rfl
      rw [e] at q
      exact q
def mixed (c : Int) (k : Nat) : Int := (c * 48271 + (0 + (k : Int)) * 69621) % 2147483647
/-- a promise: a cell and a count; a new list of so many numbers from 0 on, below 1000003 -/
def Drawn3 (n : Nat) (ds : List Int) : Prop := ds.length = n ∧ ∀ d ∈ ds, 0 ≤ d ∧ d < 1000003
def spDraws : Sp := fun vs H Q _ => ∃ (c : Int) (n : Nat), vs = [.int c, .int n] ∧ n ≤ 100 ∧ ∀ H' p ds, Drawn3 n ds → Sm H H' → H p = none → H' p = some (.lst (ds.map V.int)) → Q (.ref p) H'
theorem ok_law_draws (T : Top NN K mg base) : D P w K mg base 1 "_law_draws" ["cell", "count"] spDraws := by
  refine T.ok0 (d := d_law_draws) i_law_draws rfl rfl rfl rfl (by decide +kernel) sc_law_draws (fun _ _ _ _ _ _ us hl => match us, hl with | [_, _], _ => rfl) (fun vs H Q E h => ?_) (fun cdv A outer s H vs Q E ec hr h => ?_)
  · obtain ⟨a, k, rfl, _⟩ := h
    rfl
  · obtain ⟨c, n, rfl, hn, q⟩ := h
    have nr := T.f "range" (by decide +kernel)
    have ni := T.f "int" (by decide +kernel)
    refine ⟨_, pss_cons (ps_set (i := 2) sc_law_draws.nd rfl (.inl rfl) (pe_lst pa_nil))
      (pss_cons (ps_set (i := 3) sc_law_draws.nd rfl (.inl rfl) (pe_cmpR op_ge (pv 0) (pe_op op_pow pe_int pe_int) (nomark _)))
      (pss_cons (ps_for PassesOwn.never rfl (pi_range1 rfl nr (pa_cons (pv 1) pa_nil)) (pg_name (i := 4) sc_law_draws.nd rfl (.inl rfl))
        (pss_one (ps_if (pt_val (pv 3))
          (pss_cons (ps_expr (pe_bm PySem.F.plainAttrs_list PySem.F.slot_list_append PySem.F.type_list_append mt_append (pv 2) (pa_cons (pe_op op_mod (pe_callTy call_int1 (by rfl) ni (by decide +kernel) (pa_cons (pv 0) pa_nil)) pe_int) pa_nil)))
            (pss_one (ps_set (i := 0) sc_law_draws.nd rfl (.inl rfl) (pe_op op_fdivN (pv 0) pe_int))))
          (pss_cons (ps_set (i := 5) sc_law_draws.nd rfl (.inl rfl) (pe_op op_mod (pe_callTy call_int1 (by rfl) ni (by decide +kernel) (pa_cons (pe_op op_add (pe_op op_mul (pv 0) pe_int) (pe_op op_mul (pv 4) pe_int)) pa_nil)) pe_int))
            (pss_one (ps_expr (pe_bm PySem.F.plainAttrs_list PySem.F.slot_list_append PySem.F.type_list_append mt_append (pv 2) (pa_cons (pe_op op_mod (pe_callTy call_int1 (by rfl) ni (by decide +kernel) (pa_cons (pe_op op_add (pe_op op_add (pe_op op_mul (pv 5) (pv 5)) (pe_op op_mul (pv 0) pe_int)) (pv 4)) pa_nil)) pe_int) pa_nil))))))))
      (pss_one (ps_ret (pv 2))))), ?_⟩
    refine ⟨Nat.zero_le _, fun o no => ?_⟩
    refine ⟨_, rfl, 10, 18, rfl, rfl, ⟨by decide, by decide, by decide⟩, c, _, rfl, rfl, ?_⟩
    refine ⟨_, rfl, n, rfl, by omega, by omega, for_range (n := (n : Int).toNat) (fun i σ H' => ∃ (c' : Int) (y4 y5 : Option V) (wd : Bool) (ds : List Int), σ = [some (.int c'), some (.int n), some (.ref o), some (.bl wd), y4, y5] ∧ Drawn3 i ds ∧ Sm H H' ∧ H' o = some (.lst (ds.map V.int)))
      ⟨c, none, none, _, [], rfl, ⟨rfl, fun d hd => nomatch hd⟩, Sm.new no, upd_same⟩ (fun i σ H' hi hP => ?_) fun σ H' hP => ?_⟩
    · obtain ⟨c', y4, y5, wd, ds, rfl, ⟨dl, db⟩, sm, eo⟩ := hP
      have hlt : (ds.map V.int).length < sizeLine := by
        rw [List.length_map, dl]
        exact small1000 (by omega)
      have ex : ∀ e : Int, (0 ≤ e ∧ e < 1000003) → Drawn3 (i + 1) (ds ++ [e]) := fun e he => ⟨by rw [List.length_append, dl]; rfl, fun d hd => by
        rcases List.mem_append.mp hd with h | h
        · exact db d h
        · rw [List.mem_singleton.mp h]
          exact he⟩
      have em : ∀ e : Int, (ds.map V.int) ++ [.int e] = (ds ++ [e]).map V.int := fun e => by rw [List.map_append]; rfl
      have rd : ∀ b : Int, 0 ≤ b % 1000003 ∧ b % 1000003 < 1000003 := fun b => ⟨Int.emod_nonneg b (by decide), Int.emod_lt_of_pos b (by decide)⟩
      refine ⟨_, rfl, wd, rfl, iteB (fun h => ?_) fun h => ?_⟩
      · refine ⟨.ref o, rfl, .inl ⟨rfl, _, .inl (.inl eo)⟩, .int c', rfl, .inl ⟨c', rfl, ?_⟩⟩
        refine ⟨c', 1009, rfl, rfl, by show (0 : Int) < 1009; decide, o, _, _, rfl, rfl, eo, hlt, ?_⟩
        refine ⟨.int c', rfl, c', 1009, rfl, rfl, ⟨by decide, by decide⟩, ?_⟩
        have r1 : 0 ≤ c' % 1009 ∧ c' % 1009 < 1000003 := ⟨Int.emod_nonneg c' (by decide), by have := Int.emod_lt_of_pos c' (show (0 : Int) < 1009 by decide); omega⟩
        refine ⟨_, _, _, _, ds ++ [c' % 1009], rfl, ex _ r1, sm.put no, ?_⟩
        rw [← em]
        exact upd_same
      · refine ⟨.int c', rfl, c', 48271, rfl, rfl, .inr ⟨by decide, by decide⟩, .int (0 + i), rfl, _, 69621, rfl, rfl, .inr ⟨by decide, by decide⟩, _, _, rfl, rfl, .inl ⟨_, rfl, _, 2147483647, rfl, rfl, by show (0 : Int) < 2147483647; decide, ?_⟩⟩
        have m1 : 0 ≤ mixed c' i := Int.emod_nonneg _ (by decide)
        have m2 : mixed c' i < 2147483647 := Int.emod_lt_of_pos _ (by decide)
        refine ⟨.ref o, rfl, .inl ⟨rfl, _, .inl (.inl eo)⟩, .int (mixed c' i), rfl, .int (mixed c' i), rfl, mixed c' i, mixed c' i, rfl, rfl, .inl ⟨by omega, by omega⟩, .int c', rfl, c', 31, rfl, rfl, .inr ⟨by decide, by decide⟩, _, _, rfl, rfl, .int (0 + i), rfl, _, _, rfl, rfl,
          .inl ⟨_, rfl, _, 1000003, rfl, rfl, by show (0 : Int) < 1000003; decide, o, _, _, rfl, rfl, eo, hlt, ?_⟩⟩
        refine ⟨_, _, _, _, ds ++ [(mixed c' i * mixed c' i + c' * 31 + (0 + (i : Int))) % 1000003], rfl, ex _ (rd _), sm.put no, ?_⟩
        rw [← em]
        exact upd_same
    · obtain ⟨c', y4, y5, wd, ds, rfl, hd, sm, eo⟩ := hP
      have e : (n : Int).toNat = n := by omega
      rw [e] at hd
      exact ⟨_, rfl, q H' o ds hd sm no eo⟩
end
end A9

set_option Elab.async false
set_option linter.all false
set_option maxRecDepth 100000
set_option maxHeartbeats 4000000
namespace A9
open PySem PySem.Spec PyProof.Rows L2 AS
/-! ### _law_same of equal data -/
def EqD (H : Hp) : Nat → V → V → Prop
  | 0, _, _ => False
  | d + 1, x, y => (x = y ∧ ((∃ z, x = .str z) ∨ (∃ i, x = .int i) ∨ x = .non ∨ ∃ b, x = .bl b)) ∨
      ∃ (a b : Addr) (xs ys : List V), x = .ref a ∧ y = .ref b ∧ H a = some (.tup xs) ∧ H b = some (.tup ys) ∧ xs.length = ys.length ∧ ys.length ≤ 1000 ∧ ∀ (i : Nat) (u v : V), xs[i]? = some u → ys[i]? = some v → EqD H d u v
def spSame (d : Nat) : Sp := fun vs H Q _ => ∃ x y, vs = [x, y] ∧ EqD H d x y ∧ Q (.bl true) H
section
variable {P : Program} {w : World} {K : PySem.W.Frag} {mg : Str → Option Value} {base : Heap}
theorem spSame_len {d : Nat} : ∀ vs H Q E, spSame d vs H Q E → vs.length = [("actual" : Str), "expected"].length := fun vs H Q E h => by
  obtain ⟨x, y, rfl, _⟩ := h
  rfl
theorem same0 (T : Top NN K mg base) : D P w K mg base 0 "_law_same" ["actual", "expected"] (spSame 0) := by
  have G : D P w K mg base 1 "_law_same" ["actual", "expected"] (spSame 0) := by
    refine T.ok0 (d := d_law_same) i_law_same rfl rfl rfl rfl (by decide +kernel) sc_law_same (fun _ _ _ _ _ _ us hl => match us, hl with | [_, _], _ => rfl) spSame_len (fun cdv A outer s H vs Q E ec hr h => ?_)
    obtain ⟨x, y, _, z, _⟩ := h
    exact z.elim
  obtain ⟨⟨fd, F, b⟩, kp, gl⟩ := G
  exact ⟨⟨fd, ⟨spSame_len, fun A outer s H args us vs Q E hr he hb hv hs => by
    obtain ⟨x, y, _, z, _⟩ := hs
    exact z.elim⟩, b⟩, kp, gl⟩
theorem ok_law_same (T : Top NN K mg base) : ∀ d, D P w K mg base d "_law_same" ["actual", "expected"] (spSame d)
  | 0 => same0 T
  | d + 1 => by
    have G := ok_law_same T d
    refine T.ok0 (d := d_law_same) i_law_same rfl rfl rfl rfl (by decide +kernel) sc_law_same (fun _ _ _ _ _ _ us hl => match us, hl with | [_, _], _ => rfl) spSame_len (fun cdv A outer s H vs Q E ec hr h => ?_)
    obtain ⟨x, y, rfl, he, q⟩ := h
    have ni := T.f "isinstance" (by decide +kernel)
    have nt := T.f "tuple" (by decide +kernel)
    have nb := T.f "bool" (by decide +kernel)
    have ns := T.f "str" (by decide +kernel)
    have nn := T.f "int" (by decide +kernel)
    have nl := T.f "len" (by decide +kernel)
    have nr := T.f "range" (by decide +kernel)
    refine ⟨_, pss_cons (ps_if (pt_val (pe_callB call_isi (by rfl) ni (by decide +kernel) (pa_cons (pv 1) (pa_cons (pe_bltn (v := .ty "tuple") (by rfl) nt (by decide +kernel) rfl) pa_nil))))
        (pss_cons (ps_if (PW.pt (pw_or (pt_not (pt_val (pe_callB call_isi (by rfl) ni (by decide +kernel) (pa_cons (pv 0) (pa_cons (pe_bltn (v := .ty "tuple") (by rfl) nt (by decide +kernel) rfl) pa_nil)))))
            (pw_or1 (pt_cmpR op_ne (pe_callB call_len_seq (by rfl) nl PySem.boot_len (pa_cons (pv 0) pa_nil)) (pe_callB call_len_seq (by rfl) nl PySem.boot_len (pa_cons (pv 1) pa_nil)) (nomark _))))) (pss_one (ps_ret pe_bl)) pss_nil)
        (pss_cons (ps_for PassesOwn.never rfl (pi_range1 rfl nr (pa_cons (pe_callB call_len_seq (by rfl) nl PySem.boot_len (pa_cons (pv 1) pa_nil)) pa_nil)) (pg_name (i := 2) sc_law_same.nd rfl (.inl rfl))
            (pss_one (ps_if (pt_not (pt_val (pe_callD G hr (pa_cons (pe_ix ix_tup (pv 0) (pv 2) (fun _ _ => rfl)) (pa_cons (pe_ix ix_tup (pv 1) (pv 2) (fun _ _ => rfl)) pa_nil))))) (pss_one (ps_ret pe_bl)) pss_nil)))
        (pss_one (ps_ret pe_bl)))) pss_nil)
      (pss_cons (ps_if (pt_cmpR op_isN (pv 1) pe_non (nomark _)) (pss_one (ps_ret (pe_cmpR op_isN (pv 0) pe_non (nomark _)))) pss_nil)
      (pss_cons (ps_if (pt_val (pe_callB call_isi (by rfl) ni (by decide +kernel) (pa_cons (pv 1) (pa_cons (pe_bltn (v := .ty "bool") (by rfl) nb (by decide +kernel) rfl) pa_nil))))
        (pss_one (ps_ret (pe_and (pe_callB call_isi (by rfl) ni (by decide +kernel) (pa_cons (pv 0) (pa_cons (pe_bltn (v := .ty "bool") (by rfl) nb (by decide +kernel) rfl) pa_nil))) (pe_one (pe_cmpR op_eq (pv 0) (pv 1) (nomark _)))))) pss_nil)
      (pss_cons (ps_if (pt_val (pe_callB call_isi (by rfl) ni (by decide +kernel) (pa_cons (pv 1) (pa_cons (pe_bltn (v := .ty "str") (by rfl) ns (by decide +kernel) rfl) pa_nil))))
        (pss_one (ps_ret (pe_and (pe_callB call_isi (by rfl) ni (by decide +kernel) (pa_cons (pv 0) (pa_cons (pe_bltn (v := .ty "str") (by rfl) ns (by decide +kernel) rfl) pa_nil))) (pe_one (pe_cmpR op_eq (pv 0) (pv 1) (nomark _)))))) pss_nil)
      (pss_one (ps_ret (pe_and (pe_callB call_isi (by rfl) ni (by decide +kernel) (pa_cons (pv 0) (pa_cons (pe_bltn (v := .ty "int") (by rfl) nn (by decide +kernel) rfl) pa_nil)))
        (pe_and (pe_not (pe_callB call_isi (by rfl) ni (by decide +kernel) (pa_cons (pv 0) (pa_cons (pe_bltn (v := .ty "bool") (by rfl) nb (by decide +kernel) rfl) pa_nil)))) (pe_one (pe_cmpR op_eq (pv 0) (pv 1) (nomark _)))))))))), ?_⟩
    rcases he with ⟨rfl, hs⟩ | ⟨a, b, xs, ys, rfl, rfl, ha, hb, hl, hy, hi⟩
    · rcases hs with ⟨z, rfl⟩ | ⟨i, rfl⟩ | rfl | ⟨b, rfl⟩
      · -- a text
        refine ⟨.str z, rfl, .str z, .ty "tuple", _, _, false, rfl, .ty _, .base (.str z), kit_ty (by decide +kernel), false, rfl, iteF ?_⟩
        refine ⟨.str z, rfl, rfl, false, rfl, iteF ?_⟩
        refine ⟨.str z, rfl, .str z, .ty "bool", _, _, false, rfl, .ty _, .base (.str z), kit_ty (by decide +kernel), false, rfl, iteF ?_⟩
        refine ⟨.str z, rfl, .str z, .ty "str", _, _, true, rfl, .ty _, .base (.str z), kit_ty (by decide +kernel), true, rfl, iteT ?_⟩
        refine ⟨.str z, rfl, .str z, .ty "str", _, _, true, rfl, .ty _, .base (.str z), kit_ty (by decide +kernel), true, rfl, iteT ?_⟩
        exact ⟨.str z, rfl, .str z, rfl, rfl, toBl (decide_eq_true rfl) q⟩
      · -- a number
        refine ⟨.int i, rfl, .int i, .ty "tuple", _, _, false, rfl, .ty _, .base (.int i), kit_ty (by decide +kernel), false, rfl, iteF ?_⟩
        refine ⟨.int i, rfl, rfl, false, rfl, iteF ?_⟩
        refine ⟨.int i, rfl, .int i, .ty "bool", _, _, false, rfl, .ty _, .base (.int i), kit_ty (by decide +kernel), false, rfl, iteF ?_⟩
        refine ⟨.int i, rfl, .int i, .ty "str", _, _, false, rfl, .ty _, .base (.int i), kit_ty (by decide +kernel), false, rfl, iteF ?_⟩
        refine ⟨.int i, rfl, .int i, .ty "int", _, _, true, rfl, .ty _, .base (.int i), kit_ty (by decide +kernel), true, rfl, iteT ?_⟩
        refine ⟨.int i, rfl, .int i, .ty "bool", _, _, false, rfl, .ty _, .base (.int i), kit_ty (by decide +kernel), false, rfl, true, rfl, iteT ?_⟩
        exact ⟨.int i, rfl, .int i, rfl, rfl, toBl (decide_eq_true rfl) q⟩
      · -- None
        refine ⟨.non, rfl, .non, .ty "tuple", _, _, false, rfl, .ty _, .base .non, kit_ty (by decide +kernel), false, rfl, iteF ?_⟩
        refine ⟨.non, rfl, rfl, true, rfl, iteT ?_⟩
        exact ⟨.non, rfl, rfl, toBl (decide_eq_true rfl) q⟩
      · -- True, False
        refine ⟨.bl b, rfl, .bl b, .ty "tuple", _, _, false, rfl, .ty _, .base (.bl b), kit_ty (by decide +kernel), false, rfl, iteF ?_⟩
        refine ⟨.bl b, rfl, rfl, false, rfl, iteF ?_⟩
        refine ⟨.bl b, rfl, .bl b, .ty "bool", _, _, true, rfl, .ty _, .base (.bl b), kit_ty (by decide +kernel), true, rfl, iteT ?_⟩
        refine ⟨.bl b, rfl, .bl b, .ty "bool", _, _, true, rfl, .ty _, .base (.bl b), kit_ty (by decide +kernel), true, rfl, iteT ?_⟩
        exact ⟨.bl b, rfl, .bl b, rfl, rfl, toBl (decide_eq_true rfl) q⟩
    · refine ⟨.ref b, rfl, .ref b, .ty "tuple", _, _, true, rfl, .ty _, .base (.tup hb), kit_ty (by decide +kernel), true, rfl, iteT ?_⟩
      refine ⟨.ref a, rfl, .ref a, .ty "tuple", _, _, true, rfl, .ty _, .base (.tup ha), kit_ty (by decide +kernel), true, rfl, iteF ?_⟩
      refine ⟨.ref a, rfl, a, xs, rfl, .inr (.inl (.inl ha)), .ref b, rfl, b, ys, rfl, .inr (.inl (.inl hb)), rfl, false, ?_, iteF ?_⟩
      · show V.bl (!decide (V.int (xs.length : Int) = V.int (ys.length : Int))) = V.bl false
        rw [hl, decide_eq_true rfl]
        rfl
      · refine ⟨.ref b, rfl, b, ys, rfl, .inr (.inl (.inl hb)), _, rfl, by omega, by omega, for_range (n := ((ys.length : Nat) : Int).toNat) (fun i σ H' => H' = H ∧ ∃ u, σ = [some (.ref a), some (.ref b), u]) ⟨rfl, none, rfl⟩ (fun i σ H' hlt hP => ?_) fun σ H' hP => ?_⟩
        · obtain ⟨rfl, u, rfl⟩ := hP
          have h1 : i < ys.length := by omega
          have h2 : i < xs.length := by omega
          have z : (0 : Int) + (i : Int) = (i : Int) := by omega
          refine ⟨.ref a, rfl, .int (0 + i), rfl, a, xs, _, xs[i], rfl, rfl, .inl (.inl ha), by rw [z]; exact atI_nat (List.getElem?_eq_getElem h2), ?_⟩
          refine ⟨.ref b, rfl, .int (0 + i), rfl, b, ys, _, ys[i], rfl, rfl, .inl (.inl hb), by rw [z]; exact atI_nat (List.getElem?_eq_getElem h1), ?_⟩
          exact ⟨xs[i], ys[i], rfl, hi i _ _ (List.getElem?_eq_getElem h2) (List.getElem?_eq_getElem h1), true, rfl, iteF ⟨rfl, _, rfl⟩⟩
        · obtain ⟨rfl, u, rfl⟩ := hP
          exact q
end
end A9

set_option Elab.async false
set_option linter.all false
set_option maxRecDepth 100000
set_option maxHeartbeats 4000000
namespace A9
open PySem PySem.Spec PyProof.Rows L2 AS
section
variable {P : Program} {w : World} {K : PySem.W.Frag} {mg : Str → Option Value} {base : Heap}
theorem ok_BadFeed_init (T : Top NN K mg base) (B : VeInit K (He.ga K "AuthError")) : ∃ fd, FnOk P w K mg base CX0 1 (He.ma K (He.ga K "BadFeed") "__init__") fd ["self", "line", "what"] (spInit K "line" "what") ∧ Binds K fd ["self", "line", "what"] [] := by
  have gA := T.g "AuthError" (by decide +kernel)
  refine T.okM (d := dBadFeed_init) iBadFeed_init rfl rfl rfl rfl scBadFeed_init (fun _ _ _ _ _ _ us hl => match us, hl with | [_, _, _], _ => rfl) (fun vs H Q E h => ?_) (fun cdv A outer s H vs Q E hr h => ?_)
  · obtain ⟨a, C, x, y, rfl, _⟩ := h
    rfl
  · obtain ⟨a, C, x, y, rfl, hx, hy, ox, n1, n2, ha, q⟩ := h
    refine ⟨_, PSs.nox (pss_cons (ps_expr (pe_clsinit rfl gA B (pa_cons (pv 0) (pa_cons (pe_joined (PJ.cons pe_str (PJ.cons (pe_fmt (pv 1)) (PJ.cons pe_str (PJ.cons (pe_fmt (pv 2)) PJ.nil))))) pa_nil))))
      (pss_cons (ps_ost (pv 0) (pv 1)) (pss_one (ps_ost (pv 0) (pv 2))))), ?_⟩
    have big : (10000 : Nat) ≤ sizeLine := by decide
    have la : ∀ (x y : Str), (x ++ y).length = x.length + y.length := fun x y => Str.length_append x y
    have ex : ∀ (u v : Str) (m n : Nat), u.length ≤ m → v.length ≤ n → (u ++ v).length ≤ m + n := fun u v m n h1 h2 => by
      rw [la]
      omega
    refine ⟨.ref a, rfl, _, rfl, by decide +kernel, x, rfl, ?_⟩
    dsimp only
    refine fmt_fld hx fun l hl => ?_
    have b1 : (Str.empty ++ "line " : Str).length ≤ 5 := by decide +kernel
    have b2 := ex _ l 5 1000 b1 hl
    have b3 := ex _ (": " : Str) _ 2 b2 (by decide +kernel)
    refine ⟨l, rfl, Nat.le_trans b2 (by omega), _, rfl, Nat.le_trans b3 (by omega), y, rfl, ?_⟩
    dsimp only
    refine fmt_fld hy fun t ht => ?_
    have b4 := ex _ t _ 1000 b3 ht
    refine ⟨t, rfl, Nat.le_trans b4 (by omega), a, C, _, rfl, by show 1 ≤ 1000; decide, ox, ha, ?_⟩
    -- self.line = line
    refine ⟨x, rfl, .ref a, rfl, a, C, rfl, ox, n1, .inl ⟨ha, fun d hd hda => ?_⟩⟩
    -- self.what = what
    refine ⟨y, rfl, .ref a, rfl, a, C, rfl, ox, n2, .inr ⟨d, [("line", x)], upd_same, by rw [upd_ne hda]; exact upd_same, by show 1 ≤ 900; decide, q d hd hda⟩⟩
end
end A9

set_option Elab.async false
set_option linter.all false
set_option maxRecDepth 100000
set_option maxHeartbeats 4000000
namespace A9
open PySem PySem.Spec PyProof.Rows L2 AS
theorem inV_str (a : Str) : ∀ l : List Str, inV (.str a) (l.map V.str) = decide (a ∈ l)
  | [] => rfl
  | b :: r => by
    have ih := inV_str a r
    unfold inV at ih ⊢
    rw [List.map_cons, List.any_cons, ih]
    have e : eqV (.str b) (.str a) = decide (a = b) := by
      show (b == a) = decide (a = b)
      rw [Bool.eq_iff_iff]
      exact ⟨fun h => decide_eq_true (eq_of_beq h).symm, fun h => by rw [of_decide_eq_true h]; exact beq_self_eq_true b⟩
    rw [e]
    by_cases h : a = b
    · subst h
      simp
    · simp [h]
theorem flat_strs : ∀ l : List Str, (l.map V.str).all flatV = true
  | [] => rfl
  | _ :: r => flat_strs r
def yesS : Str := "yes"
def noS : Str := "no"
def isGrant (t n s : Str) : Bool := isObj t && (isIdent n && isObj s)
def isLine : List Str → Bool
  | [c, t, n, s, a, af, be] => isIdent c && (isGrant t n s && (decide (a ∈ [yesS, noS]) && ((readRev af).isSome && (readRev be).isSome)))
  | _ => false
theorem isLine7 (c t n s a af be : Str) : isLine [c, t, n, s, a, af, be] = (isIdent c && (isGrant t n s && (decide (a ∈ [yesS, noS]) && ((readRev af).isSome && (readRev be).isSome)))) := rfl
def spGrant (K : PySem.W.Frag) (tf : List He.Defn) : Sp := fun vs H Q _ => ∃ t n s : Str, vs = [.str t, .str n, .str s] ∧ t.length ≤ sizeLine ∧ n.length ≤ sizeLine ∧ s.length ≤ sizeLine ∧ Tabs K tf H ∧ ∀ H', Sm H H' → Q (.bl (isGrant t n s)) H'
def spIsLine (K : PySem.W.Frag) (tf : List He.Defn) : Sp := fun vs H Q _ => ∃ (p : Addr) (ws : List Str), vs = [.ref p] ∧ SqL K H p (ws.map V.str) ∧ (∀ w ∈ ws, w.length ≤ sizeLine) ∧ Tabs K tf H ∧ ∀ H', Sm H H' → Q (.bl (isLine ws)) H'
section
variable {P : Program} {w : World} {K : PySem.W.Frag} {mg : Str → Option Value} {base : Heap}
theorem ok_is_grant (T : Top NN K mg base) : D P w K mg base 4 "is_grant" ["target", "name", "subject"] (spGrant K NN.tf) := by
  refine T.ok0 (d := dis_grant) iis_grant rfl rfl rfl rfl (by decide +kernel) scis_grant (fun _ _ _ _ _ _ us hl => match us, hl with | [_, _, _], _ => rfl) (fun vs H Q E h => ?_) (fun cdv A outer s H vs Q E ec hr h => ?_)
  · obtain ⟨t, n, z, rfl, _⟩ := h
    rfl
  · obtain ⟨t, n, z, rfl, ht, hn, hz, hT, q⟩ := h
    have G_is_object := ok_is_object (P := P) (w := w) T
    have G_is_identifier := (ok_is_identifier (P := P) (w := w) T).mono (show 2 ≤ 3 by decide)
    refine ⟨_, (pss_one (ps_ret (pe_and (pe_callD G_is_object hr (pa_cons (pv 0) pa_nil)) (pe_and (pe_callD G_is_identifier hr (pa_cons (pv 1) pa_nil)) (pe_one (pe_callD G_is_object hr (pa_cons (pv 2) pa_nil))))))), ?_⟩
    refine ⟨_, rfl, t, rfl, ht, hT, fun H1 s1 => ⟨_, rfl, iteB (fun h1 => ?_) fun h1 => ?_⟩⟩
    · refine ⟨_, rfl, n, rfl, hn, s1.tabs hT, fun H2 s2 => ⟨_, rfl, iteB (fun h2 => ?_) fun h2 => ?_⟩⟩
      · exact ⟨_, rfl, z, rfl, hz, (s1.trans s2).tabs hT, fun H3 s3 => toBl (by unfold isGrant; rw [h1, h2]; rfl) (q H3 ((s1.trans s2).trans s3))⟩
      · exact toBl (by unfold isGrant; rw [h1, h2]; rfl) (q H2 (s1.trans s2))
    · exact toBl (by unfold isGrant; rw [h1]; rfl) (q H1 s1)
end
end A9

set_option Elab.async false
set_option linter.all false
set_option maxRecDepth 100000
set_option maxHeartbeats 4000000
namespace A9
open PySem PySem.Spec PyProof.Rows L2 AS
def spS : Str := " "
def nlS : Str := "\n"
/-! ### the parts of a text -/
theorem spl_bound (S : List Nat) : ∀ (l : List Nat) (k : Nat) (acc : List Nat), (∀ p ∈ TL.spl S k acc l, p.length ≤ acc.length + l.length) ∧ (TL.spl S k acc l).length ≤ l.length + 1
  | [], k, acc => by
    rw [TL.spl_nil]
    exact ⟨fun p hp => by rw [List.mem_singleton.mp hp]; omega, by simp⟩
  | c :: r, 0, acc => by
    by_cases h : TL.pre S (c :: r) = true
    · rw [TL.spl_hit h]
      obtain ⟨h1, h2⟩ := spl_bound S r (S.length - 1) []
      refine ⟨fun p hp => ?_, by simp only [List.length_cons]; omega⟩
      rcases List.mem_cons.mp hp with e | e
      · rw [e]
        omega
      · have := h1 p e
        simp only [List.length_nil, List.length_cons] at this ⊢
        omega
    · rw [TL.spl_miss (by simpa using h)]
      obtain ⟨h1, h2⟩ := spl_bound S r 0 (acc ++ [c])
      refine ⟨fun p hp => ?_, by simp only [List.length_cons]; omega⟩
      have := h1 p hp
      simp only [List.length_append, List.length_singleton, List.length_cons, List.length_nil] at this ⊢
      omega
  | c :: r, k + 1, acc => by
    obtain ⟨h1, h2⟩ := spl_bound S r k acc
    have e : TL.spl S (k + 1) acc (c :: r) = TL.spl S k acc r := rfl
    rw [e]
    refine ⟨fun p hp => ?_, by simp only [List.length_cons]; omega⟩
    have := h1 p hp
    simp only [List.length_cons]
    omega
theorem split_bound {x y : Str} (hy : tl y ≠ []) (hk : y.cps.all (· < 256) = true) : (∀ p ∈ Txt.split x y, p.length ≤ x.length) ∧ (Txt.split x y).length ≤ x.length + 1 := by
  have e := TL.split_spl x y hy (TL.kind_ok hk)
  obtain ⟨h1, h2⟩ := spl_bound (tl y) (tl x) 0 []
  refine ⟨fun p hp => ?_, ?_⟩
  · have h3 := h1 (tl p) (by rw [← e]; exact List.mem_map.mpr ⟨p, hp, rfl⟩)
    rw [len_tl, len_tl]
    simpa using h3
  · have h4 := congrArg List.length e
    rw [List.length_map] at h4
    rw [h4, len_tl]
    exact h2
theorem split_sp (x : Str) : (∀ p ∈ Txt.split x spS, p.length ≤ x.length) ∧ (Txt.split x spS).length ≤ x.length + 1 := split_bound (by decide +kernel) (by decide +kernel)
theorem split_nl (x : Str) : (∀ p ∈ Txt.split x nlS, p.length ≤ x.length) ∧ (Txt.split x nlS).length ≤ x.length + 1 := split_bound (by decide +kernel) (by decide +kernel)
theorem readRev_int {z : Str} {n : Nat} (h : readRev z = some n) : PySem.intText? z = some (n : Int) ∧ z.length ≤ 4 := by
  unfold readRev at h
  by_cases g : (decide (1 ≤ z.length) && decide (z.length ≤ 4) && allDig z) = true
  · rw [if_pos g] at h
    by_cases g2 : (zeroHead z && !decide (z = zeroS)) = true
    · rw [if_pos g2] at h
      cases h
    · rw [if_neg g2] at h
      by_cases g3 : NumText.digitsVal (tl z) ≤ 1000
      · rw [if_pos g3] at h
        have e := Option.some.inj h
        rw [Bool.and_eq_true, Bool.and_eq_true, decide_eq_true_eq, decide_eq_true_eq] at g
        obtain ⟨⟨g4, g5⟩, g6⟩ := g
        have hv := intText_digits (x := z) (allDig_digits g6) (fun q => by
          have q2 : tl z = [] := q
          rw [len_tl, q2] at g4
          exact absurd g4 (by decide)) (by omega)
        refine ⟨?_, g5⟩
        rw [hv, ← e]
      · rw [if_neg g3] at h
        cases h
  · rw [if_neg g] at h
    cases h

def partsOf (l : Str) : List Str := Txt.split l spS
def linesOf (z : Str) : List Str := Txt.split z nlS
/-! ### heads and grants of lines -/
def headP (wd : Str) (least : Nat) : List Str → Option (Str × Nat)
  | [w, i, r] => if (decide (w = wd) && isIdent i) = true then (match readRev r with | none => none | some n => if n < least then none else some (i, n)) else none
  | _ => none
def headOf (wd : Str) (least : Nat) (l : Str) : Option (Str × Nat) := headP wd least (partsOf l)
def grantP (sg : Str) : List Str → Option Gr
  | [w, t, n, s] => if (decide (w = sg) && isGrant t n s) = true then some ⟨t, n, s⟩ else none
  | _ => none
def grantOf (sg l : Str) : Option Gr := grantP sg (partsOf l)
def behind (g : Gr) (gs : List Gr) : Bool := match gs.getLast? with
  | none => true
  | some h => ltG h g
def spHead (K : PySem.W.Frag) (tf : List He.Defn) : Sp := fun vs H Q _ => ∃ (wd : Str) (least : Nat) (l : Str), vs = [.str wd, .int (least : Nat), .str l] ∧ l.length ≤ 100000 ∧ Tabs K tf H ∧
  (headOf wd least l = none → ∀ H', Sm H H' → Q .non H') ∧ ∀ i n, headOf wd least l = some (i, n) → ∀ H' p, Sm H H' → H p = none → H' p = some (.tup [.str i, .int (n : Nat)]) → Q (.ref p) H'
def spGrantOf (K : PySem.W.Frag) (tf : List He.Defn) : Sp := fun vs H Q _ => ∃ (sg l : Str), vs = [.str sg, .str l] ∧ l.length ≤ 100000 ∧ Tabs K tf H ∧
  (grantOf sg l = none → ∀ H', Sm H H' → Q .non H') ∧ ∀ g, grantOf sg l = some g → ∀ H' p, Sm H H' → H p = none → H' p = some (.tup g.v) → Q (.ref p) H'
def spBehind : Sp := fun vs H Q _ => ∃ (p o : Addr) (g : Gr) (as : List Addr) (gs : List Gr), vs = [.ref p, .ref o] ∧ H p = some (.tup g.v) ∧ H o = some (.lst (as.map V.ref)) ∧ GRows H as gs ∧ ∀ H', Sm H H' → Q (.bl (behind g gs)) H'
theorem headP_len {wd : Str} {least : Nat} {ws : List Str} (h : ws.length ≠ 3) : headP wd least ws = none := by
  unfold headP
  split
  · exact absurd rfl h
  · rfl
theorem grantP_len {sg : Str} {ws : List Str} (h : ws.length ≠ 4) : grantP sg ws = none := by
  unfold grantP
  split
  · exact absurd rfl h
  · rfl
theorem list3 {α : Type} {ws : List α} (h : ws.length = 3) : ∃ a b c, ws = [a, b, c] := by
  match ws, h with
  | [a, b, c], _ => exact ⟨a, b, c, rfl⟩
theorem list4 {α : Type} {ws : List α} (h : ws.length = 4) : ∃ a b c d, ws = [a, b, c, d] := by
  match ws, h with
  | [a, b, c, d], _ => exact ⟨a, b, c, d, rfl⟩
theorem dec_str {a b : Str} : decide (V.str a = V.str b) = decide (a = b) := decide_eq_decide.mpr ⟨V.str.inj, fun z => by rw [z]⟩
theorem at_w {ws : List Str} {i : Nat} {w : Str} (h : ws[i]? = some w) : atI (ws.map V.str) (i : Int) = some (.str w) := atI_nat (by rw [List.getElem?_map, h]; rfl)
section
variable {P : Program} {w : World} {K : PySem.W.Frag} {mg : Str → Option Value} {base : Heap}
theorem ok_head_of (T : Top NN K mg base) : D P w K mg base 3 "_head_of" ["word", "least", "line"] (spHead K NN.tf) := by
  refine T.ok0 (d := d_head_of) i_head_of rfl rfl rfl rfl (by decide +kernel) sc_head_of (fun _ _ _ _ _ _ us hl => match us, hl with | [_, _, _], _ => rfl) (fun vs H Q E h => ?_) (fun cdv A outer s H vs Q E ec hr h => ?_)
  · obtain ⟨_, _, _, rfl, _⟩ := h
    rfl
  · obtain ⟨wd, least, l, rfl, hl, hT, q1, q2⟩ := h
    have G_is_identifier := ok_is_identifier (P := P) (w := w) T
    have G_read_revision := (ok_read_revision (P := P) (w := w) T).mono (show 1 ≤ 2 by decide)
    have n_len := T.f "len" (by decide +kernel)
    refine ⟨_, (pss_cons (ps_set (i := 3) sc_head_of.nd rfl (.inl rfl) (pe_split (pv 2) pe_str))
      (pss_cons (ps_if (PW.pt (pw_or (pt_cmpR op_ne (pe_callB call_len_seq (by rfl) n_len PySem.boot_len (pa_cons (pv 3) pa_nil)) pe_int (nomark _)) (pw_or (pt_cmpR op_ne (pe_ix  ix_list (pv 3) pe_int (fun _ _ => rfl)) (pv 0) (nomark _)) (pw_or1 (pt_not (pt_val (pe_callD G_is_identifier hr (pa_cons (pe_ix  ix_list (pv 3) pe_int (fun _ _ => rfl)) pa_nil)))))))) (pss_one (ps_ret pe_non)) pss_nil)
      (pss_cons (ps_set (i := 4) sc_head_of.nd rfl (.inl rfl) (pe_callD G_read_revision hr (pa_cons (pe_ix  ix_list (pv 3) pe_int (fun _ _ => rfl)) pa_nil)))
      (pss_one (ps_ret (pe_ifExp (PW.pt (pw_or (pt_cmpR op_isN (pv 4) pe_non (nomark _)) (pw_or1 (pt_cmpR op_lt (pv 4) (pv 1) (nomark _))))) pe_non (pe_tup (pa_cons (pe_ix  ix_list (pv 3) pe_int (fun _ _ => rfl)) (pa_cons (pv 4) pa_nil))))))))), ?_⟩
    have big : (1000000 : Nat) ≤ sizeLine := by decide
    obtain ⟨pl, pn⟩ := split_sp l
    refine ⟨.str l, rfl, ⟨_, rfl⟩, l, spS, rfl, rfl, by decide +kernel, by omega, fun p np => ?_⟩
    have s0 : Sm H (upd H p (.lst ((partsOf l).map V.str))) := Sm.new np
    have e0 : (upd H p (.lst ((partsOf l).map V.str))) p = some (.lst ((partsOf l).map V.str)) := upd_same
    refine ⟨_, rfl, p, _, rfl, .inl (.inl (.inl upd_same)), rfl, _, rfl, ?_⟩
    show if (!decide (V.int (((partsOf l).map V.str).length : Int) = V.int 3)) = true then _ else _
    refine iteB (fun h => ?_) fun h => ?_
    · have h3 : (partsOf l).length ≠ 3 := fun e => by
        rw [List.length_map, e] at h
        exact absurd h (by decide)
      exact iteT (q1 (headP_len h3) _ s0)
    · have h3 : (partsOf l).length = 3 := by
        rw [Bool.not_eq_false', decide_eq_true_eq, List.length_map] at h
        have h2 := V.int.inj h
        omega
      obtain ⟨wa, wb, wc, ew⟩ := list3 h3
      have W : ∀ i : Nat, (partsOf l)[i]? = ([wa, wb, wc] : List Str)[i]? := fun i => by rw [ew]
      have eh : headOf wd least l = headP wd least [wa, wb, wc] := by unfold headOf; rw [ew]
      have lb : wb.length ≤ sizeLine := Nat.le_trans (pl wb (by rw [show Txt.split l spS = [wa, wb, wc] from ew]; simp)) (by omega)
      have lc : wc.length ≤ sizeLine := Nat.le_trans (pl wc (by rw [show Txt.split l spS = [wa, wb, wc] from ew]; simp)) (by omega)
      refine ⟨.ref p, rfl, p, _, 0, .str wa, rfl, rfl, .inl (.inl e0), at_w (i := 0) (W 0), .str wd, rfl, rfl, _, rfl, ?_⟩
      show if (!decide (V.str wa = V.str wd)) = true then _ else _
      rw [dec_str]
      refine iteB (fun h1 => ?_) fun h1 => ?_
      · rw [Bool.not_eq_true'] at h1
        refine iteT (q1 ?_ _ s0)
        rw [eh]
        show (if (decide (wa = wd) && isIdent wb) = true then _ else none) = none
        rw [h1]
        rfl
      · rw [Bool.not_eq_false'] at h1
        refine ⟨.ref p, rfl, p, _, 1, .str wb, rfl, rfl, .inl (.inl e0), at_w (i := 1) (W 1), wb, rfl, lb, s0.tabs hT, fun H1 s1 => ⟨_, rfl, ?_⟩⟩
        show if (!isIdent wb) = true then _ else _
        refine iteB (fun h2 => ?_) fun h2 => ?_
        · rw [Bool.not_eq_true'] at h2
          refine q1 ?_ _ (s0.trans s1)
          rw [eh]
          show (if (decide (wa = wd) && isIdent wb) = true then _ else none) = none
          rw [h2, Bool.and_false]
          rfl
        · rw [Bool.not_eq_false'] at h2
          have eh2 : headOf wd least l = (match readRev wc with | none => none | some n => if n < least then none else some (wb, n)) := by
            rw [eh]
            show (if (decide (wa = wd) && isIdent wb) = true then _ else none) = _
            rw [h1, h2]
            rfl
          refine ⟨.ref p, rfl, p, _, 2, .str wc, rfl, rfl, .inl (.inl (s1.lst e0)), at_w (i := 2) (W 2), wc, rfl, lc, (s0.trans s1).tabs hT, fun H2 s2 => ?_⟩
          have s02 := (s0.trans s1).trans s2
          cases er : readRev wc with
          | none =>
            rw [er] at eh2
            have ev : revV (readRev wc) = .non := by rw [er]; rfl
            exact ⟨.non, congrArg (fun z => some (some z)) ev, rfl, true, rfl, iteT (iteT (q1 eh2 _ s02))⟩
          | some n =>
            rw [er] at eh2
            have eh3 : headOf wd least l = if n < least then none else some (wb, n) := eh2
            have ev : revV (readRev wc) = .int (n : Nat) := by rw [er]; rfl
            have es := congrArg (fun z => some (some z)) ev
            refine ⟨.int (n : Nat), es, rfl, false, rfl, iteF ?_⟩
            refine ⟨.int (n : Nat), es, .int (least : Nat), rfl, n, least, rfl, rfl, _, rfl, iteB (fun h4 => ?_) fun h4 => ?_⟩
            · have h5 : (n : Int) < (least : Int) := of_decide_eq_true h4
              rw [if_pos (by omega)] at eh3
              exact q1 eh3 _ s02
            · have h5 : ¬ (n : Int) < (least : Int) := of_decide_eq_false h4
              rw [if_neg (by omega)] at eh3
              refine ⟨.ref p, rfl, p, _, 1, .str wb, rfl, rfl, .inl (.inl ((s1.trans s2).lst e0)), at_w (i := 1) (W 1), .int (n : Nat), es, by show 2 ≤ sizeLine; decide, fun t nt => ?_⟩
              exact q2 wb n eh3 _ t (s02.put (s02.free nt)) (s02.free nt) upd_same
end
end A9

set_option Elab.async false
set_option linter.all false
set_option maxRecDepth 100000
set_option maxHeartbeats 4000000
namespace A9
open PySem PySem.Spec PyProof.Rows L2 AS
section
variable {P : Program} {w : World} {K : PySem.W.Frag} {mg : Str → Option Value} {base : Heap}
theorem ok_grant_of (T : Top NN K mg base) : D P w K mg base 5 "_grant_of" ["sign", "line"] (spGrantOf K NN.tf) := by
  refine T.ok0 (d := d_grant_of) i_grant_of rfl rfl rfl rfl (by decide +kernel) sc_grant_of (fun _ _ _ _ _ _ us hl => match us, hl with | [_, _], _ => rfl) (fun vs H Q E h => ?_) (fun cdv A outer s H vs Q E ec hr h => ?_)
  · obtain ⟨_, _, rfl, _⟩ := h
    rfl
  · obtain ⟨sg, l, rfl, hl, hT, q1, q2⟩ := h
    have G_is_grant := ok_is_grant (P := P) (w := w) T
    have n_len := T.f "len" (by decide +kernel)
    refine ⟨_, (pss_cons (ps_set (i := 2) sc_grant_of.nd rfl (.inl rfl) (pe_split (pv 1) pe_str))
      (pss_cons (ps_if (PW.pt (pw_or (pt_cmpR op_ne (pe_callB call_len_seq (by rfl) n_len PySem.boot_len (pa_cons (pv 2) pa_nil)) pe_int (nomark _)) (pw_or (pt_cmpR op_ne (pe_ix  ix_list (pv 2) pe_int (fun _ _ => rfl)) (pv 0) (nomark _)) (pw_or1 (pt_not (pt_val (pe_callD G_is_grant hr (pa_cons (pe_ix  ix_list (pv 2) pe_int (fun _ _ => rfl)) (pa_cons (pe_ix  ix_list (pv 2) pe_int (fun _ _ => rfl)) (pa_cons (pe_ix  ix_list (pv 2) pe_int (fun _ _ => rfl)) pa_nil)))))))))) (pss_one (ps_ret pe_non)) pss_nil)
      (pss_one (ps_ret (pe_tup (pa_cons (pe_ix  ix_list (pv 2) pe_int (fun _ _ => rfl)) (pa_cons (pe_ix  ix_list (pv 2) pe_int (fun _ _ => rfl)) (pa_cons (pe_ix  ix_list (pv 2) pe_int (fun _ _ => rfl)) pa_nil)))))))), ?_⟩
    have big : (1000000 : Nat) ≤ sizeLine := by decide
    obtain ⟨pl, pn⟩ := split_sp l
    refine ⟨.str l, rfl, ⟨_, rfl⟩, l, spS, rfl, rfl, by decide +kernel, by omega, fun p np => ?_⟩
    have s0 : Sm H (upd H p (.lst ((partsOf l).map V.str))) := Sm.new np
    have e0 : (upd H p (.lst ((partsOf l).map V.str))) p = some (.lst ((partsOf l).map V.str)) := upd_same
    refine ⟨_, rfl, p, _, rfl, .inl (.inl (.inl upd_same)), rfl, _, rfl, ?_⟩
    show if (!decide (V.int (((partsOf l).map V.str).length : Int) = V.int 4)) = true then _ else _
    refine iteB (fun h => ?_) fun h => ?_
    · have h3 : (partsOf l).length ≠ 4 := fun e => by
        rw [List.length_map, e] at h
        exact absurd h (by decide)
      exact iteT (q1 (grantP_len h3) _ s0)
    · have h3 : (partsOf l).length = 4 := by
        rw [Bool.not_eq_false', decide_eq_true_eq, List.length_map] at h
        have h2 := V.int.inj h
        omega
      obtain ⟨wa, wb, wc, wd, ew⟩ := list4 h3
      have W : ∀ i : Nat, (partsOf l)[i]? = ([wa, wb, wc, wd] : List Str)[i]? := fun i => by rw [ew]
      have eh : grantOf sg l = if (decide (wa = sg) && isGrant wb wc wd) = true then some ⟨wb, wc, wd⟩ else none := by unfold grantOf; rw [ew]; rfl
      have lw : ∀ u, u ∈ ([wa, wb, wc, wd] : List Str) → u.length ≤ sizeLine := fun u hu => Nat.le_trans (pl u (by rw [show Txt.split l spS = [wa, wb, wc, wd] from ew]; exact hu)) (by omega)
      refine ⟨.ref p, rfl, p, _, 0, .str wa, rfl, rfl, .inl (.inl e0), at_w (i := 0) (W 0), .str sg, rfl, rfl, _, rfl, ?_⟩
      show if (!decide (V.str wa = V.str sg)) = true then _ else _
      rw [dec_str]
      refine iteB (fun h1 => ?_) fun h1 => ?_
      · rw [Bool.not_eq_true'] at h1
        refine iteT (q1 ?_ _ s0)
        rw [eh, h1]
        rfl
      · rw [Bool.not_eq_false'] at h1
        refine ⟨.ref p, rfl, p, _, 1, .str wb, rfl, rfl, .inl (.inl e0), at_w (i := 1) (W 1), .ref p, rfl, p, _, 2, .str wc, rfl, rfl, .inl (.inl e0), at_w (i := 2) (W 2), .ref p, rfl, p, _, 3, .str wd, rfl, rfl, .inl (.inl e0), at_w (i := 3) (W 3),
          wb, wc, wd, rfl, lw wb (by simp), lw wc (by simp), lw wd (by simp), s0.tabs hT, fun H1 s1 => ⟨_, rfl, ?_⟩⟩
        show if (!isGrant wb wc wd) = true then _ else _
        refine iteB (fun h2 => ?_) fun h2 => ?_
        · rw [Bool.not_eq_true'] at h2
          refine q1 ?_ _ (s0.trans s1)
          rw [eh, h2, Bool.and_false]
          rfl
        · rw [Bool.not_eq_false'] at h2
          have s01 := s0.trans s1
          have e1 := s1.lst e0
          refine ⟨.ref p, rfl, p, _, 1, .str wb, rfl, rfl, .inl (.inl e1), at_w (i := 1) (W 1), .ref p, rfl, p, _, 2, .str wc, rfl, rfl, .inl (.inl e1), at_w (i := 2) (W 2), .ref p, rfl, p, _, 3, .str wd, rfl, rfl, .inl (.inl e1), at_w (i := 3) (W 3), by show 3 ≤ sizeLine; decide, fun t nt => ?_⟩
          refine q2 ⟨wb, wc, wd⟩ ?_ _ t (s01.put (s01.free nt)) (s01.free nt) upd_same
          rw [eh, h1, h2]
          rfl
theorem ok_is_behind (T : Top NN K mg base) : D P w K mg base 1 "_is_behind" ["grant", "grants"] spBehind := by
  refine T.ok0 (d := d_is_behind) i_is_behind rfl rfl rfl rfl (by decide +kernel) sc_is_behind (fun _ _ _ _ _ _ us hl => match us, hl with | [_, _], _ => rfl) (fun vs H Q E h => ?_) (fun cdv A outer s H vs Q E ec hr h => ?_)
  · obtain ⟨_, _, _, _, _, rfl, _⟩ := h
    rfl
  · obtain ⟨p, o, g, as, gs, rfl, ep, eo, hR, q⟩ := h
    refine ⟨_, (pss_one (ps_ret (pe_or (pe_cmpR (op_eqP hr.units) (pv 1) (pe_lst pa_nil) (nomark _)) (pe_one (pe_cmpR (op_gtD hr.units) (pv 0) (pe_ix  ix_list (pv 1) (pe_un un_neg pe_int) (fun _ _ => rfl)) (nomark _)))))), ?_⟩
    refine ⟨.ref o, rfl, Nat.zero_le _, fun o2 no2 => ?_⟩
    have s0 : Sm H (upd H o2 (.lst [])) := Sm.new no2
    refine ⟨.list (gs.map Gr.d), .list [], .lst (.inl (.inl (s0.lst eo))) (hR.sm s0).dp, .lst (.inl (.inl upd_same)) .nil, grs_plain gs, rfl, Nat.le_trans (Nat.min_le_right _ _) (by decide), ?_⟩
    rcases List.eq_nil_or_concat gs with rfl | ⟨ini, h, rfl⟩
    · exact ⟨true, rfl, iteT (q _ s0)⟩
    · have e : PyData.eqvAll ((ini.concat h).map Gr.d) (([] : List Gr).map Gr.d) = false := by
        rw [grs_eqvAll]
        exact decide_eq_false (by simp)
      refine ⟨false, congrArg V.bl e, iteF ?_⟩
      have hl := hR.len
      have len : (ini.concat h).length = ini.length + 1 := by simp
      obtain ⟨a, ha, ta⟩ := hR.get (i := ini.length) (g := h) (by simp)
      refine ⟨.ref p, rfl, .ref o, rfl, 1, rfl, o, as.map V.ref, -1, .ref a, rfl, rfl, .inl (.inl (s0.lst eo)), ?_, ?_⟩
      · rcases List.eq_nil_or_concat as with rfl | ⟨i2, b, rfl⟩
        · rw [len] at hl
          cases hl
        · have l2 : i2.length = ini.length := by
            rw [len] at hl
            simp at hl
            exact hl
          rw [List.concat_eq_append] at ha ⊢
          rw [List.getElem?_append_right (by omega), l2, Nat.sub_self] at ha
          cases ha
          rw [List.map_append]
          exact atI_last _ _
      · refine ⟨g.d, h.d, dp_gr (s0.tup ep), dp_gr (s0.tup ta), Gr.alike g h, fun e => (nomatch e), Nat.le_trans (Nat.min_le_left _ _) (Nat.le_trans (Gr.depth g) (by decide)), ?_⟩
        have eb : behind g (ini.concat h) = ltG h g := by
          unfold behind
          rw [List.concat_eq_append, List.getLast?_concat]
        exact toBl eb.symm (q _ s0)
end
def plusS : Str := "+"
def minusS : Str := "-"
def orderS : Str := "order is wrong"
def unknownS : Str := "line is not known"
def bothS : Str := "grant is in both"
def headS : Str := "head is expected"
def faultOf (g1 g2 : List Gr) (l : Str) : Str := match grantOf plusS l with
  | some g => if (decide (g2 = []) && behind g g1) = true then Str.empty else orderS
  | none => match grantOf minusS l with
    | none => unknownS
    | some x => if behind x g2 = true then (if x ∈ g1 then bothS else Str.empty) else orderS
def spFault (K : PySem.W.Frag) (tf : List He.Defn) : Sp := fun vs H Q _ => ∃ (o1 o2 : Addr) (as1 as2 : List Addr) (gs1 gs2 : List Gr) (l : Str), vs = [.ref o1, .ref o2, .str l] ∧ H o1 = some (.lst (as1.map V.ref)) ∧ H o2 = some (.lst (as2.map V.ref)) ∧ GRows H as1 gs1 ∧ GRows H as2 gs2 ∧
  l.length ≤ 100000 ∧ Tabs K tf H ∧ ∀ H', Sm H H' → Q (.str (faultOf gs1 gs2 l)) H'
section
variable {P : Program} {w : World} {K : PySem.W.Frag} {mg : Str → Option Value} {base : Heap}
theorem ok_fault_of (T : Top NN K mg base) : D P w K mg base 6 "_fault_of" ["gained", "lost", "line"] (spFault K NN.tf) := by
  refine T.ok0 (d := d_fault_of) i_fault_of rfl rfl rfl rfl (by decide +kernel) sc_fault_of (fun _ _ _ _ _ _ us hl => match us, hl with | [_, _, _], _ => rfl) (fun vs H Q E h => ?_) (fun cdv A outer s H vs Q E ec hr h => ?_)
  · obtain ⟨_, _, _, _, _, _, _, rfl, _⟩ := h
    rfl
  · obtain ⟨o1, o2, as1, as2, gs1, gs2, l, rfl, eo1, eo2, hR1, hR2, hl, hT, q⟩ := h
    have G__grant_of := ok_grant_of (P := P) (w := w) T
    have G__is_behind := (ok_is_behind (P := P) (w := w) T).mono (show 1 ≤ 5 by decide)
    refine ⟨_, (pss_cons (ps_set (i := 3) sc_fault_of.nd rfl (.inl rfl) (pe_callD G__grant_of hr (pa_cons pe_str (pa_cons (pv 2) pa_nil))))
      (pss_cons (ps_set (i := 4) sc_fault_of.nd rfl (.inl rfl) (pe_callD G__grant_of hr (pa_cons pe_str (pa_cons (pv 2) pa_nil))))
      (pss_cons (ps_if (pt_cmpR op_notN (pv 3) pe_non (nomark _)) (pss_one (ps_ret (pe_ifExp (PW.pt (pw_and (pt_cmpR (op_eqP hr.units) (pv 1) (pe_lst pa_nil) (nomark _)) (pw_and1 (pt_val (pe_callD G__is_behind hr (pa_cons (pv 3) (pa_cons (pv 0) pa_nil))))))) pe_str pe_str))) pss_nil)
      (pss_cons (ps_if (pt_cmpR op_isN (pv 4) pe_non (nomark _)) (pss_one (ps_ret pe_str)) pss_nil)
      (pss_cons (ps_if (pt_not (pt_val (pe_callD G__is_behind hr (pa_cons (pv 4) (pa_cons (pv 1) pa_nil))))) (pss_one (ps_ret pe_str)) pss_nil)
      (pss_one (ps_ret (pe_ifExp (pt_cmpR (op_inP hr.units) (pv 4) (pv 0) rfl) pe_str pe_str)))))))), ?_⟩
    refine ⟨.str l, rfl, plusS, l, rfl, hl, hT, fun n1 H1 s1 => ?_, fun g1 n1 H1 p1 s1 np1 ep1 => ?_⟩
    · refine ⟨.str l, rfl, minusS, l, rfl, hl, s1.tabs hT, fun n2 H2 s2 => ?_, fun g2 n2 H2 p2 s2 np2 ep2 => ?_⟩
      · have ef : faultOf gs1 gs2 l = unknownS := by unfold faultOf; rw [n1, n2]
        rw [ef] at q
        exact ⟨.non, rfl, rfl, false, rfl, iteF ⟨.non, rfl, rfl, true, rfl, iteT (q _ (s1.trans s2))⟩⟩
      · have ef : faultOf gs1 gs2 l = if behind g2 gs2 = true then (if g2 ∈ gs1 then bothS else Str.empty) else orderS := by unfold faultOf; rw [n1, n2]
        have s12 := s1.trans s2
        refine ⟨.non, rfl, rfl, false, rfl, iteF ⟨.ref p2, rfl, rfl, false, rfl, iteF ?_⟩⟩
        refine ⟨.ref p2, rfl, .ref o2, rfl, p2, o2, g2, as2, gs2, rfl, ep2, s12.lst eo2, hR2.sm s12, fun H3 s3 => ⟨_, rfl, ?_⟩⟩
        show if (!behind g2 gs2) = true then _ else _
        refine iteB (fun h => ?_) fun h => ?_
        · rw [Bool.not_eq_true'] at h
          rw [ef, h] at q
          exact q _ (s12.trans s3)
        · rw [Bool.not_eq_false'] at h
          have s13 := s12.trans s3
          rw [ef, if_pos h] at q
          refine ⟨.ref p2, rfl, .ref o1, rfl, g2.d, gs1.map Gr.d, dp_gr (s3.tup ep2), .lst (.inl (.inl (s13.lst eo1))) (hR1.sm s13).dp, Gr.plain g2, grs_plain gs1, Nat.le_trans (Gr.depth g2) (by decide), ?_⟩
          refine ⟨_, congrArg V.bl (grs_any g2 gs1), iteB (fun hm => ?_) fun hm => ?_⟩
          · rw [if_pos (of_decide_eq_true hm)] at q
            exact q _ s13
          · rw [if_neg (of_decide_eq_false hm)] at q
            exact q _ s13
    · have ef : faultOf gs1 gs2 l = if (decide (gs2 = []) && behind g1 gs1) = true then Str.empty else orderS := by unfold faultOf; rw [n1]
      refine ⟨.str l, rfl, minusS, l, rfl, hl, s1.tabs hT, fun n2 H2 s2 => ?_, fun g2 n2 H2 p2 s2 np2 ep2 => ?_⟩ <;>
      · have s12 := s1.trans s2
        refine ⟨.ref p1, rfl, rfl, true, rfl, iteT ?_⟩
        refine ⟨.ref o2, rfl, Nat.zero_le _, fun o3 no3 => ?_⟩
        have s3 : Sm H2 (upd H2 o3 (.lst [])) := Sm.new no3
        have s13 := s12.trans s3
        refine ⟨.list (gs2.map Gr.d), .list [], .lst (.inl (.inl (s13.lst eo2))) (hR2.sm s13).dp, .lst (.inl (.inl upd_same)) .nil, grs_plain gs2, rfl, Nat.le_trans (Nat.min_le_right _ _) (by decide), ?_⟩
        refine ⟨_, congrArg V.bl (grs_eqvAll gs2 []), iteB (fun h => ?_) fun h => ?_⟩
        · refine ⟨.ref p1, rfl, .ref o1, rfl, p1, o1, g1, as1, gs1, rfl, (s2.trans s3).tup ep1, s13.lst eo1, hR1.sm s13, fun H4 s4 => ⟨_, rfl, iteB (fun h2 => ?_) fun h2 => ?_⟩⟩
          · rw [ef, h, h2] at q
            exact q _ (s13.trans s4)
          · rw [ef, h, h2] at q
            exact q _ (s13.trans s4)
        · rw [ef, h] at q
          exact q _ s13
end
end A9

set_option Elab.async false
set_option linter.all false
set_option maxRecDepth 100000
set_option maxHeartbeats 4000000
namespace A9
open PySem PySem.Spec PyProof.Rows L2 AS
def snapS : Str := "snapshot"
def entryS : Str := "entry"
def eqS : Str := "="
def snapR : List Str → List Gr → Nat → (Nat × Str) ⊕ List Gr
  | [], acc, _ => .inr acc
  | l :: r, acc, k => match grantOf eqS l with
    | none => .inl (k, unknownS)
    | some g => if behind g acc = true then snapR r (acc ++ [g]) (k + 1) else .inl (k, orderS)
def snapOf : List Str → (Nat × Str) ⊕ (Str × Nat × List Gr)
  | [] => .inl (1, headS)
  | l :: r => match headOf snapS 0 l with
    | none => .inl (1, headS)
    | some (i, n) => match snapR r [] 2 with
      | .inl e => .inl e
      | .inr gs => .inr (i, n, gs)
/-- what an error of a line leaves -/
def Told (K : PySem.W.Frag) (H : Hp) (E : XK) (k : Nat) (what : Str) : Prop := ∀ d H', Sm H H' → H d = none → H' d = some (.xd [("what", .str what), ("line", .int (k : Nat))]) → E (.ref (He.ga K "BadFeed")) (some d) H'
def spSnap (K : PySem.W.Frag) (tf : List He.Defn) : Sp := fun vs H Q E => ∃ z : Str, vs = [.str z] ∧ z.length ≤ 100000 ∧ Tabs K tf H ∧
  (∀ k what, snapOf (linesOf z) = .inl (k, what) → Told K H E k what) ∧
  (∀ i n gs, snapOf (linesOf z) = .inr (i, n, gs) → ∀ H' p o as, Sm H H' → H p = none → H' p = some (.tup [.str i, .int (n : Nat), .ref o]) → H' o = some (.lst (as.map V.ref)) → GRows H' as gs → Q (.ref p) H')
theorem spl_ne (S : List Nat) : ∀ (l : List Nat) (k : Nat) (acc : List Nat), TL.spl S k acc l ≠ []
  | [], k, acc => by
    rw [TL.spl_nil]
    exact List.cons_ne_nil _ _
  | c :: r, 0, acc => by
    by_cases h : TL.pre S (c :: r) = true
    · rw [TL.spl_hit h]
      exact List.cons_ne_nil _ _
    · rw [TL.spl_miss (by simpa using h)]
      exact spl_ne S r 0 _
  | c :: r, k + 1, acc => spl_ne S r k acc
theorem lines_ne (z : Str) : linesOf z ≠ [] := fun e => by
  have h := TL.split_spl z nlS (by decide +kernel) (TL.kind_ok (by decide +kernel))
  have e2 : Txt.split z nlS = [] := e
  rw [e2] at h
  exact spl_ne _ _ _ _ h.symm
theorem cut_from1 {α : Type} (x : α) (r : List α) (f : α → V) : cutV ((x :: r).map f) (some 1) none = r.map f := by
  unfold cutV
  rw [HT.sIx_none, show HT.sIx ((x :: r).map f).length 0 (some 1) = min 1 ((x :: r).map f).length from HT.sIx_nat _ _ 1]
  rw [List.map_cons, List.length_cons, Nat.min_eq_left (by omega), List.drop_one, List.tail_cons]
  exact List.take_of_length_le (by omega)
section
variable {P : Program} {w : World} {K : PySem.W.Frag} {mg : Str → Option Value} {base : Heap}
theorem ok_read_snapshot (T : Top NN K mg base) (B : VeInit K (He.ga K "AuthError")) (R_BadFeed : ErrC K mg "BadFeed" "line" "what") : DOk P w K mg base (CX P w) 6 "read_snapshot" ["text"] (spSnap K NN.tf) := by
  refine T.ok (d := dread_snapshot) iread_snapshot rfl rfl rfl rfl (by decide +kernel) scread_snapshot (fun _ _ _ _ _ _ us hl => match us, hl with | [_], _ => rfl) (fun vs H Q E h => ?_) (fun cdv A outer s H vs Q E ec hr h => ?_)
  · obtain ⟨z, rfl, _⟩ := h
    rfl
  · obtain ⟨z, rfl, hz, hT, q1, q2⟩ := h
    have G__grant_of := ok_grant_of (P := P) (w := w) T
    have G__head_of := (ok_head_of (P := P) (w := w) T).mono (show 3 ≤ 5 by decide)
    have G__is_behind := (ok_is_behind (P := P) (w := w) T).mono (show 1 ≤ 5 by decide)
    obtain ⟨fE, F_BadFeed, b_BadFeed⟩ := ok_BadFeed_init (P := P) (w := w) T B
    have n_enumerate := T.f "enumerate" (by decide +kernel)
    have hrE := hr.mono (show 2 ≤ 5 by decide)
    refine ⟨_, (pss_cons (ps_set (i := 1) scread_snapshot.nd rfl (.inl rfl) (pe_split (pv 0) pe_str))
      (pss_cons (ps_set (i := 2) scread_snapshot.nd rfl (.inl rfl) (pe_callD G__head_of hr (pa_cons pe_str (pa_cons pe_int (pa_cons (pe_ix  ix_list (pv 1) pe_int (fun _ _ => rfl)) pa_nil)))))
      (pss_cons (ps_if (pt_cmpR op_isN (pv 2) pe_non (nomark _)) (pss_one (ps_raise rfl (takes_of rfl rfl rfl rfl) (pmk_oex R_BadFeed.ox R_BadFeed.iC R_BadFeed.tI F_BadFeed hrE b_BadFeed .nil pass0 rfl R_BadFeed.gl (pa_cons pe_int (pa_cons pe_str pa_nil))))) pss_nil)
      (pss_cons (ps_set (i := 3) scread_snapshot.nd rfl (.inl rfl) (pe_lst pa_nil))
      (pss_cons (ps_for (passes_of rfl) rfl (pi_enumK rfl n_enumerate (pa_cons (pe_slice sl_list (pv 1) (po_some pe_int) po_none) pa_nil) (pk_cons pe_int pk_nil)) (pg_tup (by rfl) (pgs_cons (pg_name (i := 4) scread_snapshot.nd rfl (.inl rfl)) (pgs_cons (pg_name (i := 5) scread_snapshot.nd rfl (.inl rfl)) pgs_nil))) (pss_cons (ps_set (i := 6) scread_snapshot.nd rfl (.inl rfl) (pe_callD G__grant_of hr (pa_cons pe_str (pa_cons (pv 5) pa_nil))))
      (pss_cons (ps_if (pt_cmpR op_isN (pv 6) pe_non (nomark _)) (pss_one (ps_raise rfl (takes_of rfl rfl rfl rfl) (pmk_oex R_BadFeed.ox R_BadFeed.iC R_BadFeed.tI F_BadFeed hrE b_BadFeed .nil pass0 rfl R_BadFeed.gl (pa_cons (pv 4) (pa_cons pe_str pa_nil))))) pss_nil)
      (pss_cons (ps_if (pt_not (pt_val (pe_callD G__is_behind hr (pa_cons (pv 6) (pa_cons (pv 3) pa_nil))))) (pss_one (ps_raise rfl (takes_of rfl rfl rfl rfl) (pmk_oex R_BadFeed.ox R_BadFeed.iC R_BadFeed.tI F_BadFeed hrE b_BadFeed .nil pass0 rfl R_BadFeed.gl (pa_cons (pv 4) (pa_cons pe_str pa_nil))))) pss_nil)
      (pss_one (ps_expr (pe_bm PySem.F.plainAttrs_list PySem.F.slot_list_append PySem.F.type_list_append mt_append (pv 3) (pa_cons (pv 6) pa_nil))))))))
      (pss_one (ps_ret (pe_tup (StX.pa_star (pv 2) (pa_cons (pv 3) pa_nil)))))))))), ?_⟩
    have big : (1000000 : Nat) ≤ sizeLine := by decide
    obtain ⟨sl, sn⟩ := split_nl z
    refine ⟨.str z, rfl, ⟨_, rfl⟩, z, nlS, rfl, rfl, by decide +kernel, by omega, fun p np => ?_⟩
    have s0 : Sm H (upd H p (.lst ((linesOf z).map V.str))) := Sm.new np
    have e0 : (upd H p (.lst ((linesOf z).map V.str))) p = some (.lst ((linesOf z).map V.str)) := upd_same
    have sl2 : ∀ l ∈ linesOf z, l.length ≤ 100000 := fun l hl => Nat.le_trans (sl l hl) hz
    have sn2 : (linesOf z).length ≤ 100001 := Nat.le_trans sn (by omega)
    cases el : linesOf z with
    | nil => exact absurd el (lines_ne z)
    | cons l0 ls =>
      rw [el] at q1 q2 e0 sl2 sn2
      have e00 : (upd H p (.lst (((l0 :: ls) : List Str).map V.str))) p = some (.lst (((l0 :: ls) : List Str).map V.str)) := upd_same
      have s0 : Sm H (upd H p (.lst (((l0 :: ls) : List Str).map V.str))) := Sm.new np
      have el2 : Txt.split z nlS = l0 :: ls := el
      rw [el2]
      refine ⟨.ref p, rfl, p, _, 0, .str l0, rfl, rfl, .inl (.inl e00), at_w (ws := l0 :: ls) (i := 0) rfl, snapS, 0, l0, rfl, sl2 l0 (List.mem_cons_self ..), s0.tabs hT, fun h1 H1 s1 => ?_, fun i n h1 H1 ph s1 nph eph => ?_⟩
      · have er : snapOf (l0 :: ls) = .inl (1, headS) := by
          show (match headOf snapS 0 l0 with | none => _ | some (i, n) => _) = _
          rw [h1]
        refine ⟨.non, rfl, rfl, true, rfl, iteT ?_⟩
        refine mk_read R_BadFeed (.inl ⟨1, rfl, by decide, by decide⟩) (.inr ⟨headS, rfl, by decide +kernel⟩) fun d H4 s4 nd ed => ?_
        exact q1 1 headS er d H4 ((s0.trans s1).trans s4) ((s0.trans s1).free nd) ed
      · refine ⟨.ref ph, rfl, rfl, false, rfl, iteF ?_⟩
        have er : snapOf (l0 :: ls) = match snapR ls [] 2 with
            | .inl e => .inl e
            | .inr gs => .inr (i, n, gs) := by
          show (match headOf snapS 0 l0 with | none => _ | some (i, n) => _) = _
          rw [h1]
        refine ⟨Nat.zero_le _, fun o no => ?_⟩
        have s2 : Sm H1 (upd H1 o (.lst [])) := Sm.new no
        have noH : H o = none := (s0.trans s1).free no
        refine ⟨.ref p, rfl, 1, rfl, p, _, rfl, .inl (.inl ((s1.trans s2).lst e00)), fun t nt => ?_⟩
        have s3 : Sm H1 (upd (upd H1 o (.lst [])) t (.lst (ls.map V.str))) := s2.put (s2.free nt)
        have nto : t ≠ o := fun e => by
          rw [e, upd_same] at nt
          cases nt
        have ntH : H t = none := (s0.trans (s1.trans s2)).free nt
        rw [cut_from1 l0 ls V.str]
        refine ⟨t, ls.map V.str, 2, rfl, rfl, by decide, by decide, .inl (.inl upd_same), ?_⟩
        refine for_enumK (fun j σ H' => (∃ u4 u5 u6, σ = [some (.str z), some (.ref p), some (.ref ph), some (.ref o), u4, u5, u6]) ∧ Sm H H' ∧ H' ph = some (.tup [.str i, .int (n : Nat)]) ∧ H' t = some (.lst (ls.map V.str)) ∧
            ∃ (as : List Addr) (gs : List Gr), H' o = some (.lst (as.map V.ref)) ∧ GRows H' as gs ∧ gs.length = j ∧ snapR ls [] 2 = snapR (ls.drop j) gs (2 + j))
          ⟨⟨_, _, _, rfl⟩, s0.trans (s1.trans s3), s3.tup eph, upd_same, [], [], by rw [upd_ne (Ne.symm nto)]; exact upd_same, trivial, rfl, rfl⟩
          (fun j σ H' _ hP => .inl (.inl hP.2.2.2.1)) (fun j x T' σ H' hx hP nT => ?_) fun σ H' hP => ?_
        · obtain ⟨⟨u4, u5, u6, rfl⟩, sm, eph', et, as, gs, eo, hR, hg, hs⟩ := hP
          rw [List.getElem?_map] at hx
          obtain ⟨l, hl, rfl⟩ := Option.map_eq_some_iff.mp hx
          have hj : j < ls.length := (List.getElem?_eq_some_iff.mp hl).1
          have dl : ls.drop j = l :: ls.drop (j + 1) := by
            rw [List.drop_eq_getElem_cons hj]
            congr 1
            exact (List.getElem?_eq_some_iff.mp hl).2
          have hjb : j ≤ 100000 := by
            rw [List.length_cons] at sn2
            omega
          have ll := sl2 l (List.mem_cons_of_mem _ (List.mem_of_getElem? hl))
          have s4 : Sm H' (upd H' T' (.tup [.int (2 + (j : Nat)), .str l])) := Sm.new nT
          refine ⟨T', _, rfl, .inl (.inl upd_same), rfl, _, _, rfl, _, _, rfl, rfl, ?_⟩
          refine ⟨.str l, rfl, eqS, l, rfl, ll, (sm.trans s4).tabs hT, fun hn H5 s5 => ?_, fun g hn H5 pg s5 npg epg => ?_⟩
          · have ee : snapR ls [] 2 = .inl (2 + j, unknownS) := by
              rw [hs, dl]
              show (match grantOf eqS l with | none => _ | some g => _) = _
              rw [hn]
            rw [ee] at er
            have s45 := s4.trans s5
            refine ⟨.non, rfl, rfl, true, rfl, iteT ?_⟩
            refine ⟨_, rfl, mk_read R_BadFeed (.inl ⟨_, rfl, by omega, by omega⟩) (.inr ⟨unknownS, rfl, by decide +kernel⟩) fun d H6 s6 nd ed => ?_⟩
            exact q1 _ unknownS er d H6 ((sm.trans s45).trans s6) ((sm.trans s45).free nd) (by rw [ed]; congr 2)
          · refine ⟨.ref pg, rfl, rfl, false, rfl, iteF ?_⟩
            have s45 := s4.trans s5
            have eo5 := s45.lst eo
            have hR5 := hR.sm s45
            refine ⟨.ref pg, rfl, .ref o, rfl, pg, o, g, as, gs, rfl, epg, eo5, hR5, fun H6 s6 => ⟨_, rfl, ?_⟩⟩
            have s46 := s45.trans s6
            show if (!behind g gs) = true then _ else _
            refine iteB (fun hb => ?_) fun hb => ?_
            · rw [Bool.not_eq_true'] at hb
              have ee : snapR ls [] 2 = .inl (2 + j, orderS) := by
                rw [hs, dl]
                show (match grantOf eqS l with | none => _ | some g => if behind g gs = true then _ else _) = _
                rw [hn]
                show (if behind g gs = true then _ else _) = _
                rw [hb]
                rfl
              rw [ee] at er
              refine ⟨_, rfl, mk_read R_BadFeed (.inl ⟨_, rfl, by omega, by omega⟩) (.inr ⟨orderS, rfl, by decide +kernel⟩) fun d H7 s7 nd ed => ?_⟩
              exact q1 _ orderS er d H7 ((sm.trans s46).trans s7) ((sm.trans s46).free nd) (by rw [ed]; congr 2)
            · rw [Bool.not_eq_false'] at hb
              have ee : snapR ls [] 2 = snapR (ls.drop (j + 1)) (gs ++ [g]) (2 + (j + 1)) := by
                rw [hs, dl]
                show (match grantOf eqS l with | none => _ | some g => if behind g gs = true then _ else _) = _
                rw [hn]
                show (if behind g gs = true then _ else _) = _
                rw [hb]
                rfl
              have eo6 := s46.lst eo
              have epg6 := s6.tup epg
              have hl2 := hR.len
              refine ⟨.ref o, rfl, .inl ⟨rfl, _, .inl (.inl eo6)⟩, .ref pg, rfl, o, _, _, rfl, rfl, eo6, ?_, ⟨_, _, _, rfl⟩, (sm.trans s46).put noH, ?_, ?_, as ++ [pg], gs ++ [g], ?_, ?_, ?_, ee⟩
              · rw [List.length_map]
                omega
              · have e6 := s46.tup eph'
                rw [upd_ne (fun e => by rw [e, eo6] at e6; cases e6)]
                exact e6
              · rw [upd_ne nto]
                exact s46.lst et
              · rw [upd_same, List.map_append]
                rfl
              · exact GRows.snoc (by rw [upd_ne (fun e => by rw [e, eo6] at epg6; cases epg6)]; exact epg6) ((hR.sm s46).other ⟨_, eo6⟩)
              · rw [List.length_append, hg]
                rfl
        · obtain ⟨⟨u4, u5, u6, rfl⟩, sm, eph', et, as, gs, eo, hR, hg, hs⟩ := hP
          rw [List.length_map, List.drop_length] at hs
          have hs2 : snapR ls [] 2 = .inr gs := hs
          rw [hs2] at er
          refine ⟨.ref ph, rfl, ph, _, rfl, .inl (.inl (.inl eph')), .ref o, rfl, by show 3 ≤ sizeLine; decide, fun r nr => ?_⟩
          exact q2 i n gs er _ r o as (sm.put (sm.free nr)) (sm.free nr) upd_same (by rw [upd_ne (fun e => by rw [← e, eo] at nr; cases nr)]; exact eo) (hR.sm (Sm.new nr))
end
end A9

set_option Elab.async false
set_option linter.all false
set_option maxRecDepth 100000
set_option maxHeartbeats 4000000
namespace A9
open PySem PySem.Spec PyProof.Rows L2 AS
theorem starts_one (x : Str) (c : Nat) : Txt.startswith x ⟨#[c]⟩ = decide ((tl x)[0]? = some c) := by
  have h := StrLaws.subAt_one x c 0
  unfold Txt.startswith
  rw [Bool.eq_iff_iff, Bool.and_eq_true, decide_eq_true_eq, decide_eq_true_eq]
  exact h
theorem grant_sign {c : Nat} {l : Str} {g : Gr} (h : grantOf ⟨#[c]⟩ l = some g) : (tl l)[0]? = some c := by
  have e : ∃ t n s, partsOf l = [⟨#[c]⟩, t, n, s] := by
    unfold grantOf at h
    generalize partsOf l = ws at h
    unfold grantP at h
    split at h
    · rename_i w t n s
      by_cases q : (decide (w = (⟨#[c]⟩ : Str)) && isGrant t n s) = true
      · rw [Bool.and_eq_true, decide_eq_true_eq] at q
        exact ⟨t, n, s, by rw [q.1]⟩
      · rw [if_neg q] at h
        cases h
    · cases h
  obtain ⟨t, n, s, e⟩ := e
  have el : l = Str.join spS [⟨#[c]⟩, t, n, s] := by
    rw [← e]
    exact (StrLaws.join_split l spS).symm
  have e2 : tl l = c :: (tl spS ++ TL.joinL (tl spS) ([t, n, s].map tl)) := by
    rw [el]
    show TL.tl _ = _
    rw [TL.tl_join]
    rfl
  rw [e2]
  rfl
/-! ### entries of a feed -/
structure En where
  st : Str
  n : Nat
  gs : List Gr
  ls : List Gr
def feedR : List Str → List En → Nat → (Nat × Str) ⊕ List En
  | [], acc, _ => .inr acc
  | l :: r, acc, k => match headOf entryS 1 l with
    | some (i, n) => feedR r (acc ++ [⟨i, n, [], []⟩]) (k + 1)
    | none => match acc.getLast? with
      | none => .inl (k, headS)
      | some e => if faultOf e.gs e.ls l = Str.empty then
          (match grantOf plusS l with
          | some g => feedR r (acc.dropLast ++ [⟨e.st, e.n, e.gs ++ [g], e.ls⟩]) (k + 1)
          | none => match grantOf minusS l with
            | some g => feedR r (acc.dropLast ++ [⟨e.st, e.n, e.gs, e.ls ++ [g]⟩]) (k + 1)
            | none => .inl (k, unknownS))
        else .inl (k, faultOf e.gs e.ls l)
def feedOf (z : Str) : (Nat × Str) ⊕ List En := if z = Str.empty then .inr [] else feedR (linesOf z) [] 1
structure Ad where
  a : Addr
  o1 : Addr
  o2 : Addr
def EnAt (H : Hp) (t : Ad) (e : En) : Prop := ∃ b1 b2 : List Addr, H t.a = some (.tup [.str e.st, .int (e.n : Nat), .ref t.o1, .ref t.o2]) ∧ H t.o1 = some (.lst (b1.map V.ref)) ∧ GRows H b1 e.gs ∧ H t.o2 = some (.lst (b2.map V.ref)) ∧ GRows H b2 e.ls
def EnRows (H : Hp) : List Ad → List En → Prop
  | [], [] => True
  | t :: ts, e :: es => EnAt H t e ∧ EnRows H ts es
  | _, _ => False
theorem EnAt.sm {H H' : Hp} (s : Sm H H') {t : Ad} {e : En} (h : EnAt H t e) : EnAt H' t e := by
  obtain ⟨b1, b2, h1, h2, h3, h4, h5⟩ := h
  exact ⟨b1, b2, s.tup h1, s.lst h2, h3.sm s, s.lst h4, h5.sm s⟩
theorem EnRows.sm {H H' : Hp} (s : Sm H H') : ∀ {ts : List Ad} {es : List En}, EnRows H ts es → EnRows H' ts es
  | [], [], _ => trivial
  | _ :: _, _ :: _, h => ⟨h.1.sm s, EnRows.sm s h.2⟩
  | [], _ :: _, h => h.elim
  | _ :: _, [], h => h.elim
theorem EnRows.len {H : Hp} : ∀ {ts : List Ad} {es : List En}, EnRows H ts es → ts.length = es.length
  | [], [], _ => rfl
  | _ :: _, _ :: _, h => congrArg Nat.succ (EnRows.len h.2)
  | [], _ :: _, h => h.elim
  | _ :: _, [], h => h.elim
theorem EnRows.snoc {H : Hp} {t : Ad} {e : En} (h1 : EnAt H t e) : ∀ {ts : List Ad} {es : List En}, EnRows H ts es → EnRows H (ts ++ [t]) (es ++ [e])
  | [], [], _ => ⟨h1, trivial⟩
  | _ :: _, _ :: _, h => ⟨h.1, EnRows.snoc h1 h.2⟩
  | [], _ :: _, h => h.elim
  | _ :: _, [], h => h.elim
theorem EnRows.mem {H : Hp} : ∀ {ts : List Ad} {es : List En}, EnRows H ts es → ∀ t ∈ ts, ∃ e, EnAt H t e
  | [], [], _, _, h => nomatch h
  | t :: _, e :: _, h, u, hu => by
    rcases List.mem_cons.mp hu with r | r
    · rw [r]
      exact ⟨e, h.1⟩
    · exact EnRows.mem h.2 u r
  | [], _ :: _, h, _, _ => h.elim
  | _ :: _, [], h, _, _ => h.elim
/-- a list that is none of an entry's is written -/
theorem EnAt.other {H : Hp} {o : Addr} {h : HO} {t : Ad} {e : En} (hE : EnAt H t e) (ho : ∃ xs, H o = some (.lst xs)) (n1 : t.o1 ≠ o) (n2 : t.o2 ≠ o) : EnAt (upd H o h) t e := by
  obtain ⟨b1, b2, h1, h2, h3, h4, h5⟩ := hE
  obtain ⟨xs, hx⟩ := id ho
  refine ⟨b1, b2, ?_, ?_, h3.other ho, ?_, h5.other ho⟩
  · rw [upd_ne (fun e => by rw [e, hx] at h1; cases h1)]
    exact h1
  · rw [upd_ne n1]
    exact h2
  · rw [upd_ne n2]
    exact h4
theorem EnRows.other {H : Hp} {o : Addr} {h : HO} (ho : ∃ xs, H o = some (.lst xs)) : ∀ {ts : List Ad} {es : List En}, EnRows H ts es → (∀ t ∈ ts, t.o1 ≠ o ∧ t.o2 ≠ o) → EnRows (upd H o h) ts es
  | [], [], _, _ => trivial
  | t :: ts, e :: es, hR, hn => ⟨hR.1.other ho (hn t (List.mem_cons_self ..)).1 (hn t (List.mem_cons_self ..)).2, EnRows.other ho hR.2 fun u hu => hn u (List.mem_cons_of_mem _ hu)⟩
  | [], _ :: _, hR, _ => hR.elim
  | _ :: _, [], hR, _ => hR.elim
/-! ### entries as data -/
def En.d (e : En) : PyData := .tuple [.str e.st, .int (e.n : Nat), .list (e.gs.map Gr.d), .list (e.ls.map Gr.d)]
theorem EnAt.dp {K : PySem.W.Frag} {H : Hp} {t : Ad} {e : En} (h : EnAt H t e) : Dp K H (.ref t.a) e.d := by
  obtain ⟨b1, b2, h1, h2, h3, h4, h5⟩ := h
  exact .tup (.inl (.inl h1)) (.cons (.str _) (.cons (.int _) (.cons (.lst (.inl (.inl h2)) h3.dp) (.cons (.lst (.inl (.inl h4)) h5.dp) .nil))))
theorem EnRows.dp {K : PySem.W.Frag} {H : Hp} : ∀ {ts : List Ad} {es : List En}, EnRows H ts es → DpAll K H (ts.map fun t => V.ref t.a) (es.map En.d)
  | [], [], _ => .nil
  | _ :: _, _ :: _, h => .cons h.1.dp (EnRows.dp h.2)
  | [], _ :: _, h => h.elim
  | _ :: _, [], h => h.elim
theorem ens_plain : ∀ es : List En, PyData.plainAll (es.map En.d) = true
  | [] => rfl
  | e :: r => by
    show (PyData.plain e.d && PyData.plainAll (r.map En.d)) = true
    rw [ens_plain r, Bool.and_true]
    show (true && (true && (PyData.plainAll (e.gs.map Gr.d) && (PyData.plainAll (e.ls.map Gr.d) && true)))) = true
    rw [grs_plain, grs_plain]
    rfl
theorem ens_nil (es : List En) : PyData.eqv (.list (es.map En.d)) (.list []) = decide (es = []) := by
  cases es with
  | nil => rfl
  | cons _ _ => rfl
def spFeed (K : PySem.W.Frag) (tf : List He.Defn) : Sp := fun vs H Q E => ∃ z : Str, vs = [.str z] ∧ z.length ≤ 100000 ∧ Tabs K tf H ∧
  (∀ k what, feedOf z = .inl (k, what) → Told K H E k what) ∧
  (∀ es, feedOf z = .inr es → ∀ H' o ts, Sm H H' → H o = none → H' o = some (.lst (ts.map fun t : Ad => V.ref t.a)) → EnRows H' ts es → Q (.ref o) H')
end A9

set_option Elab.async false
set_option linter.all false
set_option maxRecDepth 100000
set_option maxHeartbeats 4000000
namespace A9
open PySem PySem.Spec PyProof.Rows L2 AS
theorem feed_head {l : Str} {r : List Str} {acc : List En} {k : Nat} {i : Str} {n : Nat} (h : headOf entryS 1 l = some (i, n)) : feedR (l :: r) acc k = feedR r (acc ++ [⟨i, n, [], []⟩]) (k + 1) := by
  show (match headOf entryS 1 l with | some (i, n) => _ | none => _) = _
  rw [h]
theorem feed_none {l : Str} {r : List Str} {k : Nat} (h : headOf entryS 1 l = none) : feedR (l :: r) [] k = .inl (k, headS) := by
  show (match headOf entryS 1 l with | some (i, n) => _ | none => _) = _
  rw [h]
  rfl
theorem feed_line {l : Str} {r : List Str} {acc : List En} {e : En} {k : Nat} (h : headOf entryS 1 l = none) : feedR (l :: r) (acc ++ [e]) k = if faultOf e.gs e.ls l = Str.empty then
          (match grantOf plusS l with
          | some g => feedR r (acc ++ [⟨e.st, e.n, e.gs ++ [g], e.ls⟩]) (k + 1)
          | none => match grantOf minusS l with
            | some g => feedR r (acc ++ [⟨e.st, e.n, e.gs, e.ls ++ [g]⟩]) (k + 1)
            | none => .inl (k, unknownS))
        else .inl (k, faultOf e.gs e.ls l) := by
  have e1 : (acc ++ [e]).getLast? = some e := List.getLast?_concat
  have e2 : (acc ++ [e]).dropLast = acc := List.dropLast_concat
  show (match headOf entryS 1 l with | some (i, n) => _ | none => match (acc ++ [e]).getLast? with | none => _ | some e => _) = _
  rw [h]
  show (match (acc ++ [e]).getLast? with | none => _ | some e => _) = _
  rw [e1]
  show (if faultOf e.gs e.ls l = Str.empty then (match grantOf plusS l with | some g => feedR r ((acc ++ [e]).dropLast ++ [_]) (k + 1) | none => match grantOf minusS l with | some g => feedR r ((acc ++ [e]).dropLast ++ [_]) (k + 1) | none => _) else _) = _
  rw [e2]
theorem fault_len (g1 g2 : List Gr) (l : Str) : (faultOf g1 g2 l).length ≤ 1000 := by
  unfold faultOf
  split
  · split <;> decide +kernel
  · split
    · decide +kernel
    · split
      · split <;> decide +kernel
      · decide +kernel
theorem fault_plus {g1 g2 : List Gr} {l : Str} (h : faultOf g1 g2 l = Str.empty) : (∃ g, grantOf plusS l = some g ∧ Txt.startswith l plusS = true) ∨ ∃ g, grantOf plusS l = none ∧ grantOf minusS l = some g ∧ Txt.startswith l plusS = false := by
  have e43 : ∀ x : Str, Txt.startswith x plusS = decide ((tl x)[0]? = some 43) := fun x => starts_one x 43
  cases e : grantOf plusS l with
  | some g => exact .inl ⟨g, rfl, by rw [e43, grant_sign (c := 43) e]; rfl⟩
  | none =>
    cases e2 : grantOf minusS l with
    | some g => exact .inr ⟨g, rfl, rfl, by rw [e43, grant_sign (c := 45) e2]; rfl⟩
    | none =>
      unfold faultOf at h
      rw [e, e2] at h
      have h2 : unknownS = Str.empty := h
      exact absurd h2 (by decide +kernel)
/-- what the loop of read_feed keeps -/
structure FI (H : Hp) (q o : Addr) (lines : List Str) (j : Nat) (H' : Hp) (c1 c2 : Addr) : Prop where
  sm : Sm H H'
  eq : H' q = some (.lst (lines.map V.str))
  n1 : H c1 = none
  n2 : H c2 = none
  d12 : c1 ≠ c2
  d1o : c1 ≠ o
  d2o : c2 ≠ o
  d1q : c1 ≠ q
  d2q : c2 ≠ q
  ex : ∃ (b1 b2 : List Addr) (g1 g2 : List Gr) (its : List Ad) (ies : List En), H' c1 = some (.lst (b1.map V.ref)) ∧ GRows H' b1 g1 ∧ H' c2 = some (.lst (b2.map V.ref)) ∧ GRows H' b2 g2 ∧ b1.length ≤ j ∧ b2.length ≤ j ∧ its.length ≤ j ∧ EnRows H' its ies ∧
    (∀ u ∈ its, (u.o1 ≠ c1 ∧ u.o2 ≠ c1) ∧ (u.o1 ≠ c2 ∧ u.o2 ≠ c2) ∧ (u.o1 ≠ o ∧ u.o2 ≠ o)) ∧
    ((its = [] ∧ ies = [] ∧ H' o = some (.lst []) ∧ feedR lines [] 1 = feedR (lines.drop j) [] (1 + j)) ∨
      ∃ (a : Addr) (st : Str) (n : Nat), its.length + 1 ≤ j ∧ H' o = some (.lst ((its ++ ([⟨a, c1, c2⟩] : List Ad)).map fun t : Ad => V.ref t.a)) ∧ H' a = some (.tup [.str st, .int (n : Nat), .ref c1, .ref c2]) ∧ feedR lines [] 1 = feedR (lines.drop j) (ies ++ [⟨st, n, g1, g2⟩]) (1 + j))
section
variable {P : Program} {w : World} {K : PySem.W.Frag} {mg : Str → Option Value} {base : Heap}
theorem ok_read_feed (T : Top NN K mg base) (B : VeInit K (He.ga K "AuthError")) (R_BadFeed : ErrC K mg "BadFeed" "line" "what") : DOk P w K mg base (CX P w) 7 "read_feed" ["text"] (spFeed K NN.tf) := by
  refine T.ok (d := dread_feed) iread_feed rfl rfl rfl rfl (by decide +kernel) scread_feed (fun _ _ _ _ _ _ us hl => match us, hl with | [_], _ => rfl) (fun vs H Q E h => ?_) (fun cdv A outer s H vs Q E ec hr h => ?_)
  · obtain ⟨z, rfl, _⟩ := h
    rfl
  · obtain ⟨z, rfl, hz, hT, q1, q2⟩ := h
    have G__fault_of := ok_fault_of (P := P) (w := w) T
    have G__grant_of := (ok_grant_of (P := P) (w := w) T).mono (show 5 ≤ 6 by decide)
    have G__head_of := (ok_head_of (P := P) (w := w) T).mono (show 3 ≤ 6 by decide)
    obtain ⟨fE, F_BadFeed, b_BadFeed⟩ := ok_BadFeed_init (P := P) (w := w) T B
    have n_enumerate := T.f "enumerate" (by decide +kernel)
    have hrE := hr.mono (show 2 ≤ 6 by decide)
    refine ⟨_, (pss_cons (ps_set (i := 1) scread_feed.nd rfl (.inl rfl) (pe_lst pa_nil))
      (pss_cons (ps_if (pt_cmpR op_eq (pv 0) pe_str (nomark _)) (pss_one (ps_ret (pv 1))) pss_nil)
      (pss_cons (ps_set (i := 2) scread_feed.nd rfl (.inl rfl) (pe_lst pa_nil))
      (pss_cons (ps_set (i := 3) scread_feed.nd rfl (.inl rfl) (pe_lst pa_nil))
      (pss_cons (ps_for (passes_of rfl) rfl (pi_enumK rfl n_enumerate (pa_cons (pe_split (pv 0) pe_str) pa_nil) (pk_cons pe_int pk_nil)) (pg_tup (by rfl) (pgs_cons (pg_name (i := 4) scread_feed.nd rfl (.inl rfl)) (pgs_cons (pg_name (i := 5) scread_feed.nd rfl (.inl rfl)) pgs_nil))) (pss_cons (ps_set (i := 6) scread_feed.nd rfl (.inl rfl) (pe_callD G__head_of hr (pa_cons pe_str (pa_cons pe_int (pa_cons (pv 5) pa_nil)))))
      (pss_cons (ps_if (pt_cmpR op_notN (pv 6) pe_non (nomark _)) (pss_cons (ps_set (i := 2) scread_feed.nd rfl (.inl rfl) (pe_lst pa_nil))
      (pss_cons (ps_set (i := 3) scread_feed.nd rfl (.inl rfl) (pe_lst pa_nil))
      (pss_cons (ps_expr (pe_bm PySem.F.plainAttrs_list PySem.F.slot_list_append PySem.F.type_list_append mt_append (pv 1) (pa_cons (pe_tup (StX.pa_star (pv 6) (pa_cons (pv 2) (pa_cons (pv 3) pa_nil)))) pa_nil)))
      (pss_one ps_continue)))) pss_nil)
      (pss_cons (ps_set (i := 7) scread_feed.nd rfl (.inl rfl) (pe_ifExp (pt_cmpR (op_eqP hr.units) (pv 1) (pe_lst pa_nil) (nomark _)) pe_str (pe_callD G__fault_of hr (pa_cons (pv 2) (pa_cons (pv 3) (pa_cons (pv 5) pa_nil))))))
      (pss_cons (ps_if (pt_cmpR op_ne (pv 7) pe_str (nomark _)) (pss_one (ps_raise rfl (takes_of rfl rfl rfl rfl) (pmk_oex R_BadFeed.ox R_BadFeed.iC R_BadFeed.tI F_BadFeed hrE b_BadFeed .nil pass0 rfl R_BadFeed.gl (pa_cons (pv 4) (pa_cons (pv 7) pa_nil))))) pss_nil)
      (pss_one (ps_if (pt_val (pe_m1 PySem.F.slot_str_startswith PySem.F.type_str_startswith mt_startswith (pv 5) pe_str)) (pss_one (ps_expr (pe_bm PySem.F.plainAttrs_list PySem.F.slot_list_append PySem.F.type_list_append mt_append (pv 2) (pa_cons (pe_callD G__grant_of hr (pa_cons pe_str (pa_cons (pv 5) pa_nil))) pa_nil)))) (pss_one (ps_expr (pe_bm PySem.F.plainAttrs_list PySem.F.slot_list_append PySem.F.type_list_append mt_append (pv 3) (pa_cons (pe_callD G__grant_of hr (pa_cons pe_str (pa_cons (pv 5) pa_nil))) pa_nil)))))))))))
      (pss_one (ps_ret (pv 1)))))))), ?_⟩
    have big : (1000000 : Nat) ≤ sizeLine := by decide
    refine ⟨Nat.zero_le _, fun o no => ?_⟩
    refine ⟨_, rfl, rfl, _, rfl, iteB (fun h => ?_) fun h => ?_⟩
    · have e : z = Str.empty := V.str.inj (of_decide_eq_true h)
      exact ⟨_, rfl, q2 [] (by unfold feedOf; rw [if_pos e]) _ o [] (Sm.new no) no upd_same trivial⟩
    · have ne : z ≠ Str.empty := fun e => of_decide_eq_false h (by rw [e]; rfl)
      have ef : feedOf z = feedR (linesOf z) [] 1 := by unfold feedOf; rw [if_neg ne]
      rw [ef] at q1 q2
      obtain ⟨sl, sn⟩ := split_nl z
      refine ⟨Nat.zero_le _, fun c1 nc1 => ⟨Nat.zero_le _, fun c2 nc2 => ?_⟩⟩
      refine ⟨.str z, rfl, ⟨_, rfl⟩, z, nlS, rfl, rfl, by decide +kernel, by omega, fun qa nqa => ?_⟩
      have s0 : Sm H (upd H o (.lst [])) := Sm.new no
      have nc1H : H c1 = none := s0.free nc1
      have s1 := s0.put (o := .lst []) nc1H
      have nc2H : H c2 = none := s1.free nc2
      have s2 := s1.put (o := .lst []) nc2H
      have nqH : H qa = none := s2.free nqa
      have s3 := s2.put (o := .lst ((linesOf z).map V.str)) nqH
      have dco : c1 ≠ o := fun e => by
        rw [e, upd_same] at nc1
        cases nc1
      have d12 : c1 ≠ c2 := fun e => by
        rw [← e, upd_same] at nc2
        cases nc2
      have d2o : c2 ≠ o := fun e => by
        rw [e, upd_ne (Ne.symm dco), upd_same] at nc2
        cases nc2
      have d2q : c2 ≠ qa := fun e => by
        rw [← e, upd_same] at nqa
        cases nqa
      have d1q : c1 ≠ qa := fun e => by
        rw [← e, upd_ne d12, upd_same] at nqa
        cases nqa
      have doq : o ≠ qa := fun e => by
        rw [← e, upd_ne (Ne.symm d2o), upd_ne (Ne.symm dco), upd_same] at nqa
        cases nqa
      have sl2 : ∀ l ∈ linesOf z, l.length ≤ 100000 := fun l hl => Nat.le_trans (sl l hl) hz
      have sn2 : (linesOf z).length ≤ 100001 := Nat.le_trans sn (by omega)
      refine ⟨qa, (linesOf z).map V.str, 1, rfl, rfl, by decide, by decide, .inl (.inl upd_same), ?_⟩
      refine for_enumK (fun j σ H' => ∃ (c1 c2 : Addr) (u4 u5 u6 u7 : Option V), σ = [some (.str z), some (.ref o), some (.ref c1), some (.ref c2), u4, u5, u6, u7] ∧ FI H qa o (linesOf z) j H' c1 c2)
        ⟨c1, c2, _, _, _, _, rfl, s3, upd_same, nc1H, nc2H, d12, dco, d2o, d1q, d2q, [], [], [], [], [], [], by rw [upd_ne d1q, upd_ne d12]; exact upd_same, trivial, by rw [upd_ne d2q]; exact upd_same, trivial, Nat.zero_le _, Nat.zero_le _, Nat.zero_le _, trivial, (fun u hu => nomatch hu),
          .inl ⟨rfl, rfl, by rw [upd_ne doq, upd_ne (Ne.symm d2o), upd_ne (Ne.symm dco)]; exact upd_same, rfl⟩⟩
        (fun j σ H' _ hP => by
          obtain ⟨_, _, _, _, _, _, _, fi⟩ := hP
          exact .inl (.inl fi.eq)) (fun j x T' σ H' hx hP nT => ?_) fun σ H' hP => ?_
      · clear d12 dco d2o d1q d2q nc1H nc2H nc1 nc2 nqa
        obtain ⟨c1, c2, u4, u5, u6, u7, rfl, fi⟩ := hP
        obtain ⟨sm, eqa, n1, n2, d12, d1o, d2o, d1q, d2q, b1, b2, g1, g2, its, ies, ec1, hR1, ec2, hR2, lb1, lb2, li, hE, hsep, hcase⟩ := fi
        rw [List.getElem?_map] at hx
        obtain ⟨l, hl, rfl⟩ := Option.map_eq_some_iff.mp hx
        have hj : j < (linesOf z).length := (List.getElem?_eq_some_iff.mp hl).1
        have dl : (linesOf z).drop j = l :: (linesOf z).drop (j + 1) := by
          rw [List.drop_eq_getElem_cons hj]
          congr 1
          exact (List.getElem?_eq_some_iff.mp hl).2
        have hjb : j ≤ 100000 := by omega
        have ll := sl2 l (List.mem_of_getElem? hl)
        have s4 : Sm H' (upd H' T' (.tup [.int (1 + (j : Nat)), .str l])) := Sm.new nT
        refine ⟨T', _, rfl, .inl (.inl upd_same), rfl, _, _, rfl, _, _, rfl, rfl, ?_⟩
        refine ⟨.str l, rfl, entryS, 1, l, rfl, ll, (sm.trans s4).tabs hT, fun hn H5 s5 => ?_, fun i n hn H5 ph s5 nph eph => ?_⟩
        · -- no head
          have s45 := s4.trans s5
          refine ⟨.non, rfl, rfl, false, rfl, iteF ?_⟩
          rcases hcase with ⟨rfl, rfl, eo, hs⟩ | ⟨a, st, m, hlen, eo, ea, hs⟩
          · -- nothing before
            refine ⟨.ref o, rfl, Nat.zero_le _, fun o3 no3 => ?_⟩
            have s6 : Sm H5 (upd H5 o3 (.lst [])) := Sm.new no3
            have s46 := s45.trans s6
            refine ⟨.list (([] : List En).map En.d), .list [], .lst (.inl (.inl (s46.lst eo))) .nil, .lst (.inl (.inl upd_same)) .nil, rfl, rfl, Nat.le_trans (Nat.min_le_right _ _) (by decide), ?_⟩
            refine ⟨true, rfl, iteT ?_⟩
            refine ⟨.str headS, rfl, rfl, true, rfl, iteT ?_⟩
            refine ⟨_, rfl, _, rfl, mk_read R_BadFeed (.inl ⟨_, rfl, by omega, by omega⟩) (.inr ⟨headS, rfl, by decide +kernel⟩) fun d H7 s7 nd ed => ?_⟩
            rw [dl, feed_none hn] at hs
            exact q1 _ headS hs d H7 ((sm.trans s46).trans s7) ((sm.trans s46).free nd) (by rw [ed]; congr 2)
          · refine ⟨.ref o, rfl, Nat.zero_le _, fun o3 no3 => ?_⟩
            have s6 : Sm H5 (upd H5 o3 (.lst [])) := Sm.new no3
            have s46 := s45.trans s6
            have hEE := EnRows.snoc (t := ⟨a, c1, c2⟩) (e := ⟨st, m, g1, g2⟩) ⟨b1, b2, ea, ec1, hR1, ec2, hR2⟩ hE
            refine ⟨.list ((ies ++ ([⟨st, m, g1, g2⟩] : List En)).map En.d), .list [], .lst (.inl (.inl (s46.lst eo))) (hEE.sm s46).dp, .lst (.inl (.inl upd_same)) .nil, ens_plain _, rfl, Nat.le_trans (Nat.min_le_right _ _) (by decide), ?_⟩
            refine ⟨false, congrArg V.bl ((ens_nil _).trans (decide_eq_false (by simp))), iteF ?_⟩
            refine ⟨.ref c1, rfl, .ref c2, rfl, .str l, rfl, c1, c2, b1, b2, g1, g2, l, rfl, s46.lst ec1, s46.lst ec2, hR1.sm s46, hR2.sm s46, ll, (sm.trans s46).tabs hT, fun H7 s7 => ?_⟩
            have s47 := s46.trans s7
            rw [dl, feed_line hn] at hs
            by_cases hf : faultOf g1 g2 l = Str.empty
            · have hs2 : feedR (linesOf z) [] 1 = (match grantOf plusS l with
                | some g => feedR ((linesOf z).drop (j + 1)) (ies ++ [⟨st, m, g1 ++ [g], g2⟩]) (1 + j + 1)
                | none => match grantOf minusS l with
                  | some g => feedR ((linesOf z).drop (j + 1)) (ies ++ [⟨st, m, g1, g2 ++ [g]⟩]) (1 + j + 1)
                  | none => .inl (1 + j, unknownS)) := by
                rw [hs]
                exact if_pos hf
              refine ⟨.str (faultOf g1 g2 l), rfl, rfl, false, ?_, iteF ?_⟩
              · show V.bl (!decide (V.str (faultOf g1 g2 l) = V.str Str.empty)) = V.bl false
                rw [hf, decide_eq_true rfl]
                rfl
              refine ⟨.str l, rfl, ⟨_, rfl⟩, l, plusS, rfl, rfl, ?_⟩
              have ec1' := s47.lst ec1
              have ec2' := s47.lst ec2
              rcases fault_plus hf with ⟨g, hg, hst⟩ | ⟨g, hg0, hg, hst⟩
              · rw [hg] at hs2
                refine ⟨true, congrArg V.bl hst, iteT ?_⟩
                refine ⟨.ref c1, rfl, .inl ⟨rfl, _, .inl (.inl ec1')⟩, .str l, rfl, plusS, l, rfl, ll, (sm.trans s47).tabs hT, (fun e => by rw [hg] at e; cases e), fun g' hg' H8 pg s8 npg epg => ?_⟩
                rw [hg] at hg'
                cases hg'
                have s48 := s47.trans s8
                have ec18 := s48.lst ec1
                refine ⟨c1, _, _, rfl, rfl, ec18, by rw [List.length_map]; omega, c1, c2, _, _, _, _, rfl, (sm.trans s48).put n1, ?_, n1, n2, d12, d1o, d2o, d1q, d2q, b1 ++ [pg], b2, g1 ++ [g], g2, its, ies, ?_, ?_, ?_, (hR2.sm s48).other ⟨_, ec18⟩, ?_, by omega, by omega, ?_, hsep, .inr ⟨a, st, m, by omega, ?_, ?_, hs2⟩⟩
                · rw [upd_ne (Ne.symm d1q)]
                  exact s48.lst eqa
                · rw [upd_same, List.map_append]
                  rfl
                · exact GRows.snoc (by rw [upd_ne (fun e => by rw [e, ec18] at epg; cases epg)]; exact epg) ((hR1.sm s48).other ⟨_, ec18⟩)
                · rw [upd_ne (Ne.symm d12)]
                  exact s48.lst ec2
                · rw [List.length_append]
                  show b1.length + 1 ≤ j + 1
                  omega
                · exact EnRows.other ⟨_, ec18⟩ (hE.sm s48) fun u hu => (hsep u hu).1
                · rw [upd_ne (Ne.symm d1o)]
                  exact s48.lst eo
                · have ea8 := s48.tup ea
                  rw [upd_ne (fun e => by rw [e, ec18] at ea8; cases ea8)]
                  exact ea8
              · rw [hg0, hg] at hs2
                refine ⟨false, congrArg V.bl hst, iteF ?_⟩
                refine ⟨.ref c2, rfl, .inl ⟨rfl, _, .inl (.inl ec2')⟩, .str l, rfl, minusS, l, rfl, ll, (sm.trans s47).tabs hT, (fun e => by rw [hg] at e; cases e), fun g' hg' H8 pg s8 npg epg => ?_⟩
                rw [hg] at hg'
                cases hg'
                have s48 := s47.trans s8
                have ec28 := s48.lst ec2
                refine ⟨c2, _, _, rfl, rfl, ec28, by rw [List.length_map]; omega, c1, c2, _, _, _, _, rfl, (sm.trans s48).put n2, ?_, n1, n2, d12, d1o, d2o, d1q, d2q, b1, b2 ++ [pg], g1, g2 ++ [g], its, ies, ?_, (hR1.sm s48).other ⟨_, ec28⟩, ?_, ?_, by omega, ?_, by omega, ?_, hsep, .inr ⟨a, st, m, by omega, ?_, ?_, hs2⟩⟩
                · rw [upd_ne (Ne.symm d2q)]
                  exact s48.lst eqa
                · rw [upd_ne d12]
                  exact s48.lst ec1
                · rw [upd_same, List.map_append]
                  rfl
                · exact GRows.snoc (by rw [upd_ne (fun e => by rw [e, ec28] at epg; cases epg)]; exact epg) ((hR2.sm s48).other ⟨_, ec28⟩)
                · rw [List.length_append]
                  show b2.length + 1 ≤ j + 1
                  omega
                · exact EnRows.other ⟨_, ec28⟩ (hE.sm s48) fun u hu => (hsep u hu).2.1
                · rw [upd_ne (Ne.symm d2o)]
                  exact s48.lst eo
                · have ea8 := s48.tup ea
                  rw [upd_ne (fun e => by rw [e, ec28] at ea8; cases ea8)]
                  exact ea8
            · have hs2 : feedR (linesOf z) [] 1 = .inl (1 + j, faultOf g1 g2 l) := by
                rw [hs]
                exact if_neg hf
              refine ⟨.str (faultOf g1 g2 l), rfl, rfl, true, ?_, iteT ?_⟩
              · show V.bl (!decide (V.str (faultOf g1 g2 l) = V.str Str.empty)) = V.bl true
                rw [dec_str, decide_eq_false hf]
                rfl
              refine ⟨_, rfl, _, rfl, mk_read R_BadFeed (.inl ⟨_, rfl, by omega, by omega⟩) (.inr ⟨_, rfl, fault_len g1 g2 l⟩) fun d H8 s8 nd ed => ?_⟩
              exact q1 _ _ hs2 d H8 ((sm.trans s47).trans s8) ((sm.trans s47).free nd) (by rw [ed]; congr 2)
        · -- a head
          have s45 := s4.trans s5
          refine ⟨.ref ph, rfl, rfl, true, rfl, iteT ?_⟩
          refine ⟨Nat.zero_le _, fun e1 ne1 => ⟨Nat.zero_le _, fun e2 ne2 => ?_⟩⟩
          have s6 := s45.put (o := .lst []) (s45.free ne1)
          have s7 := s6.put (o := .lst []) (s6.free ne2)
          have all : ∃ (ts : List Ad) (es : List En), EnRows H' ts es ∧ H' o = some (.lst (ts.map fun t : Ad => V.ref t.a)) ∧ ts.length ≤ j ∧ (∀ u ∈ ts, u.o1 ≠ o ∧ u.o2 ≠ o) ∧ feedR (linesOf z) [] 1 = feedR ((linesOf z).drop j) es (1 + j) := by
            rcases hcase with ⟨rfl, rfl, eo, hs⟩ | ⟨a, st, m, hlen, eo, ea, hs⟩
            · exact ⟨[], [], trivial, eo, Nat.zero_le _, (fun u hu => nomatch hu), hs⟩
            · refine ⟨_, _, EnRows.snoc (t := ⟨a, c1, c2⟩) (e := ⟨st, m, g1, g2⟩) ⟨b1, b2, ea, ec1, hR1, ec2, hR2⟩ hE, eo, by rw [List.length_append]; exact hlen, fun u hu => ?_, hs⟩
              rcases List.mem_append.mp hu with h1 | h1
              · exact (hsep u h1).2.2
              · rw [List.mem_singleton.mp h1]
                exact ⟨d1o, d2o⟩
          obtain ⟨ts, es, hEE, eo, lt, sepo, hs⟩ := all
          have eo7 := s7.lst eo
          have eph7 := (Sm.new (o := .lst []) ne2).tup ((Sm.new (o := .lst []) ne1).tup eph)
          have e12 : e1 ≠ e2 := fun e => by
            rw [← e, upd_same] at ne2
            cases ne2
          have e1o : e1 ≠ o := fun e => by
            rw [e, s45.lst eo] at ne1
            cases ne1
          have e2o : e2 ≠ o := fun e => by
            rw [e, s6.lst eo] at ne2
            cases ne2
          have e1q : e1 ≠ qa := fun e => by
            rw [e, s45.lst eqa] at ne1
            cases ne1
          have e2q : e2 ≠ qa := fun e => by
            rw [e, s6.lst eqa] at ne2
            cases ne2
          have m1 : H e1 = none := (sm.trans s45).free ne1
          have m2 : H e2 = none := (sm.trans s6).free ne2
          refine ⟨.ref o, rfl, .inl ⟨rfl, _, .inl (.inl eo7)⟩, .ref ph, rfl, ph, _, rfl, .inl (.inl (.inl eph7)), .ref e1, rfl, .ref e2, rfl, by show 4 ≤ sizeLine; decide, fun a' na => ?_⟩
          have s8 := s7.put (o := .tup ([.str i, .int (n : Nat)] ++ [.ref e1, .ref e2])) (s7.free na)
          have eo8 := s8.lst eo
          have ee1 : (upd (upd H5 e1 (.lst [])) e2 (.lst [])) e1 = some (.lst []) := by
            rw [upd_ne e12]
            exact upd_same
          have a1 : e1 ≠ a' := fun e => by
            rw [← e, ee1] at na
            cases na
          have a2 : e2 ≠ a' := fun e => by
            rw [← e, upd_same] at na
            cases na
          have ao : a' ≠ o := fun e => by
            rw [e, eo7] at na
            cases na
          rw [dl, feed_head hn] at hs
          refine ⟨o, _, _, rfl, rfl, eo8, by rw [List.length_map]; omega, e1, e2, _, _, _, _, rfl, (sm.trans s8).put no, ?_, m1, m2, e12, e1o, e2o, e1q, e2q, [], [], [], [], ts, es, ?_, trivial, ?_, trivial, Nat.zero_le _, Nat.zero_le _, by omega, ?_, fun u hu => ?_, .inr ⟨a', i, n, by omega, ?_, ?_, hs⟩⟩
          · rw [upd_ne (Ne.symm doq)]
            exact s8.lst eqa
          · rw [upd_ne e1o, upd_ne a1]
            exact ee1
          · rw [upd_ne e2o, upd_ne a2]
            exact upd_same
          · exact EnRows.other ⟨_, eo8⟩ (hEE.sm s8) sepo
          · obtain ⟨e, hEu⟩ := hEE.mem u hu
            obtain ⟨_, _, _, h2, _, h4, _⟩ := hEu
            refine ⟨⟨fun e => ?_, fun e => ?_⟩, ⟨fun e => ?_, fun e => ?_⟩, sepo u hu⟩
            · rw [← e, s45.lst h2] at ne1
              cases ne1
            · rw [← e, s45.lst h4] at ne1
              cases ne1
            · rw [← e, s6.lst h2] at ne2
              cases ne2
            · rw [← e, s6.lst h4] at ne2
              cases ne2
          · rw [upd_same, List.map_append]
            rfl
          · rw [upd_ne ao]
            exact upd_same
      · obtain ⟨c1, c2, u4, u5, u6, u7, rfl, fi⟩ := hP
        obtain ⟨sm, eqa, n1, n2, d12, d1o, d2o, d1q, d2q, b1, b2, g1, g2, its, ies, ec1, hR1, ec2, hR2, lb1, lb2, li, hE, hsep, hcase⟩ := fi
        rw [List.length_map, List.drop_length] at hcase
        rcases hcase with ⟨rfl, rfl, eo, hs⟩ | ⟨a, st, m, hlen, eo, ea, hs⟩
        · exact ⟨.ref o, rfl, q2 [] hs H' o [] sm no eo trivial⟩
        · exact ⟨.ref o, rfl, q2 _ hs H' o _ sm no eo (EnRows.snoc ⟨b1, b2, ea, ec1, hR1, ec2, hR2⟩ hE)⟩
end
end A9

set_option Elab.async false
set_option linter.all false
set_option maxRecDepth 100000
set_option maxHeartbeats 4000000
namespace A9
open PySem PySem.Spec PyProof.Rows L2 AS
/-! ### readings of drawn numbers -/
theorem mod_nat (d : Int) (n : Nat) (h : 0 < n) : ∃ m : Nat, d % (n : Int) = (m : Int) ∧ m < n := by
  have b1 : 0 ≤ d % (n : Int) := Int.emod_nonneg _ (by omega)
  have b2 : d % (n : Int) < n := Int.emod_lt_of_pos _ (by omega)
  exact ⟨(d % (n : Int)).toNat, by omega, by omega⟩
theorem at_int {ds : List Int} {k : Nat} (h : k < ds.length) : atI (ds.map V.int) (k : Int) = some (.int ds[k]) := atI_nat (by
  rw [List.getElem?_map, List.getElem?_eq_getElem h]
  rfl)
theorem at_str {ds : List Str} {k : Nat} (h : k < ds.length) : atI (ds.map V.str) (k : Int) = some (.str ds[k]) := atI_nat (by
  rw [List.getElem?_map, List.getElem?_eq_getElem h]
  rfl)
theorem draw_read {K : PySem.W.Frag} {H : Hp} {o : Addr} {ds : List Int} {k n i : Nat} {σ : L2.St} {R : VK} (e : σ[i]? = some (some (.ref o))) (hS : SqL K H o (ds.map V.int)) (hk : k < ds.length) (hn : 0 < n) (h : ∀ m : Nat, m < n → R (.int (m : Nat)) H) :
    tOp (rI (fun _ j => 0 < j) fun i j => .int (i % j)) (tCB (fun xs H Q => (∃ i, xs = [.int i] ∧ Q (.int i) H) ∨ ∃ k, xs = [.bl k] ∧ Q (.int (if k then 1 else 0)) H) (tCons (tOp (rIxL K) (tVar i) (tC (.int (k : Nat)))) tNil)) (tC (.int (n : Nat))) σ H R := by
  obtain ⟨m, em, hm⟩ := mod_nat ds[k] n hn
  refine ⟨.ref o, e, o, _, k, _, rfl, rfl, hS, at_int hk, .inl ⟨_, rfl, _, n, rfl, rfl, by show (0 : Int) < (n : Int); omega, ?_⟩⟩
  have q := h m hm
  rw [← em] at q
  exact q
/-- a sign of a written text -/
def sg (z : Str) (m : Nat) : Str := ⟨#[(tl z).getD m 0]⟩
theorem sign_read {z : Str} {m : Nat} {H : Hp} {R : VK} (h : m < (tl z).length) (hz : z.length ≤ sizeLine) (q : R (.str (sg z m)) H) : rIxS (.str z) (.int (m : Nat)) H R := by
  refine ⟨z, m, (tl z)[m], rfl, rfl, hz, atI_nat (List.getElem?_eq_getElem h), ?_⟩
  have e : sg z m = ⟨#[(tl z)[m]]⟩ := by
    unfold sg
    rw [List.getD_eq_getElem?_getD, List.getElem?_eq_getElem h]
    rfl
  rw [e] at q
  exact q
theorem draw_readV {K : PySem.W.Frag} {H : Hp} {o : Addr} {ds : List Int} {k n i j : Nat} {σ : L2.St} {R : VK} (e : σ[i]? = some (some (.ref o))) (e2 : σ[j]? = some (some (.int (n : Nat)))) (hS : SqL K H o (ds.map V.int)) (hk : k < ds.length) (hn : 0 < n) (h : ∀ m : Nat, m < n → R (.int (m : Nat)) H) :
    tOp (rI (fun _ j => 0 < j) fun i j => .int (i % j)) (tCB (fun xs H Q => (∃ i, xs = [.int i] ∧ Q (.int i) H) ∨ ∃ k, xs = [.bl k] ∧ Q (.int (if k then 1 else 0)) H) (tCons (tOp (rIxL K) (tVar i) (tC (.int (k : Nat)))) tNil)) (tVar j) σ H R := by
  obtain ⟨m, em, hm⟩ := mod_nat ds[k] n hn
  refine ⟨.ref o, e, o, _, k, _, rfl, rfl, hS, at_int hk, .inl ⟨_, rfl, _, e2, _, n, rfl, rfl, by show (0 : Int) < (n : Int); omega, ?_⟩⟩
  have q := h m hm
  rw [← em] at q
  exact q
theorem op_const {r : R2} {v : V} {tb : TE} {σ : L2.St} {H : Hp} {R : VK} (h : tb σ H fun y H2 => r v y H2 R) : tOp r (tC v) tb σ H R := h
theorem sign_draw {K : PySem.W.Frag} {H : Hp} {o : Addr} {ds : List Int} {k n i : Nat} {σ : L2.St} {R : VK} {z : Str} (e : σ[i]? = some (some (.ref o))) (hS : SqL K H o (ds.map V.int)) (hk : k < ds.length) (hn : 0 < n) (hz : n ≤ (tl z).length) (hl : z.length ≤ sizeLine) (h : ∀ m : Nat, m < n → R (.str (sg z m)) H) :
    tOp rIxS (tC (.str z)) (tOp (rI (fun _ j => 0 < j) fun i j => .int (i % j)) (tCB (fun xs H Q => (∃ i, xs = [.int i] ∧ Q (.int i) H) ∨ ∃ k, xs = [.bl k] ∧ Q (.int (if k then 1 else 0)) H) (tCons (tOp (rIxL K) (tVar i) (tC (.int (k : Nat)))) tNil)) (tC (.int (n : Nat)))) σ H R :=
  op_const (draw_read e hS hk hn fun m hm => sign_read (Nat.lt_of_lt_of_le hm hz) hl (h m hm))
theorem two_sg {a z : Str} {m : Nat} (h : a.length ≤ 100) : a.length + (sg z m).length ≤ sizeLine := by
  have big : (1000 : Nat) ≤ sizeLine := by decide
  have e : (sg z m).length = 1 := rfl
  omega

/-! ### the lines that the law draws -/
def heads4 : List Str := ["main", "s_1", "main", "1a"]
def nums6 : List Str := ["1", "7", "0", "01", "1000", "1001"]
def odds8 : List Str := ["", "+ d:a v", "+ d:a v u:x ", "* d:a v u:x", "+ d v u:x", "- d:a 1 u:x", "= d:a v u:x", "+  d:a v u:x"]
def grs12 : List Gr := [("d:a" : Str), "d:b", "d:c"].flatMap fun t => [("v" : Str), "w"].flatMap fun n => [("u:x" : Str), "u:y"].map fun s => ⟨t, n, s⟩
def entryLine (h n : Str) : Str := (("entry " : Str) ++ h) ++ (" " : Str) ++ n
def grLine (sg : Str) (g : Gr) : Str := Txt.join spS [sg, g.t, g.n, g.s]
def allE : List Str := heads4.flatMap (fun h => nums6.map (entryLine h)) ++ (odds8 ++ ([plusS, minusS].flatMap fun s => grs12.map (grLine s)))
def allS : List Str := odds8 ++ grs12.map (grLine eqS)
theorem mem_t : ∀ m, m < 3 → "d:" ++ sg "abc" m ∈ [("d:a" : Str), "d:b", "d:c"] := by decide +kernel
theorem mem_n : ∀ m, m < 2 → sg "vw" m ∈ [("v" : Str), "w"] := by decide +kernel
theorem mem_s : ∀ m, m < 2 → "u:" ++ sg "xy" m ∈ [("u:x" : Str), "u:y"] := by decide +kernel
theorem mem_grs {t n s : Str} (h1 : t ∈ [("d:a" : Str), "d:b", "d:c"]) (h2 : n ∈ [("v" : Str), "w"]) (h3 : s ∈ [("u:x" : Str), "u:y"]) : (⟨t, n, s⟩ : Gr) ∈ grs12 :=
  List.mem_flatMap.mpr ⟨t, h1, List.mem_flatMap.mpr ⟨n, h2, List.mem_map.mpr ⟨s, h3, rfl⟩⟩⟩
theorem grs_len : ∀ g ∈ grs12, g.t.length ≤ 5 ∧ g.n.length ≤ 5 ∧ g.s.length ≤ 5 := by decide +kernel
def spLawGrant (K : PySem.W.Frag) : Sp := fun vs H Q _ => ∃ (o : Addr) (ds : List Int), vs = [.ref o] ∧ SqL K H o (ds.map V.int) ∧ ds.length = 7 ∧ ∀ H' p g, g ∈ grs12 → Sm H H' → H p = none → H' p = some (.tup g.v) → Q (.ref p) H'
def spLawLine : Sp := fun vs H Q _ => ∃ (c : Int) (wd : Str), vs = [.int c, .str wd] ∧ ((wd = entryS ∧ ∀ H' l, l ∈ allE → Sm H H' → Q (.str l) H') ∨ (wd = snapS ∧ ∀ H' l, l ∈ allS → Sm H H' → Q (.str l) H'))
section
variable {P : Program} {w : World} {K : PySem.W.Frag} {mg : Str → Option Value} {base : Heap}
theorem ok_law_grant (T : Top NN K mg base) : D P w K mg base 1 "_law_grant" ["draws"] (spLawGrant K) := by
  refine T.ok0 (d := d_law_grant) i_law_grant rfl rfl rfl rfl (by decide +kernel) sc_law_grant (fun _ _ _ _ _ _ us hl => match us, hl with | [_], _ => rfl) (fun vs H Q E h => ?_) (fun cdv A outer s H vs Q E ec hr h => ?_)
  · obtain ⟨_, _, rfl, _⟩ := h
    rfl
  · obtain ⟨o, ds, rfl, oS, dl, q⟩ := h
    have n_int := T.f "int" (by decide +kernel)
    refine ⟨_, (pss_one (ps_ret (pe_tup (pa_cons (pe_op op_add_str pe_str (pe_ix ix_str pe_str (pe_op op_mod (pe_callTy call_int1 (by rfl) n_int (by decide +kernel) (pa_cons (pe_ix  ix_list (pv 0) pe_int (fun _ _ => rfl)) pa_nil)) pe_int) (fun _ _ => rfl))) (pa_cons (pe_ix ix_str pe_str (pe_op op_mod (pe_callTy call_int1 (by rfl) n_int (by decide +kernel) (pa_cons (pe_ix  ix_list (pv 0) pe_int (fun _ _ => rfl)) pa_nil)) pe_int) (fun _ _ => rfl)) (pa_cons (pe_op op_add_str pe_str (pe_ix ix_str pe_str (pe_op op_mod (pe_callTy call_int1 (by rfl) n_int (by decide +kernel) (pa_cons (pe_ix  ix_list (pv 0) pe_int (fun _ _ => rfl)) pa_nil)) pe_int) (fun _ _ => rfl))) pa_nil)))))), ?_⟩
    refine op_const (sign_draw (k := 2) (n := 3) (z := "abc") rfl oS (by omega) (by decide) (by decide) (by decide +kernel) fun m1 h1 => ⟨_, _, rfl, rfl, two_sg (by decide +kernel), ?_⟩)
    refine sign_draw (k := 3) (n := 2) (z := "vw") rfl oS (by omega) (by decide) (by decide) (by decide +kernel) fun m2 h2 => ?_
    refine op_const (sign_draw (k := 4) (n := 2) (z := "xy") rfl oS (by omega) (by decide) (by decide) (by decide +kernel) fun m3 h3 => ⟨_, _, rfl, rfl, two_sg (by decide +kernel), ?_⟩)
    refine ⟨by show 3 ≤ sizeLine; decide, fun p np => ?_⟩
    exact q _ p ⟨_, _, _⟩ (mem_grs (mem_t m1 h1) (mem_n m2 h2) (mem_s m3 h3)) (Sm.new np) np upd_same
theorem ok_law_line (T : Top NN K mg base) : D P w K mg base 2 "_law_line" ["cell", "word"] spLawLine := by
  refine T.ok0 (d := d_law_line) i_law_line rfl rfl rfl rfl (by decide +kernel) sc_law_line (fun _ _ _ _ _ _ us hl => match us, hl with | [_, _], _ => rfl) (fun vs H Q E h => ?_) (fun cdv A outer s H vs Q E ec hr h => ?_)
  · obtain ⟨_, _, rfl, _⟩ := h
    rfl
  · obtain ⟨c, wd, rfl, hq⟩ := h
    have G__law_draws := ok_law_draws (P := P) (w := w) T
    have G__law_grant := ok_law_grant (P := P) (w := w) T
    have n_int := T.f "int" (by decide +kernel)
    refine ⟨_, (pss_cons (ps_set (i := 2) sc_law_line.nd rfl (.inl rfl) (pe_callD G__law_draws hr (pa_cons (pv 0) (pa_cons pe_int pa_nil))))
      (pss_cons (ps_set (i := 3) sc_law_line.nd rfl (.inl rfl) (pe_op op_mod (pe_callTy call_int1 (by rfl) n_int (by decide +kernel) (pa_cons (pe_ix  ix_list (pv 2) pe_int (fun _ _ => rfl)) pa_nil)) pe_int))
      (C8.pss_cut (ps_if (PW.pt (pw_and (pt_cmpR op_lt (pv 3) pe_int (nomark _)) (pw_and1 (pt_cmpR op_eq (pv 1) pe_str (nomark _))))) (pss_one (ps_ret (pe_op op_add_str (pe_op op_add_str (pe_op op_add_str pe_str (pe_ix  ix_list (pe_lst (pa_cons pe_str (pa_cons pe_str (pa_cons pe_str (pa_cons pe_str pa_nil))))) (pe_op op_mod (pe_callTy call_int1 (by rfl) n_int (by decide +kernel) (pa_cons (pe_ix  ix_list (pv 2) pe_int (fun _ _ => rfl)) pa_nil)) pe_int) (fun _ _ => rfl))) pe_str) (pe_ix  ix_list (pe_lst (pa_cons pe_str (pa_cons pe_str (pa_cons pe_str (pa_cons pe_str (pa_cons pe_str (pa_cons pe_str pa_nil))))))) (pe_op op_mod (pe_callTy call_int1 (by rfl) n_int (by decide +kernel) (pa_cons (pe_ix  ix_list (pv 2) pe_int (fun _ _ => rfl)) pa_nil)) pe_int) (fun _ _ => rfl))))) pss_nil)
      (pss_cons (ps_if (pt_cmpR op_eq (pv 3) pe_int (nomark _)) (pss_one (ps_ret (pe_ix  ix_list (pe_lst (pa_cons pe_str (pa_cons pe_str (pa_cons pe_str (pa_cons pe_str (pa_cons pe_str (pa_cons pe_str (pa_cons pe_str (pa_cons pe_str pa_nil))))))))) (pe_op op_mod (pe_callTy call_int1 (by rfl) n_int (by decide +kernel) (pa_cons (pe_ix  ix_list (pv 2) pe_int (fun _ _ => rfl)) pa_nil)) pe_int) (fun _ _ => rfl)))) pss_nil)
      (C8.pss_cut (ps_set (i := 4) sc_law_line.nd rfl (.inl rfl) (pe_ifExp (pt_cmpR op_eq (pv 1) pe_str (nomark _)) pe_str (pe_ix ix_str pe_str (pe_callTy call_int1 (by rfl) n_int (by decide +kernel) (pa_cons (pe_cmpR op_gt (pv 3) pe_int (nomark _)) pa_nil)) (fun _ _ => rfl))))
      (pss_one (ps_ret (pe_join pe_str (pe_op op_catT (pe_tup (pa_cons (pv 4) pa_nil)) (pe_callD G__law_grant hr (pa_cons (pv 2) pa_nil))))))))))), ?_⟩
    refine ⟨_, rfl, c, 7, rfl, by decide, fun H1 o ds dr s1 no eo => ?_⟩
    obtain ⟨dl, db⟩ := dr
    have oS : SqL K H1 o (ds.map V.int) := .inl (.inl eo)
    refine draw_read (k := 0) (n := 12) rfl oS (by omega) (by decide) fun m hm => ?_
    obtain ⟨S, q, hodd, hent, hge, hgs, hw⟩ : ∃ S : List Str, (∀ H' l, l ∈ S → Sm H H' → Q (.str l) H') ∧ (∀ l ∈ odds8, l ∈ S) ∧ (wd = entryS → ∀ h ∈ heads4, ∀ n ∈ nums6, entryLine h n ∈ S) ∧
        (wd = entryS → ∀ z ∈ [plusS, minusS], ∀ g ∈ grs12, grLine z g ∈ S) ∧ (wd = snapS → ∀ g ∈ grs12, grLine eqS g ∈ S) ∧ (wd = entryS ∨ wd = snapS) := by
      rcases hq with ⟨rfl, q⟩ | ⟨rfl, q⟩
      · refine ⟨allE, q, fun l hl => List.mem_append_right _ (List.mem_append_left _ hl), fun _ h hh n hn => List.mem_append_left _ (List.mem_flatMap.mpr ⟨h, hh, List.mem_map.mpr ⟨n, hn, rfl⟩⟩), fun _ z hz g hg => List.mem_append_right _ (List.mem_append_right _ (List.mem_flatMap.mpr ⟨z, hz, List.mem_map.mpr ⟨g, hg, rfl⟩⟩)), fun e => absurd e (by decide +kernel), .inl rfl⟩
      · exact ⟨allS, q, fun l hl => List.mem_append_left _ hl, fun e => absurd e (by decide +kernel), fun e => absurd e (by decide +kernel), fun _ g hg => List.mem_append_right _ (List.mem_map.mpr ⟨g, hg, rfl⟩), .inr rfl⟩
    have h4 : ∀ k, (h : k < heads4.length) → heads4[k].length ≤ 5 := by decide +kernel
    have h6 : ∀ k, (h : k < nums6.length) → nums6[k].length ≤ 5 := by decide +kernel
    have big : (1000 : Nat) ≤ sizeLine := by decide
    refine ⟨fun σ' H' => σ' = [some (.int c), some (.str wd), some (.ref o), some (.int (m : Nat)), none] ∧ H1 = H', ?_, fun σ' H' hM => ?_⟩
    · refine ⟨_, rfl, m, 2, rfl, rfl, _, rfl, iteB (fun k1 => ?_) fun k1 => ⟨rfl, rfl⟩⟩
      refine ⟨.str wd, rfl, rfl, _, rfl, iteB (fun k2 => ?_) fun k2 => ⟨rfl, rfl⟩⟩
      have ew : wd = entryS := V.str.inj (of_decide_eq_true k2)
      refine ⟨by show 4 ≤ sizeLine; decide, fun p1 np1 => ?_⟩
      have s2 := Sm.new (H := H1) (o := .lst (heads4.map V.str)) np1
      refine draw_read (k := 1) (n := 4) rfl (s2.seq oS) (by omega) (by decide) fun m1 hm1 => ?_
      refine ⟨p1, heads4.map V.str, m1, _, rfl, rfl, .inl (.inl upd_same), at_str (ds := heads4) hm1, _, _, rfl, rfl, ?_, _, _, rfl, rfl, ?_, by show 6 ≤ sizeLine; decide, fun p2 np2 => ?_⟩
      · have e := h4 m1 hm1
        show ("entry " : Str).length + heads4[m1].length ≤ sizeLine
        have e2 : ("entry " : Str).length = 6 := by decide +kernel
        omega
      · have e := h4 m1 hm1
        show (("entry " : Str) ++ heads4[m1]).length + (" " : Str).length ≤ sizeLine
        rw [Str.length_append]
        have e2 : ("entry " : Str).length = 6 := by decide +kernel
        have e3 : (" " : Str).length = 1 := by decide +kernel
        omega
      · have s3 := s2.trans (Sm.new (o := .lst (nums6.map V.str)) np2)
        refine draw_read (k := 5) (n := 6) rfl (s3.seq oS) (by omega) (by decide) fun m2 hm2 => ?_
        refine ⟨p2, nums6.map V.str, m2, _, rfl, rfl, .inl (.inl upd_same), at_str (ds := nums6) hm2, _, _, rfl, rfl, ?_, ?_⟩
        · have e := h4 m1 hm1
          have f := h6 m2 hm2
          show ((("entry " : Str) ++ heads4[m1]) ++ (" " : Str)).length + nums6[m2].length ≤ sizeLine
          rw [Str.length_append, Str.length_append]
          have e2 : ("entry " : Str).length = 6 := by decide +kernel
          have e3 : (" " : Str).length = 1 := by decide +kernel
          omega
        · exact q _ _ (hent ew _ (List.getElem_mem hm1) _ (List.getElem_mem hm2)) (s1.trans s3)
    · obtain ⟨rfl, rfl⟩ := hM
      refine ⟨_, rfl, rfl, _, rfl, iteB (fun k1 => ?_) fun k1 => ?_⟩
      · refine ⟨by show 8 ≤ sizeLine; decide, fun p1 np1 => ?_⟩
        have s2 := Sm.new (H := H1) (o := .lst (odds8.map V.str)) np1
        refine draw_read (k := 6) (n := 8) rfl (s2.seq oS) (by omega) (by decide) fun m1 hm1 => ?_
        exact ⟨p1, odds8.map V.str, m1, _, rfl, rfl, .inl (.inl upd_same), at_str (ds := odds8) hm1, q _ _ (hodd _ (List.getElem_mem hm1)) (s1.trans s2)⟩
      · refine ⟨fun σ' H' => ∃ z : Str, σ' = [some (.int c), some (.str wd), some (.ref o), some (.int (m : Nat)), some (.str z)] ∧ H1 = H' ∧ z.length ≤ 1 ∧ ∀ g ∈ grs12, grLine z g ∈ S, ?_, fun σ' H' hM => ?_⟩
        · refine ⟨.str wd, rfl, rfl, _, rfl, iteB (fun k2 => ?_) fun k2 => ?_⟩
          · have ew : wd = snapS := V.str.inj (of_decide_eq_true k2)
            exact ⟨eqS, rfl, rfl, by decide +kernel, hgs ew⟩
          · have ew : wd = entryS := by
              rcases hw with e | e
              · exact e
              · exact absurd (congrArg V.str e) (of_decide_eq_false k2)
            refine ⟨_, rfl, m, 7, rfl, rfl, .inr ⟨_, rfl, ?_⟩⟩
            by_cases k3 : (m : Int) > 7
            · have e : (if decide ((m : Int) > 7) = true then (1 : Int) else 0) = ((1 : Nat) : Int) := by rw [decide_eq_true k3]; rfl
              refine ⟨"+-", 1, 45, rfl, congrArg V.int e, by decide +kernel, rfl, minusS, rfl, rfl, by decide +kernel, fun g hg => hge ew minusS (by simp) g hg⟩
            · have e : (if decide ((m : Int) > 7) = true then (1 : Int) else 0) = ((0 : Nat) : Int) := by rw [decide_eq_false k3]; rfl
              refine ⟨"+-", 0, 43, rfl, congrArg V.int e, by decide +kernel, rfl, plusS, rfl, rfl, by decide +kernel, fun g hg => hge ew plusS (by simp) g hg⟩
        · obtain ⟨z, rfl, rfl, lz, hz⟩ := hM
          refine ⟨⟨_, rfl⟩, .str z, rfl, by show 1 ≤ sizeLine; decide, fun t nt => ?_⟩
          have s2 := Sm.new (H := H1) (o := .tup [.str z]) nt
          refine ⟨.ref o, rfl, o, ds, rfl, s2.seq oS, dl, fun H3 p g hg s3 np ep => ?_⟩
          refine ⟨t, p, _, _, rfl, rfl, .inl (.inl (s3.tup upd_same)), .inl (.inl ep), List.cons_ne_nil _ _, by show 1 + 3 ≤ sizeLine; decide, (fun z => nomatch z), fun _ v nv => ?_⟩
          obtain ⟨b1, b2, b3⟩ := grs_len g hg
          refine ⟨spS, v, [z, g.t, g.n, g.s], rfl, rfl, .inr (.inl (.inl upd_same)), ?_, q _ _ (hz g hg) ((s1.trans (s2.trans s3)).put ((s1.trans (s2.trans s3)).free nv))⟩
          have e3 : spS.length = 1 := by decide +kernel
          rw [e3]
          simp only [List.map_cons, List.map_nil, List.sum_cons, List.sum_nil, List.length_cons, List.length_nil]
          omega
end
end A9

set_option Elab.async false
set_option linter.all false
set_option maxRecDepth 100000
set_option maxHeartbeats 4000000
namespace A9
open PySem PySem.Spec PyProof.Rows L2 AS
def ids2 : List Str := ["main", "s_1"]
def signs3 : List Str := ["+", "-", "="]
def vw2 : List Str := ["v", "w"]
def xy2 : List Str := ["u:x", "u:y"]
def dS : Str := "d:"
def nums4 : List Nat := [0, 1, 7, 1000]
def lawHeadP (wd : Str) (least : Nat) : List Str → Option (Str × Nat)
  | [w, i, r] => if (decide (w = wd) && decide (i ∈ ids2)) = true then (nums4.find? fun n : Nat => decide (r = toString (n : Int)) && decide (least ≤ n)).map fun n => (i, n) else none
  | _ => none
def lawHead (wd : Str) (least : Nat) (l : Str) : Option (Str × Nat) := lawHeadP wd least (partsOf l)
def lawReadP : List Str → Option (Str × Gr)
  | [a, b, c, d] => if (decide (a ∈ signs3) && (decide (cutS b none (some 2) = dS) && (decide (c ∈ vw2) && decide (d ∈ xy2)))) = true then some (a, ⟨b, c, d⟩) else none
  | _ => none
def lawRead (l : Str) : Option (Str × Gr) := lawReadP (partsOf l)
theorem find_first {α : Type} {p : α → Bool} {x : α} : ∀ {l : List α} {i : Nat}, (∀ k n, k < i → l[k]? = some n → p n = false) → l[i]? = some x → p x = true → l.find? p = some x
  | [], _, _, h, _ => by cases h
  | y :: r, 0, _, h, hp => by
    have e : y = x := Option.some.inj h
    rw [e, List.find?_cons_of_pos hp]
  | y :: r, i + 1, hb, h, hp => by
    have e := hb 0 y (by omega) rfl
    rw [List.find?_cons_of_neg (by rw [e]; exact Bool.false_ne_true)]
    exact find_first (l := r) (i := i) (fun k n hk hn => hb (k + 1) n (by omega) hn) h hp
theorem lawHeadP_len {wd : Str} {least : Nat} {ws : List Str} (h : ws.length ≠ 3) : lawHeadP wd least ws = none := by
  unfold lawHeadP
  split
  · exact absurd rfl h
  · rfl
theorem lawReadP_len {ws : List Str} (h : ws.length ≠ 4) : lawReadP ws = none := by
  unfold lawReadP
  split
  · exact absurd rfl h
  · rfl
def spLawHead : Sp := fun vs H Q _ => ∃ (l wd : Str) (least : Nat), vs = [.str l, .str wd, .int (least : Nat)] ∧ l.length ≤ 1000 ∧
  (lawHead wd least l = none → ∀ H', Sm H H' → Q .non H') ∧ ∀ i n, lawHead wd least l = some (i, n) → ∀ H' p, Sm H H' → H p = none → H' p = some (.tup [.str i, .int (n : Nat)]) → Q (.ref p) H'
def spLawRead : Sp := fun vs H Q _ => ∃ l : Str, vs = [.str l] ∧ l.length ≤ 1000 ∧
  (lawRead l = none → ∀ H', Sm H H' → Q .non H') ∧ ∀ a g, lawRead l = some (a, g) → ∀ H' p pg, Sm H H' → H p = none → H pg = none → H' p = some (.tup [.str a, .ref pg]) → H' pg = some (.tup g.v) → Q (.ref p) H'
theorem nums4_log : ∀ n ∈ nums4, ((n : Int)).natAbs.log2 < 1920 := by decide
section
variable {P : Program} {w : World} {K : PySem.W.Frag} {mg : Str → Option Value} {base : Heap}
theorem ok_law_head (T : Top NN K mg base) : D P w K mg base 1 "_law_head" ["line", "word", "least"] spLawHead := by
  refine T.ok0 (d := d_law_head) i_law_head rfl rfl rfl rfl (by decide +kernel) sc_law_head (fun _ _ _ _ _ _ us hl => match us, hl with | [_, _, _], _ => rfl) (fun vs H Q E h => ?_) (fun cdv A outer s H vs Q E ec hr h => ?_)
  · obtain ⟨_, _, _, rfl, _⟩ := h
    rfl
  · obtain ⟨l, wd, least, rfl, hl, q1, q2⟩ := h
    have n_len := T.f "len" (by decide +kernel)
    have n_str := T.f "str" (by decide +kernel)
    refine ⟨_, (pss_cons (ps_set (i := 3) sc_law_head.nd rfl (.inl rfl) (pe_split (pv 0) pe_str))
      (pss_cons (ps_if (PW.pt (pw_or (pt_cmpR op_ne (pe_callB call_len_seq (by rfl) n_len PySem.boot_len (pa_cons (pv 3) pa_nil)) pe_int (nomark _)) (pw_or (pt_cmpR op_ne (pe_ix  ix_list (pv 3) pe_int (fun _ _ => rfl)) (pv 1) (nomark _)) (pw_or1 (pt_cmpR op_notIn_seq (pe_ix  ix_list (pv 3) pe_int (fun _ _ => rfl)) (pe_tup (pa_cons pe_str (pa_cons pe_str pa_nil))) rfl))))) (pss_one (ps_ret pe_non)) pss_nil)
      (pss_cons (ps_for PassesOwn.never rfl (pi_tup (pe_tup (pa_cons pe_int (pa_cons pe_int (pa_cons pe_int (pa_cons pe_int pa_nil)))))) (pg_name (i := 4) sc_law_head.nd rfl (.inl rfl)) (pss_one (ps_if (PW.pt (pw_and (pt_cmpR op_eq (pe_ix  ix_list (pv 3) pe_int (fun _ _ => rfl)) (pe_callTy call_str_int (by rfl) n_str (by decide +kernel) (pa_cons (pv 4) pa_nil)) (nomark _)) (pw_and1 (pt_cmpR op_ge (pv 4) (pv 2) (nomark _))))) (pss_one (ps_ret (pe_tup (pa_cons (pe_ix  ix_list (pv 3) pe_int (fun _ _ => rfl)) (pa_cons (pv 4) pa_nil))))) pss_nil)))
      (pss_one (ps_ret pe_non))))), ?_⟩
    have big : (1000000 : Nat) ≤ sizeLine := by decide
    obtain ⟨pl, pn⟩ := split_sp l
    refine ⟨.str l, rfl, ⟨_, rfl⟩, l, spS, rfl, rfl, by decide +kernel, by omega, fun p np => ?_⟩
    have s0 : Sm H (upd H p (.lst ((partsOf l).map V.str))) := Sm.new np
    have e0 : (upd H p (.lst ((partsOf l).map V.str))) p = some (.lst ((partsOf l).map V.str)) := upd_same
    refine ⟨_, rfl, p, _, rfl, .inl (.inl (.inl upd_same)), rfl, _, rfl, ?_⟩
    show if (!decide (V.int (((partsOf l).map V.str).length : Int) = V.int 3)) = true then _ else _
    refine iteB (fun h => ?_) fun h => ?_
    · have h3 : (partsOf l).length ≠ 3 := fun e => by
        rw [List.length_map, e] at h
        exact absurd h (by decide)
      exact iteT (q1 (lawHeadP_len h3) _ s0)
    · have h3 : (partsOf l).length = 3 := by
        rw [Bool.not_eq_false', decide_eq_true_eq, List.length_map] at h
        have h2 := V.int.inj h
        omega
      obtain ⟨wa, wb, wc, ew⟩ := list3 h3
      have W : ∀ i : Nat, (partsOf l)[i]? = ([wa, wb, wc] : List Str)[i]? := fun i => by rw [ew]
      have eh : lawHead wd least l = if (decide (wa = wd) && decide (wb ∈ ids2)) = true then (nums4.find? fun n : Nat => decide (wc = toString (n : Int)) && decide (least ≤ n)).map fun n => (wb, n) else none := by unfold lawHead; rw [ew]; rfl
      refine ⟨.ref p, rfl, p, _, 0, .str wa, rfl, rfl, .inl (.inl e0), at_w (i := 0) (W 0), .str wd, rfl, rfl, _, rfl, ?_⟩
      show if (!decide (V.str wa = V.str wd)) = true then _ else _
      rw [dec_str]
      refine iteB (fun h1 => ?_) fun h1 => ?_
      · rw [Bool.not_eq_true'] at h1
        refine iteT (q1 ?_ _ s0)
        rw [eh, h1]
        rfl
      · rw [Bool.not_eq_false'] at h1
        refine ⟨.ref p, rfl, p, _, 1, .str wb, rfl, rfl, .inl (.inl e0), at_w (i := 1) (W 1), by show 2 ≤ sizeLine; decide, fun t nt => ?_⟩
        have s1 := Sm.new (H := upd H p (.lst ((partsOf l).map V.str))) (o := .tup (ids2.map V.str)) nt
        refine ⟨t, ids2.map V.str, rfl, .inr (.inl (.inl upd_same)), rfl, flat_strs _, !decide (wb ∈ ids2), congrArg (fun b => V.bl (!b)) (inV_str wb ids2), iteB (fun h2 => ?_) fun h2 => ?_⟩
        · rw [Bool.not_eq_true'] at h2
          refine q1 ?_ _ (s0.trans s1)
          rw [eh, h2, Bool.and_false]
          rfl
        · rw [Bool.not_eq_false'] at h2
          rw [h1, h2] at eh
          have eh2 : lawHead wd least l = (nums4.find? fun n : Nat => decide (wc = toString (n : Int)) && decide (least ≤ n)).map fun n => (wb, n) := eh
          refine ⟨by show 4 ≤ sizeLine; decide, fun t2 nt2 => ?_⟩
          have s2 := s1.trans (Sm.new (o := .tup (nums4.map fun n => V.int (n : Nat))) nt2)
          have e2 := s2.lst e0
          refine ⟨t2, rfl, ⟨_, .inl (.inl upd_same)⟩, for_tup (xs := nums4.map fun n => V.int (n : Nat)) (fun i σ H' => (∃ u, σ = [some (.str l), some (.str wd), some (.int (least : Nat)), some (.ref p), u]) ∧ H' = upd (upd (upd H p (.lst ((partsOf l).map V.str))) t (.tup (ids2.map V.str))) t2 (.tup (nums4.map fun n => V.int (n : Nat))) ∧
              ∀ (k n : Nat), k < i → nums4[k]? = some n → (decide (wc = toString (n : Int)) && decide (least ≤ n)) = false)
            ⟨⟨_, rfl⟩, rfl, fun k n hk => absurd hk (Nat.not_lt_zero k)⟩ (fun i σ H' _ hP => by rw [hP.2.1]; exact .inl (.inl upd_same)) (fun i x σ H' hx hP => ?_) fun σ H' hP => ?_⟩
          · obtain ⟨⟨u, rfl⟩, rfl, hb⟩ := hP
            rw [List.getElem?_map] at hx
            obtain ⟨n, hn, rfl⟩ := Option.map_eq_some_iff.mp hx
            have nxt : (decide (wc = toString (n : Int)) && decide (least ≤ n)) = false → ∀ (k n : Nat), k < i + 1 → nums4[k]? = some n → (decide (wc = toString (n : Int)) && decide (least ≤ n)) = false := fun e k m hk hm => by
              by_cases hki : k = i
              · rw [hki, hn] at hm
                rw [← Option.some.inj hm]
                exact e
              · exact hb k m (by omega) hm
            refine ⟨.ref p, rfl, p, _, 2, .str wc, rfl, rfl, .inl (.inl e2), at_w (i := 2) (W 2), .int (n : Nat), rfl, n, rfl, nums4_log n (List.mem_of_getElem? hn), rfl, decide (wc = toString (n : Int)), congrArg V.bl dec_str, iteB (fun k1 => ?_) fun k1 => ?_⟩
            · refine ⟨.int (n : Nat), rfl, .int (least : Nat), rfl, n, least, rfl, rfl, _, rfl, iteB (fun k2 => ?_) fun k2 => ?_⟩
              · have k3 : (n : Int) ≥ (least : Int) := of_decide_eq_true k2
                have k4 : least ≤ n := by omega
                refine ⟨.ref p, rfl, p, _, 1, .str wb, rfl, rfl, .inl (.inl e2), at_w (i := 1) (W 1), .int (n : Nat), rfl, by show 2 ≤ sizeLine; decide, fun r nr => ?_⟩
                refine q2 wb n ?_ _ r ((s0.trans s2).put ((s0.trans s2).free nr)) ((s0.trans s2).free nr) upd_same
                rw [eh2, find_first hb hn (by rw [k1, decide_eq_true k4]; rfl)]
                rfl
              · have k3 : ¬ (n : Int) ≥ (least : Int) := of_decide_eq_false k2
                exact ⟨⟨_, rfl⟩, rfl, nxt (by rw [decide_eq_false (show ¬ least ≤ n by omega), Bool.and_false])⟩
            · exact ⟨⟨_, rfl⟩, rfl, nxt (by rw [k1]; rfl)⟩
          · obtain ⟨⟨u, rfl⟩, rfl, hb⟩ := hP
            refine q1 ?_ _ (s0.trans s2)
            rw [eh2, List.find?_eq_none.mpr fun n hn => ?_]
            · rfl
            · obtain ⟨k, hk, e⟩ := List.getElem_of_mem hn
              rw [hb k n (by rw [List.length_map]; exact hk) (by rw [List.getElem?_eq_getElem hk, e])]
              exact Bool.false_ne_true
end
end A9

set_option Elab.async false
set_option linter.all false
set_option maxRecDepth 100000
set_option maxHeartbeats 4000000
namespace A9
open PySem PySem.Spec PyProof.Rows L2 AS
section
variable {P : Program} {w : World} {K : PySem.W.Frag} {mg : Str → Option Value} {base : Heap}
theorem ok_law_read (T : Top NN K mg base) : D P w K mg base 1 "_law_read" ["line"] spLawRead := by
  refine T.ok0 (d := d_law_read) i_law_read rfl rfl rfl rfl (by decide +kernel) sc_law_read (fun _ _ _ _ _ _ us hl => match us, hl with | [_], _ => rfl) (fun vs H Q E h => ?_) (fun cdv A outer s H vs Q E ec hr h => ?_)
  · obtain ⟨_, rfl, _⟩ := h
    rfl
  · obtain ⟨l, rfl, hl, q1, q2⟩ := h
    have n_len := T.f "len" (by decide +kernel)
    have n_tuple := T.f "tuple" (by decide +kernel)
    refine ⟨_, (pss_cons (ps_set (i := 1) sc_law_read.nd rfl (.inl rfl) (pe_split (pv 0) pe_str))
      (pss_cons (ps_if (PW.pt (pw_or (pt_cmpR op_ne (pe_callB call_len_seq (by rfl) n_len PySem.boot_len (pa_cons (pv 1) pa_nil)) pe_int (nomark _)) (pw_or (pt_cmpR op_notIn_seq (pe_ix  ix_list (pv 1) pe_int (fun _ _ => rfl)) (pe_tup (pa_cons pe_str (pa_cons pe_str (pa_cons pe_str pa_nil)))) rfl) (pw_or (pt_cmpR op_ne (pe_slice sl_str (pe_ix  ix_list (pv 1) pe_int (fun _ _ => rfl)) po_none (po_some pe_int)) pe_str (nomark _)) (pw_or1 (pt_cmpR op_notIn_seq (pe_ix  ix_list (pv 1) pe_int (fun _ _ => rfl)) (pe_tup (pa_cons pe_str (pa_cons pe_str pa_nil))) rfl)))))) (pss_one (ps_ret pe_non)) pss_nil)
      (pss_one (ps_ret (pe_ifExp (pt_cmpR op_in_seq (pe_ix  ix_list (pv 1) pe_int (fun _ _ => rfl)) (pe_tup (pa_cons pe_str (pa_cons pe_str pa_nil))) rfl) (pe_tup (pa_cons (pe_ix  ix_list (pv 1) pe_int (fun _ _ => rfl)) (pa_cons (pe_callTy call_tuple_of (by rfl) n_tuple (by decide +kernel) (pa_cons (pe_slice sl_list (pv 1) (po_some pe_int) po_none) pa_nil)) pa_nil))) pe_non))))), ?_⟩
    have big : (1000000 : Nat) ≤ sizeLine := by decide
    obtain ⟨pl, pn⟩ := split_sp l
    refine ⟨.str l, rfl, ⟨_, rfl⟩, l, spS, rfl, rfl, by decide +kernel, by omega, fun p np => ?_⟩
    have s0 : Sm H (upd H p (.lst ((partsOf l).map V.str))) := Sm.new np
    have e0 : (upd H p (.lst ((partsOf l).map V.str))) p = some (.lst ((partsOf l).map V.str)) := upd_same
    refine ⟨_, rfl, p, _, rfl, .inl (.inl (.inl upd_same)), rfl, _, rfl, ?_⟩
    show if (!decide (V.int (((partsOf l).map V.str).length : Int) = V.int 4)) = true then _ else _
    refine iteB (fun h => ?_) fun h => ?_
    · have h3 : (partsOf l).length ≠ 4 := fun e => by
        rw [List.length_map, e] at h
        exact absurd h (by decide)
      exact iteT (q1 (lawReadP_len h3) _ s0)
    · have h3 : (partsOf l).length = 4 := by
        rw [Bool.not_eq_false', decide_eq_true_eq, List.length_map] at h
        have h2 := V.int.inj h
        omega
      obtain ⟨wa, wb, wc, wd, ew⟩ := list4 h3
      have W : ∀ i : Nat, (partsOf l)[i]? = ([wa, wb, wc, wd] : List Str)[i]? := fun i => by rw [ew]
      have lw : ∀ u, u ∈ ([wa, wb, wc, wd] : List Str) → u.length ≤ sizeLine := fun u hu => Nat.le_trans (pl u (by rw [show Txt.split l spS = [wa, wb, wc, wd] from ew]; exact hu)) (by omega)
      have eh : lawRead l = if (decide (wa ∈ signs3) && (decide (cutS wb none (some 2) = dS) && (decide (wc ∈ vw2) && decide (wd ∈ xy2)))) = true then some (wa, ⟨wb, wc, wd⟩) else none := by unfold lawRead; rw [ew]; rfl
      refine ⟨.ref p, rfl, p, _, 0, .str wa, rfl, rfl, .inl (.inl e0), at_w (i := 0) (W 0), by show 3 ≤ sizeLine; decide, fun t nt => ?_⟩
      have s1 := Sm.new (H := upd H p (.lst ((partsOf l).map V.str))) (o := .tup (signs3.map V.str)) nt
      have e1 := s1.lst e0
      refine ⟨t, signs3.map V.str, rfl, .inr (.inl (.inl upd_same)), rfl, flat_strs _, !decide (wa ∈ signs3), congrArg (fun b => V.bl (!b)) (inV_str wa signs3), iteB (fun h1 => ?_) fun h1 => ?_⟩
      · rw [Bool.not_eq_true'] at h1
        refine iteT (q1 ?_ _ (s0.trans s1))
        rw [eh, h1]
        rfl
      · rw [Bool.not_eq_false'] at h1
        refine ⟨.ref p, rfl, p, _, 1, .str wb, rfl, rfl, .inl (.inl e1), at_w (i := 1) (W 1), 2, rfl, wb, rfl, lw wb (by simp), rfl, !decide (cutS wb none (some 2) = dS), congrArg (fun b => V.bl (!b)) dec_str, iteB (fun h2 => ?_) fun h2 => ?_⟩
        · rw [Bool.not_eq_true'] at h2
          refine iteT (q1 ?_ _ (s0.trans s1))
          rw [eh, h2, Bool.false_and, Bool.and_false]
          rfl
        · rw [Bool.not_eq_false'] at h2
          refine ⟨.ref p, rfl, p, _, 2, .str wc, rfl, rfl, .inl (.inl e1), at_w (i := 2) (W 2), by show 2 ≤ sizeLine; decide, fun t2 nt2 => ?_⟩
          have s2 := s1.trans (Sm.new (o := .tup (vw2.map V.str)) nt2)
          have e2 := s2.lst e0
          refine ⟨t2, vw2.map V.str, rfl, .inr (.inl (.inl upd_same)), rfl, flat_strs _, !decide (wc ∈ vw2), congrArg (fun b => V.bl (!b)) (inV_str wc vw2), iteB (fun h3 => ?_) fun h3 => ?_⟩
          · rw [Bool.not_eq_true'] at h3
            refine q1 ?_ _ (s0.trans s2)
            rw [eh, h3]
            simp only [Bool.false_and, Bool.and_false]
            rfl
          · rw [Bool.not_eq_false'] at h3
            refine ⟨.ref p, rfl, p, _, 3, .str wd, rfl, rfl, .inl (.inl e2), at_w (i := 3) (W 3), by show 2 ≤ sizeLine; decide, fun t3 nt3 => ?_⟩
            have s3 := s2.trans (Sm.new (o := .tup (xy2.map V.str)) nt3)
            have e3 := s3.lst e0
            refine ⟨t3, xy2.map V.str, rfl, .inr (.inl (.inl upd_same)), rfl, flat_strs _, decide (wd ∈ xy2), congrArg V.bl (inV_str wd xy2), iteB (fun h4 => ?_) fun h4 => ?_⟩
            · rw [h1, h2, h3, h4] at eh
              have eh2 : lawRead l = some (wa, ⟨wb, wc, wd⟩) := eh
              have s03 := s0.trans s3
              refine ⟨.ref p, rfl, p, _, 0, .str wa, rfl, rfl, .inl (.inl e3), at_w (i := 0) (W 0), .ref p, rfl, 1, rfl, p, _, rfl, .inl (.inl e3), fun u nu => ?_⟩
              have s4 := Sm.new (o := .lst (cutV ((partsOf l).map V.str) (some 1) none)) nu
              refine ⟨u, _, rfl, .inl ⟨.inl (.inl upd_same), fun u2 nu2 => ?_⟩⟩
              have s5 := s4.put (o := .tup (cutV ((partsOf l).map V.str) (some 1) none)) (s4.free nu2)
              refine ⟨by show 2 ≤ sizeLine; decide, fun r nr => ?_⟩
              have s6 := s5.put (o := .tup [.str wa, .ref u2]) (s5.free nr)
              have n2 : H u2 = none := s03.free (s4.free nu2)
              have ur : u2 ≠ r := fun e => by
                rw [← e, upd_same] at nr
                cases nr
              refine q2 wa ⟨wb, wc, wd⟩ eh2 _ r u2 (s03.trans s6) (s03.free (s5.free nr)) n2 upd_same ?_
              rw [upd_ne ur, upd_same, ew, cut_from1 wa [wb, wc, wd] V.str]
              rfl
            · refine q1 ?_ _ (s0.trans s3)
              rw [eh, h4]
              simp only [Bool.and_false]
              rfl
end
/-! ### the drawn lines, one by one -/
theorem allE_head : ∀ l ∈ allE, lawHead entryS 1 l = headOf entryS 1 l := by decide +kernel
theorem allE_len : ∀ l ∈ allE, l.length ≤ 100 := by decide +kernel
theorem allS_len : ∀ l ∈ allS, l.length ≤ 100 := by decide +kernel
theorem allE_read : ∀ l ∈ allE, grantOf plusS l = (match lawRead l with | some (a, g) => if a = plusS then some g else none | none => none) ∧ grantOf minusS l = (match lawRead l with | some (a, g) => if a = minusS then some g else none | none => none) ∧
    (∀ a g, lawRead l = some (a, g) → a ∈ signs3 ∧ g ∈ grs12) := by
  intro l hl
  have h1 : ∀ l ∈ allE, grantOf plusS l = (match lawRead l with | some (a, g) => if a = plusS then some g else none | none => none) := by decide +kernel
  have h2 : ∀ l ∈ allE, grantOf minusS l = (match lawRead l with | some (a, g) => if a = minusS then some g else none | none => none) := by decide +kernel
  have h3 : ∀ l ∈ allE, (match lawRead l with | some (a, g) => decide (a ∈ signs3 ∧ g ∈ grs12) | none => true) = true := by decide +kernel
  refine ⟨h1 l hl, h2 l hl, fun a g e => ?_⟩
  have h4 := h3 l hl
  rw [e] at h4
  exact of_decide_eq_true h4
theorem allS_read : ∀ l ∈ allS, grantOf eqS l = (match lawRead l with | some (a, g) => if a = eqS then some g else none | none => none) := by decide +kernel
theorem grs_trans : ∀ a ∈ grs12, ∀ b ∈ grs12, ∀ c ∈ grs12, ltG a b = true → ltG b c = true → ltG a c = true := by decide +kernel
theorem grs_irr : ∀ a ∈ grs12, ltG a a = false := by decide +kernel
end A9

set_option Elab.async false
set_option linter.all false
set_option maxRecDepth 100000
set_option maxHeartbeats 4000000
namespace A9
open PySem PySem.Spec PyProof.Rows L2 AS
def heads4S : List Str := ["snapshot main 0", "snapshot s_1 7", "entry main 1", "snapshot main 01"]
theorem headsS_ok : ∀ l ∈ heads4S, lawHead snapS 0 l = headOf snapS 0 l := by decide +kernel
theorem headsS_len : ∀ l ∈ heads4S, l.length ≤ 100 := by decide +kernel
def spLawSnap (K : PySem.W.Frag) : Sp := fun vs H Q _ => ∃ (L : Addr) (l0 : Str) (ls : List Str), vs = [.ref L] ∧ SqL K H L ((l0 :: ls).map V.str) ∧ l0 ∈ heads4S ∧ (∀ l ∈ ls, l ∈ allS) ∧ ls.length ≤ 100 ∧
  (∀ k what, snapOf (l0 :: ls) = .inl (k, what) → ∀ H' p, Sm H H' → H' p = some (.tup [.int (k : Nat), .str what]) → Q (.ref p) H') ∧
  (∀ i n gs, snapOf (l0 :: ls) = .inr (i, n, gs) → ∀ H' p o as, Sm H H' → H' p = some (.tup [.str i, .int (n : Nat), .ref o]) → H' o = some (.lst (as.map V.ref)) → GRows H' as gs → gs.length ≤ 100 → Q (.ref p) H')
section
variable {P : Program} {w : World} {K : PySem.W.Frag} {mg : Str → Option Value} {base : Heap}
theorem ok_law_snapshot (T : Top NN K mg base) : D P w K mg base 2 "_law_snapshot" ["lines"] (spLawSnap K) := by
  refine T.ok0 (d := d_law_snapshot) i_law_snapshot rfl rfl rfl rfl (by decide +kernel) sc_law_snapshot (fun _ _ _ _ _ _ us hl => match us, hl with | [_], _ => rfl) (fun vs H Q E h => ?_) (fun cdv A outer s H vs Q E ec hr h => ?_)
  · obtain ⟨_, _, _, rfl, _⟩ := h
    rfl
  · obtain ⟨L, l0, ls, rfl, hS, h0, hls, hlen, q1, q2⟩ := h
    have G__law_head := ok_law_head (P := P) (w := w) T
    have G__law_read := ok_law_read (P := P) (w := w) T
    have n_len := T.f "len" (by decide +kernel)
    have n_range := T.f "range" (by decide +kernel)
    refine ⟨_, (pss_cons (ps_set (i := 1) sc_law_snapshot.nd rfl (.inl rfl) (pe_callD G__law_head hr (pa_cons (pe_ix  ix_list (pv 0) pe_int (fun _ _ => rfl)) (pa_cons pe_str (pa_cons pe_int pa_nil)))))
      (pss_cons (ps_if (pt_cmpR op_isN (pv 1) pe_non (nomark _)) (pss_one (ps_ret (pe_tup (pa_cons pe_int (pa_cons pe_str pa_nil))))) pss_nil)
      (pss_cons (ps_set (i := 2) sc_law_snapshot.nd rfl (.inl rfl) (pe_lst pa_nil))
      (pss_cons (ps_for PassesOwn.never rfl (pi_range2 rfl n_range (pa_cons pe_int (pa_cons (pe_callB call_len_seq (by rfl) n_len PySem.boot_len (pa_cons (pv 0) pa_nil)) pa_nil))) (pg_name (i := 3) sc_law_snapshot.nd rfl (.inl rfl)) (pss_cons (ps_set (i := 4) sc_law_snapshot.nd rfl (.inl rfl) (pe_callD G__law_read hr (pa_cons (pe_ix  ix_list (pv 0) (pv 3) (fun _ _ => rfl)) pa_nil)))
      (pss_cons (ps_if (PW.pt (pw_or (pt_cmpR op_isN (pv 4) pe_non (nomark _)) (pw_or1 (pt_cmpR op_ne (pe_ix  ix_tup (pv 4) pe_int (fun _ _ => rfl)) pe_str (nomark _))))) (pss_one (ps_ret (pe_tup (pa_cons (pe_op op_add (pv 3) pe_int) (pa_cons pe_str pa_nil))))) pss_nil)
      (pss_cons (ps_if (PW.pt (pw_and (pt_cmpR op_gt (pe_callB call_len_seq (by rfl) n_len PySem.boot_len (pa_cons (pv 2) pa_nil)) pe_int (nomark _)) (pw_and1 (pt_cmpR (op_leD hr.units) (pe_ix  ix_tup (pv 4) pe_int (fun _ _ => rfl)) (pe_ix  ix_list (pv 2) (pe_un un_neg pe_int) (fun _ _ => rfl)) (nomark _))))) (pss_one (ps_ret (pe_tup (pa_cons (pe_op op_add (pv 3) pe_int) (pa_cons pe_str pa_nil))))) pss_nil)
      (pss_one (ps_expr (pe_bm PySem.F.plainAttrs_list PySem.F.slot_list_append PySem.F.type_list_append mt_append (pv 2) (pa_cons (pe_ix  ix_tup (pv 4) pe_int (fun _ _ => rfl)) pa_nil))))))))
      (pss_one (ps_ret (pe_op op_catT (pv 1) (pe_tup (pa_cons (pv 2) pa_nil))))))))), ?_⟩
    have big : (1000 : Nat) ≤ sizeLine := by decide
    have eh0 := headsS_ok l0 h0
    refine ⟨.ref L, rfl, L, _, 0, .str l0, rfl, rfl, hS, at_w (ws := l0 :: ls) (i := 0) rfl, l0, snapS, 0, rfl, Nat.le_trans (headsS_len l0 h0) (by decide), fun hn H1 s1 => ?_, fun i n hn H1 ph s1 nph eph => ?_⟩
    · have er : snapOf (l0 :: ls) = .inl (1, headS) := by
        show (match headOf snapS 0 l0 with | none => _ | some (i, n) => _) = _
        rw [← eh0, hn]
      refine ⟨.non, rfl, rfl, true, rfl, iteT ⟨by show 2 ≤ sizeLine; decide, fun p np => ?_⟩⟩
      exact q1 1 headS er _ p (s1.put (s1.free np)) upd_same
    · have er : snapOf (l0 :: ls) = match snapR ls [] 2 with
            | .inl e => .inl e
            | .inr gs => .inr (i, n, gs) := by
        show (match headOf snapS 0 l0 with | none => _ | some (i, n) => _) = _
        rw [← eh0, hn]
        try rfl
      refine ⟨.ref ph, rfl, rfl, false, rfl, iteF ⟨Nat.zero_le _, fun o no => ?_⟩⟩
      have s2 := s1.put (o := .lst []) (s1.free no)
      have lenE : ((l0 :: ls).map V.str).length = ls.length + 1 := by rw [List.length_map, List.length_cons]
      refine ⟨.ref L, rfl, L, _, rfl, .inl (s2.seq hS), 1, (((l0 :: ls).map V.str).length : Nat), rfl, ⟨by decide, by decide, by omega, by omega⟩, ?_⟩
      have en : (((((l0 :: ls).map V.str).length : Nat) : Int) - 1).toNat = ls.length := by omega
      refine for_range (n := (((((l0 :: ls).map V.str).length : Nat) : Int) - 1).toNat) (fun j σ H' => (∃ u3 u4, σ = [some (.ref L), some (.ref ph), some (.ref o), u3, u4]) ∧ Sm H H' ∧ H' ph = some (.tup [.str i, .int (n : Nat)]) ∧
          ∃ (as : List Addr) (gs : List Gr), H' o = some (.lst (as.map V.ref)) ∧ GRows H' as gs ∧ gs.length = j ∧ snapR ls [] 2 = snapR (ls.drop j) gs (2 + j))
        ⟨⟨_, _, rfl⟩, s2, (Sm.new no).tup eph, [], [], upd_same, trivial, rfl, rfl⟩ (fun j σ H' hj hP => ?_) fun σ H' hP => ?_
      · rw [en] at hj
        obtain ⟨⟨u3, u4, rfl⟩, sm, eph', as, gs, eo, hR, hg, hs⟩ := hP
        have hl : ls[j]? = some ls[j] := List.getElem?_eq_getElem hj
        generalize el : ls[j] = l at hl
        have lS : l ∈ allS := by
          rw [← el]
          exact hls _ (List.getElem_mem hj)
        have dl : ls.drop j = l :: ls.drop (j + 1) := by
          rw [List.drop_eq_getElem_cons hj, el]
        have z1 : (1 : Int) + (j : Int) = ((j + 1 : Nat) : Int) := by omega
        have ag := allS_read l lS
        refine ⟨.ref L, rfl, .int (1 + (j : Nat)), rfl, L, _, _, .str l, rfl, rfl, sm.seq hS, by rw [z1]; exact at_w (ws := l0 :: ls) (i := j + 1) hl, l, rfl, Nat.le_trans (allS_len l lS) (by decide), fun hn2 H5 s5 => ?_, fun a g hn2 H5 pf pg s5 npf npg epf epg => ?_⟩
        · rw [hn2] at ag
          have ee : snapR ls [] 2 = .inl (2 + j, unknownS) := by
            rw [hs, dl]
            show (match grantOf eqS l with | none => _ | some g => _) = _
            rw [ag]
          rw [ee] at er
          refine ⟨.non, rfl, rfl, true, rfl, iteT (iteT ?_)⟩
          refine ⟨.int (1 + (j : Nat)), rfl, _, 1, rfl, rfl, by show 2 ≤ sizeLine; decide, fun p np => ?_⟩
          refine q1 _ unknownS er _ p ((sm.trans s5).put ((sm.trans s5).free np)) ?_
          rw [upd_same]
          show some (HO.tup [V.int (1 + (j : Int) + 1), V.str unknownS]) = _
          rw [show (1 : Int) + (j : Int) + 1 = ((2 + j : Nat) : Int) by omega]
        · rw [hn2] at ag
          have ag2 : grantOf eqS l = if a = eqS then some g else none := ag
          refine ⟨.ref pf, rfl, rfl, false, rfl, iteF ?_⟩
          refine ⟨.ref pf, rfl, pf, _, 0, .str a, rfl, rfl, .inl (.inl epf), atI_nat (j := 0) rfl, rfl, !decide (a = eqS), congrArg (fun b => V.bl (!b)) dec_str, iteB (fun h1 => ?_) fun h1 => ?_⟩
          · rw [Bool.not_eq_true', decide_eq_false_iff_not] at h1
            rw [if_neg h1] at ag2
            have ee : snapR ls [] 2 = .inl (2 + j, unknownS) := by
              rw [hs, dl]
              show (match grantOf eqS l with | none => _ | some g => _) = _
              rw [ag2]
            rw [ee] at er
            refine ⟨.int (1 + (j : Nat)), rfl, _, 1, rfl, rfl, by show 2 ≤ sizeLine; decide, fun p np => ?_⟩
            refine q1 _ unknownS er _ p ((sm.trans s5).put ((sm.trans s5).free np)) ?_
            rw [upd_same]
            show some (HO.tup [V.int (1 + (j : Int) + 1), V.str unknownS]) = _
            rw [show (1 : Int) + (j : Int) + 1 = ((2 + j : Nat) : Int) by omega]
          · rw [Bool.not_eq_false', decide_eq_true_eq] at h1
            rw [if_pos h1] at ag2
            have step : snapR ls [] 2 = if behind g gs = true then snapR (ls.drop (j + 1)) (gs ++ [g]) (2 + j + 1) else .inl (2 + j, orderS) := by
              rw [hs, dl]
              show (match grantOf eqS l with | none => _ | some g => if behind g gs = true then _ else _) = _
              rw [ag2]
            have eo5 := s5.lst eo
            have hR5 := hR.sm s5
            have hl2 := hR.len
            -- the order is right
            have good : behind g gs = true → ∃ (as' : List Addr) (gs' : List Gr), (upd H5 o (.lst (as.map V.ref ++ [.ref pg]))) o = some (.lst (as'.map V.ref)) ∧ GRows (upd H5 o (.lst (as.map V.ref ++ [.ref pg]))) as' gs' ∧ gs'.length = j + 1 ∧ snapR ls [] 2 = snapR (ls.drop (j + 1)) gs' (2 + (j + 1)) := fun hb => by
              rw [if_pos hb] at step
              refine ⟨as ++ [pg], gs ++ [g], ?_, ?_, ?_, step⟩
              · rw [upd_same, List.map_append]
                rfl
              · exact GRows.snoc (by rw [upd_ne (fun e => by rw [e, eo5] at epg; cases epg)]; exact epg) (hR5.other ⟨_, eo5⟩)
              · rw [List.length_append, hg]
                rfl
            have fin : behind g gs = true → ((∃ u3 u4, [some (V.ref L), some (.ref ph), some (.ref o), some (.int (1 + (j : Nat))), some (.ref pf)] = [some (.ref L), some (.ref ph), some (.ref o), u3, u4]) ∧ Sm H (upd H5 o (.lst (as.map V.ref ++ [.ref pg]))) ∧ (upd H5 o (.lst (as.map V.ref ++ [.ref pg]))) ph = some (.tup [.str i, .int (n : Nat)]) ∧
                ∃ (as' : List Addr) (gs' : List Gr), (upd H5 o (.lst (as.map V.ref ++ [.ref pg]))) o = some (.lst (as'.map V.ref)) ∧ GRows (upd H5 o (.lst (as.map V.ref ++ [.ref pg]))) as' gs' ∧ gs'.length = j + 1 ∧ snapR ls [] 2 = snapR (ls.drop (j + 1)) gs' (2 + (j + 1))) := fun hb => by
              refine ⟨⟨_, _, rfl⟩, (sm.trans s5).put (s1.free no), ?_, good hb⟩
              have e6 := s5.tup eph'
              rw [upd_ne (fun e => by rw [e, eo5] at e6; cases e6)]
              exact e6
            refine ⟨.ref o, rfl, o, _, rfl, .inl (.inl (.inl eo5)), _, 0, rfl, rfl, _, rfl, iteB (fun h2 => ?_) fun h2 => ?_⟩
            · rcases List.eq_nil_or_concat gs with rfl | ⟨ini, h, rfl⟩
              · have e0 : as.length = 0 := hl2
                have h3 : ((as.map V.ref).length : Int) > 0 := of_decide_eq_true h2
                rw [List.length_map] at h3
                omega
              · rcases List.eq_nil_or_concat as with rfl | ⟨i2, b, rfl⟩
                · simp at hl2
                · obtain ⟨x, hx, tx⟩ := hR5.get (i := ini.length) (g := h) (by simp)
                  have l2 : i2.length = ini.length := by simpa using hl2
                  rw [List.concat_eq_append, List.getElem?_append_right (by omega), l2, Nat.sub_self] at hx
                  cases hx
                  have eb : behind g (ini.concat h) = ltG h g := by
                    unfold behind
                    rw [List.concat_eq_append, List.getLast?_concat]
                  refine ⟨.ref pf, rfl, pf, _, 1, .ref pg, rfl, rfl, .inl (.inl epf), atI_nat (j := 1) rfl, .ref o, rfl, 1, rfl, o, _, -1, .ref b, rfl, rfl, .inl (.inl eo5), by rw [List.concat_eq_append, List.map_append]; exact atI_last _ _,
                    g.d, h.d, dp_gr epg, dp_gr tx, Gr.alike g h, (fun e => nomatch e), Nat.le_trans (Nat.min_le_left _ _) (Nat.le_trans (Gr.depth g) (by decide)), !ltG h g, rfl, iteB (fun h3 => ?_) fun h3 => ?_⟩
                  · rw [Bool.not_eq_true'] at h3
                    have ee : snapR ls [] 2 = .inl (2 + j, orderS) := by
                      rw [step, eb, h3]
                      rfl
                    rw [ee] at er
                    refine ⟨.int (1 + (j : Nat)), rfl, _, 1, rfl, rfl, by show 2 ≤ sizeLine; decide, fun p np => ?_⟩
                    refine q1 _ orderS er _ p ((sm.trans s5).put ((sm.trans s5).free np)) ?_
                    rw [upd_same]
                    show some (HO.tup [V.int (1 + (j : Int) + 1), V.str orderS]) = _
                    rw [show (1 : Int) + (j : Int) + 1 = ((2 + j : Nat) : Int) by omega]
                  · rw [Bool.not_eq_false'] at h3
                    exact ⟨.ref o, rfl, .inl ⟨rfl, _, .inl (.inl eo5)⟩, .ref pf, rfl, pf, _, 1, .ref pg, rfl, rfl, .inl (.inl epf), atI_nat (j := 1) rfl, o, _, _, rfl, rfl, eo5, by rw [List.length_map]; omega, fin (by rw [eb, h3])⟩
            · have h3 : ¬ ((as.map V.ref).length : Int) > 0 := of_decide_eq_false h2
              rw [List.length_map] at h3
              have g0 : gs = [] := List.eq_nil_of_length_eq_zero (by omega)
              exact ⟨.ref o, rfl, .inl ⟨rfl, _, .inl (.inl eo5)⟩, .ref pf, rfl, pf, _, 1, .ref pg, rfl, rfl, .inl (.inl epf), atI_nat (j := 1) rfl, o, _, _, rfl, rfl, eo5, by rw [List.length_map]; omega, fin (by rw [g0]; rfl)⟩
      · rw [en] at hP
        obtain ⟨⟨u3, u4, rfl⟩, sm, eph', as, gs, eo, hR, hg, hs⟩ := hP
        rw [List.drop_length] at hs
        have hs2 : snapR ls [] 2 = .inr gs := hs
        rw [hs2] at er
        refine ⟨.ref ph, rfl, .ref o, rfl, by show 1 ≤ sizeLine; decide, fun t nt => ?_⟩
        have s8 := Sm.new (H := H') (o := .tup [.ref o]) nt
        refine ⟨ph, t, _, _, rfl, rfl, .inl (.inl (s8.tup eph')), .inl (.inl upd_same), List.cons_ne_nil _ _, by show 2 + 1 ≤ sizeLine; decide, (fun z => nomatch z), fun _ v nv => ?_⟩
        have s9 := s8.put (o := .tup [.str i, .int (n : Nat), .ref o]) (s8.free nv)
        exact q2 i n gs er _ v o as (sm.trans s9) upd_same (s9.lst eo) (hR.sm s9) (by omega)
end
end A9

set_option Elab.async false
set_option linter.all false
set_option maxRecDepth 100000
set_option maxHeartbeats 4000000
namespace A9
open PySem PySem.Spec PyProof.Rows L2 AS
def spLawFeed (K : PySem.W.Frag) : Sp := fun vs H Q _ => ∃ (L : Addr) (ls : List Str), vs = [.ref L] ∧ SqL K H L (ls.map V.str) ∧ (∀ l ∈ ls, l ∈ allE) ∧ ls.length ≤ 100 ∧
  (∀ k what, feedR ls [] 1 = .inl (k, what) → ∀ H' p, Sm H H' → H' p = some (.tup [.int (k : Nat), .str what]) → Q (.ref p) H') ∧
  (∀ es, feedR ls [] 1 = .inr es → ∀ H' o ts, Sm H H' → H' o = some (.lst (ts.map fun t : Ad => V.ref t.a)) → EnRows H' ts es → Q (.ref o) H')
/-- what the loop of _law_feed keeps -/
structure LI (H : Hp) (o : Addr) (lines : List Str) (j : Nat) (H' : Hp) : Prop where
  sm : Sm H H'
  ex : (H' o = some (.lst []) ∧ feedR lines [] 1 = feedR (lines.drop j) [] (1 + j)) ∨
    ∃ (a c1 c2 : Addr) (b1 b2 : List Addr) (g1 g2 : List Gr) (its : List Ad) (ies : List En) (st : Str) (n : Nat), H' c1 = some (.lst (b1.map V.ref)) ∧ GRows H' b1 g1 ∧ H' c2 = some (.lst (b2.map V.ref)) ∧ GRows H' b2 g2 ∧ b1.length ≤ j ∧ b2.length ≤ j ∧ its.length + 1 ≤ j ∧ EnRows H' its ies ∧
      (∀ u ∈ its, (u.o1 ≠ c1 ∧ u.o2 ≠ c1) ∧ (u.o1 ≠ c2 ∧ u.o2 ≠ c2) ∧ (u.o1 ≠ o ∧ u.o2 ≠ o)) ∧ H c1 = none ∧ H c2 = none ∧ c1 ≠ c2 ∧ c1 ≠ o ∧ c2 ≠ o ∧
      H' o = some (.lst ((its ++ ([⟨a, c1, c2⟩] : List Ad)).map fun t : Ad => V.ref t.a)) ∧ H' a = some (.tup [.str st, .int (n : Nat), .ref c1, .ref c2]) ∧ feedR lines [] 1 = feedR (lines.drop j) (ies ++ [⟨st, n, g1, g2⟩]) (1 + j) ∧
      (∀ g ∈ g1, g ∈ grs12) ∧ g1.Pairwise fun x y => ltG x y = true
theorem last_at {as : List Addr} {H : Hp} {h : Gr} {ini : List Gr} (hR : GRows H as (ini.concat h)) : ∃ (i2 : List Addr) (b : Addr), as = i2.concat b ∧ H b = some (.tup h.v) ∧ i2.length = ini.length := by
  have hl := hR.len
  rcases List.eq_nil_or_concat as with rfl | ⟨i2, b, rfl⟩
  · simp at hl
  · obtain ⟨x, hx, tx⟩ := hR.get (i := ini.length) (g := h) (by simp)
    have l2 : i2.length = ini.length := by simpa using hl
    rw [List.concat_eq_append, List.getElem?_append_right (by omega), l2, Nat.sub_self] at hx
    cases hx
    exact ⟨i2, b, rfl, tx, l2⟩
theorem behind_concat (g : Gr) (ini : List Gr) (h : Gr) : behind g (ini.concat h) = ltG h g := by
  unfold behind
  rw [List.concat_eq_append, List.getLast?_concat]
/-- behind an ascending list a triple is not in it -/
theorem behind_new {g : Gr} {gs : List Gr} (hg : g ∈ grs12) (hs : ∀ x ∈ gs, x ∈ grs12) (hp : gs.Pairwise fun x y => ltG x y = true) (hb : behind g gs = true) : ∀ x ∈ gs, ltG x g = true := by
  rcases List.eq_nil_or_concat gs with rfl | ⟨ini, h, rfl⟩
  · exact fun x hx => nomatch hx
  · rw [behind_concat] at hb
    rw [List.concat_eq_append] at hp hs ⊢
    intro x hx
    rcases List.mem_append.mp hx with h1 | h1
    · have h2 := (List.pairwise_append.mp hp).2.2 x h1 h (List.mem_singleton.mpr rfl)
      exact grs_trans x (hs x (List.mem_append_left _ h1)) h (hs h (List.mem_append_right _ (List.mem_singleton.mpr rfl))) g hg h2 hb
    · rw [List.mem_singleton.mp h1]
      exact hb
section
variable {P : Program} {w : World} {K : PySem.W.Frag} {mg : Str → Option Value} {base : Heap}
theorem ok_law_feed (T : Top NN K mg base) : D P w K mg base 2 "_law_feed" ["lines"] (spLawFeed K) := by
  refine T.ok0 (d := d_law_feed) i_law_feed rfl rfl rfl rfl (by decide +kernel) sc_law_feed (fun _ _ _ _ _ _ us hl => match us, hl with | [_], _ => rfl) (fun vs H Q E h => ?_) (fun cdv A outer s H vs Q E ec hr h => ?_)
  · obtain ⟨_, _, rfl, _⟩ := h
    rfl
  · obtain ⟨L, ls, rfl, hS, hls, hlen, q1, q2⟩ := h
    have G__law_head := ok_law_head (P := P) (w := w) T
    have G__law_read := ok_law_read (P := P) (w := w) T
    have n_int := T.f "int" (by decide +kernel)
    have n_len := T.f "len" (by decide +kernel)
    have n_range := T.f "range" (by decide +kernel)
    refine ⟨_, (pss_cons (ps_set (i := 1) sc_law_feed.nd rfl (.inl rfl) (pe_lst pa_nil))
      (pss_cons (ps_for PassesOwn.never rfl (pi_range1 rfl n_range (pa_cons (pe_callB call_len_seq (by rfl) n_len PySem.boot_len (pa_cons (pv 0) pa_nil)) pa_nil)) (pg_name (i := 2) sc_law_feed.nd rfl (.inl rfl)) (pss_cons (ps_set (i := 3) sc_law_feed.nd rfl (.inl rfl) (pe_callD G__law_head hr (pa_cons (pe_ix  ix_list (pv 0) (pv 2) (fun _ _ => rfl)) (pa_cons pe_str (pa_cons pe_int pa_nil)))))
      (pss_one (ps_if (pt_cmpR op_notN (pv 3) pe_non (nomark _)) (pss_one (ps_expr (pe_bm PySem.F.plainAttrs_list PySem.F.slot_list_append PySem.F.type_list_append mt_append (pv 1) (pa_cons (pe_op op_catT (pv 3) (pe_tup (pa_cons (pe_lst pa_nil) (pa_cons (pe_lst pa_nil) pa_nil)))) pa_nil)))) (pss_one (ps_if (pt_cmpR op_eq (pe_callB call_len_seq (by rfl) n_len PySem.boot_len (pa_cons (pv 1) pa_nil)) pe_int (nomark _)) (pss_one (ps_ret (pe_tup (pa_cons (pe_op op_add (pv 2) pe_int) (pa_cons pe_str pa_nil))))) (pss_cons (ps_set (i := 4) sc_law_feed.nd rfl (.inl rfl) (pe_callD G__law_read hr (pa_cons (pe_ix  ix_list (pv 0) (pv 2) (fun _ _ => rfl)) pa_nil)))
      (pss_cons (ps_if (PW.pt (pw_or (pt_cmpR op_isN (pv 4) pe_non (nomark _)) (pw_or1 (pt_cmpR op_eq (pe_ix  ix_tup (pv 4) pe_int (fun _ _ => rfl)) pe_str (nomark _))))) (pss_one (ps_ret (pe_tup (pa_cons (pe_op op_add (pv 2) pe_int) (pa_cons pe_str pa_nil))))) pss_nil)
      (pss_cons (ps_set (i := 5) sc_law_feed.nd rfl (.inl rfl) (pe_ix  ix_tup (pe_ix  ix_list (pv 1) (pe_un un_neg pe_int) (fun _ _ => rfl)) (pe_op op_add pe_int (pe_callTy call_int1 (by rfl) n_int (by decide +kernel) (pa_cons (pe_cmpR op_eq (pe_ix  ix_tup (pv 4) pe_int (fun _ _ => rfl)) pe_str (nomark _)) pa_nil))) (fun _ _ => rfl)))
      (C8.pss_cut (ps_if (PW.pt (pw_or (PW.pt (pw_and (pt_cmpR op_eq (pe_ix  ix_tup (pv 4) pe_int (fun _ _ => rfl)) pe_str (nomark _)) (pw_and1 (pt_cmpR op_gt (pe_callB call_len_seq (by rfl) n_len PySem.boot_len (pa_cons (pe_ix  ix_tup (pe_ix  ix_list (pv 1) (pe_un un_neg pe_int) (fun _ _ => rfl)) pe_int (fun _ _ => rfl)) pa_nil)) pe_int (nomark _))))) (pw_or1 (PW.pt (pw_and (pt_cmpR op_gt (pe_callB call_len_seq (by rfl) n_len PySem.boot_len (pa_cons (pv 5) pa_nil)) pe_int (nomark _)) (pw_and1 (pt_cmpR (op_leD hr.units) (pe_ix  ix_tup (pv 4) pe_int (fun _ _ => rfl)) (pe_ix  ix_list (pv 5) (pe_un un_neg pe_int) (fun _ _ => rfl)) (nomark _)))))))) (pss_one (ps_ret (pe_tup (pa_cons (pe_op op_add (pv 2) pe_int) (pa_cons pe_str pa_nil))))) pss_nil)
      (pss_cons (ps_if (pt_cmpR (op_inP hr.units) (pe_ix  ix_tup (pv 4) pe_int (fun _ _ => rfl)) (pe_ix  ix_tup (pe_ix  ix_list (pv 1) (pe_un un_neg pe_int) (fun _ _ => rfl)) pe_int (fun _ _ => rfl)) rfl) (pss_one (ps_ret (pe_tup (pa_cons (pe_op op_add (pv 2) pe_int) (pa_cons pe_str pa_nil))))) pss_nil)
      (pss_one (ps_expr (pe_bm PySem.F.plainAttrs_list PySem.F.slot_list_append PySem.F.type_list_append mt_append (pv 5) (pa_cons (pe_ix  ix_tup (pv 4) pe_int (fun _ _ => rfl)) pa_nil)))))))))))))))
      (pss_one (ps_ret (pv 1))))), ?_⟩
    have big : (1000 : Nat) ≤ sizeLine := by decide
    refine ⟨Nat.zero_le _, fun o no => ?_⟩
    have s0 : Sm H (upd H o (.lst [])) := Sm.new no
    refine ⟨.ref L, rfl, L, _, rfl, .inl (s0.seq hS), _, rfl, by omega, by rw [List.length_map]; omega, ?_⟩
    have en : (((ls.map V.str).length : Nat) : Int).toNat = ls.length := by rw [List.length_map]; omega
    refine for_range (n := (((ls.map V.str).length : Nat) : Int).toNat) (fun j σ H' => (∃ u2 u3 u4 u5, σ = [some (.ref L), some (.ref o), u2, u3, u4, u5]) ∧ LI H o ls j H')
      ⟨⟨_, _, _, _, rfl⟩, s0, .inl ⟨upd_same, rfl⟩⟩ (fun j σ H' hj hP => ?_) fun σ H' hP => ?_
    · rw [en] at hj
      obtain ⟨⟨u2, u3, u4, u5, rfl⟩, sm, hcase⟩ := hP
      have hl : ls[j]? = some ls[j] := List.getElem?_eq_getElem hj
      generalize el : ls[j] = l at hl
      have lE : l ∈ allE := by
        rw [← el]
        exact hls _ (List.getElem_mem hj)
      have dl : ls.drop j = l :: ls.drop (j + 1) := by
        rw [List.drop_eq_getElem_cons hj, el]
      have z1 : (0 : Int) + (j : Int) = (j : Int) := by omega
      have z2 : (0 : Int) + (j : Int) + 1 = ((1 + j : Nat) : Int) := by omega
      obtain ⟨r1, r2, r3⟩ := allE_read l lE
      have rh := allE_head l lE
      have ll : l.length ≤ 1000 := Nat.le_trans (allE_len l lE) (by decide)
      -- an error is told
      have bad : ∀ (what : Str) (H5 : Hp) (p : Addr), feedR ls [] 1 = .inl (1 + j, what) → Sm H H5 → H5 p = none → Q (.ref p) (upd H5 p (.tup [.int (0 + (j : Int) + 1), .str what])) := fun what H5 p e s5 np => by
        refine q1 _ what e _ p (s5.put (s5.free np)) ?_
        rw [upd_same, z2]
      refine ⟨.ref L, rfl, .int (0 + (j : Nat)), rfl, L, _, _, .str l, rfl, rfl, sm.seq hS, by rw [z1]; exact at_w hl, l, entryS, 1, rfl, ll, fun hn H5 s5 => ?_, fun i n hn H5 ph s5 nph eph => ?_⟩
      · rw [hn] at rh
        refine ⟨.non, rfl, rfl, false, rfl, iteF ?_⟩
        rcases hcase with ⟨eo, hs⟩ | ⟨a, c1, c2, b1, b2, g1, g2, its, ies, st, n, ec1, hR1, ec2, hR2, lb1, lb2, li, hE, hsep, n1, n2, d12, d1o, d2o, eo, ea, hs, hin, hpw⟩
        · rw [dl, feed_none rh.symm] at hs
          refine ⟨.ref o, rfl, o, _, rfl, .inl (.inl (.inl (s5.lst eo))), rfl, true, rfl, iteT ?_⟩
          exact ⟨.int (0 + (j : Nat)), rfl, _, 1, rfl, rfl, by show 2 ≤ sizeLine; decide, fun p np => bad headS _ p hs (sm.trans s5) np⟩
        · rw [dl, feed_line rh.symm] at hs
          have eo5 := s5.lst eo
          refine ⟨.ref o, rfl, o, _, rfl, .inl (.inl (.inl eo5)), rfl, false, ?_, iteF ?_⟩
          · show V.bl (decide (V.int (((its ++ ([⟨a, c1, c2⟩] : List Ad)).map fun t : Ad => V.ref t.a).length : Int) = V.int 0)) = V.bl false
            rw [decide_eq_false fun e => ?_]
            have e2 := V.int.inj e
            rw [List.length_map, List.length_append, List.length_singleton] at e2
            omega
          refine ⟨.ref L, rfl, .int (0 + (j : Nat)), rfl, L, _, _, .str l, rfl, rfl, (sm.trans s5).seq hS, by rw [z1]; exact at_w hl, l, rfl, ll, fun hn2 H6 s6 => ?_, fun sg g hn2 H6 pf pg s6 npf npg epf epg => ?_⟩
          · rw [hn2] at r1 r2
            have ef : faultOf g1 g2 l = unknownS := by unfold faultOf; rw [r1, r2]
            have hs2 : feedR ls [] 1 = .inl (1 + j, unknownS) := by
              rw [hs]
              show (if faultOf g1 g2 l = Str.empty then _ else Sum.inl (1 + j, faultOf g1 g2 l)) = _
              rw [ef, if_neg (by decide +kernel)]
            refine ⟨.non, rfl, rfl, true, rfl, iteT (iteT ?_)⟩
            exact ⟨.int (0 + (j : Nat)), rfl, _, 1, rfl, rfl, by show 2 ≤ sizeLine; decide, fun p np => bad unknownS _ p hs2 (sm.trans (s5.trans s6)) np⟩
          · obtain ⟨hsg, hg12⟩ := r3 sg g hn2
            rw [hn2] at r1 r2
            have r1' : grantOf plusS l = if sg = plusS then some g else none := r1
            have r2' : grantOf minusS l = if sg = minusS then some g else none := r2
            refine ⟨.ref pf, rfl, rfl, false, rfl, iteF ?_⟩
            refine ⟨.ref pf, rfl, pf, _, 0, .str sg, rfl, rfl, .inl (.inl epf), atI_nat (j := 0) rfl, rfl, decide (sg = eqS), congrArg V.bl dec_str, iteB (fun h1 => ?_) fun h1 => ?_⟩
            · rw [decide_eq_true_eq] at h1
              rw [h1, if_neg (by decide +kernel)] at r1' r2'
              have ef : faultOf g1 g2 l = unknownS := by unfold faultOf; rw [r1', r2']
              have hs2 : feedR ls [] 1 = .inl (1 + j, unknownS) := by
                rw [hs]
                show (if faultOf g1 g2 l = Str.empty then _ else Sum.inl (1 + j, faultOf g1 g2 l)) = _
                rw [ef, if_neg (by decide +kernel)]
              exact ⟨.int (0 + (j : Nat)), rfl, _, 1, rfl, rfl, by show 2 ≤ sizeLine; decide, fun p np => bad unknownS _ p hs2 (sm.trans (s5.trans s6)) np⟩
            · rw [decide_eq_false_iff_not] at h1
              have s56 := s5.trans s6
              have eo6 := s56.lst eo
              have ea6 := s56.tup ea
              have ec16 := s56.lst ec1
              have ec26 := s56.lst ec2
              have hR16 := hR1.sm s56
              have hR26 := hR2.sm s56
              have hl1 := hR1.len
              have hl2 := hR2.len
              have hlast : atI ((its ++ ([⟨a, c1, c2⟩] : List Ad)).map fun t : Ad => V.ref t.a) (-1) = some (.ref a) := by
                rw [List.map_append]
                exact atI_last _ _
              have told : ∀ (what : Str) (p : Addr), feedR ls [] 1 = .inl (1 + j, what) → H6 p = none → Q (.ref p) (upd H6 p (.tup [.int (0 + (j : Int) + 1), .str what])) := fun what p e np => bad what _ p e (sm.trans s56) np
              have hsg2 : sg = plusS ∨ sg = minusS := by
                rcases List.mem_cons.mp hsg with e | e
                · exact .inl e
                · rcases List.mem_cons.mp e with e | e
                  · exact .inr e
                  · exact absurd (List.mem_singleton.mp e) h1
              rcases hsg2 with rfl | rfl
              · -- gained
                rw [if_pos rfl] at r1'
                have dpm : decide (V.str plusS = V.str minusS) = false := by rw [dec_str]; decide +kernel
                have ef : faultOf g1 g2 l = if (decide (g2 = []) && behind g g1) = true then Str.empty else orderS := by unfold faultOf; rw [r1']
                have eOrd : (decide (g2 = []) && behind g g1) = false → feedR ls [] 1 = .inl (1 + j, orderS) := fun e => by
                  rw [hs]
                  show (if faultOf g1 g2 l = Str.empty then _ else Sum.inl (1 + j, faultOf g1 g2 l)) = _
                  rw [ef, e]
                  rfl
                have eGood : (decide (g2 = []) && behind g g1) = true → feedR ls [] 1 = feedR (ls.drop (j + 1)) (ies ++ [⟨st, n, g1 ++ [g], g2⟩]) (1 + (j + 1)) := fun e => by
                  rw [hs]
                  show (if faultOf g1 g2 l = Str.empty then (match grantOf plusS l with | some g => _ | none => _) else _) = _
                  rw [ef, e, r1']
                  rfl
                refine ⟨.ref o, rfl, 1, rfl, o, _, -1, .ref a, rfl, rfl, .inl (.inl eo6), hlast, .ref pf, rfl, pf, _, 0, .str plusS, rfl, rfl, .inl (.inl epf), atI_nat (j := 0) rfl, rfl, .inr ⟨_, rfl, 2, _, rfl, rfl, a, _, 2, .ref c1, rfl, ?_, .inl (.inl ea6), atI_nat (j := 2) rfl, ?_⟩⟩
                · show V.int (2 + if decide (V.str plusS = V.str minusS) = true then 1 else 0) = V.int 2
                  rw [dpm]
                  rfl
                have ret : feedR ls [] 1 = .inl (1 + j, orderS) → ∀ (p : Addr), H6 p = none → Q (.ref p) (upd H6 p (.tup [.int (0 + (j : Int) + 1), .str orderS])) := fun e p np => told orderS p e np
                refine ⟨fun σ' H' => σ' = [some (.ref L), some (.ref o), some (.int (0 + (j : Nat))), some .non, some (.ref pf), some (.ref c1)] ∧ H6 = H' ∧ g2 = [] ∧ behind g g1 = true, ?_, fun σ' H' hM => ?_⟩
                · refine ⟨.ref pf, rfl, pf, _, 0, .str plusS, rfl, rfl, .inl (.inl epf), atI_nat (j := 0) rfl, rfl, true, congrArg V.bl (decide_eq_true rfl), iteT ?_⟩
                  refine ⟨.ref o, rfl, 1, rfl, o, _, -1, .ref a, rfl, rfl, .inl (.inl eo6), hlast, a, _, 3, .ref c2, rfl, rfl, .inl (.inl ea6), atI_nat (j := 3) rfl, c2, _, rfl, .inl (.inl (.inl ec26)), _, 0, rfl, rfl, _, rfl, iteB (fun h2 => ?_) fun h2 => ?_⟩
                  · have h3 : ((b2.map V.ref).length : Int) > 0 := of_decide_eq_true h2
                    rw [List.length_map] at h3
                    have g2n : g2 ≠ [] := fun e => by
                      have hl0 : b2.length = 0 := hl2.trans (congrArg List.length e)
                      omega
                    exact iteT ⟨.int (0 + (j : Nat)), rfl, _, 1, rfl, rfl, by show 2 ≤ sizeLine; decide, fun p np => ret (eOrd (by rw [decide_eq_false g2n]; rfl)) p np⟩
                  · have h3 : ¬ ((b2.map V.ref).length : Int) > 0 := of_decide_eq_false h2
                    rw [List.length_map] at h3
                    have g2n : g2 = [] := List.eq_nil_of_length_eq_zero (by omega)
                    refine ⟨.ref c1, rfl, c1, _, rfl, .inl (.inl (.inl ec16)), _, 0, rfl, rfl, _, rfl, iteB (fun h4 => ?_) fun h4 => ?_⟩
                    · have h5 : ((b1.map V.ref).length : Int) > 0 := of_decide_eq_true h4
                      rw [List.length_map] at h5
                      rcases List.eq_nil_or_concat g1 with e0 | ⟨ini, h, eg⟩
                      · have hl0 : b1.length = 0 := hl1.trans (congrArg List.length e0)
                        omega
                      · have hR17 : GRows H6 b1 (ini.concat h) := eg ▸ hR16
                        obtain ⟨i2, b, eb, tb, _⟩ := last_at hR17
                        have eb2 : behind g g1 = ltG h g := by rw [eg]; exact behind_concat g ini h
                        refine ⟨.ref pf, rfl, pf, _, 1, .ref pg, rfl, rfl, .inl (.inl epf), atI_nat (j := 1) rfl, .ref c1, rfl, 1, rfl, c1, _, -1, .ref b, rfl, rfl, .inl (.inl ec16), by rw [eb, List.concat_eq_append, List.map_append]; exact atI_last _ _,
                          g.d, h.d, dp_gr epg, dp_gr tb, Gr.alike g h, (fun e => nomatch e), Nat.le_trans (Nat.min_le_left _ _) (Nat.le_trans (Gr.depth g) (by decide)), !ltG h g, rfl, iteB (fun h6 => ?_) fun h6 => ?_⟩
                        · rw [Bool.not_eq_true'] at h6
                          exact ⟨.int (0 + (j : Nat)), rfl, _, 1, rfl, rfl, by show 2 ≤ sizeLine; decide, fun p np => ret (eOrd (by rw [eb2, h6, Bool.and_false])) p np⟩
                        · rw [Bool.not_eq_false'] at h6
                          exact ⟨rfl, rfl, g2n, by rw [eb2, h6]⟩
                    · have h5 : ¬ ((b1.map V.ref).length : Int) > 0 := of_decide_eq_false h4
                      rw [List.length_map] at h5
                      have g1n : g1 = [] := List.eq_nil_of_length_eq_zero (by omega)
                      exact ⟨rfl, rfl, g2n, by rw [g1n]; rfl⟩
                · obtain ⟨rfl, rfl, g2n, hb⟩ := hM
                  have hlt := behind_new hg12 hin hpw hb
                  have hnew : g ∉ g1 := fun hm => by
                    have h7 := hlt g hm
                    rw [grs_irr g hg12] at h7
                    cases h7
                  refine ⟨.ref pf, rfl, pf, _, 1, .ref pg, rfl, rfl, .inl (.inl epf), atI_nat (j := 1) rfl, .ref o, rfl, 1, rfl, o, _, -1, .ref a, rfl, rfl, .inl (.inl eo6), hlast, a, _, 2, .ref c1, rfl, rfl, .inl (.inl ea6), atI_nat (j := 2) rfl,
                    g.d, g1.map Gr.d, dp_gr epg, .lst (.inl (.inl ec16)) hR16.dp, Gr.plain g, grs_plain g1, Nat.le_trans (Gr.depth g) (by decide), false, congrArg V.bl ((grs_any g g1).trans (decide_eq_false hnew)), iteF ?_⟩
                  refine ⟨.ref c1, rfl, .inl ⟨rfl, _, .inl (.inl ec16)⟩, .ref pf, rfl, pf, _, 1, .ref pg, rfl, rfl, .inl (.inl epf), atI_nat (j := 1) rfl, c1, _, _, rfl, rfl, ec16, by rw [List.length_map]; omega, ⟨_, _, _, _, rfl⟩, (sm.trans s56).put n1,
                    .inr ⟨a, c1, c2, b1 ++ [pg], b2, g1 ++ [g], g2, its, ies, st, n, ?_, ?_, ?_, hR26.other ⟨_, ec16⟩, ?_, by omega, by omega, ?_, hsep, n1, n2, d12, d1o, d2o, ?_, ?_, eGood (by rw [g2n, hb]; rfl), fun x hx => ?_, ?_⟩⟩
                  · rw [upd_same, List.map_append]
                    rfl
                  · exact GRows.snoc (by rw [upd_ne (fun e => by rw [e, ec16] at epg; cases epg)]; exact epg) (hR16.other ⟨_, ec16⟩)
                  · rw [upd_ne (Ne.symm d12)]
                    exact ec26
                  · rw [List.length_append]
                    show b1.length + 1 ≤ j + 1
                    omega
                  · exact EnRows.other ⟨_, ec16⟩ (hE.sm s56) fun u hu => (hsep u hu).1
                  · rw [upd_ne (Ne.symm d1o)]
                    exact eo6
                  · rw [upd_ne (fun e => by rw [e, ec16] at ea6; cases ea6)]
                    exact ea6
                  · rcases List.mem_append.mp hx with h7 | h7
                    · exact hin x h7
                    · rw [List.mem_singleton.mp h7]
                      exact hg12
                  · refine List.pairwise_append.mpr ⟨hpw, List.pairwise_singleton _ _, fun x hx y hy => ?_⟩
                    rw [List.mem_singleton.mp hy]
                    exact hlt x hx
              · -- lost
                have r1n : grantOf plusS l = none := by rw [r1', if_neg (by decide +kernel)]
                rw [if_pos rfl] at r2'
                have ef : faultOf g1 g2 l = if behind g g2 = true then (if g ∈ g1 then bothS else Str.empty) else orderS := by unfold faultOf; rw [r1n, r2']
                have eOrd : behind g g2 = false → feedR ls [] 1 = .inl (1 + j, orderS) := fun e => by
                  rw [hs]
                  show (if faultOf g1 g2 l = Str.empty then _ else Sum.inl (1 + j, faultOf g1 g2 l)) = _
                  rw [ef, e]
                  rfl
                have eBoth : behind g g2 = true → g ∈ g1 → feedR ls [] 1 = .inl (1 + j, bothS) := fun e hm => by
                  rw [hs]
                  show (if faultOf g1 g2 l = Str.empty then _ else Sum.inl (1 + j, faultOf g1 g2 l)) = _
                  rw [ef, e, if_pos rfl, if_pos hm]
                  rfl
                have eGood : behind g g2 = true → g ∉ g1 → feedR ls [] 1 = feedR (ls.drop (j + 1)) (ies ++ [⟨st, n, g1, g2 ++ [g]⟩]) (1 + (j + 1)) := fun e hm => by
                  rw [hs]
                  show (if faultOf g1 g2 l = Str.empty then (match grantOf plusS l with | some g => _ | none => match grantOf minusS l with | some g => _ | none => _) else _) = _
                  rw [ef, e, r1n, r2', if_pos rfl, if_neg hm]
                  rfl
                refine ⟨.ref o, rfl, 1, rfl, o, _, -1, .ref a, rfl, rfl, .inl (.inl eo6), hlast, .ref pf, rfl, pf, _, 0, .str minusS, rfl, rfl, .inl (.inl epf), atI_nat (j := 0) rfl, rfl, .inr ⟨_, rfl, 2, _, rfl, rfl, a, _, 3, .ref c2, rfl, ?_, .inl (.inl ea6), atI_nat (j := 3) rfl, ?_⟩⟩
                · show V.int (2 + if decide (V.str minusS = V.str minusS) = true then 1 else 0) = V.int 3
                  rw [decide_eq_true rfl]
                  rfl
                have dmp : decide (V.str minusS = V.str plusS) = false := by rw [dec_str]; decide +kernel
                refine ⟨fun σ' H' => σ' = [some (.ref L), some (.ref o), some (.int (0 + (j : Nat))), some .non, some (.ref pf), some (.ref c2)] ∧ H6 = H' ∧ behind g g2 = true, ?_, fun σ' H' hM => ?_⟩
                · refine ⟨.ref pf, rfl, pf, _, 0, .str minusS, rfl, rfl, .inl (.inl epf), atI_nat (j := 0) rfl, rfl, false, congrArg V.bl dmp, iteF ?_⟩
                  refine ⟨.ref c2, rfl, c2, _, rfl, .inl (.inl (.inl ec26)), _, 0, rfl, rfl, _, rfl, iteB (fun h4 => ?_) fun h4 => ?_⟩
                  · have h5 : ((b2.map V.ref).length : Int) > 0 := of_decide_eq_true h4
                    rw [List.length_map] at h5
                    rcases List.eq_nil_or_concat g2 with e0 | ⟨ini, h, eg⟩
                    · have hl0 : b2.length = 0 := hl2.trans (congrArg List.length e0)
                      omega
                    · have hR27 : GRows H6 b2 (ini.concat h) := eg ▸ hR26
                      obtain ⟨i2, b, eb, tb, _⟩ := last_at hR27
                      have eb2 : behind g g2 = ltG h g := by rw [eg]; exact behind_concat g ini h
                      refine ⟨.ref pf, rfl, pf, _, 1, .ref pg, rfl, rfl, .inl (.inl epf), atI_nat (j := 1) rfl, .ref c2, rfl, 1, rfl, c2, _, -1, .ref b, rfl, rfl, .inl (.inl ec26), by rw [eb, List.concat_eq_append, List.map_append]; exact atI_last _ _,
                        g.d, h.d, dp_gr epg, dp_gr tb, Gr.alike g h, (fun e => nomatch e), Nat.le_trans (Nat.min_le_left _ _) (Nat.le_trans (Gr.depth g) (by decide)), !ltG h g, rfl, iteB (fun h6 => ?_) fun h6 => ?_⟩
                      · rw [Bool.not_eq_true'] at h6
                        exact ⟨.int (0 + (j : Nat)), rfl, _, 1, rfl, rfl, by show 2 ≤ sizeLine; decide, fun p np => told orderS p (eOrd (by rw [eb2, h6])) np⟩
                      · rw [Bool.not_eq_false'] at h6
                        exact ⟨rfl, rfl, by rw [eb2, h6]⟩
                  · have h5 : ¬ ((b2.map V.ref).length : Int) > 0 := of_decide_eq_false h4
                    rw [List.length_map] at h5
                    have g2n : g2 = [] := List.eq_nil_of_length_eq_zero (by omega)
                    exact ⟨rfl, rfl, by rw [g2n]; rfl⟩
                · obtain ⟨rfl, rfl, hb⟩ := hM
                  refine ⟨.ref pf, rfl, pf, _, 1, .ref pg, rfl, rfl, .inl (.inl epf), atI_nat (j := 1) rfl, .ref o, rfl, 1, rfl, o, _, -1, .ref a, rfl, rfl, .inl (.inl eo6), hlast, a, _, 2, .ref c1, rfl, rfl, .inl (.inl ea6), atI_nat (j := 2) rfl,
                    g.d, g1.map Gr.d, dp_gr epg, .lst (.inl (.inl ec16)) hR16.dp, Gr.plain g, grs_plain g1, Nat.le_trans (Gr.depth g) (by decide), _, congrArg V.bl (grs_any g g1), iteB (fun hm => ?_) fun hm => ?_⟩
                  · exact ⟨.int (0 + (j : Nat)), rfl, _, 1, rfl, rfl, by show 2 ≤ sizeLine; decide, fun p np => told bothS p (eBoth hb (of_decide_eq_true hm)) np⟩
                  · have hnew : g ∉ g1 := of_decide_eq_false hm
                    refine ⟨.ref c2, rfl, .inl ⟨rfl, _, .inl (.inl ec26)⟩, .ref pf, rfl, pf, _, 1, .ref pg, rfl, rfl, .inl (.inl epf), atI_nat (j := 1) rfl, c2, _, _, rfl, rfl, ec26, by rw [List.length_map]; omega, ⟨_, _, _, _, rfl⟩, (sm.trans s56).put n2,
                      .inr ⟨a, c1, c2, b1, b2 ++ [pg], g1, g2 ++ [g], its, ies, st, n, ?_, hR16.other ⟨_, ec26⟩, ?_, ?_, by omega, ?_, by omega, ?_, hsep, n1, n2, d12, d1o, d2o, ?_, ?_, eGood hb hnew, hin, hpw⟩⟩
                    · rw [upd_ne d12]
                      exact ec16
                    · rw [upd_same, List.map_append]
                      rfl
                    · exact GRows.snoc (by rw [upd_ne (fun e => by rw [e, ec26] at epg; cases epg)]; exact epg) (hR26.other ⟨_, ec26⟩)
                    · rw [List.length_append]
                      show b2.length + 1 ≤ j + 1
                      omega
                    · exact EnRows.other ⟨_, ec26⟩ (hE.sm s56) fun u hu => (hsep u hu).2.1
                    · rw [upd_ne (Ne.symm d2o)]
                      exact eo6
                    · rw [upd_ne (fun e => by rw [e, ec26] at ea6; cases ea6)]
                      exact ea6
      · rw [hn] at rh
        refine ⟨.ref ph, rfl, rfl, true, rfl, iteT ?_⟩
        have all : ∃ (ts : List Ad) (es : List En), EnRows H' ts es ∧ H' o = some (.lst (ts.map fun t : Ad => V.ref t.a)) ∧ ts.length ≤ j ∧ (∀ u ∈ ts, u.o1 ≠ o ∧ u.o2 ≠ o) ∧ feedR ls [] 1 = feedR (ls.drop j) es (1 + j) := by
          rcases hcase with ⟨eo, hs⟩ | ⟨a, c1, c2, b1, b2, g1, g2, its, ies, st, n, ec1, hR1, ec2, hR2, lb1, lb2, li, hE, hsep, n1, n2, d12, d1o, d2o, eo, ea, hs, hin, hpw⟩
          · exact ⟨[], [], trivial, eo, Nat.zero_le _, (fun u hu => nomatch hu), hs⟩
          · refine ⟨_, _, EnRows.snoc (t := ⟨a, c1, c2⟩) (e := ⟨st, n, g1, g2⟩) ⟨b1, b2, ea, ec1, hR1, ec2, hR2⟩ hE, eo, by rw [List.length_append]; exact li, fun u hu => ?_, hs⟩
            rcases List.mem_append.mp hu with h1 | h1
            · exact (hsep u h1).2.2
            · rw [List.mem_singleton.mp h1]
              exact ⟨d1o, d2o⟩
        obtain ⟨ts, es, hEE, eo, lt, sepo, hs⟩ := all
        have eo5 := s5.lst eo
        rw [dl, feed_head rh.symm] at hs
        refine ⟨.ref o, rfl, .inl ⟨rfl, _, .inl (.inl eo5)⟩, .ref ph, rfl, Nat.zero_le _, fun e1 ne1 => ⟨Nat.zero_le _, fun e2 ne2 => ⟨by show 2 ≤ sizeLine; decide, fun t nt => ?_⟩⟩⟩
        have s6 := s5.put (o := .lst []) (s5.free ne1)
        have s7 := s6.put (o := .lst []) (s6.free ne2)
        have s8 := s7.put (o := .tup [.ref e1, .ref e2]) (s7.free nt)
        have eph8 := (Sm.new (o := .tup [.ref e1, .ref e2]) nt).tup ((Sm.new (o := .lst []) ne2).tup ((Sm.new (o := .lst []) ne1).tup eph))
        have e12 : e1 ≠ e2 := fun e => by
          rw [← e, upd_same] at ne2
          cases ne2
        have e1o : e1 ≠ o := fun e => by
          rw [e, eo5] at ne1
          cases ne1
        have e2o : e2 ≠ o := fun e => by
          rw [e, s6.lst eo] at ne2
          cases ne2
        have m1 : H e1 = none := (sm.trans s5).free ne1
        have m2 : H e2 = none := (sm.trans s6).free ne2
        refine ⟨ph, t, _, _, rfl, rfl, .inl (.inl eph8), .inl (.inl upd_same), List.cons_ne_nil _ _, by show 2 + 2 ≤ sizeLine; decide, (fun z => nomatch z), fun _ a' na => ?_⟩
        have s9 := s8.put (o := .tup ([.str i, .int (n : Nat)] ++ [.ref e1, .ref e2])) (s8.free na)
        have eo9 := s9.lst eo
        have ee1 : (upd (upd H5 e1 (.lst [])) e2 (.lst [])) e1 = some (.lst []) := by
          rw [upd_ne e12]
          exact upd_same
        have t1 : e1 ≠ t := fun e => by
          rw [← e, ee1] at nt
          cases nt
        have t2 : e2 ≠ t := fun e => by
          rw [← e, upd_same] at nt
          cases nt
        have ee1c : (upd (upd (upd H5 e1 (.lst [])) e2 (.lst [])) t (.tup [.ref e1, .ref e2])) e1 = some (.lst []) := by
          rw [upd_ne t1]
          exact ee1
        have ee2c : (upd (upd (upd H5 e1 (.lst [])) e2 (.lst [])) t (.tup [.ref e1, .ref e2])) e2 = some (.lst []) := by
          rw [upd_ne t2]
          exact upd_same
        have a1 : e1 ≠ a' := fun e => by
          rw [← e, ee1c] at na
          cases na
        have a2 : e2 ≠ a' := fun e => by
          rw [← e, ee2c] at na
          cases na
        have ao : a' ≠ o := fun e => by
          rw [e, s8.lst eo] at na
          cases na
        refine ⟨o, _, _, rfl, rfl, eo9, by rw [List.length_map]; omega, ⟨_, _, _, _, rfl⟩, (sm.trans s9).put no, .inr ⟨a', e1, e2, [], [], [], [], ts, es, i, n, ?_, trivial, ?_, trivial, Nat.zero_le _, Nat.zero_le _, by omega, ?_, fun u hu => ?_, m1, m2, e12, e1o, e2o, ?_, ?_, hs, (fun x hx => nomatch hx), List.Pairwise.nil⟩⟩
        · rw [upd_ne e1o, upd_ne a1]
          exact ee1c
        · rw [upd_ne e2o, upd_ne a2]
          exact ee2c
        · exact EnRows.other ⟨_, eo9⟩ (hEE.sm s9) sepo
        · obtain ⟨e, hEu⟩ := hEE.mem u hu
          obtain ⟨_, _, _, h2, _, h4, _⟩ := hEu
          refine ⟨⟨fun e => ?_, fun e => ?_⟩, ⟨fun e => ?_, fun e => ?_⟩, sepo u hu⟩
          · rw [← e, s5.lst h2] at ne1
            cases ne1
          · rw [← e, s5.lst h4] at ne1
            cases ne1
          · rw [← e, s6.lst h2] at ne2
            cases ne2
          · rw [← e, s6.lst h4] at ne2
            cases ne2
        · rw [upd_same, List.map_append]
          rfl
        · rw [upd_ne ao]
          exact upd_same
    · rw [en] at hP
      obtain ⟨⟨u2, u3, u4, u5, rfl⟩, sm, hcase⟩ := hP
      rw [List.drop_length] at hcase
      rcases hcase with ⟨eo, hs⟩ | ⟨a, c1, c2, b1, b2, g1, g2, its, ies, st, n, ec1, hR1, ec2, hR2, lb1, lb2, li, hE, hsep, n1, n2, d12, d1o, d2o, eo, ea, hs, hin, hpw⟩
      · exact ⟨.ref o, rfl, q2 [] hs H' o [] sm eo trivial⟩
      · exact ⟨.ref o, rfl, q2 _ hs H' o _ sm eo (EnRows.snoc ⟨b1, b2, ea, ec1, hR1, ec2, hR2⟩ hE)⟩
end
end A9

set_option Elab.async false
set_option linter.all false
set_option maxRecDepth 100000
set_option maxHeartbeats 4000000
namespace A9
open PySem PySem.Spec PyProof.Rows L2 AS
/-- the law's promise -/
def spLaw (K : PySem.W.Frag) : Sp := fun vs H Q _ => ∃ (a : Addr) (ns : List Int), vs = [.ref a] ∧ SqL K H a (ns.map V.int) ∧ ns.length ≤ 63 ∧ Tabs K NN.tf H ∧ ∀ H', Q (.bl true) H'
/-- the promise of _law_told -/
def spTold9 (K : PySem.W.Frag) (tf : List He.Defn) : Sp := fun vs H Q _ => ∃ (z : Str) (b : Bool), vs = [.str z, .bl b] ∧ z.length ≤ 100000 ∧ Tabs K tf H ∧
  (b = true → (∀ k what, feedOf z = .inl (k, what) → ∀ H' p, Sm H H' → H' p = some (.tup [.int (k : Nat), .str what]) → Q (.ref p) H') ∧
    (∀ es, feedOf z = .inr es → ∀ H' o ts, Sm H H' → H' o = some (.lst (ts.map fun t : Ad => V.ref t.a)) → EnRows H' ts es → Q (.ref o) H')) ∧
  (b = false → (∀ k what, snapOf (linesOf z) = .inl (k, what) → ∀ H' p, Sm H H' → H' p = some (.tup [.int (k : Nat), .str what]) → Q (.ref p) H') ∧
    (∀ i n gs, snapOf (linesOf z) = .inr (i, n, gs) → ∀ H' p o as, Sm H H' → H' p = some (.tup [.str i, .int (n : Nat), .ref o]) → H' o = some (.lst (as.map V.ref)) → GRows H' as gs → Q (.ref p) H'))
theorem allE_nl : ∀ l ∈ allE, 10 ∉ tl l := by decide +kernel
theorem allS_nl : ∀ l ∈ allS, 10 ∉ tl l := by decide +kernel
theorem heads4S_nl : ∀ l ∈ heads4S, 10 ∉ tl l := by decide +kernel
theorem lines_join {ls : List Str} (h : ∀ l ∈ ls, 10 ∉ tl l) (ne : ls ≠ []) : linesOf (Txt.join nlS ls) = ls := by
  have e : tl nlS = 10 :: [] := by decide +kernel
  exact TL.split_join e (by decide +kernel) ne fun p hp => h p hp
theorem lines_empty : linesOf Str.empty = [Str.empty] := by decide +kernel
theorem feedOf_join {ls : List Str} (h : ∀ l ∈ ls, 10 ∉ tl l) (ne : ls ≠ []) : feedOf (Txt.join nlS ls) = if ls = [Str.empty] then .inr [] else feedR ls [] 1 := by
  have e := lines_join h ne
  unfold feedOf
  rw [e]
  by_cases h2 : ls = [Str.empty]
  · rw [if_pos h2, if_pos (by rw [h2]; rfl)]
  · rw [if_neg h2, if_neg fun z => h2 (by rw [← e, z]; exact lines_empty)]
theorem joinL_le (S : List Nat) : ∀ l : List (List Nat), (TL.joinL S l).length ≤ (l.map List.length).sum + l.length * S.length
  | [] => by simp [TL.joinL]
  | [p] => by
    show p.length ≤ _
    simp
  | p :: q :: r => by
    show (p ++ (S ++ TL.joinL S (q :: r))).length ≤ _
    have ih := joinL_le S (q :: r)
    rw [List.length_append, List.length_append, List.map_cons, List.sum_cons, List.length_cons, Nat.succ_mul]
    omega
theorem join_len_le (y : Str) (ys : List Str) : (Txt.join y ys).length ≤ (ys.map (·.length)).sum + ys.length * y.length := by
  rw [TL.len_tl, TL.join_eq, TL.tl_join]
  have h := joinL_le (TL.tl y) (ys.map TL.tl)
  rw [List.map_map, List.length_map] at h
  have e : List.length ∘ TL.tl = fun y : Str => y.length := by
    funext z
    exact (TL.len_tl z).symm
  rw [e, ← TL.len_tl y] at h
  exact h
theorem sum_le {n : Nat} : ∀ {l : List Nat}, (∀ x ∈ l, x ≤ n) → l.sum ≤ l.length * n
  | [], _ => by simp
  | x :: r, h => by
    rw [List.sum_cons, List.length_cons, Nat.succ_mul]
    have := sum_le (l := r) fun y hy => h y (List.mem_cons_of_mem _ hy)
    have := h x (List.mem_cons_self ..)
    omega
theorem text_len {ls : List Str} (h : ∀ l ∈ ls, l.length ≤ 100) (n : ls.length ≤ 40) : (ls.map (·.length)).sum + ls.length * nlS.length ≤ 100000 := by
  have h1 : (ls.map (·.length)).sum ≤ (ls.map (·.length)).length * 100 := sum_le fun x hx => by
    obtain ⟨y, hy, rfl⟩ := List.mem_map.mp hx
    exact h y hy
  rw [List.length_map] at h1
  have h2 : nlS.length = 1 := by decide +kernel
  rw [h2]
  omega
theorem grs_depthAll : ∀ gs : List Gr, PyData.depthAll (gs.map Gr.d) ≤ 1
  | [] => by simp [PyData.depthAll]
  | g :: r => by
    have h1 := Gr.depth g
    have h2 := grs_depthAll r
    show max g.d.depth (PyData.depthAll (r.map Gr.d)) ≤ 1
    omega
theorem ens_depthAll : ∀ es : List En, PyData.depthAll (es.map En.d) ≤ 3
  | [] => by simp [PyData.depthAll]
  | e :: r => by
    have h2 := ens_depthAll r
    have h3 := grs_depthAll e.gs
    have h4 := grs_depthAll e.ls
    have h1 : e.d.depth ≤ 3 := by
      show max 0 (max 0 (max (PyData.depthAll (e.gs.map Gr.d) + 1) (max (PyData.depthAll (e.ls.map Gr.d) + 1) 0))) + 1 ≤ 3
      omega
    show max e.d.depth (PyData.depthAll (r.map En.d)) ≤ 3
    omega
def firstS : Str := "entry main 7"
theorem first_in : firstS ∈ allE := by decide +kernel
section
variable {P : Program} {w : World} {K : PySem.W.Frag} {mg : Str → Option Value} {base : Heap}
theorem ok_law (T : Top NN K mg base) (G__law_told : D P w K mg base 8 "_law_told" ["text", "is_feed"] (spTold9 K NN.tf)) {fd : FuncData} (F : FunD K dlaw.name dlaw.qual dlaw.params dlaw.body dlaw.scope [] [] (He.ga K "law") fd) : FnOk P w K mg base CX0 9 (He.ga K "law") fd ["script"] (spLaw K) := by
  refine okF F sclaw (fun vs H Q E h => ?_) (fun cdv A outer s H vs Q E hr h => ?_)
  · obtain ⟨a, ns, rfl, _⟩ := h
    rfl
  · obtain ⟨a, ns, rfl, hS, hn, hT, q⟩ := h
    have n_isinstance := T.f "isinstance" (by decide +kernel)
    have n_list := T.f "list" (by decide +kernel)
    have n_range := T.f "range" (by decide +kernel)
    have n_tuple := T.f "tuple" (by decide +kernel)
    have n_sorted := T.f "sorted" (by decide +kernel)
    have G__law_cell := (ok_law_cell (P := P) (w := w) T).mono (show 1 ≤ 8 by decide)
    have G__law_line := (ok_law_line (P := P) (w := w) T).mono (show 2 ≤ 8 by decide)
    have G__law_feed := (ok_law_feed (P := P) (w := w) T).mono (show 2 ≤ 8 by decide)
    have G__law_snapshot := (ok_law_snapshot (P := P) (w := w) T).mono (show 2 ≤ 8 by decide)
    have G__law_same := (ok_law_same (P := P) (w := w) T 2).mono (show 2 ≤ 8 by decide)
    refine ⟨_, (pss_cons (ps_setLc (i := 1) (own := [("k", 5)]) (g := gName 5) (tt := tYes) rfl sclaw.nd rfl rfl (sw_true rfl rfl rfl (by decide +kernel)) (pi_range1 rfl n_range (pa_cons (pe_op op_add pe_int (pe_op op_mod (pe_callD G__law_cell hr (pa_cons (pv 0) (pa_cons pe_int pa_nil))) pe_int)) pa_nil)) (blkOk_by (N := ["script", "lines", "due", "told", "grants", "k"]) (sc := defScope slaw) (by decide +kernel)) (fun _ _ _ _ _ => (pg_name (i := 5) sclaw.nd rfl (.inl rfl))) (fun _ _ _ _ _ => pts_nil) (fun _ _ _ _ _ => (pe_callD G__law_line hr (pa_cons (pe_callD G__law_cell hr (pa_cons (pv 0) (pa_cons (pe_op op_add pe_int (pv 5)) pa_nil))) (pa_cons pe_str pa_nil)))))
      (C8.pss_cut (ps_if (pt_cmpR op_gt (pe_op op_mod (pe_op op_fdivN (pe_callD G__law_cell hr (pa_cons (pv 0) (pa_cons pe_int pa_nil))) pe_int) pe_int) pe_int (nomark _)) (pss_one (ps_asg pe_str (pg_sub (pv 1) pe_int set_list))) pss_nil)
      (C8.pss_cut (ps_set (i := 2) sclaw.nd rfl (.inl rfl) (pe_callD G__law_feed hr (pa_cons (pv 1) pa_nil)))
      (C8.pss_cut (ps_set (i := 3) sclaw.nd rfl (.inl rfl) (pe_callD G__law_told hr (pa_cons (pe_join pe_str (pv 1)) (pa_cons pe_bl pa_nil))))
      (C8.pss_cut (ps_if (pt_cmpR (op_eqP hr.units) (pv 1) (pe_lst (pa_cons pe_str pa_nil)) (nomark _)) (pss_one (ps_set (i := 2) sclaw.nd rfl (.inl rfl) (pe_lst pa_nil))) pss_nil)
      (C8.pss_cut (ps_if (pt_val (pe_callB call_isi (by rfl) n_isinstance (by decide +kernel) (pa_cons (pv 2) (pa_cons (pe_bltn (v := .ty "tuple") (by rfl) n_tuple (by decide +kernel) rfl) pa_nil)))) (pss_one (ps_if (pt_not (pt_val (pe_callD G__law_same hr (pa_cons (pv 3) (pa_cons (pv 2) pa_nil))))) (pss_one (ps_ret pe_bl)) pss_nil)) (pss_one (ps_if (PW.pt (pw_or (pt_not (pt_val (pe_callB call_isi (by rfl) n_isinstance (by decide +kernel) (pa_cons (pv 3) (pa_cons (pe_bltn (v := .ty "list") (by rfl) n_list (by decide +kernel) rfl) pa_nil))))) (pw_or1 (pt_cmpR (op_neP hr.units) (pv 3) (pv 2) (nomark _))))) (pss_one (ps_ret pe_bl)) pss_nil)))
      (pss_cons (ps_set (i := 1) sclaw.nd rfl (.inl rfl) (pe_lst (pa_cons (pe_ix  ix_list (pe_lst (pa_cons pe_str (pa_cons pe_str (pa_cons pe_str (pa_cons pe_str pa_nil))))) (pe_op op_mod (pe_op op_mod (pe_callD G__law_cell hr (pa_cons (pv 0) (pa_cons pe_int pa_nil))) pe_int) pe_int) (fun _ _ => rfl)) pa_nil)))
      (pss_cons (ps_setLc (i := 4) (own := [("k", 5)]) (g := gName 5) (tt := tYes) rfl sclaw.nd rfl rfl (sw_true rfl rfl rfl (by decide +kernel)) (pi_range1 rfl n_range (pa_cons (pe_op op_mod (pe_op op_fdivN (pe_callD G__law_cell hr (pa_cons (pv 0) (pa_cons pe_int pa_nil))) pe_int) pe_int) pa_nil)) (blkOk_by (N := ["script", "lines", "due", "told", "grants", "k"]) (sc := defScope slaw) (by decide +kernel)) (fun _ _ _ _ _ => (pg_name (i := 5) sclaw.nd rfl (.inl rfl))) (fun _ _ _ _ _ => pts_nil) (fun _ _ _ _ _ => (pe_callD G__law_line hr (pa_cons (pe_callD G__law_cell hr (pa_cons (pv 0) (pa_cons (pe_op op_add pe_int (pv 5)) pa_nil))) (pa_cons pe_str pa_nil)))))
      (C8.pss_cut (ps_set (i := 1) sclaw.nd rfl (.inl rfl) (pe_op op_cat (pv 1) (pe_ifExp (pt_cmpR op_gt (pe_op op_mod (pe_op op_fdivN (pe_callD G__law_cell hr (pa_cons (pv 0) (pa_cons pe_int pa_nil))) pe_int) pe_int) pe_int (nomark _)) (pe_callB cr_sortedS (by rfl) n_sorted (by decide +kernel) (pa_cons (pv 4) pa_nil)) (pv 4))))
      (pss_cons (ps_set (i := 2) sclaw.nd rfl (.inl rfl) (pe_callD G__law_snapshot hr (pa_cons (pv 1) pa_nil)))
      (pss_cons (ps_set (i := 3) sclaw.nd rfl (.inl rfl) (pe_callD G__law_told hr (pa_cons (pe_join pe_str (pv 1)) (pa_cons pe_bl pa_nil))))
      (pss_one (ps_ret (pe_and (pe_callB call_isi (by rfl) n_isinstance (by decide +kernel) (pa_cons (pv 3) (pa_cons (pe_bltn (v := .ty "tuple") (by rfl) n_tuple (by decide +kernel) rfl) pa_nil))) (pe_one (pe_cmpR (op_eqP hr.units) (pv 3) (pv 2) (nomark _))))))))))))))))), ?_⟩
    have big : (1000000 : Nat) ≤ sizeLine := by decide
    -- the lines
    obtain ⟨n, en, hn25⟩ := mod_nat (ns.getD 0 0) 25 (by decide)
    refine ⟨.ref a, rfl, a, ns, 0, rfl, hS, hn, _, 25, rfl, rfl, by show (0 : Int) < 25; decide, 1, _, rfl, rfl, ((1 + n : Nat) : Int), ?_, by omega, by omega, fun D nD => ?_⟩
    · show [V.int (1 + ns.getD 0 0 % 25)] = _
      rw [show ns.getD 0 0 % 25 = (n : Int) from en]
      congr 1
    refine lc_range (n := ((1 + n : Nat) : Int).toNat) (fun i H' => Sm H H' ∧ ∃ ls : List Str, ls.length = i ∧ (∀ l ∈ ls, l ∈ allE) ∧ H' D = some (.lst (ls.map V.str))) ⟨Sm.new nD, [], rfl, (fun l h => nomatch h), upd_same⟩ (fun i H' hi hP => ?_) fun H' hP => ?_
    · obtain ⟨sm, ls, hl, hok, eD⟩ := hP
      refine ⟨rfl, ?_⟩
      refine ⟨.ref a, rfl, .int (0 + (i : Nat)), rfl, 2, _, rfl, rfl, a, ns, 2 + i, congrArg (fun z => [V.ref a, V.int z]) (by omega), sm.seq hS, hn, _, entryS, rfl, .inl ⟨rfl, fun H2 l hl2 s2 => ?_⟩⟩
      refine ⟨ls.map V.str, s2.lst eD, ?_, (sm.trans s2).put nD, ls ++ [l], ?_, fun x hx => ?_, ?_⟩
      · rw [List.length_map, hl]
        omega
      · rw [List.length_append, hl]
        rfl
      · rcases List.mem_append.mp hx with h | h
        · exact hok x h
        · rw [List.mem_singleton.mp h]
          exact hl2
      · rw [upd_same, List.map_append]
        rfl
    obtain ⟨s2, ls, hl, hok, eD⟩ := hP
    have lne : ls ≠ [] := fun e => by
      rw [e] at hl
      have : 0 = ((1 + n : Nat) : Int).toNat := hl
      omega
    have hl25 : ls.length ≤ 25 := by omega
    clear hl en hn25
    refine ⟨fun σ' H2 => ∃ (u5 : Option V) (ls : List Str), σ' = [some (.ref a), some (.ref D), none, none, none, u5] ∧ Sm H H2 ∧ H2 D = some (.lst (ls.map V.str)) ∧ ls ≠ [] ∧ ls.length ≤ 25 ∧ ∀ l ∈ ls, l ∈ allE, ?_, fun σ' H2 hM => ?_⟩
    · refine ⟨.ref a, rfl, a, ns, 0, rfl, s2.seq hS, hn, _, 25, rfl, rfl, ⟨by decide, by decide⟩, _, 3, rfl, rfl, by show (0 : Int) < 3; decide, _, 0, rfl, rfl, _, rfl, iteB (fun h => ?_) fun h => ⟨_, ls, rfl, s2, eD, lne, hl25, hok⟩⟩
      refine ⟨.ref D, rfl, D, ls.map V.str, 0, 0, rfl, rfl, eD, ?_, _, ls.set 0 firstS, rfl, s2.put nD, ?_, ?_, ?_, fun l hl => ?_⟩
      · have hl : (ls.map V.str).length ≠ 0 := by
          rw [List.length_map]
          exact fun e => lne (List.eq_nil_of_length_eq_zero e)
        unfold ixN
        rw [if_pos (by decide), if_pos (by omega)]
        rfl
      · rw [upd_same, List.map_set]
        rfl
      · intro e
        have e2 := congrArg List.length e
        rw [List.length_set] at e2
        exact lne (List.eq_nil_of_length_eq_zero e2)
      · rw [List.length_set]
        exact hl25
      · rcases List.mem_or_eq_of_mem_set hl with h1 | h1
        · exact hok l h1
        · rw [h1]
          exact first_in
    clear s2 eD lne hl25 hok ls
    obtain ⟨u5, ls, rfl, s2, eD, lne, hl25, hok⟩ := hM
    have hnl : ∀ l ∈ ls, 10 ∉ tl l := fun l hl => allE_nl l (hok l hl)
    have hz := text_len (fun l hl => allE_len l (hok l hl)) (show ls.length ≤ 40 by omega)
    have hzl : (Txt.join nlS ls).length ≤ 100000 := Nat.le_trans (join_len_le nlS ls) hz
    have ez := feedOf_join hnl lne
    -- due
    refine ⟨fun σ' H3 => ∃ d : V, σ' = [some (.ref a), some (.ref D), some d, none, none, u5] ∧ Sm H2 H3 ∧ ((∃ (p : Addr) (k : Nat) (what : Str), d = .ref p ∧ feedR ls [] 1 = .inl (k, what) ∧ H3 p = some (.tup [.int (k : Nat), .str what])) ∨
        ∃ (o : Addr) (ts : List Ad) (es : List En), d = .ref o ∧ feedR ls [] 1 = .inr es ∧ H3 o = some (.lst (ts.map fun t : Ad => V.ref t.a)) ∧ EnRows H3 ts es), ?_, fun σ' H3 hM => ?_⟩
    · exact ⟨.ref D, rfl, D, ls, rfl, .inl (.inl eD), hok, by omega, fun k what e H3 p s3 ep => ⟨_, rfl, s3, .inl ⟨p, k, what, rfl, e, ep⟩⟩, fun es e H3 o ts s3 eo hE => ⟨_, rfl, s3, .inr ⟨o, ts, es, rfl, e, eo, hE⟩⟩⟩
    obtain ⟨d, rfl, s3, hd⟩ := hM
    -- told
    refine ⟨fun σ' H4 => ∃ (d t : V), σ' = [some (.ref a), some (.ref D), some d, some t, none, u5] ∧ Sm H2 H4 ∧ ((∃ (p p' : Addr) (k : Nat) (what : Str), ls ≠ [Str.empty] ∧ d = .ref p ∧ t = .ref p' ∧ H4 p = some (.tup [.int (k : Nat), .str what]) ∧ H4 p' = some (.tup [.int (k : Nat), .str what])) ∨
        (∃ (o o' : Addr) (es : List En) (ts ts' : List Ad), ls ≠ [Str.empty] ∧ d = .ref o ∧ t = .ref o' ∧ H4 o = some (.lst (ts.map fun t : Ad => V.ref t.a)) ∧ EnRows H4 ts es ∧ H4 o' = some (.lst (ts'.map fun t : Ad => V.ref t.a)) ∧ EnRows H4 ts' es) ∨
        (ls = [Str.empty] ∧ ∃ o' : Addr, t = .ref o' ∧ H4 o' = some (.lst []))), ?_, fun σ' H4 hM => ?_⟩
    · refine ⟨⟨_, rfl⟩, .ref D, rfl, nlS, D, ls, rfl, rfl, .inl (.inl (.inl (s3.lst eD))), by omega, ?_⟩
      refine ⟨Txt.join nlS ls, true, rfl, hzl, (s2.trans s3).tabs hT, fun _ => ⟨fun k' what' e' H4 p' s4 ep' => ⟨d, _, rfl, s3.trans s4, ?_⟩, fun es' e' H4 o' ts' s4 eo' hE' => ⟨d, _, rfl, s3.trans s4, ?_⟩⟩, fun e => Bool.noConfusion e⟩
      · rw [ez] at e'
        by_cases h1 : ls = [Str.empty]
        · rw [if_pos h1] at e'
          cases e'
        · rw [if_neg h1] at e'
          rcases hd with ⟨p, k, what, rfl, e, ep⟩ | ⟨o, ts, es, rfl, e, eo, hE⟩
          · rw [e] at e'
            cases e'
            exact .inl ⟨p, p', _, _, h1, rfl, rfl, s4.tup ep, ep'⟩
          · rw [e] at e'
            cases e'
      · rw [ez] at e'
        by_cases h1 : ls = [Str.empty]
        · rw [if_pos h1] at e'
          cases e'
          cases ts' with
          | nil => exact .inr (.inr ⟨h1, o', rfl, eo'⟩)
          | cons _ _ => exact hE'.elim
        · rw [if_neg h1] at e'
          rcases hd with ⟨p, k, what, rfl, e, ep⟩ | ⟨o, ts, es, rfl, e, eo, hE⟩
          · rw [e] at e'
            cases e'
          · rw [e] at e'
            cases e'
            exact .inr (.inl ⟨o, o', _, ts, ts', h1, rfl, rfl, s4.lst eo, hE.sm s4, eo', hE'⟩)
    clear hd s3 d
    obtain ⟨d, t, rfl, s4, hd⟩ := hM
    -- if lines == [""]
    refine ⟨fun σ' H5 => ∃ (d t : V), σ' = [some (.ref a), some (.ref D), some d, some t, none, u5] ∧ Sm H2 H5 ∧ ((∃ (p p' : Addr) (k : Nat) (what : Str), d = .ref p ∧ t = .ref p' ∧ H5 p = some (.tup [.int (k : Nat), .str what]) ∧ H5 p' = some (.tup [.int (k : Nat), .str what])) ∨
        ∃ (o o' : Addr) (es : List En) (ts ts' : List Ad), d = .ref o ∧ t = .ref o' ∧ H5 o = some (.lst (ts.map fun t : Ad => V.ref t.a)) ∧ EnRows H5 ts es ∧ H5 o' = some (.lst (ts'.map fun t : Ad => V.ref t.a)) ∧ EnRows H5 ts' es), ?_, fun σ' H5 hM => ?_⟩
    · refine ⟨.ref D, rfl, by show 1 ≤ sizeLine; decide, fun qa nq => ?_⟩
      have s5 : Sm H4 (upd H4 qa (.lst ([Str.empty].map V.str))) := Sm.new nq
      refine ⟨.list (ls.map PyData.str), .list ([Str.empty].map PyData.str), .lst (.inl (.inl ((s4.trans s5).lst eD))) (dp_strs K _ ls), .lst (.inl (.inl upd_same)) (dp_strs K _ [Str.empty]), strs_plainAll ls, rfl, Nat.le_trans (Nat.min_le_right _ _) (by decide), _, congrArg V.bl (strs_eqv ls [Str.empty]), iteB (fun h => ?_) fun h => ?_⟩
      · have h1 : ls = [Str.empty] := of_decide_eq_true h
        refine ⟨Nat.zero_le _, fun o2 no2 => ?_⟩
        have s6 := s5.put (o := .lst []) (s5.free no2)
        rcases hd with ⟨_, _, _, _, h2, _⟩ | ⟨_, _, _, _, _, h2, _⟩ | ⟨_, o', rfl, eo'⟩
        · exact absurd h1 h2
        · exact absurd h1 h2
        · exact ⟨_, _, rfl, s4.trans s6, .inr ⟨o2, o', [], [], [], rfl, rfl, upd_same, trivial, s6.lst eo', trivial⟩⟩
      · have h1 : ls ≠ [Str.empty] := of_decide_eq_false h
        refine ⟨_, _, rfl, s4.trans s5, ?_⟩
        rcases hd with ⟨p, p', k, what, _, rfl, rfl, ep, ep'⟩ | ⟨o, o', es, ts, ts', _, rfl, rfl, eo, hE, eo', hE'⟩ | ⟨h2, _⟩
        · exact .inl ⟨p, p', k, what, rfl, rfl, s5.tup ep, s5.tup ep'⟩
        · exact .inr ⟨o, o', es, ts, ts', rfl, rfl, s5.lst eo, hE.sm s5, s5.lst eo', hE'.sm s5⟩
        · exact absurd h2 h1
    clear hd s4 d t
    obtain ⟨d, t, rfl, s5, hd⟩ := hM
    refine ⟨fun σ' H6 => (∃ u1 u2 u3 u4 u5, σ' = [some (.ref a), u1, u2, u3, u4, u5]) ∧ Sm H H6, ?_, fun σ' H6 hM => ?_⟩
    · have s25 := s2.trans s5
      rcases hd with ⟨p, p', k, what, rfl, rfl, ep, ep'⟩ | ⟨o, o', es, ts, ts', rfl, rfl, eo, hE, eo', hE'⟩
      · refine ⟨.ref p, rfl, .ref p, .ty "tuple", _, _, true, rfl, .ty _, .base (.tup ep), kit_ty (by decide +kernel), true, rfl, iteT ?_⟩
        refine ⟨.ref p', rfl, .ref p, rfl, .ref p', .ref p, rfl, .inr ⟨p', p, _, _, rfl, rfl, ep', ep, rfl, by show 2 ≤ 1000; decide, fun i u v hu hv => .inl ?_⟩, true, rfl, iteF ⟨⟨_, _, _, _, _, rfl⟩, s25⟩⟩
        have e : u = v := Option.some.inj (hu.symm.trans hv)
        refine ⟨e, ?_⟩
        match i, hu with
        | 0, hu => exact .inr (.inl ⟨_, (Option.some.inj hu).symm⟩)
        | 1, hu => exact .inl ⟨_, (Option.some.inj hu).symm⟩
        | n + 2, hu => cases hu
      · refine ⟨.ref o, rfl, .ref o, .ty "tuple", _, _, false, rfl, .ty _, .base (.lst eo), kit_ty (by decide +kernel), false, rfl, iteF ?_⟩
        refine ⟨.ref o', rfl, .ref o', .ty "list", _, _, true, rfl, .ty _, .base (.lst eo'), kit_ty (by decide +kernel), true, rfl, iteF ?_⟩
        have dep : (PyData.list (es.map En.d)).depth ≤ 16 := Nat.le_trans (Nat.succ_le_succ (ens_depthAll es)) (by decide)
        refine ⟨.ref o', rfl, .ref o, rfl, .list (es.map En.d), .list (es.map En.d), .lst (.inl (.inl eo')) hE'.dp, .lst (.inl (.inl eo)) hE.dp, ens_plain es, ens_plain es, Nat.le_trans (Nat.min_le_left _ _) dep, false, ?_, iteF ⟨⟨_, _, _, _, _, rfl⟩, s25⟩⟩
        show V.bl (!PyData.eqv (.list (es.map En.d)) (.list (es.map En.d))) = V.bl false
        rw [SeqAt.eqv_refl_plain (.list (es.map En.d)) (ens_plain es)]
        rfl
    clear hd s5 d t s2 eD lne hl25 hok hnl hz hzl ez ls
    obtain ⟨⟨u1, u2, u3, u4, u5', rfl⟩, s6⟩ := hM
    -- the snapshot's lines
    obtain ⟨m, em, hm⟩ := mod_nat (ns.getD 1 0 % 5) 4 (by decide)
    refine ⟨by show 4 ≤ sizeLine; decide, fun p0 np0 => ?_⟩
    have s7 := s6.put (o := .lst (heads4S.map V.str)) (s6.free np0)
    refine ⟨.ref a, rfl, a, ns, 1, rfl, s7.seq hS, hn, _, 5, rfl, rfl, by show (0 : Int) < 5; decide, _, 4, rfl, rfl, by show (0 : Int) < 4; decide, p0, heads4S.map V.str, m, .str heads4S[m], rfl, congrArg V.int em, .inl (.inl upd_same), at_str (ds := heads4S) hm, by show 1 ≤ sizeLine; decide, fun D2 nD2 => ?_⟩
    have s8 := s7.put (o := .lst ([heads4S[m]].map V.str)) (s7.free nD2)
    have eD2 : (upd (upd H6 p0 (.lst (heads4S.map V.str))) D2 (.lst ([heads4S[m]].map V.str))) D2 = some (.lst ([heads4S[m]].map V.str)) := upd_same
    obtain ⟨n2, en2, hn2⟩ := mod_nat ((ns.getD 1 0).fdiv 5) 13 (by decide)
    refine ⟨.ref a, rfl, a, ns, 1, rfl, s8.seq hS, hn, _, 5, rfl, rfl, ⟨by decide, by decide⟩, _, 13, rfl, rfl, by show (0 : Int) < 13; decide, (n2 : Int), congrArg (fun z => [V.int z]) en2, by omega, by omega, fun G nG => ?_⟩
    refine lc_range (n := ((n2 : Nat) : Int).toNat) (fun i H' => Sm (upd (upd H6 p0 (.lst (heads4S.map V.str))) D2 (.lst ([heads4S[m]].map V.str))) H' ∧ ∃ ls : List Str, ls.length = i ∧ (∀ l ∈ ls, l ∈ allS) ∧ H' G = some (.lst (ls.map V.str))) ⟨Sm.new nG, [], rfl, (fun l h => nomatch h), upd_same⟩ (fun i H' hi hP => ?_) fun H9 hP => ?_
    · obtain ⟨sm, ls, hl, hok, eG⟩ := hP
      refine ⟨rfl, ?_⟩
      refine ⟨.ref a, rfl, .int (0 + (i : Nat)), rfl, 30, _, rfl, rfl, a, ns, 30 + i, congrArg (fun z => [V.ref a, V.int z]) (by omega), (s8.trans sm).seq hS, hn, _, snapS, rfl, .inr ⟨rfl, fun H2 l hl2 s2 => ?_⟩⟩
      refine ⟨ls.map V.str, s2.lst eG, ?_, (sm.trans s2).put nG, ls ++ [l], ?_, fun x hx => ?_, ?_⟩
      · rw [List.length_map, hl]
        omega
      · rw [List.length_append, hl]
        rfl
      · rcases List.mem_append.mp hx with h | h
        · exact hok x h
        · rw [List.mem_singleton.mp h]
          exact hl2
      · rw [upd_same, List.map_append]
        rfl
    obtain ⟨s9, gl, hl, hok, eG⟩ := hP
    have hl12 : gl.length ≤ 12 := by omega
    have eD9 := s9.lst eD2
    have s89 := s8.trans s9
    refine ⟨fun σ' H' => ∃ (u2 u3 u4 u5 : Option V) (D3 : Addr) (gl : List Str), σ' = [some (.ref a), some (.ref D3), u2, u3, u4, u5] ∧ Sm H H' ∧ H' D3 = some (.lst ((heads4S[m] :: gl).map V.str)) ∧ (∀ l ∈ gl, l ∈ allS) ∧ gl.length ≤ 12, ?_, fun σ' H' hM => ?_⟩
    · refine ⟨.ref D2, rfl, .ref a, rfl, a, ns, 1, rfl, s89.seq hS, hn, _, 65, rfl, rfl, ⟨by decide, by decide⟩, _, 3, rfl, rfl, by show (0 : Int) < 3; decide, _, 0, rfl, rfl, _, rfl, iteB (fun h => ?_) fun h => ?_⟩
      · refine ⟨.ref G, rfl, G, gl, rfl, .inl (.inl eG), by omega, fun ys p hp _ np => ?_⟩
        have sp := Sm.new (o := .lst (ys.map V.str)) np
        have lys : ys.length = gl.length := hp.length_eq
        refine ⟨D2, p, _, _, rfl, rfl, sp.lst eD9, upd_same, ?_, fun qq nqq => ⟨_, _, _, _, qq, ys, rfl, (s89.trans sp).put ((s89.trans sp).free nqq), upd_same, fun l hl => hok l (hp.mem_iff.mp hl), by omega⟩⟩
        rw [List.length_map, List.length_map]
        show 1 + ys.length ≤ sizeLine
        omega
      · refine ⟨.ref G, rfl, D2, G, _, _, rfl, rfl, eD9, eG, ?_, fun qq nqq => ⟨_, _, _, _, qq, gl, rfl, s89.put (s89.free nqq), upd_same, hok, hl12⟩⟩
        rw [List.length_map, List.length_map]
        show 1 + gl.length ≤ sizeLine
        omega
    clear s9 hl hok eG hl12 eD9 s89 gl s8 eD2 nG s7
    obtain ⟨v2, v3, v4, v5, D3, gl, rfl, s10, eD3, hok, hl12⟩ := hM
    have hh : heads4S[m] ∈ heads4S := List.getElem_mem hm
    have hnl : ∀ l ∈ heads4S[m] :: gl, 10 ∉ tl l := fun l hl => by
      rcases List.mem_cons.mp hl with h | h
      · rw [h]
        exact heads4S_nl _ hh
      · exact allS_nl l (hok l h)
    have hlen : ∀ l ∈ heads4S[m] :: gl, l.length ≤ 100 := fun l hl => by
      rcases List.mem_cons.mp hl with h | h
      · rw [h]
        exact headsS_len _ hh
      · exact allS_len l (hok l h)
    have hz := text_len hlen (show (heads4S[m] :: gl).length ≤ 40 by rw [List.length_cons]; omega)
    have hzl : (Txt.join nlS (heads4S[m] :: gl)).length ≤ 100000 := Nat.le_trans (join_len_le nlS _) hz
    have ej := lines_join hnl (List.cons_ne_nil _ _)
    have dT : ∀ (H5 : Hp) (p : Addr) (k : Nat) (what : Str), H5 p = some (.tup [.int (k : Nat), .str what]) → Dp K H5 (.ref p) (.tuple [.int (k : Nat), .str what]) := fun H5 p k what e => .tup (.inl (.inl e)) (.cons (.int _) (.cons (.str _) .nil))
    have dS : ∀ (H5 : Hp) (p o : Addr) (i : Str) (n : Nat) (as : List Addr) (gs : List Gr), H5 p = some (.tup [.str i, .int (n : Nat), .ref o]) → H5 o = some (.lst (as.map V.ref)) → GRows H5 as gs → Dp K H5 (.ref p) (.tuple [.str i, .int (n : Nat), .list (gs.map Gr.d)]) := fun H5 p o i n as gs e eo hR => .tup (.inl (.inl e)) (.cons (.str _) (.cons (.int _) (.cons (.lst (.inl (.inl eo)) hR.dp) .nil)))
    refine ⟨.ref D3, rfl, D3, _, gl, rfl, .inl (.inl eD3), hh, hok, by omega, fun k what e H5 p s5 ep => ?_, fun i n gs e H5 p o as s5 ep eo hR _ => ?_⟩
    · refine ⟨⟨_, rfl⟩, .ref D3, rfl, nlS, D3, heads4S[m] :: gl, rfl, rfl, .inl (.inl (.inl (s5.lst eD3))), by omega, ?_⟩
      refine ⟨Txt.join nlS (heads4S[m] :: gl), false, rfl, hzl, (s10.trans s5).tabs hT, (fun e => Bool.noConfusion e), fun _ => ⟨fun k' what' e' H7 p' s7 ep' => ?_, fun i' n' gs' e' _ _ _ _ _ _ _ _ => ?_⟩⟩
      · rw [ej, e] at e'
        cases e'
        refine ⟨.ref p', rfl, .ref p', .ty "tuple", _, _, true, rfl, .ty _, .base (.tup ep'), kit_ty (by decide +kernel), true, rfl, iteT ?_⟩
        exact ⟨.ref p', rfl, .ref p, rfl, _, _, dT _ p' _ _ ep', dT _ p _ _ (s7.tup ep), rfl, rfl, by show min 1 1 ≤ 16; decide, toBl (SeqAt.eqv_refl_plain (.tuple [.int (k : Nat), .str what]) rfl) (q _)⟩
      · rw [ej, e] at e'
        cases e'
    · refine ⟨⟨_, rfl⟩, .ref D3, rfl, nlS, D3, heads4S[m] :: gl, rfl, rfl, .inl (.inl (.inl (s5.lst eD3))), by omega, ?_⟩
      refine ⟨Txt.join nlS (heads4S[m] :: gl), false, rfl, hzl, (s10.trans s5).tabs hT, (fun e => Bool.noConfusion e), fun _ => ⟨fun k' what' e' _ _ _ _ => ?_, fun i' n' gs' e' H7 p' o' as' s7 ep' eo' hR' => ?_⟩⟩
      · rw [ej, e] at e'
        cases e'
      · rw [ej, e] at e'
        cases e'
        have pl : (PyData.tuple [.str i, .int (n : Nat), .list (gs.map Gr.d)]).plain = true := by
          show (true && (true && (PyData.plainAll (gs.map Gr.d) && true))) = true
          rw [grs_plain]
          rfl
        have dp : (PyData.tuple [.str i, .int (n : Nat), .list (gs.map Gr.d)]).depth ≤ 16 := by
          have h1 := grs_depthAll gs
          show max 0 (max 0 (max (PyData.depthAll (gs.map Gr.d) + 1) 0)) + 1 ≤ 16
          omega
        refine ⟨.ref p', rfl, .ref p', .ty "tuple", _, _, true, rfl, .ty _, .base (.tup ep'), kit_ty (by decide +kernel), true, rfl, iteT ?_⟩
        exact ⟨.ref p', rfl, .ref p, rfl, _, _, dS _ p' o' _ _ as' gs ep' eo' hR', dS _ p o _ _ as gs (s7.tup ep) (s7.lst eo) (hR.sm s7), pl, pl, Nat.le_trans (Nat.min_le_left _ _) dp, toBl (SeqAt.eqv_refl_plain _ pl) (q _)⟩
end
end A9

set_option Elab.async false
set_option linter.all false
set_option maxRecDepth 100000
set_option maxHeartbeats 4000000
namespace A9
open PySem PySem.Spec PyProof.Rows L2 AS
/-- what isinstance asks of the error classes -/
structure IsA (K : PySem.W.Frag) : Prop where
  c : ExcC K (He.ga K "BadFeed")
  cl : (PySem.W.clsIn K (He.ga K "BadFeed")).isSome = true
  yes : PySem.W.kitOne K (.ref (He.ga K "BadFeed")) (.ref (He.ga K "AuthError")) = some true
  no : PySem.W.kitOne K (.ref (He.ga K "BadFeed")) (.ref (He.ga K "BadSchema")) = some false
def isAB (K : PySem.W.Frag) : Bool := excCB K (He.ga K "BadFeed") && ((PySem.W.clsIn K (He.ga K "BadFeed")).isSome && (decide (PySem.W.kitOne K (.ref (He.ga K "BadFeed")) (.ref (He.ga K "AuthError")) = some true) && decide (PySem.W.kitOne K (.ref (He.ga K "BadFeed")) (.ref (He.ga K "BadSchema")) = some false)))
theorem isAB_ok {K : PySem.W.Frag} (h : isAB K = true) : IsA K := by
  obtain ⟨h1, h⟩ := He.ba h
  obtain ⟨h2, h⟩ := He.ba h
  obtain ⟨h3, h4⟩ := He.ba h
  exact ⟨excCB_ok h1, h2, of_decide_eq_true h3, of_decide_eq_true h4⟩
section
variable {P : Program} {w : World} {K : PySem.W.Frag} {mg : Str → Option Value} {base : Heap}
theorem ok_law_told (T : Top NN K mg base) (B : VeInit K (He.ga K "AuthError")) (R : ErrC K mg "BadFeed" "line" "what") (I : IsA K) : D P w K mg base 8 "_law_told" ["text", "is_feed"] (spTold9 K NN.tf) := by
  refine T.ok0 (d := d_law_told) i_law_told rfl rfl rfl rfl (by decide +kernel) sc_law_told (fun _ _ _ _ _ _ us hl => match us, hl with | [_, _], _ => rfl) (fun vs H Q E h => ?_) (fun cdv A outer s H vs Q E ec hr h => ?_)
  · obtain ⟨_, _, rfl, _⟩ := h
    rfl
  · obtain ⟨z, b, rfl, hz, hT, q1, q2⟩ := h
    obtain ⟨⟨fdF, FF, bF⟩, kpF, glF⟩ := ok_read_feed (P := P) (w := w) T B R
    obtain ⟨⟨fdS, FS, bS⟩, kpS, glS⟩ := (ok_read_snapshot (P := P) (w := w) T B R).mono (show 6 ≤ 7 by decide)
    have n_isinstance := T.f "isinstance" (by decide +kernel)
    have gA := T.g "AuthError" (by decide +kernel)
    have gB := T.g "BadSchema" (by decide +kernel)
    refine ⟨_, PSs.nox (pss_one (ps_try_as (i := 2) (tb := fun W D σ H => tIf (tB (tVar 1)) (tCallS (spFeed K NN.tf) (WE W) (tCons (tVar 0) tNil)) (tCallS (spSnap K NN.tf) (WE W) (tCons (tVar 0) tNil)) σ H D.rt) (ts := fun a cls d D σ H => tIf (tAnd (tB (tCB (rIsX K (He.ga K "BadFeed") a cls d) (tCons (tVar 2) (tCons (tC (.ref (He.ga K "AuthError"))) tNil)))) (tNot (tB (tCB (rIsX K (He.ga K "BadFeed") a cls d) (tCons (tVar 2) (tCons (tC (.ref (He.ga K "BadSchema"))) tNil))))))
        (tTup (tCons (tXf a cls d (He.ga K "BadFeed") "line" (tVar 2)) (tCons (tXf a cls d (He.ga K "BadFeed") "what" (tVar 2)) tNil))) (tC .non) σ H D.rt) (Wout := fun _ _ _ _ => False) rfl rfl sc_law_told.nd rfl rfl ⟨rfl, by decide, .inl R.gl⟩ takes0 ?_ ?_)), ?_⟩
    · exact fun W pn xe tk _ => pss_one (ps_ret (pe_ifExp (pt_val (pv 1)) (pe_callS FF hr (by rfl) glF kpF bF (fun σ => passAt tk σ) (pa_cons (pv 0) pa_nil)) (pe_callS FS hr (by rfl) glS kpS bS (fun σ => passAt tk σ) (pa_cons (pv 0) pa_nil))))
    · exact fun a oe cls d pn hz hf => pss_one (ps_ret (pe_ifExp (PW.pt (pw_and (pt_val (pe_callB (call_isX I.c I.cl hz hf) (by rfl) n_isinstance (by decide +kernel) (pa_cons (pv 2) (pa_cons (pe_glob (v := .ref (He.ga K "AuthError")) (by rfl) gA rfl) pa_nil)))) (pw_and1 (pt_not (pt_val (pe_callB (call_isX I.c I.cl hz hf) (by rfl) n_isinstance (by decide +kernel) (pa_cons (pv 2) (pa_cons (pe_glob (v := .ref (He.ga K "BadSchema")) (by rfl) gB rfl) pa_nil))))))))
        (pe_tup (pa_cons (pe_xf R.xf R.no1 hz hf (pv 2)) (pa_cons (pe_xf R.xf R.no2 hz hf (pv 2)) pa_nil))) pe_non))
    have suite : ∀ (a d : Addr) (k : Nat) (what : Str) (H' : Hp) (W : VK), H' d = some (.xd [("what", .str what), ("line", .int (k : Nat))]) → (∀ p, H' p = none → W (.ref p) (upd H' p (.tup [.int (k : Nat), .str what]))) →
        tIf (tAnd (tB (tCB (rIsX K (He.ga K "BadFeed") a (.ref (He.ga K "BadFeed")) (some d)) (tCons (tVar 2) (tCons (tC (.ref (He.ga K "AuthError"))) tNil)))) (tNot (tB (tCB (rIsX K (He.ga K "BadFeed") a (.ref (He.ga K "BadFeed")) (some d)) (tCons (tVar 2) (tCons (tC (.ref (He.ga K "BadSchema"))) tNil))))))
          (tTup (tCons (tXf a (.ref (He.ga K "BadFeed")) (some d) (He.ga K "BadFeed") "line" (tVar 2)) (tCons (tXf a (.ref (He.ga K "BadFeed")) (some d) (He.ga K "BadFeed") "what" (tVar 2)) tNil))) (tC .non) [some (.str z), some (.bl b), some (.ref a)] H' W := fun a d k what H' W ed hW => by
      refine ⟨.ref a, rfl, He.ga K "AuthError", true, d, _, rfl, rfl, rfl, ed, I.yes, true, rfl, iteT ?_⟩
      refine ⟨.ref a, rfl, He.ga K "BadSchema", false, d, _, rfl, rfl, rfl, ed, I.no, false, rfl, iteT ?_⟩
      exact ⟨_, rfl, rfl, rfl, d, _, _, rfl, ed, rfl, _, rfl, rfl, rfl, d, _, _, rfl, ed, rfl, by show 2 ≤ sizeLine; decide, fun p np => hW p np⟩
    refine ⟨.bl b, rfl, b, rfl, iteB (fun hb => ?_) fun hb => ?_⟩
    · obtain ⟨f1, f2⟩ := q1 hb
      refine ⟨.str z, rfl, z, rfl, hz, hT, fun k what e d H' sm nd ed => ?_, fun es e H' o ts sm _ eo hE => f2 es e H' o ts sm eo hE⟩
      exact ⟨true, R.te, fun _ a na => suite a d k what H' _ ed fun p np => f1 k what e _ p (sm.put (sm.free np)) upd_same, fun q => Bool.noConfusion q⟩
    · obtain ⟨f1, f2⟩ := q2 hb
      refine ⟨.str z, rfl, z, rfl, hz, hT, fun k what e d H' sm nd ed => ?_, fun i n gs e H' p o as sm _ ep eo hR => f2 i n gs e H' p o as sm ep eo hR⟩
      exact ⟨true, R.te, fun _ a na => suite a d k what H' _ ed fun p np => f1 k what e _ p (sm.put (sm.free np)) upd_same, fun q => Bool.noConfusion q⟩
end
end A9

set_option Elab.async false
set_option linter.all false
set_option maxRecDepth 100000
set_option maxHeartbeats 0
namespace A9
open PySem PySem.Spec PyProof.Rows L2 AS
abbrev R : PySem.W.OpenRow := PySem.W.OpenLaw.row PySem.Challenge.rw_authsync_k59_bad_texts_of_feeds
abbrev ex0 : PySem.W.Frag → Bool := fun K => veInitB K (He.ga K "AuthError") && (errB K "BadFeed" "line" "what" && isAB K)
abbrev hk : PySem.W.Hook := AS.hookY 4 NN.fa NN.fn [] NN.tf ex0
def ob (s : PySem.W.SharedT) : He.AlX := AS.obsY 4 NN.fa NN.fn [] NN.tf ex0 (HandSHeadRun.getT s)
theorem ob_eq (s : PySem.W.SharedT) : ob s = hk.obs s.abs := AS.obsY_eq (HandSHeadRun.getT_eq s)
def loose : List Str := ["AuthError", "BadSchema", "BadFeed", "_is_word", "is_identifier", "is_object", "is_grant", "read_revision", "read_snapshot", "read_feed", "_head_of", "_grant_of", "_is_behind", "_fault_of", "_law_cell", "_law_draws", "_law_same", "_law_grant", "_law_line", "_law_head", "_law_read", "_law_feed", "_law_snapshot", "_law_told", "LETTERS", "DIGITS", "WORD_SIGNS", "WORD_LIMIT", "GREATEST_REVISION", "REVISION_DIGITS"]
theorem run (w : World) : HandSHeadRun.RunEq R (PySem.W.view R.prog [34]) hk ob 8000 loose w := by
  intro os
  kernel_rfl
end A9

set_option Elab.async false
set_option linter.all false
set_option maxRecDepth 100000
set_option maxHeartbeats 0
open PySem PySem.W PySem.Calls PyProof.Rows
theorem PySem.Challenge.cw_authsync_k59_bad_texts_of_feeds_holds : PySem.Challenge.rw_authsync_k59_bad_texts_of_feeds.Holds := by
  w_on; o_law
  refine HandSHeadRun.head_any (r := A9.R) (q := view A9.R.prog [34]) (H := A9.hk) (ob := A9.ob) (M := 8000) (loose := A9.loose) (d := HandSHeadRun.topDef A9.R.prog 34) (kwd := []) A9.ob_eq
    (by kernel_rfl) (fun s => by kernel_rfl) A9.run (by kernel_rfl) (by kernel_rfl) (by kernel_rfl) (by rfl) (by first | assumption | decide +kernel) (by decide +kernel) ⟨rfl, rfl, rfl, rfl, rfl, by decide +kernel⟩ ?hw ?hc
  case hw => w_witness2
  case hc =>
    refine LamX.walk_ofTsE (l := PySem.Challenge.rw_authsync_k59_bad_texts_of_feeds) (n := 63) (k := 9) (x := "script") (CX := fun _ => L2.CX0) rfl (by decide) (by kernel_rfl) ⟨rfl, by decide, by decide⟩ ?F (fun _ _ _ _ _ z => z)
    intro w mg fa h Y G hmg0
    obtain ⟨K, KX, c⟩ := Y
    have hmg : mg ("law" : PySem.Str) = some (.ref fa) := by
      have e : (HandSHeadRun.topDef A9.R.prog 34).name = ("law" : PySem.Str) := by kernel_rfl
      rw [← e]
      exact hmg0
    obtain ⟨m1, m23⟩ := He.ba c.more
    obtain ⟨m2, m3⟩ := He.ba m23
    refine ⟨K, KX, AS.lawAt (N := A9.NN) (d := A9.dlaw) (sp := A9.spLaw K) KX G c hmg (by decide +kernel) 23 rfl rfl rfl rfl (fun _ _ _ _ _ _ us hl => match us, hl with | [_], _ => rfl) (fun H a ns hl _ hT hS => ⟨a, ns, rfl, hS, hl, hT, fun _ => rfl⟩) fun base fd T F => A9.ok_law T (A9.ok_law_told T (AS.veInitB_ok m1) (AS.errB_ok (T.g "BadFeed" (by decide +kernel)) m2) (A9.isAB_ok m3)) F⟩
