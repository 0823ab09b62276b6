import PyProof.Rows.All
import Wide.All
import OpenK.AllK
import Wide.FinOn
import HandS.AnyAll
import HandS.EndTab
import HandS.ForSpec
import HandS.ForMost
import HandS.Flow
import HandS.HeadWalk
import HandS.HeadHook4
import HandS.Head0
import HandS.Head1
import HandS.Head2
import HandS.HeadEnd
import HandS.IsInst
import HandS.FStr
import HandS.StrMore
import HandS.Wide
import HandS.Codes
import HandS.DeepEq
import HandS.Star
import HandS.Deep
import HandS.ExcInit
import HandS.ExcField
import HandS.TryOnly
import HandS.CallSlots
import HandS.More
import HandS.Style
import HandS.Walk
import KE.DataCmp
import KE.DataEq
import PySem.Challenge.RW_authsync_k05_demands
import HandS.TupLe
set_option Elab.async false
set_option linter.all false
set_option maxRecDepth 100000
set_option maxHeartbeats 2000000
namespace AS
open PySem PySem.Spec PyProof.Rows L2 GxR

/-- an element of a generator expression over signs that may read the module's names -/
def EltM (X : Cx) (scope : Scope) (x : Str) (elt : Expr) (pb : Nat → Bool) : Prop :=
  ∀ (ce : Env) (B : Around) (F : Value → Shared → Prop) (c : Nat) (t : Tok) (u : Shared) (m : Str → Option Value),
    ce.scope = scope → ce.globals = mainGlobals → u.heap.Ns mainGlobals X.mg → u.heap.Ns ce.locals m →
    m x = some (.str ⟨#[c]⟩ t) →
    wpAny (model X.prog X.w) B (eval elt ce) (fun y v => y = .bool (pb c) ∧ Keeps u v) F u

section
variable {X : Cx} {pins : List (Addr × Obj)} {σ : L2.St} {H : Hp} {s : Shared}

/-- x in NAME, NAME a text of the module's top -/
theorem elt_in {scope : Scope} {x g k : Str} {tk : Tok} {p1 p2 p3 : Pos}
    (hk : scope.kind = .function) (hl : scope.names.lookup x = some .local)
    (hg : scope.names.lookup g = some .globalImplicit) (hm : X.mg g = some (.str k tk))
    (hd : (x == ("__debug__" : Str)) = false := by decide) (hd2 : (g == ("__debug__" : Str)) = false := by decide) :
    EltM X scope x (.Compare (.Name x p1) [.In] [.Name g p2] p3)
      (fun c => decide (c ∈ k.cps.toList)) := by
  intro ce B F c t u m hs hgl hM hn hx
  refine wpAny_Compare1 ?_
  refine wpAny_Name (wpAny_loadName_local (by rw [hs]; exact hk)
    (show ce.scope.names.lookup x = some .local by rw [hs]; exact hl) hn hx ?_) hd
  refine Calls.Name_function_global (by rw [hs]; exact hk)
    (show ce.scope.names.lookup g = some .globalImplicit by rw [hs]; exact hg)
    (Calls.loadGlobal_global (by rw [hgl]; exact hM) hm ?_) hd2
  exact PySem.P.in_str ⟨congrArg Value.bool (PySem.StrLaws.found_one k c), keeps_tok _ _⟩

/-- what the walk's state is behind the iterator's making and the code object's finding: the heap m3 -/
theorem gen_tail {c P : Addr} {elt : Expr} {x : Str} {scope : Scope} {pb : Nat → Bool} {R : Str → Hp → Prop}
    {W' : Value → Shared → Prop} {a : Str} {H1 : Hp} {s1 : Shared} {o : Obj} {St : Nat → Heap → Prop} {ps : Array Value}
    {k : Nat} (hr : Room k X.A) (tb : TabB X.base X.mg c P) (gs : GenS X.env scope x) (hel : EltM X scope x elt pb)
    (J : Inv X pins σ H1 s1) (hP : H1 P = some (.tbl ps)) (hR : R a H1)
    (hW : ∀ a H1 g s5, R a H1 → Ready X pins σ H1 P a pb g s5 → W' (.ref g) s5)
    (wk : ∀ A' : Around, A'.handled = none →
      Walks X.prog X.w A' s1.heap.objs.size [s1.heap.objs.size] [s1.heap.objs.size] a.cps.size (SignAt a) St)
    (hst : St 0 (s1.heap.push o))
    (code : Value) (m3 : Heap) (tk : Nat) (qs : Array Value) (ext : Heap.ExtBut P (s1.heap.push o) m3)
    (grow : (s1.heap.push o).objs.size ≤ m3.objs.size)
    (at3 : m3.get? P = some { cls := .none, data := .fields qs }) (more : ∃ z, qs = ps ++ z) (trip : TriplesOk qs.toList) :
    wpAny (model X.prog X.w) X.A (builtinsFor X.env.globals X.env.builtins) (fun bi s₄ =>
      ∃ J fp wr n₀ Pf S0 pz F, Value.ref s1.heap.objs.size = .ref J ∧
        (∀ A' : Around, A'.handled = none → Walks X.prog X.w A' J fp wr n₀ Pf S0) ∧ S0 0 s₄.heap ∧
        (∀ b ∈ fp, b < s₄.heap.objs.size) ∧ s₄.heap.NoLimit ∧ cStatics ∉ wr ∧
        (∀ rf : Heap, (∀ b o, s₄.heap.get? b = some o → rf.get? b = some o) →
          QuietGen X.prog X.w (genEnv scope (cloFrom X.env.cells scope.names []) s₄.heap.objs.size code bi X.env)
            x [] elt (List.range s₄.heap.objs.size) wr Pf pz F rf) ∧
        (∀ g h₅ t5 st, st.bare = true → s₄.heap.objs.size < g → h₅.objs.size = g + 1 →
          (∀ b o, s₄.heap.get? b = some o → h₅.get? b = some o) →
          WalksS X.prog X.w X.A.in4 g (g :: s₄.heap.objs.size :: List.range s₄.heap.objs.size)
            (s₄.heap.objs.size :: wr) (GenOnlyQ s₄.gens.size) (passing pz n₀ 0).length
            (fun j y => ∃ i, (passing pz n₀ 0)[j]? = some i ∧ F i y)
            (GenAt X.prog X.w X.A.in4 g s₄.gens.size s₄.heap.objs.size (List.range s₄.heap.objs.size) wr pz n₀ F) →
          GenAt X.prog X.w X.A.in4 g s₄.gens.size s₄.heap.objs.size (List.range s₄.heap.objs.size) wr pz n₀ F 0
            { s₄ with gens := s₄.gens.push st, toks := t5, heap := h₅ } →
          W' (.ref g) { s₄ with gens := s₄.gens.push st, toks := t5, heap := h₅ })) X.xe { s1 with heap := m3, toks := tk } := by
  have tabAt : s1.heap.get? P = some { cls := .none, data := .fields ps } := J.hok P _ hP
  have tabLt := Heap.lt_size tabAt
  have lim := J.nolimit.push o
  obtain ⟨_, limNs, _⟩ := J.nolimit
  have stNe : cStatics ≠ P := fun z => by
    obtain ⟨ob, _, _, e, d, _⟩ := limNs
    rw [z, tabAt] at e
    cases e
    cases d
  have stLt := limNs.lt
  have glob1 : s1.heap.Ns mainGlobals X.mg := J.mod.glob.keeps J.bk
  have glob3 : m3.Ns mainGlobals X.mg := (glob1.push o).extBut ext tb.gP
  have szP : (s1.heap.push o).objs.size = s1.heap.objs.size + 1 := Heap.size_push ..
  have kept : ∀ b v, b ≠ P → s1.heap.get? b = some v → m3.get? b = some v :=
    fun b v n e => ext b v n (Heap.get?_push_of_some _ e)
  obtain ⟨bm, bo, b1, b2, b3, b4, b5, b6, b7, b8⟩ := tb.bm
  refine wpAny_builtinsFor (m := X.mg) (by rw [J.ok.glob]; exact glob3) b1 b2 (kept _ _ b4 (J.bk _ _ b5)) b6 b7 b8 ?_
  have one : ∀ b : Addr, b ∈ [s1.heap.objs.size] → b = s1.heap.objs.size := fun b hb => List.mem_singleton.mp hb
  refine ⟨_, _, _, _, _, _, (fun _ => true), (fun i y => ∃ cc, a.cps[i]? = some cc ∧ y = .bool (pb cc)), rfl, wk, ?_, ?_,
    lim.extBut ext stNe, fun z => Nat.ne_of_lt stLt (one _ z), ?_, ?_⟩
  · refine (wk X.A hr.hd).frame _ _ _ hst fun b hb v e => ext b v (fun z => ?_) e
    rw [z] at hb
    exact Nat.ne_of_lt tabLt (one _ hb)
  · intro b hb
    rw [one b hb]
    show s1.heap.objs.size < m3.objs.size
    omega
  · intro rf hrf
    constructor
    · intro A' E' i v s₂ m₂ _ _ _ _ _
      simp only [List.forIn_nil]
      exact wpAny_pure ⟨rfl, keeps_refl _⟩
    · intro A' E' i v s₂ m₂ _ hv _ hn hm hk
      obtain ⟨cc, u, hcc, rfl⟩ := hv
      have g2 : s₂.heap.Ns mainGlobals X.mg := by
        have hlt : mainGlobals < s1.heap.objs.size := glob1.lt
        obtain ⟨og, es, ep, e, r⟩ := glob3
        refine ⟨og, es, ep, hk mainGlobals (List.mem_range.mpr (Heap.lt_size e)) (fun z => Nat.ne_of_lt hlt (one _ z)) og (hrf _ _ e), r⟩
      exact wpAny_mono (hel _ A' E' cc u s₂ m₂ rfl J.ok.glob g2 hn hm) (fun y s3 r => ⟨⟨cc, hcc, r.1⟩, r.2⟩) fun _ _ e => e
  · intro g h5 t5 st bare lt5 sz5 keep5 W5 at5
    have full : passing (fun _ => true) a.cps.size 0 = List.range a.cps.size := passing_true _
    rw [full, List.length_range] at W5
    refine hW a H1 g _ hR ⟨_, _, _, _, _, W5.in4_1, at5, ?_, ?_⟩
    · intro j y sj Qj Ej hy hQj
      obtain ⟨i, hij, cc, hcc, rfl⟩ := hy
      obtain ⟨hj, ej⟩ := List.getElem?_eq_some_iff.mp hij
      rw [List.getElem_range] at ej
      subst ej
      have e9 : a.cps.toList[j]? = some cc := Array.getElem?_toList.trans hcc
      have e8 : trF pb a.cps.toList j = pb cc := trF_some e9
      have hQ2 : Qj (trF pb a.cps.toList j) sj := hQj
      rw [e8] at hQ2
      exact wpAny_truthy_bool hQ2
    · intro s' mv
      obtain ⟨z, ez⟩ := more
      have nw : ∀ b v, s1.heap.get? b = some v → b ∉ m3.objs.size :: [s1.heap.objs.size] := fun b v e hb => by
        have lt := Heap.lt_size e
        rcases List.mem_cons.mp hb with q | q
        · rw [q] at lt
          have l2 : s1.heap.objs.size < m3.objs.size := by omega
          exact Nat.lt_asymm l2 lt
        · rw [one b q] at lt
          exact Nat.lt_irrefl _ lt
      have grown : s'.heap.get? P = some { cls := .none, data := .fields (ps ++ z) } := by
        rw [← ez]
        exact mv.heap P _ (nw P _ tabAt) (keep5 P _ at3)
      have K := inv_tab (more := z) (h' := s'.heap) (g' := s'.gens) (d' := s'.drawn) (t' := s'.toks) J hP
        (fun b v n e => mv.heap b v (nw b v e) (keep5 b v (kept b v n e))) grown (AllBare.movedS (J.bare.push bare) mv)
      rw [sh_eta s1 s' mv.os] at K
      exact ⟨_, ⟨⟨ps ++ z, upd_same, by rw [← ez]; exact trip⟩, fun b n => upd_ne n⟩, K⟩

theorem gen_strM {c P : Addr} {elt iter : Expr} {x : Str} {px gpos : Pos} {scope : Scope} {pb : Nat → Bool}
    {te : TE} {k : Nat} {W' : Value → Shared → Prop} {R : Str → Hp → Prop}
    (hr : Room k X.A) (tb : TabB X.base X.mg c P) (hc : X.env.code = .ref c) (gs : GenS X.env scope x)
    (hi : PE X iter te) (hel : EltM X scope x elt pb) (hs : ∀ v, genFold iter X.env v = pure v)
    (I : Inv X pins σ H s) (h : te σ H fun v H1 => ∃ a : Str, v = .str a ∧ TabG H1 P ∧ R a H1)
    (hW : ∀ a H1 g s5, R a H1 → Ready X pins σ H1 P a pb g s5 → W' (.ref g) s5) :
    wpAny (model X.prog X.w) X.A (eval (.GeneratorExp elt [⟨.Name x px, iter, [], 0⟩] scope gpos) X.env) W' X.xe s := by
  have dp := hr.dp
  refine wpAny_GeneratorExp_walksQ hr.hd gs.co (closure_ok gs.free) gs.cell gs.dot gs.loc gs.kind (by omega) ?_ hs
  refine thn (hi.run pins s σ H _ I h) fun xv s1 r => ?_
  obtain ⟨v, H1, J, rv, a, rfl, ⟨ps, hP, ht⟩, hR⟩ := r
  obtain ⟨t, rfl⟩ := (show ∃ t, xv = Value.str a t from rv)
  refine wpAny_pyIter_str fun o St wk hst => ⟨J.nolimit.push o, ?_⟩
  have tabP : (s1.heap.push o).get? P = some { cls := .none, data := .fields ps } := Heap.get?_push_of_some _ (J.hok P _ hP)
  have cd : PySem.W.CodeHd (s1.heap.push o) c P := tb.code.keeps fun b u e => Heap.get?_push_of_some _ (J.bk b u e)
  have go := @gen_tail X pins σ c P elt x scope pb R W' a H1 s1 o St ps k hr tb gs hel J hP hR hW wk hst
  cases hf : codeAmong gpos ps.toList with
  | some cv =>
    exact wpAny_genexprCode_hit hc (cd.code tabP ht) hf (go cv _ s1.toks ps (Heap.ExtBut.refl _ _) (Nat.le_refl _) tabP ⟨#[], by simp⟩ ht)
  | none =>
    refine wpAny_genexprCodeX hc (cd.code tabP ht) (cd.tab tabP) hf fun c' h' tk hx hge hlt hco' _ htab' _ => ?_
    obtain ⟨o1, vs, f1, tf, fl, tg, inF, tx, tt, op, _, _, _, _, _, _, _, _, _, htr, _⟩ := hco'
    exact go _ h' tk _ hx (Nat.le_trans hge (Nat.le_of_lt hlt)) htab'.2 ⟨_, rfl⟩ htr

/-- all(test for x in e), e a text, the test an EltM -/
theorem pe_allM {c P : Addr} {elt iter : Expr} {x : Str} {px p pos gpos : Pos} {scope : Scope} {pb : Nat → Bool} {te : TE} {k : Nat}
    (hr : Room k X.A) (hg : Gl X "all") (hm : X.mg "all" = none) (tb : TabB X.base X.mg c P) (hc : X.env.code = .ref c)
    (gs : GenS X.env scope x) (hi : PE X iter te) (hel : EltM X scope x elt pb) (hs : ∀ v, genFold iter X.env v = pure v)
    (hb : bootBuiltins "all" = some (.builtin "all") := by decide +kernel)
    (he : starEach [.GeneratorExp elt [⟨.Name x px, iter, [], 0⟩] scope gpos] X.env =
      (false, eval (.GeneratorExp elt [⟨.Name x px, iter, [], 0⟩] scope gpos) X.env) :: starEach [] X.env := by rfl) :
    PE X (.Call (.Name "all" p) [.GeneratorExp elt [⟨.Name x px, iter, [], 0⟩] scope gpos] [] pos) (tAllS P pb te) := by
  constructor
  intro pins s σ H Q I h
  refine wpAny_Call_Name_kw (ld_blt I hg hm hb (PyProof.Rows.callWith_builtin1 ?_ he (by rfl)))
  rw [he]
  show wpAny _ _ (spliced ((false, eval (.GeneratorExp elt [⟨.Name x px, iter, [], 0⟩] scope gpos) X.env) ::
    backTo pos (starEach [] X.env))) _ _ s
  refine Calls.spliced_cons (gen_strM (R := fun a H1 => ∀ H2, Tabbed P H1 H2 → Q (.bl (a.cps.toList.all pb)) H2)
    hr tb hc gs hi hel hs I h fun a H1 g s5 hR hG => Calls.spliced_nil ?_)
  obtain ⟨fp, wr, G, F, St, W, hst, htr, hI⟩ := hG
  refine call_all_walkS (W.self 0 _ _ _ hst ⟨g, fp, wr, G, _, F, St, _, rfl, W, hst, htr, fun s' mv => ?_⟩)
  obtain ⟨H2, hT, J⟩ := hI s' mv
  have q := hR H2 hT
  rw [← all_signs a pb] at q
  exact ⟨.bl _, H2, J, rfl, q⟩
end
end AS

set_option Elab.async false
set_option linter.all false
set_option maxRecDepth 100000
set_option maxHeartbeats 2000000
namespace AS
open PySem PySem.Spec PyProof.Rows L2

/-! ### the facts behind the top, by names -/
structure Names where
  glos : List Str
  frees : List Str
  txts : List (Str × Str)
  nums : List (Str × Int)
  fn : List He.DefD
  tf : List He.Defn
def Names.fa (N : Names) : List He.Fa := N.glos.map .glo ++ (N.frees.map .free ++ (N.txts.map (fun p => .str p.1 p.2) ++ N.nums.map fun p => .int p.1 p.2))
structure Top (N : Names) (K : PySem.W.Frag) (mg : Str → Option Value) (base : Heap) : Prop where
  d : He.SaysD N.fa N.fn K
  g : ∀ x ∈ N.glos, mg x = some (.ref (He.ga K x))
  f : ∀ x ∈ N.frees, mg x = none
  s : ∀ p ∈ N.txts, ∃ t, mg p.1 = some (.str p.2 t)
  i : ∀ p ∈ N.nums, ∃ t, mg p.1 = some (.int p.2 t)
  tb : ∀ p ∈ N.tf, GxR.TabB base mg (He.cT K p).1 (He.cT K p).2

theorem Top.mk' {N : Names} {K : PySem.W.Frag} {mg : Str → Option Value} {base h : Heap} (X : K.In h) (G : h.Ns mainGlobals mg) (c : He.SaysD N.fa N.fn K)
    (tb : ∀ p ∈ N.tf, GxR.TabB base mg (He.cT K p).1 (He.cT K p).2) : Top N K mg base where
  d := c
  tb := tb
  g := fun x hx => He.glo_ok X G (c.facts (f := .glo x) (List.mem_append_left _ (List.mem_map.mpr ⟨x, hx, rfl⟩)))
  f := fun x hx => He.free_ok X G (c.facts (f := .free x) (List.mem_append_right _ (List.mem_append_left _ (List.mem_map.mpr ⟨x, hx, rfl⟩))))
  s := fun p hp => He.str_ok X G (c.facts (f := .str p.1 p.2) (List.mem_append_right _ (List.mem_append_right _ (List.mem_append_left _ (List.mem_map.mpr ⟨p, hp, rfl⟩)))))
  i := fun p hp => He.int_ok X G (c.facts (f := .int p.1 p.2) (List.mem_append_right _ (List.mem_append_right _ (List.mem_append_right _ (List.mem_map.mpr ⟨p, hp, rfl⟩)))))

/-! ### a def that keeps a promise, and its call -/
structure DOk (P : Program) (w : World) (K : PySem.W.Frag) (mg : Str → Option Value) (base : Heap) (CX : CXT) (k : Nat) (x : Str) (ps : List Str) (sp : Sp) : Prop where
  ex : ∃ fd, FnOk P w K mg base CX k (He.ga K x) fd ps sp ∧ Binds K fd ps []
  kp : PySem.W.keepIn K (.ref (He.ga K x)) = true
  gl : mg x = some (.ref (He.ga K x))
section
variable {P : Program} {w : World} {K : PySem.W.Frag} {mg : Str → Option Value} {base : Heap} {N : Names}
theorem DOk.mono {CX : CXT} {j k : Nat} {x : Str} {ps : List Str} {sp : Sp} (G : DOk P w K mg base CX j x ps sp) (h : j ≤ k) : DOk P w K mg base CX k x ps sp := by
  obtain ⟨⟨fd, F, b⟩, kp, gl⟩ := G
  exact ⟨⟨fd, F.mono h, b⟩, kp, gl⟩
/-- THE RULE for a def of the list; it also tells which code object the frame runs -/
theorem Top.ok {CX : CXT} {d : He.DefD} {x : Str} {ps L : List Str} {k : Nat} {sp : Sp} (T : Top N K mg base) (i : Nat) (hi : N.fn[i]? = some d) (hat : d.at_ = (x, none)) (hdf : d.dfl = []) (hkw : d.kwd = []) (hx : x ∈ N.glos)
    (S : FnScope L ps d.scope)
    (hb : ∀ (kV doc pm : Value) (an : Option Addr) (cdv ct : Value) (us : List Value), us.length = ps.length → bindArgs (PySem.W.fnOf d.name d.qual d.params d.body d.scope .none kV doc pm an cdv ct) ⟨us, []⟩ = pure (ps.zip us))
    (len : ∀ vs H Q E, sp vs H Q E → vs.length = ps.length)
    (hbody : ∀ (cdv : Value) (A : Around) (outer : List Env) (s : Shared) (H : Hp) (vs : List V) (Q : VK) (E : XK), cdv = .ref (He.codeOf K (x, none)) → Room k (A.deeper (envOfC d.qual d.scope s.heap.objs.size (He.ga K x) cdv)) → sp vs H Q E →
      ∃ t, PSs (cxOf CX P w K mg base L d.qual d.scope (He.ga K x) cdv A outer s H E) d.body t ∧ t { nx := fun _ H' => Q .non H', rt := Q } (start L vs) H) :
    DOk P w K mg base CX (k + 1) x ps sp := by
  obtain ⟨fd, F⟩ := T.d.def_ i hi
  have e1 : d.dvs K = [] := by unfold He.DefD.dvs; rw [hdf]; rfl
  have e2 : d.kws K = [] := by unfold He.DefD.kws; rw [hkw]; rfl
  have e3 : He.fAd K d.at_ = He.ga K x := by rw [hat]; rfl
  rw [e1, e2, e3] at F
  refine ⟨⟨fd, ?_, F.bindsN hb⟩, F.kp, T.g x hx⟩
  obtain ⟨oc, od, dV, kV, doc, pm, an, cdv, ct, osl, rfl, lk, hcd, hD, _⟩ := F.ex
  obtain ⟨c, ec⟩ := He.codeIn_ref hcd
  have lk2 : K.lookup (He.fAd K (x, none)) = some ⟨oc, od, .func (PySem.W.fnOf d.name d.qual d.params d.body d.scope dV kV doc pm an cdv ct), osl⟩ := lk
  have ek : cdv = .ref (He.codeOf K (x, none)) := by
    rw [He.codeOf_eq lk2 (show (PySem.W.fnOf d.name d.qual d.params d.body d.scope dV kV doc pm an cdv ct).code = .ref c from ec), ec]
  exact fn_of lk hcd S len fun A outer s H vs Q E hr hsp => hbody cdv A outer s H vs Q E ek hr hsp
/-- .. for a def that lets nothing out -/
theorem Top.ok0 {d : He.DefD} {x : Str} {ps L : List Str} {k : Nat} {sp : Sp} (T : Top N K mg base) (i : Nat) (hi : N.fn[i]? = some d) (hat : d.at_ = (x, none)) (hdf : d.dfl = []) (hkw : d.kwd = []) (hx : x ∈ N.glos)
    (S : FnScope L ps d.scope)
    (hb : ∀ (kV doc pm : Value) (an : Option Addr) (cdv ct : Value) (us : List Value), us.length = ps.length → bindArgs (PySem.W.fnOf d.name d.qual d.params d.body d.scope .none kV doc pm an cdv ct) ⟨us, []⟩ = pure (ps.zip us))
    (len : ∀ vs H Q E, sp vs H Q E → vs.length = ps.length)
    (hbody : ∀ (cdv : Value) (A : Around) (outer : List Env) (s : Shared) (H : Hp) (vs : List V) (Q : VK) (E : XK), cdv = .ref (He.codeOf K (x, none)) → Room k (A.deeper (envOfC d.qual d.scope s.heap.objs.size (He.ga K x) cdv)) → sp vs H Q E →
      ∃ t, PSs (cxOf CX0 P w K mg base L d.qual d.scope (He.ga K x) cdv A outer s H E).nox d.body t ∧ t { nx := fun _ H' => Q .non H', rt := Q } (start L vs) H) :
    DOk P w K mg base CX0 (k + 1) x ps sp :=
  T.ok i hi hat hdf hkw hx S hb len fun cdv A outer s H vs Q E ec hr hsp => let ⟨t, h, q⟩ := hbody cdv A outer s H vs Q E ec hr hsp; ⟨t, h.nox, q⟩
end
section
variable {X : Cx} {CX : CXT} {k : Nat} {x : Str} {ps : List Str} {sp : Sp} {p pos : Pos} {e : Expr} {es : List Expr} {t : TA}
/-- f(e, ..) of a def that lets nothing out -/
theorem pe_callD (G : DOk X.prog X.w X.K X.mg X.base CX0 k x ps sp) (hr : Room k X.A) (ha : PA X (e :: es) t) (hg : Gl X x := by rfl) (hdb : (x == ("__debug__" : Str)) = false := by decide)
    (he : starEach (e :: es) X.env = (false, eval e X.env) :: starEach es X.env := by rfl) (hpl : (backTo pos (starEach es X.env)).any (·.1) = false := by rfl) : PE X (.Call (.Name x p) (e :: es) [] pos) (tCall sp [] E0 t) := by
  obtain ⟨fd, F, b⟩ := G.ex
  exact pe_call F hr hg G.gl G.kp b .nil pass0 ha hdb he hpl
end

/-- f(*xs) -/
def tStarCall (K : PySem.W.Frag) (sp : Sp) (te : TE) : TE := fun σ H Q => te σ H fun y H1 => ∃ a xs, y = V.ref a ∧ (SqT K H1 a xs ∨ SqL K H1 a xs) ∧ sp (xs ++ []) H1 Q E0
theorem pe_callStar {X : Cx} {k : Nat} {x : Str} {ps : List Str} {sp : Sp} {p pos ps2 : Pos} {e : Expr} {te : TE} {K : PySem.W.Frag} (G : DOk X.prog X.w X.K X.mg X.base CX0 k x ps sp) (hr : Room k X.A) (he : PE X e te) (hK : X.K = K := by rfl) (hg : Gl X x := by rfl)
    (hd : (x == ("__debug__" : Str)) = false := by decide) : PE X (.Call (.Name x p) [.Starred e ps2] [] pos) (tStarCall K sp te) := by
  subst hK
  obtain ⟨fd, F, b⟩ := G.ex
  exact StX.pe_callS1 (F.raw b .nil) hr G.kp hg G.gl pass0 he hd
section
variable {P : Program} {w : World} {K : PySem.W.Frag} {mg : Str → Option Value} {base : Heap} {N : Names}
/-- the law's own def, its function object given -/
theorem okF {d : He.DefD} {x : Str} {ps L : List Str} {k : Nat} {sp : Sp} {fd : FuncData} (F : FunD K d.name d.qual d.params d.body d.scope [] [] (He.ga K x) fd) (S : FnScope L ps d.scope)
    (len : ∀ vs H Q E, sp vs H Q E → vs.length = ps.length)
    (hbody : ∀ (cdv : Value) (A : Around) (outer : List Env) (s : Shared) (H : Hp) (vs : List V) (Q : VK) (E : XK), Room k (A.deeper (envOfC d.qual d.scope s.heap.objs.size (He.ga K x) cdv)) → sp vs H Q E →
      ∃ t, PSs (cxOf CX0 P w K mg base L d.qual d.scope (He.ga K x) cdv A outer s H E).nox d.body t ∧ t { nx := fun _ H' => Q .non H', rt := Q } (start L vs) H) :
    FnOk P w K mg base CX0 (k + 1) (He.ga K x) fd ps sp := by
  obtain ⟨oc, od, dV, kV, doc, pm, an, cdv, ct, osl, rfl, lk, hcd, hD, _⟩ := F.ex
  exact fn_of lk hcd S len fun A outer s H vs Q E hr hsp => let ⟨t, h, q⟩ := hbody cdv A outer s H vs Q E hr hsp; ⟨t, h.nox, q⟩

/-- the tables of the listed defs -/
def Tabs (K : PySem.W.Frag) (tf : List He.Defn) (H : Hp) : Prop := ∀ p ∈ tf, GxR.TabG H (He.cT K p).2

theorem lawAt {l : PySem.W.OpenLaw} {fa : Addr} {h : Heap} {ex : PySem.W.Frag → Bool} {k n : Nat} {sp : Sp} {d : He.DefD} (X : K.In h) (G : h.Ns mainGlobals mg) (c : He.SaysX N.fa N.fn [] N.tf ex w h K)
    (hfa : mg "law" = some (.ref fa)) (hl : ("law" : Str) ∈ N.glos) (i : Nat) (hi : N.fn[i]? = some d) (hat : d.at_ = (("law" : Str), none)) (hdf : d.dfl = []) (hkw : d.kwd = [])
    (hb : ∀ (kV doc pm : Value) (an : Option Addr) (cdv ct : Value) (us : List Value), us.length = [("script" : Str)].length → bindArgs (PySem.W.fnOf d.name d.qual d.params d.body d.scope .none kV doc pm an cdv ct) ⟨us, []⟩ = pure ([("script" : Str)].zip us))
    (hsp : ∀ (H : Hp) (a : Addr) (ns : List Int), ns.length ≤ n → (∀ z ∈ ns, Builtin.Int.intBits z ≤ 1048576) → Tabs K N.tf H → SqL K H a (ns.map V.int) → sp [.ref a] H (fun v _ => v = .bl true) fun _ _ _ => False)
    (hF : ∀ (base : Heap) (fd : FuncData), Top N K mg base → FunD K d.name d.qual d.params d.body d.scope [] [] (He.ga K "law") fd → FnOk l.prog w K mg base CX0 k (He.ga K "law") fd ["script"] sp) :
    LamX.LawAtS l w K CX0 k n "script" mg fa h := by
  obtain ⟨fd, F⟩ := c.t.d.def_ i hi
  have e1 : d.dvs K = [] := by unfold He.DefD.dvs; rw [hdf]; rfl
  have e2 : d.kws K = [] := by unfold He.DefD.kws; rw [hkw]; rfl
  have e3 : He.fAd K d.at_ = He.ga K "law" := by rw [hat]; rfl
  rw [e1, e2, e3] at F
  have eg : mg "law" = some (.ref (He.ga K "law")) := He.glo_ok X G (c.t.d.facts (f := .glo "law") (List.mem_append_left _ (List.mem_map.mpr ⟨_, hl, rfl⟩)))
  rw [hfa] at eg
  cases eg
  have mem : ∀ p, p ∈ N.tf.map (He.cT K) → ∃ q ∈ N.tf, He.cT K q = p := fun p hp => List.mem_map.mp hp
  refine ⟨fd, N.tf.map (He.cT K), sp, fun p hp => ?_, fun p hp => ?_, fun p hp => ?_, fun s u => FunD.bindsA (ps := [("script" : Str)]) F hb s [u] rfl, fun H a ns hl hbits hT hS => hsp H a ns hl hbits (fun q hq => ⟨_, hT _ (List.mem_map.mpr ⟨q, hq, rfl⟩), trivial⟩) hS, fun base X2 G2 hT => hF base fd (Top.mk' X2 G2 c.t.d fun q hq => have z := hT _ (List.mem_map.mpr ⟨q, hq, rfl⟩); ⟨z.code, z.bm, z.gP⟩) F⟩
  · obtain ⟨q, hq, rfl⟩ := mem p hp
    exact c.empty q hq
  · obtain ⟨q, hq, rfl⟩ := mem p hp
    exact c.out q hq
  · obtain ⟨q, hq, rfl⟩ := mem p hp
    exact PySem.W.codeHd_of_K X (c.hd q hq)
end
end AS

set_option Elab.async false
set_option linter.all false
set_option maxRecDepth 100000
set_option maxHeartbeats 2000000
namespace AS
open PySem PySem.Spec PyProof.Rows L2
/-- what a call leaves: all that stood, but that tables of code objects may have grown -/
structure Sm (H H' : Hp) : Prop where
  keep : ∀ b o, H b = some o → (∀ ps, o ≠ .tbl ps) → H' b = some o
  tab : ∀ b ps, H b = some (.tbl ps) → ∃ qs, H' b = some (.tbl qs) ∧ (TriplesOk ps.toList → TriplesOk qs.toList)
theorem Sm.refl (H : Hp) : Sm H H := ⟨fun _ _ h _ => h, fun _ ps h => ⟨ps, h, fun z => z⟩⟩
theorem Sm.trans {H H1 H2 : Hp} (a : Sm H H1) (b : Sm H1 H2) : Sm H H2 where
  keep := fun c o h n => b.keep c o (a.keep c o h n) n
  tab := fun c ps h => by
    obtain ⟨q1, h1, t1⟩ := a.tab c ps h
    obtain ⟨q2, h2, t2⟩ := b.tab c q1 h1
    exact ⟨q2, h2, fun z => t2 (t1 z)⟩
theorem Sm.free {H H' : Hp} (e : Sm H H') {l : Addr} (h : H' l = none) : H l = none := by
  cases q : H l with
  | none => rfl
  | some o =>
    cases o with
    | tbl ps =>
      obtain ⟨_, h1, _⟩ := e.tab l ps q
      rw [h] at h1
      cases h1
    | _ =>
      have h1 := e.keep l _ q (fun _ z => nomatch z)
      rw [h] at h1
      cases h1
/-- an object that the first heap does not know is laid or written -/
theorem Sm.put {H H' : Hp} (e : Sm H H') {l : Addr} {o : HO} (h : H l = none) : Sm H (upd H' l o) where
  keep := fun c u hc n => by
    rw [upd_ne (ne_of_none hc h)]
    exact e.keep c u hc n
  tab := fun c ps hc => by
    rw [upd_ne (ne_of_none hc h)]
    exact e.tab c ps hc
theorem Sm.new {H : Hp} {l : Addr} {o : HO} (h : H l = none) : Sm H (upd H l o) := (Sm.refl H).put h
theorem Sm.tabbed {H H' : Hp} {P : Addr} (g : GxR.TabG H P) (t : GxR.Tabbed P H H') : Sm H H' where
  keep := fun c u hc n => by
    by_cases h : c = P
    · obtain ⟨ps, hp, _⟩ := g
      rw [h, hp] at hc
      exact absurd (Option.some.inj hc).symm (n ps)
    · rw [t.2 c h]
      exact hc
  tab := fun c ps hc => by
    by_cases h : c = P
    · obtain ⟨qs, hq, z⟩ := t.1
      rw [h]
      exact ⟨qs, hq, fun _ => z⟩
    · rw [t.2 c h]
      exact ⟨ps, hc, fun z => z⟩
theorem Sm.same {H H' : Hp} (e : Same H H') : Sm H H' := ⟨fun b o h _ => e b o h, fun b ps h => ⟨ps, e b _ h, fun z => z⟩⟩
theorem Sm.seq {K : PySem.W.Frag} {H H' : Hp} {a : Addr} {xs : List V} (e : Sm H H') (h : SqL K H a xs) : SqL K H' a xs := by
  rcases h with (h | ⟨o, h⟩) | h
  · exact .inl (.inl (e.keep _ _ h fun _ z => nomatch z))
  · exact .inl (.inr ⟨o, e.keep _ _ h fun _ z => nomatch z⟩)
  · exact .inr h
theorem Sm.seqT {K : PySem.W.Frag} {H H' : Hp} {a : Addr} {xs : List V} (e : Sm H H') (h : SqT K H a xs) : SqT K H' a xs := by
  rcases h with (h | ⟨o, h⟩) | h
  · exact .inl (.inl (e.keep _ _ h fun _ z => nomatch z))
  · exact .inl (.inr ⟨o, e.keep _ _ h fun _ z => nomatch z⟩)
  · exact .inr h
theorem Sm.lst {H H' : Hp} (e : Sm H H') {a : Addr} {xs : List V} (h : H a = some (.lst xs)) : H' a = some (.lst xs) := e.keep _ _ h fun _ z => nomatch z
theorem Sm.tup {H H' : Hp} (e : Sm H H') {a : Addr} {xs : List V} (h : H a = some (.tup xs)) : H' a = some (.tup xs) := e.keep _ _ h fun _ z => nomatch z
theorem Sm.tabs {K : PySem.W.Frag} {tf : List He.Defn} {H H' : Hp} (e : Sm H H') (t : Tabs K tf H) : Tabs K tf H' := fun p hp => by
  obtain ⟨ps, h, z⟩ := t p hp
  obtain ⟨qs, h1, z1⟩ := e.tab _ ps h
  exact ⟨qs, h1, z1 z⟩

/-- a promise: one text, the answer a plain value, nothing changed -/
def sp1 (K : PySem.W.Frag) (tf : List He.Defn) (f : Str → V) : Sp := fun vs H Q _ => ∃ z : Str, vs = [.str z] ∧ z.length ≤ sizeLine ∧ Tabs K tf H ∧ ∀ H', Sm H H' → Q (f z) H'
theorem sp1_len {K : PySem.W.Frag} {tf : List He.Defn} {f : Str → V} {x : Str} : ∀ vs H Q E, sp1 K tf f vs H Q E → vs.length = [x].length := fun vs H Q E h => by
  obtain ⟨z, rfl, _⟩ := h
  rfl
theorem gs_mk {env : Env} {scope : Scope} {x : Str} (h1 : scope.kind = .function) (h2 : scope.isCoroutine = false) (h3 : ∀ y ∈ scope.names, y.2 ≠ .cell) (h4 : scope.names.lookup (".0" : Str) = some NameKind.local)
    (h5 : scope.names.lookup x = some .local) (h6 : ∀ y ∈ scope.names, y.2 ≠ .free) : GxR.GenS env scope x := ⟨h1, h2, h3, h4, h5, fun y hy e => absurd e (h6 y hy)⟩
end AS

set_option Elab.async false
set_option linter.all false
set_option maxRecDepth 100000
set_option maxHeartbeats 2000000
namespace AS
open PySem PySem.Spec PyProof.Rows L2
/-! ### facts of own error classes, as one Bool -/
def oexB (K : PySem.W.Frag) (C : Addr) : Bool := (match K.lookup C with
  | some ⟨.type t, _, .cls cd, sl⟩ => (match cd.mro, sl.toList with
    | .ref C' :: bm, [_, _, _, _, some (.builtin n), _] => decide (t = "type") && (decide (C' = C) && (decide (n = "ValueError.__new__") && (cd.hasDict && (!cd.hasDel && PySem.HandSPX.refsVE bm))))
    | _, _ => false)
  | _ => false) && (He.eqO (PySem.W.findIn K (.ref C) "__setattr__") (some (some (.builtin "object.__setattr__"))) && (decide (PySem.W.subIn K (.ref C) (.type "BaseException") = some true) && (decide (PySem.W.typeIn K (.ref C) = some (.type "type")) && PySem.W.keepIn K (.ref C))))
theorem oexB_ok {K : PySem.W.Frag} {C : Addr} (h : oexB K C = true) : OexC K C := by
  unfold oexB at h
  obtain ⟨h1, h⟩ := He.ba h
  obtain ⟨h2, h⟩ := He.ba h
  obtain ⟨h3, h⟩ := He.ba h
  obtain ⟨h4, h5⟩ := He.ba h
  refine ⟨?_, He.eqO_ok h2, of_decide_eq_true h3, of_decide_eq_true h4, h5⟩
  cases q : K.lookup C with
  | none =>
    rw [q] at h1
    cases h1
  | some o =>
    obtain ⟨oc, od, dt, osl⟩ := o
    rw [q] at h1
    cases oc with
    | type t =>
      cases dt with
      | cls cd =>
        obtain ⟨nm, bs, mro, ns, qn, hd, sn, sb, ab, col, del⟩ := cd
        cases mro with
        | nil => cases h1
        | cons m bm =>
          obtain ⟨l⟩ := osl
          cases m with
          | ref C' =>
            match l, h1 with
            | [k0, k1, k2, k3, some (.builtin n), k5], h1 =>
              obtain ⟨e1, h1⟩ := He.ba (show (decide (t = "type") && (decide (C' = C) && (decide (n = "ValueError.__new__") && (hd && (!del && PySem.HandSPX.refsVE bm))))) = true from h1)
              obtain ⟨e2, h1⟩ := He.ba h1
              obtain ⟨e3, h1⟩ := He.ba h1
              obtain ⟨e4, h1⟩ := He.ba h1
              obtain ⟨e5, e6⟩ := He.ba h1
              have f1 := of_decide_eq_true e1
              have f2 := of_decide_eq_true e2
              have f3 := of_decide_eq_true e3
              have f5 : del = false := by
                cases del with
                | false => rfl
                | true => cases e5
              have f4 : hd = true := e4
              subst f1 f2 f3 f5 f4
              exact ⟨_, _, _, _, bm, _, _, _, _, _, _, _, _, _, _, rfl, e6⟩
          | _ => cases h1
      | _ => cases h1
    | _ => cases dt <;> cases h1
/-- an own class whose __init__ is ValueError's -/
structure VeInit (K : PySem.W.Frag) (C : Addr) : Prop where
  ga : PySem.W.specialIn K (.ref C) "__getattribute__" = some (some (.builtin "type.__getattribute__"))
  rd : PySem.W.readsIn K C (.type "type") = true
  fd : PySem.W.findCls K (.ref C) (.type "type") "__init__" = some (.val (.builtin "ValueError.__init__"))
def isVal (x : Option PySem.W.CFound) (v : Value) : Bool := match x with
  | some (.val u) => decide (u = v)
  | _ => false
theorem isVal_ok {x : Option PySem.W.CFound} {v : Value} (h : isVal x v = true) : x = some (.val v) := by
  cases x with
  | none => cases h
  | some c =>
    cases c with
    | val u => rw [of_decide_eq_true (show decide (u = v) = true from h)]
    | _ => cases h
def veInitB (K : PySem.W.Frag) (C : Addr) : Bool := He.eqO (PySem.W.specialIn K (.ref C) "__getattribute__") (some (some (.builtin "type.__getattribute__"))) && (PySem.W.readsIn K C (.type "type") && isVal (PySem.W.findCls K (.ref C) (.type "type") "__init__") (.builtin "ValueError.__init__"))
theorem veInitB_ok {K : PySem.W.Frag} {C : Addr} (h : veInitB K C = true) : VeInit K C := by
  obtain ⟨h1, h⟩ := He.ba h
  obtain ⟨h2, h3⟩ := He.ba h
  exact ⟨He.eqO_ok h1, h2, isVal_ok h3⟩
section
variable {X : Cx} {e : Expr} {es : List Expr} {ta : TA} {p1 p2 pos : Pos} {x : Str} {C0 : Addr}
/-- Base.__init__(self, ..), Base an own class whose __init__ is ValueError's -/
theorem pe_clsinit {pl : Sem Bool} (hg : Gl X x) (hm : X.mg x = some (.ref C0)) (B : VeInit X.K C0) (ha : PA X (e :: es) ta)
    (hc : eval (.Call (.Attribute (.Name x p1) "__init__" p2) (e :: es) [] pos) X.env = (do
      let ov ← eval (.Name x p1) X.env
      standAt p2.atName
      let (f, first) ← holding [ov] (getMethod ov "__init__" pl)
      callWith pos f first (backTo pos (starEach (e :: es) X.env)) (backToKw pos (keywordEach [] X.env))) := by rfl)
    (hd : (x == ("__debug__" : Str)) = false := by decide)
    (he : starEach (e :: es) X.env = (false, eval e X.env) :: starEach es X.env := by rfl) (hpl : (backTo pos (starEach es X.env)).any (·.1) = false := by rfl) :
    PE X (.Call (.Attribute (.Name x p1) "__init__" p2) (e :: es) [] pos) (tVeI X.K ta) := by
  constructor
  intro pins s σ H Q I h
  refine PySem.W.methodCall_KW (ld_glob I hg hm ?_ hd) hc
  refine PySem.W.method_cls I.kIn B.ga (PySem.W.cls_value I.kIn B.rd B.fd (by decide +kernel) ?_)
  show wpAny _ _ (callWith pos (Value.builtin "ValueError.__init__") [] (backTo pos (starEach (e :: es) X.env)) []) _ _ _
  refine PyProof.Rows.callWith_method1 (thn (ha.run pos pins _ σ H _ (I.tok _) h) fun us s1 hq => ?_) he hpl
  obtain ⟨vs, H1, J, r1, a, C, ws, rfl, hl, T, ea, q⟩ := hq
  cases r1 with
  | @cons _ u0 _ ur ra rw' =>
    obtain rfl : u0 = Value.ref a := ra
    have hlen : ur.length ≤ sizeLine := by
      rw [← Paired.length rw', sizeLine_eq]
      omega
    exact oinit_ok T J ea hlen fun s' J' => ⟨.non, H1, J', rfl, q⟩
end

/-! ### an error class with two fields -/
structure ErrC (K : PySem.W.Frag) (mg : Str → Option Value) (C f1 f2 : Str) : Prop where
  gl : mg C = some (.ref (He.ga K C))
  ox : OexC K (He.ga K C)
  xf : XfC K (He.ga K C)
  no1 : PySem.W.findIn K (.ref (He.ga K C)) f1 = some none
  no2 : PySem.W.findIn K (.ref (He.ga K C)) f2 = some none
  iC : PySem.W.findIn K (.ref (He.ga K C)) "__init__" = some (some (.ref (He.ma K (He.ga K C) "__init__")))
  tI : PySem.W.typeIn K (.ref (He.ma K (He.ga K C) "__init__")) = some (.type "function")
  te : PySem.W.exmOne K (.ref (He.ga K C)) (.ref (He.ga K C)) = some true
def errB (K : PySem.W.Frag) (C f1 f2 : Str) : Bool := oexB K (He.ga K C) && (xfB K (He.ga K C) && (He.eqO (PySem.W.findIn K (.ref (He.ga K C)) f1) (some none) && (He.eqO (PySem.W.findIn K (.ref (He.ga K C)) f2) (some none) &&
  (He.eqO (PySem.W.findIn K (.ref (He.ga K C)) "__init__") (some (some (.ref (He.ma K (He.ga K C) "__init__")))) && (decide (PySem.W.typeIn K (.ref (He.ma K (He.ga K C) "__init__")) = some (.type "function")) && decide (PySem.W.exmOne K (.ref (He.ga K C)) (.ref (He.ga K C)) = some true))))))
theorem errB_ok {K : PySem.W.Frag} {mg : Str → Option Value} {C f1 f2 : Str} (g : mg C = some (.ref (He.ga K C))) (h : errB K C f1 f2 = true) : ErrC K mg C f1 f2 := by
  obtain ⟨h1, h⟩ := He.ba h
  obtain ⟨h2, h⟩ := He.ba h
  obtain ⟨h3, h⟩ := He.ba h
  obtain ⟨h4, h⟩ := He.ba h
  obtain ⟨h5, h⟩ := He.ba h
  obtain ⟨h6, h7⟩ := He.ba h
  exact ⟨g, oexB_ok h1, xfB_ok h2, He.eqO_ok h3, He.eqO_ok h4, He.eqO_ok h5, of_decide_eq_true h6, of_decide_eq_true h7⟩
/-- what __init__ leaves: the two fields -/
def spInit (K : PySem.W.Frag) (f1 f2 : Str) : Sp := fun vs H Q _ => ∃ (a C : Addr) (x y : V), vs = [.ref a, x, y] ∧
  ((∃ n : Int, x = .int n ∧ -1 ≤ n ∧ n ≤ 1000000) ∨ ∃ z : Str, x = .str z ∧ z.length ≤ 1000) ∧ ((∃ n : Int, y = .int n ∧ -1 ≤ n ∧ n ≤ 1000000) ∨ ∃ z : Str, y = .str z ∧ z.length ≤ 1000) ∧
  OexC K C ∧ PySem.W.findIn K (.ref C) f1 = some none ∧ PySem.W.findIn K (.ref C) f2 = some none ∧ H a = some (exo a C none) ∧
  ∀ d, H d = none → d ≠ a → Q .non (upd (upd (upd H d (exd d [(f1, x)])) a (exo a C (some d))) d (exd d [(f2, y), (f1, x)]))
/-- what stood stands, behind a raised error -/
theorem sm_exc {H1 H2 : Hp} {a d : Addr} {fs : List (Str × V)} (h : ∀ b, b ≠ a → b ≠ d → H2 b = H1 b) (ha : H1 a = none) (hd : H1 d = none) : Sm H1 (upd (del H2 a) d (.xd fs)) := by
  have at_ : ∀ b o, H1 b = some o → upd (del H2 a) d (.xd fs) b = some o := fun b o e => by
    have n1 : b ≠ a := ne_of_none e ha
    have n2 : b ≠ d := ne_of_none e hd
    rw [upd_ne n2, del_ne n1, h b n1 n2]
    exact e
  exact ⟨fun b o e _ => at_ b o e, fun b ps e => ⟨ps, at_ b _ e, fun z => z⟩⟩
/-- a field of an error: a number or a short text -/
def Fld (x : V) : Prop := (∃ n : Int, x = .int n ∧ -1 ≤ n ∧ n ≤ 1000000) ∨ ∃ z : Str, x = .str z ∧ z.length ≤ 1000
/-- how the making of such an error reads: what its raising asks -/
theorem mk_read {K : PySem.W.Frag} {mg : Str → Option Value} {c f1 f2 : Str} {W : Value → Option Addr → Hp → Prop} {H1 : Hp} {x y : V} (R : ErrC K mg c f1 f2) (hx : Fld x) (hy : Fld y)
    (q : ∀ d H', Sm H1 H' → H1 d = none → H' d = some (.xd [(f2, y), (f1, x)]) → W (.ref (He.ga K c)) (some d) H') :
    [x, y].length ≤ 1000 ∧ ∀ a, H1 a = none → spInit K f1 f2 (.ref a :: ([x, y] ++ [])) (upd H1 a (exo a (He.ga K c) none))
      (fun v H2 => v = .non ∧ ∃ (d : Addr) (fs : List (Str × V)), H2 a = some (exo a (He.ga K c) (some d)) ∧ H2 d = some (exd d fs) ∧ H1 d = none ∧ W (.ref (He.ga K c)) (some d) (upd (del H2 a) d (.xd fs))) (fun _ _ _ => False) := by
  refine ⟨by show 2 ≤ 1000; decide, fun a ha => ⟨a, He.ga K c, x, y, rfl, hx, hy, R.ox, R.no1, R.no2, upd_same, fun d hd hda => ?_⟩⟩
  have hd1 : H1 d = none := by
    rw [upd_ne hda] at hd
    exact hd
  refine ⟨rfl, d, [(f2, y), (f1, x)], ?_, upd_same, hd1, q d _ (sm_exc (fun b n1 n2 => ?_) ha hd1) hd1 upd_same⟩
  · rw [upd_ne (Ne.symm hda), upd_same]
  · rw [upd_ne n2, upd_ne n1, upd_ne n2, upd_ne n1]
section
variable {P : Program} {w : World} {K : PySem.W.Frag} {mg : Str → Option Value} {base : Heap} {N : Names}
/-- THE RULE for a method of the list -/
theorem Top.okM {CX : CXT} {d : He.DefD} {c m : Str} {ps L : List Str} {k : Nat} {sp : Sp} (T : Top N K mg base) (i : Nat) (hi : N.fn[i]? = some d) (hat : d.at_ = (c, some m)) (hdf : d.dfl = []) (hkw : d.kwd = []) (S : FnScope L ps d.scope)
    (hb : ∀ (kV doc pm : Value) (an : Option Addr) (cdv ct : Value) (us : List Value), us.length = ps.length → bindArgs (PySem.W.fnOf d.name d.qual d.params d.body d.scope .none kV doc pm an cdv ct) ⟨us, []⟩ = pure (ps.zip us))
    (len : ∀ vs H Q E, sp vs H Q E → vs.length = ps.length)
    (hbody : ∀ (cdv : Value) (A : Around) (outer : List Env) (s : Shared) (H : Hp) (vs : List V) (Q : VK) (E : XK), Room k (A.deeper (envOfC d.qual d.scope s.heap.objs.size (He.ma K (He.ga K c) m) cdv)) → sp vs H Q E →
      ∃ t, PSs (cxOf CX P w K mg base L d.qual d.scope (He.ma K (He.ga K c) m) cdv A outer s H E) d.body t ∧ t { nx := fun _ H' => Q .non H', rt := Q } (start L vs) H) :
    ∃ fd, FnOk P w K mg base CX (k + 1) (He.ma K (He.ga K c) m) fd ps sp ∧ Binds K fd ps [] := by
  obtain ⟨fd, F⟩ := T.d.def_ i hi
  have e1 : d.dvs K = [] := by unfold He.DefD.dvs; rw [hdf]; rfl
  have e2 : d.kws K = [] := by unfold He.DefD.kws; rw [hkw]; rfl
  have e3 : He.fAd K d.at_ = He.ma K (He.ga K c) m := by rw [hat]; rfl
  rw [e1, e2, e3] at F
  refine ⟨fd, ?_, F.bindsN hb⟩
  obtain ⟨oc, od, dV, kV, doc, pm, an, cdv, ct, osl, rfl, lk, hcd, hD, _⟩ := F.ex
  exact fn_of lk hcd S len fun A outer s H vs Q E hr hsp => hbody cdv A outer s H vs Q E hr hsp
end
theorem fmt_len {n : Int} (h0 : -1 ≤ n) (h1 : n ≤ 1000000) : (Str.ofString (toString n)).length ≤ 7 := by
  by_cases h : n = -1
  · subst h
    decide +kernel
  · exact PyProof.Rows.toString_length_le (by omega) (by decide) (by omega)
/-- {x}, x a field of an error -/
theorem fmt_fld {x : V} (hx : Fld x) {S : Str → Prop} (q : ∀ y : Str, y.length ≤ 1000 → S y) :
    (∃ y : Str, x = .str y ∧ y.length ≤ sizeLine ∧ S y) ∨ ∃ i : Int, x = .int i ∧ i.natAbs.log2 < 1920 ∧ S (toString i) := by
  have big : (1000 : Nat) ≤ sizeLine := by decide
  rcases hx with ⟨n, rfl, h0, h1⟩ | ⟨z, rfl, hz⟩
  · refine .inr ⟨n, rfl, ?_, q _ (Nat.le_trans (fmt_len h0 h1) (by decide))⟩
    by_cases h : n.natAbs = 0
    · rw [h]
      decide
    · have h2 : n.natAbs.log2 < 64 := (Nat.log2_lt h).mpr (by omega)
      omega
  · exact .inl ⟨z, rfl, Nat.le_trans hz big, q _ hz⟩
end AS

set_option Elab.async false
set_option linter.all false
set_option maxRecDepth 100000
set_option maxHeartbeats 2000000
namespace AS
open PySem PySem.Spec PyProof.Rows L2
/-! ### own classes: their facts as one Bool -/
def clsB (K : PySem.W.Frag) (C : Str) (fs ms : List Str) : Bool :=
  (He.Fa.cls C).ok K && ((He.Fa.mkr C).ok K && (fs.all (fun f => (He.Fa.noat C f).ok K) && ms.all fun m => (He.Fa.meth C m).ok K))
structure ClsC (K : PySem.W.Frag) (mg : Str → Option Value) (C : Str) (fs ms : List Str) : Prop where
  gl : mg C = some (.ref (He.ga K C))
  cl : Cls K (He.ga K C)
  mkr : Mk K (He.ga K C) (He.ma K (He.ga K C) "__init__")
  no : ∀ f ∈ fs, NoAttr K (He.ga K C) f
  me : ∀ m ∈ ms, Meth K (He.ga K C) m (He.ma K (He.ga K C) m)
theorem clsB_ok {K : PySem.W.Frag} {mg : Str → Option Value} {C : Str} {fs ms : List Str} (g : mg C = some (.ref (He.ga K C))) (h : clsB K C fs ms = true) : ClsC K mg C fs ms := by
  obtain ⟨h1, h⟩ := He.ba h
  obtain ⟨h2, h⟩ := He.ba h
  obtain ⟨h3, h4⟩ := He.ba h
  exact ⟨g, He.cls_ok h1, He.mkr_ok h2, fun f hf => He.noat_ok (List.all_eq_true.mp h3 f hf), fun m hm => He.meth_ok (List.all_eq_true.mp h4 m hm)⟩
/-- a method that keeps a promise -/
structure MOk (P : Program) (w : World) (K : PySem.W.Frag) (mg : Str → Option Value) (base : Heap) (CX : CXT) (k : Nat) (c m : Str) (ps : List Str) (sp : Sp) : Prop where
  ex : ∃ fd, FnOk P w K mg base CX k (He.ma K (He.ga K c) m) fd ps sp ∧ Binds K fd ps []
theorem MOk.mono {P : Program} {w : World} {K : PySem.W.Frag} {mg : Str → Option Value} {base : Heap} {CX : CXT} {j k : Nat} {c m : Str} {ps : List Str} {sp : Sp} (G : MOk P w K mg base CX j c m ps sp) (h : j ≤ k) : MOk P w K mg base CX k c m ps sp := by
  obtain ⟨fd, F, b⟩ := G.ex
  exact ⟨⟨fd, F.mono h, b⟩⟩
section
variable {X : Cx} {CX : CXT} {k j : Nat} {c m : Str} {ps fs ms : List Str} {sp : Sp} {p pos apos : Pos} {e o : Expr} {es : List Expr} {ta : TE} {t : TA} {K : PySem.W.Frag}
/-- o.m(e, ..) -/
theorem pe_methD {pl : Sem Bool} (G : MOk X.prog X.w K X.mg X.base CX0 k c m ps sp) (R : ClsC K X.mg c fs ms) (hm : m ∈ ms) (hr : Room k X.A) (he : PE X o ta) (ha : PA X (e :: es) t) (hK : X.K = K := by rfl)
    (hst : starEach (e :: es) X.env = (false, eval e X.env) :: starEach es X.env := by rfl) (hpl : (backTo pos (starEach es X.env)).any (·.1) = false := by rfl)
    (ht : eval (.Call (.Attribute o m apos) (e :: es) [] pos) X.env = (do
      let ov ← eval o X.env
      standAt apos.atName
      let (f, first) ← holding [ov] (getMethod ov m pl)
      callWith pos f first (backTo pos (starEach (e :: es) X.env)) (backToKw pos (keywordEach [] X.env))) := by rfl) :
    PE X (.Call (.Attribute o m apos) (e :: es) [] pos) (tMeth (He.ga K c) m sp [] E0 ta t) := by
  subst hK
  obtain ⟨fd, F, b⟩ := G.ex
  exact pe_meth he R.cl (R.me m hm) F hr b .nil pass0 ha hst hpl ht
theorem pe_methD0 {pl : Sem Bool} (G : MOk X.prog X.w K X.mg X.base CX0 k c m ps sp) (R : ClsC K X.mg c fs ms) (hm : m ∈ ms) (hr : Room k X.A) (he : PE X o ta) (hK : X.K = K := by rfl)
    (ht : eval (.Call (.Attribute o m apos) [] [] pos) X.env = (do
      let ov ← eval o X.env
      standAt apos.atName
      let (f, first) ← holding [ov] (getMethod ov m pl)
      callWith pos f first (backTo pos (starEach [] X.env)) (backToKw pos (keywordEach [] X.env))) := by rfl) :
    PE X (.Call (.Attribute o m apos) [] [] pos) (tMeth (He.ga K c) m sp [] E0 ta tNil) := by
  subst hK
  obtain ⟨fd, F, b⟩ := G.ex
  exact pe_meth0 he R.cl (R.me m hm) F hr b .nil pass0 ht
/-- C(e, ..) -/
theorem pe_makeD (G : MOk X.prog X.w K X.mg X.base CX0 k c "__init__" ps sp) (R : ClsC K X.mg c fs ms) (hr : Room (k + 1) X.A) (ha : PA X (e :: es) t) (hK : X.K = K := by rfl) (hg : Gl X c := by rfl)
    (hdb : (c == ("__debug__" : Str)) = false := by decide) (he : starEach (e :: es) X.env = (false, eval e X.env) :: starEach es X.env := by rfl) (hpl : (backTo pos (starEach es X.env)).any (·.1) = false := by rfl) :
    PE X (.Call (.Name c p) (e :: es) [] pos) (tMake (He.ga K c) sp [] E0 t) := by
  subst hK
  obtain ⟨fd, F, b⟩ := G.ex
  exact pe_make R.mkr F hr hg R.gl b .nil pass0 ha hdb he hpl
theorem pe_makeD0 (G : MOk X.prog X.w K X.mg X.base CX0 k c "__init__" ps sp) (R : ClsC K X.mg c fs ms) (hr : Room (k + 1) X.A) (hK : X.K = K := by rfl) (hg : Gl X c := by rfl)
    (hdb : (c == ("__debug__" : Str)) = false := by decide) : PE X (.Call (.Name c p) [] [] pos) (tMake (He.ga K c) sp [] E0 tNil) := by
  subst hK
  obtain ⟨fd, F, b⟩ := G.ex
  exact pe_make0 R.mkr F hr hg R.gl b .nil pass0 hdb
/-- o.f, its reading with a K of its own (inside comprehensions) -/
theorem pe_fldK {f : Str} (he : PE X o ta) (hb : attributeBase o f X.env (eval o X.env) = eval o X.env := by rfl) (hK : X.K = K := by rfl) : PE X (.Attribute o f pos) (tFld K ta f) := by
  subst hK
  exact pe_fld he hb
/-- nothing is let out by a call that promises so -/
theorem passE0 : Passes (L2.CX X.prog X.w) X E0 := fun _ _ _ _ _ _ _ h => by
  obtain ⟨a, B, H', cls, d, _, _, _, _, _, _, _, hE⟩ := h
  exact hE.elim
/-- f(e, ..) of a def that may raise, where it does not -/
theorem pe_callE {x : Str} (G : DOk X.prog X.w X.K X.mg X.base (L2.CX X.prog X.w) k x ps sp) (hr : Room k X.A) (ha : PA X (e :: es) t) (hg : Gl X x := by rfl) (hdb : (x == ("__debug__" : Str)) = false := by decide)
    (he : starEach (e :: es) X.env = (false, eval e X.env) :: starEach es X.env := by rfl) (hpl : (backTo pos (starEach es X.env)).any (·.1) = false := by rfl) : PE X (.Call (.Name x p) (e :: es) [] pos) (tCall sp [] E0 t) := by
  obtain ⟨fd, F, b⟩ := G.ex
  exact pe_call F hr hg G.gl G.kp b .nil passE0 ha hdb he hpl
end
/-! ### heaps -/
theorem Tabs.updB {K : PySem.W.Frag} {tf : List He.Defn} {H : Hp} {l : Addr} {o u : HO} (t : Tabs K tf H) (h : H l = some u) (hu : ∀ ps, u ≠ .tbl ps) : Tabs K tf (upd H l o) := fun p hp => by
  obtain ⟨ps, e, z⟩ := t p hp
  refine ⟨ps, ?_, z⟩
  by_cases q : (He.cT K p).2 = l
  · rw [q, h] at e
    exact absurd (Option.some.inj e) (hu ps)
  · rw [upd_ne q]
    exact e
theorem Tabs.new {K : PySem.W.Frag} {tf : List He.Defn} {H : Hp} {l : Addr} {o : HO} (t : Tabs K tf H) (h : H l = none) : Tabs K tf (upd H l o) := (Sm.new h).tabs t
theorem upd_back {H : Hp} {l : Addr} {o : HO} (h : H l = some o) : upd H l o = H := by
  funext b
  unfold upd
  split
  · rename_i e
    rw [e, h]
  · rfl
end AS

set_option Elab.async false
set_option linter.all false
set_option maxRecDepth 100000
set_option maxHeartbeats 2000000
namespace AS
open PySem PySem.Spec PyProof.Rows He
/-- what the names reach in n steps, and the table of the interpreter's own statics: reading an attribute of a class looks there -/
def asY (g : Addr → Option Obj) (n : Nat) : List Addr := asD g n ++ [cStatics]
def obsY (n : Nat) (fa : List Fa) (fn : List DefD) (ts : List Tab) (tf : List Defn) (ex : PySem.W.Frag → Bool) (g : Addr → Option Obj) : AlX := (obsT fa fn ts (frT g (asY g n)), ex (frT g (asY g n)) && tabsB g tf (frT g (asY g n)))
theorem saysY_of {n : Nat} {fa : List Fa} {fn : List DefD} {ts : List Tab} {tf : List Defn} {ex : PySem.W.Frag → Bool} {w : World} {h : Heap} (e : obsY n fa fn ts tf ex h.get? = valX fn ts w) : SaysX fa fn ts tf ex w h (frT h.get? (asY h.get? n)) := by
  have e1 : obsT fa fn ts (frT h.get? (asY h.get? n)) = valT fn ts w := congrArg (fun z : AlX => z.1) e
  have e2 : (ex (frT h.get? (asY h.get? n)) && tabsB h.get? tf (frT h.get? (asY h.get? n))) = true := congrArg (fun z : AlX => z.2) e
  obtain ⟨h1, h2⟩ := ba e2
  have key : ∀ p ∈ tf, PySem.W.codeHdIn (frT h.get? (asY h.get? n)) (cT (frT h.get? (asY h.get? n)) p).1 (cT (frT h.get? (asY h.get? n)) p).2 = true ∧ ∃ o, h.get? (cT (frT h.get? (asY h.get? n)) p).2 = some o ∧ emptyTab o = true := fun p hp => by
    obtain ⟨h3, h4⟩ := ba (List.all_eq_true.mp h2 p hp)
    refine ⟨h3, ?_⟩
    cases q : h.get? (cT (frT h.get? (asY h.get? n)) p).2 with
    | none =>
      rw [q] at h4
      cases h4
    | some o =>
      rw [q] at h4
      exact ⟨o, rfl, h4⟩
  exact ⟨e1, h1, fun p hp => (key p hp).1, fun p hp => by
    obtain ⟨_, o, q, z⟩ := key p hp
    exact frT_none q z, fun p hp => by
    obtain ⟨_, o, q, z⟩ := key p hp
    rw [q, emptyTab_eq z]⟩
def hookY (n : Nat) (fa : List Fa) (fn : List DefD) (ts : List Tab) (tf : List Defn) (ex : PySem.W.Frag → Bool) : PySem.W.Hook where
  α := AlX
  obs := fun s => obsY n fa fn ts tf ex s.heap.get?
  val := fun w => valX fn ts w
  says := fun w h => ∃ K : PySem.W.Frag, K.In h ∧ SaysX fa fn ts tf ex w h K
  of := fun _ _ e => ⟨_, frT_in, saysY_of e⟩
  keeps := fun _ _ _ ⟨K, hK, c⟩ k => ⟨K, PySem.W.Frag.In.keeps hK k, ⟨c.t, c.more, c.hd, c.out, fun p hp => k _ _ (c.empty p hp)⟩⟩
theorem obsY_eq {n : Nat} {fa : List Fa} {fn : List DefD} {ts : List Tab} {tf : List Defn} {ex : PySem.W.Frag → Bool} {g : Addr → Option Obj} {s : Shared} (h : ∀ a, g a = s.heap.get? a) : obsY n fa fn ts tf ex g = (hookY n fa fn ts tf ex).obs s := by
  have e : g = s.heap.get? := funext h
  rw [e] <;> rfl
end AS

set_option Elab.async false
set_option linter.all false
set_option maxRecDepth 100000
set_option maxHeartbeats 2000000
namespace AS
open PySem PySem.Spec PyProof.Rows L2
/-! ### order of tuples, lists and texts, told of the data -/
def rOrdD (K : PySem.W.Frag) (f : PyData → PyData → Bool) : R2 := fun x y H Q => ∃ d e, Dp K H x d ∧ Dp K H y e ∧ PySem.W.alike d e = true ∧ d ≠ .none ∧ min d.depth e.depth ≤ 16 ∧ Q (.bl (f d e)) H
section
variable {X : Cx}
theorem op_gtD (hu : X.A.units + 64 < cLine) : OpR X (compareOp .Gt) (rOrdD X.K fun d e => PySem.W.dataLt e d) := by
  intro pins s σ H x y v u Q I rx ry h
  obtain ⟨d, e, hd, he, ha, hn, hr, q⟩ := h
  obtain ⟨as, r1⟩ := Dp.reads I d x v hd rx
  obtain ⟨bs, r2⟩ := Dp.reads I e y u he ry
  exact PySem.W.gt_data r1 r2 ha hn (by omega) ⟨.bl _, H, I, rfl, q⟩
theorem op_ltD (hu : X.A.units + 64 < cLine) : OpR X (compareOp .Lt) (rOrdD X.K fun d e => PySem.W.dataLt d e) := by
  intro pins s σ H x y v u Q I rx ry h
  obtain ⟨d, e, hd, he, ha, hn, hr, q⟩ := h
  obtain ⟨as, r1⟩ := Dp.reads I d x v hd rx
  obtain ⟨bs, r2⟩ := Dp.reads I e y u he ry
  exact PySem.W.lt_data r1 r2 ha hn (by omega) ⟨.bl _, H, I, rfl, q⟩
theorem op_leD (hu : X.A.units + 64 < cLine) : OpR X (compareOp .LtE) (rOrdD X.K fun d e => !PySem.W.dataLt e d) := by
  intro pins s σ H x y v u Q I rx ry h
  obtain ⟨d, e, hd, he, ha, hn, hr, q⟩ := h
  obtain ⟨as, r1⟩ := Dp.reads I d x v hd rx
  obtain ⟨bs, r2⟩ := Dp.reads I e y u he ry
  exact PySem.W.le_data r1 r2 ha hn (by omega) ⟨.bl _, H, I, rfl, q⟩
theorem op_geD (hu : X.A.units + 64 < cLine) : OpR X (compareOp .GtE) (rOrdD X.K fun d e => !PySem.W.dataLt d e) := by
  intro pins s σ H x y v u Q I rx ry h
  obtain ⟨d, e, hd, he, ha, hn, hr, q⟩ := h
  obtain ⟨as, r1⟩ := Dp.reads I d x v hd rx
  obtain ⟨bs, r2⟩ := Dp.reads I e y u he ry
  exact PySem.W.ge_data r1 r2 ha hn (by omega) ⟨.bl _, H, I, rfl, q⟩
end
/-! ### equality and membership, told of the data: nothing is asked of texts -/
def rEqP (K : PySem.W.Frag) (neg : Bool) : R2 := fun x y H Q => ∃ d e, Dp K H x d ∧ Dp K H y e ∧ d.plain = true ∧ e.plain = true ∧ min d.depth e.depth ≤ 16 ∧ Q (.bl (if neg then !PyData.eqv d e else PyData.eqv d e)) H
def rInP (K : PySem.W.Frag) (neg : Bool) : R2 := fun x y H Q => ∃ d es, Dp K H x d ∧ Dp K H y (.list es) ∧ d.plain = true ∧ PyData.plainAll es = true ∧ d.depth ≤ 16 ∧ Q (.bl (if neg then !(es.any fun z => PyData.eqv z d) else es.any fun z => PyData.eqv z d)) H
section
variable {X : Cx}
theorem op_eqP (hu : X.A.units + 64 < cLine) : OpR X (compareOp .Eq) (rEqP X.K false) := by
  intro pins s σ H x y v u Q I rx ry h
  obtain ⟨d, e, hd, he, pd, pe, hr, q⟩ := h
  obtain ⟨as, r1⟩ := Dp.reads I d x v hd rx
  obtain ⟨bs, r2⟩ := Dp.reads I e y u he ry
  exact PySem.SeqAt.eq_plain r1 r2 pd pe (by omega) ⟨.bl _, H, I, rfl, q⟩
theorem op_neP (hu : X.A.units + 64 < cLine) : OpR X (compareOp .NotEq) (rEqP X.K true) := by
  intro pins s σ H x y v u Q I rx ry h
  obtain ⟨d, e, hd, he, pd, pe, hr, q⟩ := h
  obtain ⟨as, r1⟩ := Dp.reads I d x v hd rx
  obtain ⟨bs, r2⟩ := Dp.reads I e y u he ry
  exact PySem.SeqAt.ne_plain r1 r2 pd pe (by omega) ⟨.bl _, H, I, rfl, q⟩
theorem op_inP (hu : X.A.units + 64 < cLine) : OpR X (compareOp .In) (rInP X.K false) := by
  intro pins s σ H x y v u Q I rx ry h
  obtain ⟨d, es, hd, he, pd, pe, hr, q⟩ := h
  obtain ⟨as, r1⟩ := Dp.reads I d x v hd rx
  obtain ⟨bs, r2⟩ := Dp.reads I (.list es) y u he ry
  exact PySem.SeqAt.in_list_data r2 r1 pe pd (by omega) ⟨.bl _, H, I, rfl, q⟩
theorem op_notInP (hu : X.A.units + 64 < cLine) : OpR X (compareOp .NotIn) (rInP X.K true) := by
  intro pins s σ H x y v u Q I rx ry h
  obtain ⟨d, es, hd, he, pd, pe, hr, q⟩ := h
  obtain ⟨as, r1⟩ := Dp.reads I d x v hd rx
  obtain ⟨bs, r2⟩ := Dp.reads I (.list es) y u he ry
  exact PySem.SeqAt.notIn_list_data r2 r1 pe pd (by omega) ⟨.bl _, H, I, rfl, q⟩
end
/-! ### tuples of texts -/
def strsD (zs : List Str) : PyData := .tuple (zs.map PyData.str)
theorem dp_strs (K : PySem.W.Frag) (H : Hp) : ∀ zs : List Str, DpAll K H (zs.map V.str) (zs.map PyData.str)
  | [] => .nil
  | z :: r => .cons (.str z) (dp_strs K H r)
theorem Sm.dp {K : PySem.W.Frag} {H H' : Hp} (e : Sm H H') {v : V} {d : PyData} (h : Dp K H v d) : Dp K H' v d := by
  refine Dp.rec (motive_1 := fun v d _ => Dp K H' v d) (motive_2 := fun vs ds _ => DpAll K H' vs ds) .non (fun b => .bl b) (fun i => .int i) (fun x => .str x) (fun hs _ ih => .lst (e.seq hs) ih) (fun hs _ ih => .tup (e.seqT hs) ih) .nil (fun _ _ h1 h2 => .cons h1 h2) h
theorem dp_tup {K : PySem.W.Frag} {H : Hp} {a : Addr} {zs : List Str} (h : H a = some (.tup (zs.map V.str))) : Dp K H (.ref a) (strsD zs) := .tup (.inl (.inl h)) (dp_strs K H zs)
theorem strs_plainAll : ∀ zs : List Str, PyData.plainAll (zs.map PyData.str) = true
  | [] => rfl
  | _ :: r => strs_plainAll r
theorem strs_depthAll : ∀ zs : List Str, PyData.depthAll (zs.map PyData.str) = 0
  | [] => rfl
  | _ :: r => by simp [PyData.depthAll, PyData.depth, strs_depthAll r]
theorem strs_eqv : ∀ xs ys : List Str, PyData.eqvAll (xs.map PyData.str) (ys.map PyData.str) = decide (xs = ys)
  | [], [] => by simp [PyData.eqvAll]
  | [], _ :: _ => by simp [PyData.eqvAll]
  | _ :: _, [] => by simp [PyData.eqvAll]
  | a :: r, b :: t => by
    simp only [List.map_cons, PyData.eqvAll, PyData.eqv, strs_eqv r t]
    by_cases h : a = b <;> by_cases h' : r = t <;> simp [h, h']
theorem strs_alike : ∀ xs ys : List Str, PySem.W.alikeAll (xs.map PyData.str) (ys.map PyData.str) = true
  | [], _ => by simp [PySem.W.alikeAll]
  | _ :: _, [] => by simp [PySem.W.alikeAll]
  | a :: r, b :: t => by
    simp only [List.map_cons, PySem.W.alikeAll, PySem.W.alike, Bool.true_and]
    exact strs_alike r t
/-! ### triples of texts: relationships, grants -/
structure Gr where
  t : Str
  n : Str
  s : Str
deriving DecidableEq
def Gr.zs (g : Gr) : List Str := [g.t, g.n, g.s]
def Gr.v (g : Gr) : List V := [.str g.t, .str g.n, .str g.s]
def Gr.d (g : Gr) : PyData := strsD g.zs
theorem Gr.zs_inj {g h : Gr} (e : g.zs = h.zs) : g = h := by
  cases g
  cases h
  simp only [Gr.zs, List.cons.injEq, and_true] at e
  obtain ⟨rfl, rfl, rfl⟩ := e
  rfl
theorem Gr.eqv (g h : Gr) : PyData.eqv g.d h.d = decide (g = h) := by
  show PyData.eqvAll (g.zs.map PyData.str) (h.zs.map PyData.str) = _
  rw [strs_eqv]
  exact decide_eq_decide.mpr ⟨Gr.zs_inj, fun e => by rw [e]⟩
theorem Gr.plain (g : Gr) : g.d.plain = true := rfl
theorem Gr.depth (g : Gr) : g.d.depth ≤ 1 := by
  show 1 + PyData.depthAll (g.zs.map PyData.str) ≤ 1
  rw [strs_depthAll]
  decide
theorem Gr.alike (g h : Gr) : PySem.W.alike g.d h.d = true := strs_alike g.zs h.zs
def ltG (g h : Gr) : Bool := PySem.W.dataLt g.d h.d
/-- a list of triples -/
def GRows (H : Hp) : List Addr → List Gr → Prop
  | [], [] => True
  | a :: as, g :: gs => H a = some (.tup g.v) ∧ GRows H as gs
  | _, _ => False
theorem GRows.sm {H H' : Hp} (e : Sm H H') : ∀ {as : List Addr} {gs : List Gr}, GRows H as gs → GRows H' as gs
  | [], [], _ => trivial
  | _ :: _, _ :: _, h => ⟨e.tup h.1, GRows.sm e h.2⟩
  | [], _ :: _, h => h.elim
  | _ :: _, [], h => h.elim
theorem GRows.len {H : Hp} : ∀ {as : List Addr} {gs : List Gr}, GRows H as gs → as.length = gs.length
  | [], [], _ => rfl
  | _ :: _, _ :: _, h => congrArg Nat.succ (GRows.len h.2)
  | [], _ :: _, h => h.elim
  | _ :: _, [], h => h.elim
theorem GRows.get {H : Hp} : ∀ {as : List Addr} {gs : List Gr} {i : Nat} {g : Gr}, GRows H as gs → gs[i]? = some g → ∃ a, as[i]? = some a ∧ H a = some (.tup g.v)
  | a :: _, s :: _, 0, g, h, e => by
    have e2 : s = g := Option.some.inj e
    rw [← e2]
    exact ⟨a, rfl, h.1⟩
  | _ :: as, _ :: gs, i + 1, g, h, e => GRows.get (i := i) h.2 e
  | [], [], _, _, _, e => by cases e
  | [], _ :: _, _, _, h, _ => h.elim
  | _ :: _, [], _, _, h, _ => h.elim
theorem GRows.snoc {H : Hp} {a : Addr} {g : Gr} (e : H a = some (.tup g.v)) : ∀ {as : List Addr} {gs : List Gr}, GRows H as gs → GRows H (as ++ [a]) (gs ++ [g])
  | [], [], _ => ⟨e, trivial⟩
  | _ :: _, _ :: _, h => ⟨h.1, GRows.snoc e h.2⟩
  | [], _ :: _, h => h.elim
  | _ :: _, [], h => h.elim
theorem GRows.other {H : Hp} {o : Addr} {h : HO} : ∀ {bs : List Addr} {gs : List Gr}, GRows H bs gs → (∃ xs, H o = some (.lst xs)) → GRows (upd H o h) bs gs
  | [], [], _, _ => trivial
  | b :: _, r :: _, hR, ho => by
    obtain ⟨xs, ho⟩ := ho
    refine ⟨?_, GRows.other hR.2 ⟨xs, ho⟩⟩
    have nb : b ≠ o := fun e => by
      have h1 := hR.1
      rw [e, ho] at h1
      cases h1
    rw [upd_ne nb]
    exact hR.1
  | [], _ :: _, hR, _ => hR.elim
  | _ :: _, [], hR, _ => hR.elim
theorem dp_gr {K : PySem.W.Frag} {H : Hp} {a : Addr} {g : Gr} (h : H a = some (.tup g.v)) : Dp K H (.ref a) g.d := dp_tup (zs := g.zs) h
theorem GRows.dp {K : PySem.W.Frag} {H : Hp} : ∀ {as : List Addr} {gs : List Gr}, GRows H as gs → DpAll K H (as.map V.ref) (gs.map Gr.d)
  | [], [], _ => .nil
  | _ :: _, _ :: _, h => .cons (dp_gr h.1) (GRows.dp h.2)
  | [], _ :: _, h => h.elim
  | _ :: _, [], h => h.elim
theorem grs_plain : ∀ gs : List Gr, PyData.plainAll (gs.map Gr.d) = true
  | [] => rfl
  | _ :: r => by
    show (true && PyData.plainAll (r.map Gr.d)) = true
    rw [grs_plain r]
    rfl
theorem grs_any (g : Gr) : ∀ gs : List Gr, ((gs.map Gr.d).any fun z => PyData.eqv z g.d) = decide (g ∈ gs)
  | [] => by simp
  | h :: r => by
    rw [List.map_cons, List.any_cons, grs_any g r, Gr.eqv]
    by_cases e : h = g
    · subst e
      simp
    · have e2 : ¬ g = h := fun z => e z.symm
      simp [e, e2]
theorem grs_eqvAll : ∀ xs ys : List Gr, PyData.eqvAll (xs.map Gr.d) (ys.map Gr.d) = decide (xs = ys)
  | [], [] => by simp [PyData.eqvAll]
  | [], _ :: _ => by simp [PyData.eqvAll]
  | _ :: _, [] => by simp [PyData.eqvAll]
  | a :: r, b :: t => by
    simp only [List.map_cons, PyData.eqvAll, Gr.eqv, grs_eqvAll r t]
    by_cases h : a = b <;> by_cases h' : r = t <;> simp [h, h']
end AS

set_option Elab.async false
set_option linter.all false
set_option maxRecDepth 100000
set_option maxHeartbeats 4000000
namespace AS
open PySem PySem.Spec PyProof.Rows L2
/-! ### what laws draw -/
theorem mod_nat (d : Int) (n : Nat) (h : 0 < n) : ∃ m : Nat, d % (n : Int) = (m : Int) ∧ m < n := by
  have b1 : 0 ≤ d % (n : Int) := Int.emod_nonneg _ (by omega)
  have b2 : d % (n : Int) < n := Int.emod_lt_of_pos _ (by omega)
  exact ⟨(d % (n : Int)).toNat, by omega, by omega⟩
theorem at_int {ds : List Int} {k : Nat} (h : k < ds.length) : atI (ds.map V.int) (k : Int) = some (.int ds[k]) := atI_nat (by
  rw [List.getElem?_map, List.getElem?_eq_getElem h]
  rfl)
theorem at_str {ds : List Str} {k : Nat} (h : k < ds.length) : atI (ds.map V.str) (k : Int) = some (.str ds[k]) := atI_nat (by
  rw [List.getElem?_map, List.getElem?_eq_getElem h]
  rfl)
/-- int(draws[k]) % n -/
theorem draw_read {K : PySem.W.Frag} {H : Hp} {o : Addr} {ds : List Int} {k n i : Nat} {σ : L2.St} {R : VK} (e : σ[i]? = some (some (.ref o))) (hS : SqL K H o (ds.map V.int)) (hk : k < ds.length) (hn : 0 < n) (h : ∀ m : Nat, m < n → R (.int (m : Nat)) H) :
    tOp (rI (fun _ j => 0 < j) fun i j => .int (i % j)) (tCB (fun xs H Q => (∃ i, xs = [.int i] ∧ Q (.int i) H) ∨ ∃ k, xs = [.bl k] ∧ Q (.int (if k then 1 else 0)) H) (tCons (tOp (rIxL K) (tVar i) (tC (.int (k : Nat)))) tNil)) (tC (.int (n : Nat))) σ H R := by
  obtain ⟨m, em, hm⟩ := mod_nat ds[k] n hn
  refine ⟨.ref o, e, o, _, _, _, rfl, rfl, hS, at_int hk, .inl ⟨_, rfl, _, _, rfl, rfl, by omega, ?_⟩⟩
  have q := h m hm
  rw [← em] at q
  exact q
theorem iteB' {b : Bool} {A B : Prop} (h1 : b = true → A) (h2 : b = false → B) : if b = true then A else B := by
  cases b with
  | true => exact iteT (h1 rfl)
  | false => exact iteF (h2 rfl)
theorem toIf {a b : Bool} {A B : Prop} (e : a = b) (h : if b = true then A else B) : if a = true then A else B := by
  rw [e]
  exact h
theorem cutG {C : Addr → Hp → Prop} {A : Prop} (G : Addr → Hp → Prop) (b : (∀ p H1, C p H1 → G p H1) → A) (l : ∀ p H1, C p H1 → G p H1) : A := b l
theorem cutP {A : Prop} (G : Prop) (b : G → A) (l : G) : A := b l
end AS

set_option Elab.async false
set_option linter.all false
set_option maxRecDepth 100000
set_option maxHeartbeats 4000000
namespace A4
open PySem PySem.Spec PyProof.Rows L2 AS
def top (i : Nat) : Stmt := PySem.Challenge.pw_authsync_k05_demands.main.body.getD i (.Pass ⟨0, 0, 0, 0⟩)
abbrev sBadFeed_init : Stmt := inClass (top 2) 0
def dBadFeed_init : He.DefD := ⟨("BadFeed", some "__init__"), "__init__", "BadFeed.__init__", defArgs sBadFeed_init, defBody sBadFeed_init, defScope sBadFeed_init, [], []⟩
theorem scBadFeed_init : FnScope ["self", "line", "what"] ["self", "line", "what"] (defScope sBadFeed_init) := ⟨rfl, rfl, rfl, by decide +kernel, rfl, by decide +kernel, by decide +kernel⟩
abbrev s_is_word : Stmt := top 10
def d_is_word : He.DefD := ⟨("_is_word", none), "_is_word", "_is_word", defArgs s_is_word, defBody s_is_word, defScope s_is_word, [], []⟩
theorem sc_is_word : FnScope ["text"] ["text"] (defScope s_is_word) := ⟨rfl, rfl, rfl, by decide +kernel, rfl, by decide +kernel, by decide +kernel⟩
abbrev sis_identifier : Stmt := top 11
def dis_identifier : He.DefD := ⟨("is_identifier", none), "is_identifier", "is_identifier", defArgs sis_identifier, defBody sis_identifier, defScope sis_identifier, [], []⟩
theorem scis_identifier : FnScope ["text"] ["text"] (defScope sis_identifier) := ⟨rfl, rfl, rfl, by decide +kernel, rfl, by decide +kernel, by decide +kernel⟩
abbrev sread_revision : Stmt := top 12
def dread_revision : He.DefD := ⟨("read_revision", none), "read_revision", "read_revision", defArgs sread_revision, defBody sread_revision, defScope sread_revision, [], []⟩
theorem scread_revision : FnScope ["text", "revision"] ["text"] (defScope sread_revision) := ⟨rfl, rfl, rfl, by decide +kernel, rfl, by decide +kernel, by decide +kernel⟩
abbrev stoken_of : Stmt := top 13
def dtoken_of : He.DefD := ⟨("token_of", none), "token_of", "token_of", defArgs stoken_of, defBody stoken_of, defScope stoken_of, [], []⟩
theorem sctoken_of : FnScope ["store", "revision"] ["store", "revision"] (defScope stoken_of) := ⟨rfl, rfl, rfl, by decide +kernel, rfl, by decide +kernel, by decide +kernel⟩
abbrev ssplit_token : Stmt := top 14
def dsplit_token : He.DefD := ⟨("split_token", none), "split_token", "split_token", defArgs ssplit_token, defBody ssplit_token, defScope ssplit_token, [], []⟩
theorem scsplit_token : FnScope ["text", "store", "_", "digits", "revision"] ["text"] (defScope ssplit_token) := ⟨rfl, rfl, rfl, by decide +kernel, rfl, by decide +kernel, by decide +kernel⟩
abbrev sDemand_init : Stmt := inClass (top 16) 0
def dDemand_init : He.DefD := ⟨("Demand", some "__init__"), "__init__", "Demand.__init__", defArgs sDemand_init, defBody sDemand_init, defScope sDemand_init, [], []⟩
theorem scDemand_init : FnScope ["self"] ["self"] (defScope sDemand_init) := ⟨rfl, rfl, rfl, by decide +kernel, rfl, by decide +kernel, by decide +kernel⟩
abbrev sDemand_note : Stmt := inClass (top 16) 1
def dDemand_note : He.DefD := ⟨("Demand", some "note"), "note", "Demand.note", defArgs sDemand_note, defBody sDemand_note, defScope sDemand_note, [], []⟩
theorem scDemand_note : FnScope ["self", "token", "store", "revision"] ["self", "token"] (defScope sDemand_note) := ⟨rfl, rfl, rfl, by decide +kernel, rfl, by decide +kernel, by decide +kernel⟩
abbrev sDemand_take : Stmt := inClass (top 16) 2
def dDemand_take : He.DefD := ⟨("Demand", some "take"), "take", "Demand.take", defArgs sDemand_take, defBody sDemand_take, defScope sDemand_take, [], []⟩
theorem scDemand_take : FnScope ["self", "other", "newer", "token"] ["self", "other"] (defScope sDemand_take) := ⟨rfl, rfl, rfl, by decide +kernel, rfl, by decide +kernel, by decide +kernel⟩
abbrev sDemand_token_for : Stmt := inClass (top 16) 3
def dDemand_token_for : He.DefD := ⟨("Demand", some "token_for"), "token_for", "Demand.token_for", defArgs sDemand_token_for, defBody sDemand_token_for, defScope sDemand_token_for, [], []⟩
theorem scDemand_token_for : FnScope ["self", "store"] ["self", "store"] (defScope sDemand_token_for) := ⟨rfl, rfl, rfl, by decide +kernel, rfl, by decide +kernel, by decide +kernel⟩
abbrev sDemand_tokens : Stmt := inClass (top 16) 4
def dDemand_tokens : He.DefD := ⟨("Demand", some "tokens"), "tokens", "Demand.tokens", defArgs sDemand_tokens, defBody sDemand_tokens, defScope sDemand_tokens, [], []⟩
theorem scDemand_tokens : FnScope ["self", "store"] ["self"] (defScope sDemand_tokens) := ⟨rfl, rfl, rfl, by decide +kernel, rfl, by decide +kernel, by decide +kernel⟩
abbrev sDemand_text : Stmt := inClass (top 16) 5
def dDemand_text : He.DefD := ⟨("Demand", some "text"), "text", "Demand.text", defArgs sDemand_text, defBody sDemand_text, defScope sDemand_text, [], []⟩
theorem scDemand_text : FnScope ["self"] ["self"] (defScope sDemand_text) := ⟨rfl, rfl, rfl, by decide +kernel, rfl, by decide +kernel, by decide +kernel⟩
abbrev sDemand_is_met : Stmt := inClass (top 16) 6
def dDemand_is_met : He.DefD := ⟨("Demand", some "is_met"), "is_met", "Demand.is_met", defArgs sDemand_is_met, defBody sDemand_is_met, defScope sDemand_is_met, [], []⟩
theorem scDemand_is_met : FnScope ["self", "store", "revision"] ["self", "store", "revision"] (defScope sDemand_is_met) := ⟨rfl, rfl, rfl, by decide +kernel, rfl, by decide +kernel, by decide +kernel⟩
abbrev sread_demand : Stmt := top 17
def dread_demand : He.DefD := ⟨("read_demand", none), "read_demand", "read_demand", defArgs sread_demand, defBody sread_demand, defScope sread_demand, [], []⟩
theorem scread_demand : FnScope ["text", "demand", "words", "word"] ["text"] (defScope sread_demand) := ⟨rfl, rfl, rfl, by decide +kernel, rfl, by decide +kernel, by decide +kernel⟩
abbrev s_law_cell : Stmt := top 19
def d_law_cell : He.DefD := ⟨("_law_cell", none), "_law_cell", "_law_cell", defArgs s_law_cell, defBody s_law_cell, defScope s_law_cell, [], []⟩
theorem sc_law_cell : FnScope ["script", "k"] ["script", "k"] (defScope s_law_cell) := ⟨rfl, rfl, rfl, by decide +kernel, rfl, by decide +kernel, by decide +kernel⟩
abbrev s_law_draws : Stmt := top 20
def d_law_draws : He.DefD := ⟨("_law_draws", none), "_law_draws", "_law_draws", defArgs s_law_draws, defBody s_law_draws, defScope s_law_draws, [], []⟩
theorem sc_law_draws : FnScope ["cell", "count", "found", "is_wide", "k", "mixed"] ["cell", "count"] (defScope s_law_draws) := ⟨rfl, rfl, rfl, by decide +kernel, rfl, by decide +kernel, by decide +kernel⟩
abbrev s_law_is_shown : Stmt := top 21
def d_law_is_shown : He.DefD := ⟨("_law_is_shown", none), "_law_is_shown", "_law_is_shown", defArgs s_law_is_shown, defBody s_law_is_shown, defScope s_law_is_shown, [], []⟩
theorem sc_law_is_shown : FnScope ["demand", "known", "store", "due", "number"] ["demand", "known"] (defScope s_law_is_shown) := ⟨rfl, rfl, rfl, by decide +kernel, rfl, by decide +kernel, by decide +kernel⟩
abbrev s_law_is_bad : Stmt := top 22
def d_law_is_bad : He.DefD := ⟨("_law_is_bad", none), "_law_is_bad", "_law_is_bad", defArgs s_law_is_bad, defBody s_law_is_bad, defScope s_law_is_bad, [], []⟩
theorem sc_law_is_bad : FnScope ["text", "e"] ["text"] (defScope s_law_is_bad) := ⟨rfl, rfl, rfl, by decide +kernel, rfl, by decide +kernel, by decide +kernel⟩
abbrev slaw : Stmt := top 23
def dlaw : He.DefD := ⟨("law", none), "law", "law", defArgs slaw, defBody slaw, defScope slaw, [], []⟩
theorem sclaw : FnScope ["script", "demands", "known", "k", "draws", "one", "store", "newer", "number", "is_newer", "told", "bad"] ["script"] (defScope slaw) := ⟨rfl, rfl, rfl, by decide +kernel, rfl, by decide +kernel, by decide +kernel⟩
abbrev iBadFeed_init : Nat := 0
abbrev i_is_word : Nat := 1
abbrev iis_identifier : Nat := 2
abbrev iread_revision : Nat := 3
abbrev itoken_of : Nat := 4
abbrev isplit_token : Nat := 5
abbrev iDemand_init : Nat := 6
abbrev iDemand_note : Nat := 7
abbrev iDemand_take : Nat := 8
abbrev iDemand_token_for : Nat := 9
abbrev iDemand_tokens : Nat := 10
abbrev iDemand_text : Nat := 11
abbrev iDemand_is_met : Nat := 12
abbrev iread_demand : Nat := 13
abbrev i_law_cell : Nat := 14
abbrev i_law_draws : Nat := 15
abbrev i_law_is_shown : Nat := 16
abbrev i_law_is_bad : Nat := 17
abbrev ilaw : Nat := 18
def NN : Names := {
  glos := ["AuthError", "BadFeed", "_is_word", "is_identifier", "read_revision", "token_of", "split_token", "Demand", "read_demand", "_law_cell", "_law_draws", "_law_is_shown", "_law_is_bad", "law"],
  frees := ["ValueError", "all", "bool", "int", "isinstance", "len", "range", "sorted", "str"],
  txts := [("LETTERS", "abcdefghijklmnopqrstuvwxyz"), ("DIGITS", "0123456789"), ("WORD_SIGNS", "abcdefghijklmnopqrstuvwxyz0123456789_")],
  nums := [("WORD_LIMIT", 20), ("GREATEST_REVISION", 1000), ("REVISION_DIGITS", 4)],
  fn := [dBadFeed_init, d_is_word, dis_identifier, dread_revision, dtoken_of, dsplit_token, dDemand_init, dDemand_note, dDemand_take, dDemand_token_for, dDemand_tokens, dDemand_text, dDemand_is_met, dread_demand, d_law_cell, d_law_draws, d_law_is_shown, d_law_is_bad, dlaw],
  tf := [("_is_word", none), ("read_revision", none)] }
end A4

set_option Elab.async false
set_option linter.all false
set_option maxRecDepth 100000
set_option maxHeartbeats 4000000
namespace A4
open PySem PySem.Spec PyProof.Rows L2 AS
/-! ### the mathematics of names -/
theorem iteB {b : Bool} {A B : Prop} (h1 : b = true → A) (h2 : b = false → B) : if b = true then A else B := by
  cases b with
  | true => exact iteT (h1 rfl)
  | false => exact iteF (h2 rfl)
theorem toBl {Q : VK} {b b' : Bool} {H : Hp} (e : b = b') (h : Q (.bl b') H) : Q (.bl b) H := by
  rw [e]
  exact h
abbrev tl (x : Str) : List Nat := x.cps.toList
def lettersS : Str := "abcdefghijklmnopqrstuvwxyz"
def digitsS : Str := "0123456789"
def signsS : Str := "abcdefghijklmnopqrstuvwxyz0123456789_"
def isWord (z : Str) : Bool := decide (1 ≤ z.length) && (decide (z.length ≤ 20) && (tl z).all fun c => decide (c ∈ tl signsS))
def headIn (z a : Str) : Bool := match tl z with
  | c :: _ => decide (c ∈ tl a)
  | [] => false
def isIdent (z : Str) : Bool := isWord z && headIn z lettersS
section
variable {P : Program} {w : World} {K : PySem.W.Frag} {mg : Str → Option Value} {base : Heap}
abbrev D (P : Program) (w : World) (K : PySem.W.Frag) (mg : Str → Option Value) (base : Heap) (k : Nat) (x : Str) (ps : List Str) (sp : Sp) : Prop := DOk P w K mg base CX0 k x ps sp
theorem ok_is_word (T : Top NN K mg base) : D P w K mg base 1 "_is_word" ["text"] (sp1 K NN.tf fun z => .bl (isWord z)) := by
  refine T.ok0 (d := d_is_word) i_is_word rfl rfl rfl rfl (by decide +kernel) sc_is_word (fun _ _ _ _ _ _ us hl => match us, hl with | [_], _ => rfl) sp1_len (fun cdv A outer s H vs Q E ec hr h => ?_)
  obtain ⟨z, rfl, hz, hT, q⟩ := h
  obtain ⟨t1, m1⟩ := T.i ("WORD_LIMIT", 20) (by decide +kernel)
  obtain ⟨t2, m2⟩ := T.s ("WORD_SIGNS", signsS) (by decide +kernel)
  have nl := T.f "len" (by decide +kernel)
  have na := T.f "all" (by decide +kernel)
  refine ⟨_, pss_one (ps_ret (pe_and (pe_chain op_le op_le pe_int (pe_callB call_len_str (by rfl) nl PySem.boot_len (pa_cons (pv 0) pa_nil)) (pe_glob (v := .int 20) rfl m1 ⟨_, rfl⟩))
    (pe_one (pe_allM (P := (He.cT K ("_is_word", none)).2) hr rfl na (T.tb ("_is_word", none) (by decide +kernel)) ec
      (gs_mk rfl rfl (by decide +kernel) rfl rfl (by decide +kernel)) (pv 0) (elt_in rfl rfl rfl m2) (fun _ => rfl))))), ?_⟩
  refine ⟨.str z, rfl, z, rfl, hz, 1, z.length, rfl, rfl, decide (1 ≤ (z.length : Int)), rfl, ?_⟩
  have e1 : decide (1 ≤ (z.length : Int)) = decide (1 ≤ z.length) := decide_eq_decide.mpr (by omega)
  have e2 : decide ((z.length : Int) ≤ 20) = decide (z.length ≤ 20) := decide_eq_decide.mpr (by omega)
  have fin : ∀ b, isWord z = b → Q (.bl b) H := fun b e => by
    rw [← e]
    exact q H (Sm.refl H)
  refine iteB (fun h1 => ?_) fun h1 => ?_
  · rw [e1] at h1
    refine ⟨z.length, 20, rfl, rfl, decide ((z.length : Int) ≤ 20), rfl, iteB (fun h2 => ?_) fun h2 => ?_⟩
    · rw [e2] at h2
      refine ⟨.str z, rfl, z, rfl, hT _ (by decide +kernel), fun H2 tb => ?_⟩
      have e3 : isWord z = (tl z).all fun c => decide (c ∈ tl signsS) := by
        unfold isWord
        rw [h1, h2]
        rfl
      rw [show (z.cps.toList.all fun c => decide (c ∈ tl signsS)) = isWord z from e3.symm]
      exact q H2 (Sm.tabbed (hT _ (by decide +kernel)) tb)
    · rw [e2] at h2
      exact fin _ (by unfold isWord; rw [h2, Bool.false_and, Bool.and_false])
  · rw [e1] at h1
    exact ⟨false, rfl, iteF (fin _ (by unfold isWord; rw [h1]; rfl))⟩
theorem ok_is_identifier (T : Top NN K mg base) : D P w K mg base 2 "is_identifier" ["text"] (sp1 K NN.tf fun z => .bl (isIdent z)) := by
  refine T.ok0 (d := dis_identifier) iis_identifier rfl rfl rfl rfl (by decide +kernel) scis_identifier (fun _ _ _ _ _ _ us hl => match us, hl with | [_], _ => rfl) sp1_len (fun cdv A outer s H vs Q E ec hr h => ?_)
  obtain ⟨z, rfl, hz, hT, q⟩ := h
  obtain ⟨t2, m2⟩ := T.s ("LETTERS", lettersS) (by decide +kernel)
  have G := ok_is_word (P := P) (w := w) T
  refine ⟨_, pss_one (ps_ret (pe_and (pe_callD G hr (pa_cons (pv 0) pa_nil)) (pe_one (pe_cmpR op_in_sign (pe_ix ix_str (pv 0) pe_int (fun _ _ => rfl)) (pe_glob (v := .str lettersS) rfl m2 ⟨_, rfl⟩) rfl)))), ?_⟩
  refine ⟨.str z, rfl, z, rfl, hz, hT, fun H1 s1 => ⟨isWord z, rfl, iteB (fun h1 => ?_) fun h1 => ?_⟩⟩
  · have h2 := h1
    unfold isWord at h2
    simp only [Bool.and_eq_true, decide_eq_true_eq] at h2
    obtain ⟨h3, _⟩ := h2
    cases e : tl z with
    | nil =>
      have e2 : z.length = (tl z).length := by simp [Str.length]
      rw [e] at e2
      rw [e2] at h3
      exact absurd h3 (by decide)
    | cons c r =>
      refine ⟨.str z, rfl, z, 0, c, rfl, rfl, hz, atI_nat (j := 0) (by show (tl z)[0]? = _; rw [e]; rfl), c, lettersS, rfl, rfl, ?_⟩
      have e3 : isIdent z = decide (c ∈ tl lettersS) := by
        unfold isIdent headIn
        rw [h1, e]
        rfl
      rw [show decide (c ∈ lettersS.cps.toList) = isIdent z from e3.symm]
      exact q H1 s1
  · have e3 : isIdent z = false := by
      unfold isIdent
      rw [h1]
      rfl
    rw [← e3]
    exact q H1 s1
/-! ### partition -/
abbrev colon : Str := ":"
abbrev hash : Str := "#"
abbrev atS : Str := "@"
theorem part_len (z y : Str) : (Txt.partition z y).1.length ≤ z.length ∧ (Txt.partition z y).2.1.length ≤ z.length ∧ (Txt.partition z y).2.2.length ≤ z.length := fact_partition z y
def isObj (z : Str) : Bool := isIdent (Txt.partition z colon).1 && isWord (Txt.partition z colon).2.2
def isRef (z : Str) : Bool := isObj (Txt.partition z hash).1 && (decide ((Txt.partition z hash).2.1 = Str.empty) || isIdent (Txt.partition z hash).2.2)
/-- a promise: one text, a new pair of texts -/
def spPair (K : PySem.W.Frag) (tf : List He.Defn) (f : Str → Str × Str) : Sp := fun vs H Q _ => ∃ z : Str, vs = [.str z] ∧ z.length ≤ sizeLine ∧ Tabs K tf H ∧ ∀ H' p, Sm H H' → H p = none → H' p = some (.tup [.str (f z).1, .str (f z).2]) → Q (.ref p) H'
theorem spPair_len {K : PySem.W.Frag} {tf : List He.Defn} {f : Str → Str × Str} {x : Str} : ∀ vs H Q E, spPair K tf f vs H Q E → vs.length = [x].length := fun vs H Q E h => by
  obtain ⟨z, rfl, _⟩ := h
  rfl
end
end A4

set_option Elab.async false
set_option linter.all false
set_option maxRecDepth 100000
set_option maxHeartbeats 4000000
namespace A4
open PySem PySem.Spec PyProof.Rows L2 AS
/-! ### revisions and tokens -/
def allDig (z : Str) : Bool := (tl z).all fun c => decide (c ∈ tl digitsS)
def zeroHead (z : Str) : Bool := match tl z with
  | c :: _ => decide (c = 48)
  | [] => false
def zeroS : Str := "0"
def readRev (z : Str) : Option Nat :=
  if (decide (1 ≤ z.length) && decide (z.length ≤ 4) && allDig z) = true then
    if (zeroHead z && !decide (z = zeroS)) = true then none else
      if NumText.digitsVal (tl z) ≤ 1000 then some (NumText.digitsVal (tl z)) else none
  else none
def revV : Option Nat → V
  | some n => .int n
  | none => .non
def splitTok (z : Str) : Option (Str × Nat) := match readRev (Txt.partition z atS).2.2 with
  | none => none
  | some n => if isIdent (Txt.partition z atS).1 = true then some ((Txt.partition z atS).1, n) else none
def tokS (s : Str) (n : Int) : Str := s ++ atS ++ toString n
theorem digits_tl : tl digitsS = [48, 49, 50, 51, 52, 53, 54, 55, 56, 57] := by decide +kernel
theorem allDig_digits {z : Str} (h : allDig z = true) : NumText.AllDigits (tl z) := fun c hc => by
  have h1 := of_decide_eq_true (List.all_eq_true.mp h c hc)
  rw [digits_tl] at h1
  simp only [List.mem_cons, List.not_mem_nil, or_false] at h1
  omega
theorem log2_small {n : Nat} (h : n < 2 ^ 64) : n.log2 < 1920 := by
  by_cases h0 : n = 0
  · subst h0
    decide
  · have h1 : n.log2 < 64 := (Nat.log2_lt h0).mpr h
    omega
theorem toZ {Q : VK} {v v' : V} {H : Hp} (e : v = v') (h : Q v' H) : Q v H := by
  rw [e]
  exact h
theorem len_tl (z : Str) : z.length = (tl z).length := by simp [Str.length]
section
variable {P : Program} {w : World} {K : PySem.W.Frag} {mg : Str → Option Value} {base : Heap}
theorem ok_read_revision (T : Top NN K mg base) : D P w K mg base 1 "read_revision" ["text"] (sp1 K NN.tf fun z => revV (readRev z)) := by
  refine T.ok0 (d := dread_revision) iread_revision rfl rfl rfl rfl (by decide +kernel) scread_revision (fun _ _ _ _ _ _ us hl => match us, hl with | [_], _ => rfl) sp1_len (fun cdv A outer s H vs Q E ec hr h => ?_)
  obtain ⟨z, rfl, hz, hT, q⟩ := h
  obtain ⟨t1, m1⟩ := T.i ("REVISION_DIGITS", 4) (by decide +kernel)
  obtain ⟨t2, m2⟩ := T.s ("DIGITS", digitsS) (by decide +kernel)
  obtain ⟨t3, m3⟩ := T.i ("GREATEST_REVISION", 1000) (by decide +kernel)
  have nl := T.f "len" (by decide +kernel)
  have na := T.f "all" (by decide +kernel)
  have ni := T.f "int" (by decide +kernel)
  have mP : GxR.TabG H (He.cT K ("read_revision", none)).2 := hT _ (by decide +kernel)
  refine ⟨_, pss_cons (ps_if (PW.pt (pw_or (pt_not (pt_chain op_le op_le pe_int (pe_callB call_len_str (by rfl) nl PySem.boot_len (pa_cons (pv 0) pa_nil)) (pe_glob (v := .int 4) rfl m1 ⟨_, rfl⟩)))
      (pw_or1 (pt_not (pt_val (pe_allM (P := (He.cT K ("read_revision", none)).2) hr rfl na (T.tb ("read_revision", none) (by decide +kernel)) ec
        (gs_mk rfl rfl (by decide +kernel) rfl rfl (by decide +kernel)) (pv 0) (elt_in rfl rfl rfl m2) (fun _ => rfl))))))) (pss_one (ps_ret pe_non)) pss_nil)
    (pss_cons (ps_if (PW.pt (pw_and (pt_cmpR op_eq (pe_ix ix_str (pv 0) pe_int (fun _ _ => rfl)) pe_str (nomark _)) (pw_and1 (pt_cmpR op_ne (pv 0) pe_str (nomark _))))) (pss_one (ps_ret pe_non)) pss_nil)
    (pss_cons (ps_set (i := 1) scread_revision.nd rfl (.inl rfl) (pe_callTy call_int_str (by rfl) ni (by decide +kernel) (pa_cons (pv 0) pa_nil)))
    (pss_one (ps_ret (pe_ifExp (pt_cmpR op_le (pv 1) (pe_glob (v := .int 1000) rfl m3 ⟨_, rfl⟩) (nomark _)) (pv 1) pe_non))))), ?_⟩
  refine ⟨.str z, rfl, z, rfl, hz, 1, z.length, rfl, rfl, decide (1 ≤ (z.length : Int)), rfl, ?_⟩
  have e1 : decide (1 ≤ (z.length : Int)) = decide (1 ≤ z.length) := decide_eq_decide.mpr (by omega)
  have e2 : decide ((z.length : Int) ≤ 4) = decide (z.length ≤ 4) := decide_eq_decide.mpr (by omega)
  have bad : (decide (1 ≤ z.length) && decide (z.length ≤ 4) && allDig z) = false → readRev z = none := fun e => by
    unfold readRev
    rw [e]
    exact if_neg Bool.false_ne_true
  refine iteB (fun h1 => ?_) fun h1 => ?_
  · rw [e1] at h1
    refine ⟨z.length, 4, rfl, rfl, decide ((z.length : Int) ≤ 4), rfl, ?_⟩
    show if (!decide ((z.length : Int) ≤ 4)) = true then _ else _
    rw [e2]
    refine iteB (fun h2 => ?_) fun h2 => ?_
    · have h3 : decide (z.length ≤ 4) = false := by
        rw [Bool.not_eq_true'] at h2
        exact h2
      exact iteT (toZ (v' := revV (readRev z)) (by rw [bad (by rw [h3, Bool.and_false, Bool.false_and])]; rfl) (q H (Sm.refl H)))
    · have h3 : decide (z.length ≤ 4) = true := by
        rw [Bool.not_eq_false'] at h2
        exact h2
      refine ⟨.str z, rfl, z, rfl, mP, fun H2 tb => ⟨_, rfl, ?_⟩⟩
      have s1 : Sm H H2 := Sm.tabbed mP tb
      show if (!allDig z) = true then _ else _
      refine iteB (fun h4 => ?_) fun h4 => ?_
      · have h5 : allDig z = false := by
          rw [Bool.not_eq_true'] at h4
          exact h4
        exact toZ (v' := revV (readRev z)) (by rw [bad (by rw [h5, Bool.and_false])]; rfl) (q H2 s1)
      · have h5 : allDig z = true := by
          rw [Bool.not_eq_false'] at h4
          exact h4
        have good : (decide (1 ≤ z.length) && decide (z.length ≤ 4) && allDig z) = true := by
          rw [h1, h3, h5]
          rfl
        have h6 : 1 ≤ z.length := of_decide_eq_true h1
        have h7 : z.length ≤ 4 := of_decide_eq_true h3
        obtain ⟨c, r, ez⟩ : ∃ c r, tl z = c :: r := by
          cases e : tl z with
          | nil =>
            rw [len_tl, e] at h6
            exact absurd h6 (by decide)
          | cons c r => exact ⟨c, r, rfl⟩
        -- if text[0] == '0' and text != '0'
        refine ⟨.str z, rfl, z, 0, c, rfl, rfl, hz, atI_nat (j := 0) (by show (tl z)[0]? = _; rw [ez]; rfl), rfl, _, rfl, ?_⟩
        have ec0 : decide (V.str (⟨#[c]⟩ : Str) = V.str zeroS) = zeroHead z := by
          unfold zeroHead
          rw [ez]
          show decide (V.str (⟨#[c]⟩ : Str) = V.str zeroS) = decide (c = 48)
          refine decide_eq_decide.mpr ⟨fun e => ?_, fun e => by rw [e]; rfl⟩
          have e9 := congrArg (fun y : Str => y.cps.toList) (V.str.inj e)
          have e10 : [c] = [48] := e9
          exact List.head_eq_of_cons_eq e10
        have go : (zeroHead z && !decide (z = zeroS)) = true → readRev z = none := fun e => by
          unfold readRev
          rw [if_pos good, if_pos e]
        have rest : (zeroHead z && !decide (z = zeroS)) = false → readRev z = if NumText.digitsVal (tl z) ≤ 1000 then some (NumText.digitsVal (tl z)) else none := fun e => by
          unfold readRev
          rw [if_pos good, if_neg (by rw [e]; exact Bool.false_ne_true)]
        have tail : readRev z = (if NumText.digitsVal (tl z) ≤ 1000 then some (NumText.digitsVal (tl z)) else none) →
            (tSeq (tAsg (tCB (fun xs H Q => ∃ a n, xs = [.str a] ∧ PySem.intText? a = some n ∧ a.length ≤ 640 ∧ Q (.int n) H) (tCons (tVar 0) tNil)) (gName 1)) (tRet (tIf (tTest (tOp (rI0 fun i j => .bl (decide (i ≤ j))) (tVar 1) (tC (.int 1000)))) (tVar 1) (tC .non)))) { nx := fun _ H' => Q .non H', rt := Q } (start ["text", "revision"] [.str z]) H2 := fun e => by
          have hv := intText_digits (x := z) (allDig_digits h5) (by show tl z ≠ []; rw [ez]; simp) (by omega)
          refine ⟨.str z, rfl, z, _, rfl, hv, by omega, ?_⟩
          refine ⟨_, rfl, _, 1000, rfl, rfl, _, rfl, iteB (fun g => ?_) fun g => ?_⟩
          · have g1 := of_decide_eq_true g
            refine ⟨_, rfl, toZ (v' := revV (readRev z)) ?_ (q H2 s1)⟩
            rw [e, if_pos (by exact Int.ofNat_le.mp g1)]
            rfl
          · have g1 := of_decide_eq_false g
            refine toZ (v' := revV (readRev z)) ?_ (q H2 s1)
            rw [e, if_neg (by intro z2; exact g1 (Int.ofNat_le.mpr z2))]
            rfl
        show if decide (V.str (⟨#[c]⟩ : Str) = V.str zeroS) = true then _ else _
        rw [ec0]
        refine iteB (fun g => ?_) fun g => ?_
        · refine ⟨.str z, rfl, rfl, _, rfl, ?_⟩
          have ez0 : decide (V.str z = V.str zeroS) = decide (z = zeroS) := decide_eq_decide.mpr ⟨V.str.inj, fun e => by rw [e]⟩
          show if (!decide (V.str z = V.str zeroS)) = true then _ else _
          rw [ez0]
          refine iteB (fun g2 => ?_) fun g2 => ?_
          · exact toZ (v' := revV (readRev z)) (by rw [go (by rw [g, g2]; rfl)]; rfl) (q H2 s1)
          · exact tail (rest (by rw [g2, Bool.and_false]))
        · exact iteF (tail (rest (by rw [g, Bool.false_and])))
  · rw [e1] at h1
    exact ⟨false, rfl, iteT (iteT (toZ (v' := revV (readRev z)) (by rw [bad (by rw [h1]; rfl)]; rfl) (q H (Sm.refl H))))⟩
/-- a promise: a text and a number, their token -/
def spTok (K : PySem.W.Frag) (tf : List He.Defn) : Sp := fun vs H Q _ => ∃ (z : Str) (n : Nat), vs = [.str z, .int n] ∧ z.length ≤ 100000 ∧ n ≤ 1000000 ∧ Q (.str (tokS z n)) H
theorem num_len {n : Nat} (h : n ≤ 1000000) : (toString (n : Int) : Str).length ≤ 7 := by
  have z := PyProof.Rows.toString_length_le (v := (n : Int)) (by omega) (show 0 < 7 by decide) (by omega)
  exact z
theorem ok_token_of (T : Top NN K mg base) : D P w K mg base 1 "token_of" ["store", "revision"] (spTok K NN.tf) := by
  refine T.ok0 (d := dtoken_of) itoken_of rfl rfl rfl rfl (by decide +kernel) sctoken_of (fun _ _ _ _ _ _ us hl => match us, hl with | [_, _], _ => rfl) (fun vs H Q E h => ?_) (fun cdv A outer s H vs Q E ec hr h => ?_)
  · obtain ⟨z, n, rfl, _⟩ := h
    rfl
  · obtain ⟨z, n, rfl, hz, hn, q⟩ := h
    refine ⟨_, pss_one (ps_ret (pe_joined (PJ.cons (pe_fmt (pv 0)) (PJ.cons pe_str (PJ.cons (pe_fmt (pv 1)) PJ.nil))))), ?_⟩
    have hl := num_len hn
    have big : (100000 : Nat) + 8 ≤ sizeLine := by decide
    have e0 : (Str.empty ++ z).length = z.length := by rw [Str.length_append]; show 0 + z.length = _; omega
    have e1 : (Str.empty ++ z ++ atS).length = z.length + 1 := by rw [Str.length_append, e0]; rfl
    refine ⟨.str z, rfl, .inl ⟨z, rfl, by omega, z, rfl, by omega, atS, rfl, by omega, .int n, rfl, .inr ⟨n, rfl, log2_small (by omega), toString (n : Int), rfl, ?_, ?_⟩⟩⟩
    · rw [Str.length_append, e1]
      omega
    · have e2 : (Str.empty ++ z : Str) = z := TL.ext_tl (by rw [TL.tl_append]; rfl)
      exact toZ (by rw [e2]; rfl) q
end
end A4

set_option Elab.async false
set_option linter.all false
set_option maxRecDepth 100000
set_option maxHeartbeats 4000000
namespace A4
open PySem PySem.Spec PyProof.Rows L2 AS
section
variable {P : Program} {w : World} {K : PySem.W.Frag} {mg : Str → Option Value} {base : Heap}
/-- a promise: one text, None or a new pair of a text and a number -/
def spTokSplit (K : PySem.W.Frag) (tf : List He.Defn) : Sp := fun vs H Q _ => ∃ z : Str, vs = [.str z] ∧ z.length ≤ sizeLine ∧ Tabs K tf H ∧
  (splitTok z = none → ∀ H', Sm H H' → Q .non H') ∧ ∀ a n, splitTok z = some (a, n) → ∀ H' p, Sm H H' → H p = none → H' p = some (.tup [.str a, .int (n : Nat)]) → Q (.ref p) H'
theorem ok_split_token (T : Top NN K mg base) : D P w K mg base 3 "split_token" ["text"] (spTokSplit K NN.tf) := by
  refine T.ok0 (d := dsplit_token) isplit_token rfl rfl rfl rfl (by decide +kernel) scsplit_token (fun _ _ _ _ _ _ us hl => match us, hl with | [_], _ => rfl) (fun vs H Q E h => ?_) (fun cdv A outer s H vs Q E ec hr h => ?_)
  · obtain ⟨z, rfl, _⟩ := h
    rfl
  · obtain ⟨z, rfl, hz, hT, q1, q2⟩ := h
    have G1 := (ok_read_revision (P := P) (w := w) T).mono (show 1 ≤ 2 by decide)
    have G2 := ok_is_identifier (P := P) (w := w) T
    obtain ⟨l1, l2, l3⟩ := part_len z atS
    refine ⟨_, pss_cons (ps_asg (pe_partition (pv 0) pe_str) (pg_tup (by rfl) (pgs_cons (pg_name (i := 1) scsplit_token.nd rfl (.inl rfl)) (pgs_cons (pg_name (i := 2) scsplit_token.nd rfl (.inl rfl)) (pgs_cons (pg_name (i := 3) scsplit_token.nd rfl (.inl rfl)) pgs_nil)))))
      (pss_cons (ps_set (i := 4) scsplit_token.nd rfl (.inl rfl) (pe_callD G1 hr (pa_cons (pv 3) pa_nil)))
      (pss_cons (ps_if (PW.pt (pw_or (pt_cmpR op_isN (pv 4) pe_non (nomark _)) (pw_or1 (pt_not (pt_val (pe_callD G2 hr (pa_cons (pv 1) pa_nil))))))) (pss_one (ps_ret pe_non)) pss_nil)
      (pss_one (ps_ret (pe_tup (pa_cons (pv 1) (pa_cons (pv 4) pa_nil))))))), ?_⟩
    refine ⟨.str z, rfl, ⟨_, rfl⟩, z, atS, rfl, rfl, by decide +kernel, hz, fun p np => ?_⟩
    refine ⟨p, _, rfl, .inl (.inl upd_same), rfl, _, _, rfl, _, _, rfl, _, _, rfl, rfl, ?_⟩
    have s0 := Sm.new (o := .tup [.str (Txt.partition z atS).1, .str (Txt.partition z atS).2.1, .str (Txt.partition z atS).2.2]) np
    refine ⟨.str (Txt.partition z atS).2.2, rfl, _, rfl, Nat.le_trans l3 hz, s0.tabs hT, fun H1 s1 => ?_⟩
    refine ⟨revV (readRev (Txt.partition z atS).2.2), rfl, rfl, _, rfl, ?_⟩
    have s01 := s0.trans s1
    cases e : readRev (Txt.partition z atS).2.2 with
    | none =>
      refine iteT (iteT (q1 ?_ H1 s01))
      unfold splitTok
      rw [e]
    | some n =>
      refine iteF ⟨.str (Txt.partition z atS).1, rfl, _, rfl, Nat.le_trans l1 hz, s01.tabs hT, fun H2 s2 => ⟨_, rfl, ?_⟩⟩
      have s012 := s01.trans s2
      show if (!isIdent (Txt.partition z atS).1) = true then _ else _
      refine iteB (fun h => ?_) fun h => ?_
      · rw [Bool.not_eq_true'] at h
        refine q1 ?_ H2 s012
        unfold splitTok
        rw [e]
        exact if_neg (by rw [h]; exact Bool.false_ne_true)
      · rw [Bool.not_eq_false'] at h
        have ev : V.int n = revV (readRev (Txt.partition z atS).2.2) := by rw [e]; rfl
        refine ⟨.str (Txt.partition z atS).1, rfl, _, rfl, by show 2 ≤ sizeLine; decide, fun r nr => ?_⟩
        refine q2 _ n ?_ _ r (s012.put (s012.free nr)) (s012.free nr) (by rw [ev]; exact upd_same)
        unfold splitTok
        rw [e]
        exact if_pos h
/-! ### the law's cells and draws -/
def spCell (K : PySem.W.Frag) : Sp := fun vs H Q _ => ∃ (a : Addr) (ns : List Int) (k : Nat), vs = [.ref a, .int k] ∧ SqL K H a (ns.map V.int) ∧ ns.length ≤ 63 ∧ Q (.int (ns.getD k 0)) H
theorem ok_law_cell (T : Top NN K mg base) : D P w K mg base 1 "_law_cell" ["script", "k"] (spCell K) := by
  refine T.ok0 (d := d_law_cell) i_law_cell rfl rfl rfl rfl (by decide +kernel) sc_law_cell (fun _ _ _ _ _ _ us hl => match us, hl with | [_, _], _ => rfl) (fun vs H Q E h => ?_) (fun cdv A outer s H vs Q E ec hr h => ?_)
  · obtain ⟨a, ns, k, rfl, _⟩ := h
    rfl
  · obtain ⟨a, ns, k, rfl, hS, hl, q⟩ := h
    have nl := T.f "len" (by decide +kernel)
    refine ⟨_, pss_cons (ps_if (pt_cmpR op_lt (pv 1) (pe_callB call_len_seq (by rfl) nl PySem.boot_len (pa_cons (pv 0) pa_nil)) (nomark _)) (pss_one (ps_ret (pe_ix ix_list (pv 0) (pv 1) (fun _ _ => rfl)))) pss_nil)
      (pss_one (ps_ret pe_int)), ?_⟩
    refine ⟨_, rfl, .ref a, rfl, a, _, rfl, .inl hS, k, _, rfl, rfl, _, rfl, iteB (fun h => ?_) fun h => ?_⟩
    · have h1 : (k : Int) < ((ns.map V.int).length : Int) := of_decide_eq_true h
      rw [List.length_map] at h1
      have h2 : k < ns.length := by omega
      refine ⟨.ref a, rfl, .int k, rfl, a, _, k, .int (ns.getD k 0), rfl, rfl, hS, atI_nat (j := k) ?_, q⟩
      rw [List.getElem?_map, List.getElem?_eq_getElem h2, List.getD_eq_getElem?_getD, List.getElem?_eq_getElem h2]
      rfl
    · have h1 : ¬ (k : Int) < ((ns.map V.int).length : Int) := of_decide_eq_false h
      rw [List.length_map] at h1
      have h2 : ns.length ≤ k := by omega
      have e : ns.getD k 0 = 0 := by rw [List.getD_eq_getElem?_getD, List.getElem?_eq_none h2]; rfl
      rw [e] at q
      exact q
def mixed (c : Int) (k : Nat) : Int := (c * 48271 + (0 + (k : Int)) * 69621) % 2147483647
/-- a promise: a cell and a count; a new list of so many numbers from 0 on, below 1000003 -/
def Drawn3 (n : Nat) (ds : List Int) : Prop := ds.length = n ∧ ∀ d ∈ ds, 0 ≤ d ∧ d < 1000003
def spDraws : Sp := fun vs H Q _ => ∃ (c : Int) (n : Nat), vs = [.int c, .int n] ∧ n ≤ 100 ∧ ∀ H' p ds, Drawn3 n ds → Sm H H' → H p = none → H' p = some (.lst (ds.map V.int)) → Q (.ref p) H'
theorem ok_law_draws (T : Top NN K mg base) : D P w K mg base 1 "_law_draws" ["cell", "count"] spDraws := by
  refine T.ok0 (d := d_law_draws) i_law_draws rfl rfl rfl rfl (by decide +kernel) sc_law_draws (fun _ _ _ _ _ _ us hl => match us, hl with | [_, _], _ => rfl) (fun vs H Q E h => ?_) (fun cdv A outer s H vs Q E ec hr h => ?_)
  · obtain ⟨a, k, rfl, _⟩ := h
    rfl
  · obtain ⟨c, n, rfl, hn, q⟩ := h
    have nr := T.f "range" (by decide +kernel)
    have ni := T.f "int" (by decide +kernel)
    refine ⟨_, pss_cons (ps_set (i := 2) sc_law_draws.nd rfl (.inl rfl) (pe_lst pa_nil))
      (pss_cons (ps_set (i := 3) sc_law_draws.nd rfl (.inl rfl) (pe_cmpR op_ge (pv 0) (pe_op op_pow pe_int pe_int) (nomark _)))
      (pss_cons (ps_for PassesOwn.never rfl (pi_range1 rfl nr (pa_cons (pv 1) pa_nil)) (pg_name (i := 4) sc_law_draws.nd rfl (.inl rfl))
        (pss_one (ps_if (pt_val (pv 3))
          (pss_cons (ps_expr (pe_bm PySem.F.plainAttrs_list PySem.F.slot_list_append PySem.F.type_list_append mt_append (pv 2) (pa_cons (pe_op op_mod (pe_callTy call_int1 (by rfl) ni (by decide +kernel) (pa_cons (pv 0) pa_nil)) pe_int) pa_nil)))
            (pss_one (ps_set (i := 0) sc_law_draws.nd rfl (.inl rfl) (pe_op op_fdivN (pv 0) pe_int))))
          (pss_cons (ps_set (i := 5) sc_law_draws.nd rfl (.inl rfl) (pe_op op_mod (pe_callTy call_int1 (by rfl) ni (by decide +kernel) (pa_cons (pe_op op_add (pe_op op_mul (pv 0) pe_int) (pe_op op_mul (pv 4) pe_int)) pa_nil)) pe_int))
            (pss_one (ps_expr (pe_bm PySem.F.plainAttrs_list PySem.F.slot_list_append PySem.F.type_list_append mt_append (pv 2) (pa_cons (pe_op op_mod (pe_callTy call_int1 (by rfl) ni (by decide +kernel) (pa_cons (pe_op op_add (pe_op op_add (pe_op op_mul (pv 5) (pv 5)) (pe_op op_mul (pv 0) pe_int)) (pv 4)) pa_nil)) pe_int) pa_nil))))))))
      (pss_one (ps_ret (pv 2))))), ?_⟩
    refine ⟨Nat.zero_le _, fun o no => ?_⟩
    refine ⟨_, rfl, 10, 18, rfl, rfl, ⟨by decide, by decide, by decide⟩, c, _, rfl, rfl, ?_⟩
    refine ⟨_, rfl, n, rfl, by omega, by omega, for_range (n := (n : Int).toNat) (fun i σ H' => ∃ (c' : Int) (y4 y5 : Option V) (wd : Bool) (ds : List Int), σ = [some (.int c'), some (.int n), some (.ref o), some (.bl wd), y4, y5] ∧ Drawn3 i ds ∧ Sm H H' ∧ H' o = some (.lst (ds.map V.int)))
      ⟨c, none, none, _, [], rfl, ⟨rfl, fun d hd => nomatch hd⟩, Sm.new no, upd_same⟩ (fun i σ H' hi hP => ?_) fun σ H' hP => ?_⟩
    · obtain ⟨c', y4, y5, wd, ds, rfl, ⟨dl, db⟩, sm, eo⟩ := hP
      have hlt : (ds.map V.int).length < sizeLine := by
        rw [List.length_map, dl]
        exact small1000 (by omega)
      have ex : ∀ e : Int, (0 ≤ e ∧ e < 1000003) → Drawn3 (i + 1) (ds ++ [e]) := fun e he => ⟨by rw [List.length_append, dl]; rfl, fun d hd => by
        rcases List.mem_append.mp hd with h | h
        · exact db d h
        · rw [List.mem_singleton.mp h]
          exact he⟩
      have em : ∀ e : Int, (ds.map V.int) ++ [.int e] = (ds ++ [e]).map V.int := fun e => by rw [List.map_append]; rfl
      have rd : ∀ b : Int, 0 ≤ b % 1000003 ∧ b % 1000003 < 1000003 := fun b => ⟨Int.emod_nonneg b (by decide), Int.emod_lt_of_pos b (by decide)⟩
      refine ⟨_, rfl, wd, rfl, iteB (fun h => ?_) fun h => ?_⟩
      · refine ⟨.ref o, rfl, .inl ⟨rfl, _, .inl (.inl eo)⟩, .int c', rfl, .inl ⟨c', rfl, ?_⟩⟩
        refine ⟨c', 1009, rfl, rfl, by show (0 : Int) < 1009; decide, o, _, _, rfl, rfl, eo, hlt, ?_⟩
        refine ⟨.int c', rfl, c', 1009, rfl, rfl, ⟨by decide, by decide⟩, ?_⟩
        have r1 : 0 ≤ c' % 1009 ∧ c' % 1009 < 1000003 := ⟨Int.emod_nonneg c' (by decide), by have := Int.emod_lt_of_pos c' (show (0 : Int) < 1009 by decide); omega⟩
        refine ⟨_, _, _, _, ds ++ [c' % 1009], rfl, ex _ r1, sm.put no, ?_⟩
        rw [← em]
        exact upd_same
      · refine ⟨.int c', rfl, c', 48271, rfl, rfl, .inr ⟨by decide, by decide⟩, .int (0 + i), rfl, _, 69621, rfl, rfl, .inr ⟨by decide, by decide⟩, _, _, rfl, rfl, .inl ⟨_, rfl, _, 2147483647, rfl, rfl, by show (0 : Int) < 2147483647; decide, ?_⟩⟩
        have m1 : 0 ≤ mixed c' i := Int.emod_nonneg _ (by decide)
        have m2 : mixed c' i < 2147483647 := Int.emod_lt_of_pos _ (by decide)
        refine ⟨.ref o, rfl, .inl ⟨rfl, _, .inl (.inl eo)⟩, .int (mixed c' i), rfl, .int (mixed c' i), rfl, mixed c' i, mixed c' i, rfl, rfl, .inl ⟨by omega, by omega⟩, .int c', rfl, c', 31, rfl, rfl, .inr ⟨by decide, by decide⟩, _, _, rfl, rfl, .int (0 + i), rfl, _, _, rfl, rfl,
          .inl ⟨_, rfl, _, 1000003, rfl, rfl, by show (0 : Int) < 1000003; decide, o, _, _, rfl, rfl, eo, hlt, ?_⟩⟩
        refine ⟨_, _, _, _, ds ++ [(mixed c' i * mixed c' i + c' * 31 + (0 + (i : Int))) % 1000003], rfl, ex _ (rd _), sm.put no, ?_⟩
        rw [← em]
        exact upd_same
    · obtain ⟨c', y4, y5, wd, ds, rfl, hd, sm, eo⟩ := hP
      have e : (n : Int).toNat = n := by omega
      rw [e] at hd
      exact ⟨_, rfl, q H' o ds hd sm no eo⟩
end
end A4

set_option Elab.async false
set_option linter.all false
set_option maxRecDepth 100000
set_option maxHeartbeats 4000000
namespace A4
open PySem PySem.Spec PyProof.Rows L2 AS
/-! ### the mathematics of demands: three stores, seven revisions -/
def aS : Str := "a"
def mS : Str := "main"
def uS : Str := "s_1"
def zS : Str := "zz"
def spS : Str := " "
def three : List Str := [aS, mS, uS]
def nums : List Nat := [0, 1, 2, 3, 12, 999, 1000]
structure D3 where
  a : Option Nat
  m : Option Nat
  u : Option Nat
deriving DecidableEq
def D3.new : D3 := ⟨none, none, none⟩
def D3.get (d : D3) (k : Str) : Option Nat := if k = aS then d.a else if k = mS then d.m else if k = uS then d.u else none
def D3.put (d : D3) (k : Str) (n : Nat) : D3 := if k = aS then { d with a := some n } else if k = mS then { d with m := some n } else if k = uS then { d with u := some n } else d
def D3.keys (d : D3) : List Str := three.filter fun k => (d.get k).isSome
/-- whether a token's revision is newer -/
def D3.newer (d : D3) (k : Str) (n : Nat) : Bool := match d.get k with
  | some m => decide (m < n)
  | none => true
def D3.note (d : D3) (k : Str) (n : Nat) : D3 := if d.newer k n = true then d.put k n else d
def D3.tok (d : D3) (k : Str) : Str := match d.get k with
  | some n => tokS k n
  | none => Str.empty
def D3.toks (d : D3) : List Str := d.keys.map d.tok
def D3.text (d : D3) : Str := Txt.join spS d.toks
theorem get_put {d : D3} {k j : Str} {n : Nat} (hk : k ∈ three) : (d.put k n).get j = if j = k then some n else d.get j := by
  have e1 : aS ≠ mS := by decide +kernel
  have e2 : aS ≠ uS := by decide +kernel
  have e3 : mS ≠ uS := by decide +kernel
  rcases List.mem_cons.mp hk with rfl | hk
  · unfold D3.put D3.get
    rw [if_pos rfl]
    by_cases h : j = aS
    · rw [if_pos h, if_pos h]
    · rw [if_neg h, if_neg h, if_neg h]
  rcases List.mem_cons.mp hk with rfl | hk
  · unfold D3.put D3.get
    rw [if_neg (Ne.symm e1), if_pos rfl]
    by_cases h : j = mS
    · rw [if_pos h, h, if_neg (Ne.symm e1), if_pos rfl]
    · rw [if_neg h, if_neg h, if_neg h]
  · obtain rfl := List.mem_singleton.mp hk
    unfold D3.put D3.get
    rw [if_neg (Ne.symm e2), if_neg (Ne.symm e3), if_pos rfl]
    by_cases h : j = uS
    · rw [if_pos h, h, if_neg (Ne.symm e2), if_neg (Ne.symm e3), if_pos rfl]
    · rw [if_neg h, if_neg h, if_neg h]
theorem get_mem {d : D3} {k : Str} {n : Nat} (h : d.get k = some n) : k ∈ three := by
  unfold D3.get at h
  by_cases h1 : k = aS
  · rw [h1]; decide +kernel
  · rw [if_neg h1] at h
    by_cases h2 : k = mS
    · rw [h2]; decide +kernel
    · rw [if_neg h2] at h
      by_cases h3 : k = uS
      · rw [h3]; decide +kernel
      · rw [if_neg h3] at h
        cases h
theorem mem_keys {d : D3} {k : Str} : k ∈ d.keys ↔ (d.get k).isSome = true := by
  unfold D3.keys
  rw [List.mem_filter]
  refine ⟨fun h => h.2, fun h => ⟨?_, h⟩⟩
  obtain ⟨n, e⟩ := Option.isSome_iff_exists.mp h
  exact get_mem e
def lists3 : List (List Str) := [[]] ++ three.map (fun x => [x]) ++ three.flatMap (fun x => three.map fun y => [x, y]) ++ three.flatMap fun x => three.flatMap fun y => three.map fun z => [x, y, z]
theorem lists3_all : ∀ l ∈ lists3, sortedS l = true → l.Nodup → l = three.filter fun k => decide (k ∈ l) := by decide +kernel
theorem no4 : ∀ a ∈ three, ∀ b ∈ three, ∀ c ∈ three, ∀ d ∈ three, a ∈ [b, c, d] ∨ b ∈ [c, d] ∨ c = d := by decide +kernel
theorem sub3 {ys : List Str} (hs : sortedS ys = true) (hn : ys.Nodup) (hm : ∀ k ∈ ys, k ∈ three) : ys = three.filter fun k => decide (k ∈ ys) := by
  refine lists3_all ys ?_ hs hn
  match ys, hn, hm with
  | [], _, _ => decide +kernel
  | [x], _, hm => exact List.mem_append_left _ (List.mem_append_left _ (List.mem_append_right _ (List.mem_map.mpr ⟨x, hm x List.mem_cons_self, rfl⟩)))
  | [x, y], _, hm =>
    exact List.mem_append_left _ (List.mem_append_right _ (List.mem_flatMap.mpr ⟨x, hm x List.mem_cons_self, List.mem_map.mpr ⟨y, hm y (.tail _ (.head _)), rfl⟩⟩))
  | [x, y, z], _, hm =>
    exact List.mem_append_right _ (List.mem_flatMap.mpr ⟨x, hm x List.mem_cons_self, List.mem_flatMap.mpr ⟨y, hm y (.tail _ (.head _)), List.mem_map.mpr ⟨z, hm z (.tail _ (.tail _ (.head _))), rfl⟩⟩⟩)
  | x :: y :: z :: w :: r, hn, hm =>
    exfalso
    rw [List.nodup_cons] at hn
    obtain ⟨n1, hn⟩ := hn
    rw [List.nodup_cons] at hn
    obtain ⟨n2, hn⟩ := hn
    rw [List.nodup_cons] at hn
    obtain ⟨n3, _⟩ := hn
    rcases no4 x (hm x (.head _)) y (hm y (.tail _ (.head _))) z (hm z (.tail _ (.tail _ (.head _)))) w (hm w (.tail _ (.tail _ (.tail _ (.head _))))) with h | h | h
    · exact n1 (List.mem_append_left r (show x ∈ [y, z, w] from h))
    · exact n2 (List.mem_append_left r (show y ∈ [z, w] from h))
    · exact n3 (by rw [h]; exact .head _)
/-- a dict of the heap holds what d tells -/
structure Holds (kvs : List (Key × V)) (d : D3) : Prop where
  val : ∀ k : Str, valV kvs (.inr k) = (d.get k).map fun n => V.int (n : Nat)
  ks : ∃ ks : List Str, kvs.map (·.1) = ks.map Sum.inr ∧ ks.Nodup ∧ ∀ k, k ∈ ks ↔ (d.get k).isSome = true
  ok : ∀ k n, d.get k = some n → n ∈ nums
theorem Holds.new : Holds [] D3.new := by
  have e : ∀ k, D3.new.get k = none := fun k => by
    unfold D3.get D3.new
    split
    · rfl
    · split
      · rfl
      · split <;> rfl
  refine ⟨fun k => ?_, ⟨[], rfl, List.nodup_nil, fun k => ?_⟩, fun k n h => ?_⟩
  · rw [e k]
    rfl
  · rw [e k]
    exact ⟨fun h => (nomatch h), fun h => (nomatch h)⟩
  · rw [e k] at h
    cases h
theorem Holds.put {kvs : List (Key × V)} {d : D3} {k : Str} {n : Nat} (h : Holds kvs d) (hk : k ∈ three) (hn : n ∈ nums) : Holds (putK kvs (.inr k) (.int (n : Nat))) (d.put k n) := by
  refine ⟨fun j => ?_, ?_, fun j m hj => ?_⟩
  · rw [valV_put, get_put hk]
    by_cases e : j = k
    · rw [if_pos e, if_pos (by rw [e])]
      rfl
    · rw [if_neg e, if_neg (fun q => e (Sum.inr.inj q)), h.val j]
  · obtain ⟨ks, e, nd, hm⟩ := h.ks
    by_cases c : (kvs.any fun kv => decide (kv.1 = (Sum.inr k : Key))) = true
    · have hmem : k ∈ ks := by
        obtain ⟨p, hp, hq⟩ := List.any_eq_true.mp c
        have h1 : (Sum.inr k : Key) ∈ kvs.map (·.1) := List.mem_map.mpr ⟨p, hp, of_decide_eq_true hq⟩
        rw [e] at h1
        obtain ⟨x, hx, ex⟩ := List.mem_map.mp h1
        rw [← Sum.inr.inj ex]
        exact hx
      refine ⟨ks, ?_, nd, fun j => ?_⟩
      · unfold putK
        rw [if_pos c, List.map_map, ← e]
        refine List.map_congr_left fun p _ => ?_
        show (if p.1 = (Sum.inr k : Key) then (p.1, V.int (n : Nat)) else p).1 = p.1
        split <;> rfl
      · rw [get_put hk, hm j]
        by_cases q : j = k
        · rw [if_pos q, q, ← hm k]
          exact ⟨fun _ => rfl, fun _ => hmem⟩
        · rw [if_neg q]
    · have hnm : k ∉ ks := fun hx => by
        have h1 : (Sum.inr k : Key) ∈ kvs.map (·.1) := by
          rw [e]
          exact List.mem_map.mpr ⟨k, hx, rfl⟩
        obtain ⟨p, hp, ep⟩ := List.mem_map.mp h1
        exact c (List.any_eq_true.mpr ⟨p, hp, decide_eq_true ep⟩)
      refine ⟨ks ++ [k], ?_, ?_, fun j => ?_⟩
      · unfold putK
        rw [if_neg c, List.map_append, List.map_append, e]
        rfl
      · refine List.nodup_append.mpr ⟨nd, List.nodup_cons.mpr ⟨List.not_mem_nil, List.nodup_nil⟩, fun x hx y hy q => ?_⟩
        rw [List.mem_singleton.mp hy] at q
        exact hnm (q ▸ hx)
      · rw [get_put hk, List.mem_append, hm j]
        by_cases q : j = k
        · rw [if_pos q, q]
          exact ⟨fun _ => rfl, fun _ => .inr List.mem_cons_self⟩
        · rw [if_neg q]
          exact ⟨fun z => z.elim id fun z => absurd (List.mem_singleton.mp z) q, .inl⟩
  · rw [get_put hk] at hj
    by_cases e : j = k
    · rw [if_pos e] at hj
      rw [← Option.some.inj hj]
      exact hn
    · rw [if_neg e] at hj
      exact h.ok j m hj
theorem Holds.sorted {kvs : List (Key × V)} {d : D3} (h : Holds kvs d) : ∃ ks : List Str, kvs.map (·.1) = ks.map Sum.inr ∧ ks.length ≤ 3 ∧ ∀ ys, ys.Perm ks → sortedS ys = true → ys = d.keys := by
  obtain ⟨ks, e, nd, hm⟩ := h.ks
  have k3 : ∀ ys, ys.Perm ks → sortedS ys = true → ys = d.keys := fun ys hp hs => by
    have nd2 : ys.Nodup := hp.nodup_iff.mpr nd
    have hm2 : ∀ k, k ∈ ys ↔ (d.get k).isSome = true := fun k => by rw [hp.mem_iff]; exact hm k
    rw [sub3 hs nd2 fun k hk => by
      obtain ⟨n, q⟩ := Option.isSome_iff_exists.mp ((hm2 k).mp hk)
      exact get_mem q]
    unfold D3.keys
    refine List.filter_congr fun k _ => ?_
    by_cases q : (d.get k).isSome = true
    · rw [q]
      exact decide_eq_true ((hm2 k).mpr q)
    · rw [Bool.not_eq_true] at q
      rw [q]
      exact decide_eq_false fun z => by
        rw [(hm2 k).mp z] at q
        cases q
  refine ⟨ks, e, ?_, k3⟩
  have sub : ∀ k ∈ ks, k ∈ three := fun k hk => by
    obtain ⟨n, q⟩ := Option.isSome_iff_exists.mp ((hm k).mp hk)
    exact get_mem q
  match ks, nd, sub with
  | [], _, _ => exact Nat.zero_le _
  | [_], _, _ => exact Nat.le_of_ble_eq_true rfl
  | [_, _], _, _ => exact Nat.le_of_ble_eq_true rfl
  | [_, _, _], _, _ => exact Nat.le_refl _
  | x :: y :: z :: w :: r, hn, hm =>
    exfalso
    rw [List.nodup_cons] at hn
    obtain ⟨n1, hn⟩ := hn
    rw [List.nodup_cons] at hn
    obtain ⟨n2, hn⟩ := hn
    rw [List.nodup_cons] at hn
    obtain ⟨n3, _⟩ := hn
    rcases no4 x (hm x (.head _)) y (hm y (.tail _ (.head _))) z (hm z (.tail _ (.tail _ (.head _)))) w (hm w (.tail _ (.tail _ (.tail _ (.head _))))) with h | h | h
    · exact n1 (List.mem_append_left r (show x ∈ [y, z, w] from h))
    · exact n2 (List.mem_append_left r (show y ∈ [z, w] from h))
    · exact n3 (by rw [h]; exact .head _)
theorem Holds.len {kvs : List (Key × V)} {d : D3} (h : Holds kvs d) : kvs.length ≤ 3 := by
  obtain ⟨ks, e, hl, _⟩ := h.sorted
  have := congrArg List.length e
  rw [List.length_map, List.length_map] at this
  omega
theorem splitTok_tok : ∀ k ∈ three, ∀ n ∈ nums, splitTok (tokS k (n : Nat)) = some (k, n) := by decide +kernel
theorem tok_len : ∀ k ∈ three, ∀ n ∈ nums, (tokS k (n : Nat)).length ≤ 9 := by decide +kernel
theorem three_len : ∀ k ∈ three, k.length ≤ 4 := by decide +kernel
theorem nums_le : ∀ n ∈ nums, n ≤ 1000 := by decide +kernel
theorem toks_len {d : D3} (ok : ∀ k n, d.get k = some n → n ∈ nums) : (∀ t ∈ d.toks, t.length ≤ 9) ∧ d.toks.length ≤ 3 := by
  refine ⟨fun t ht => ?_, ?_⟩
  · obtain ⟨k, hk, rfl⟩ := List.mem_map.mp ht
    obtain ⟨n, e⟩ := Option.isSome_iff_exists.mp (mem_keys.mp hk)
    unfold D3.tok
    rw [e]
    exact tok_len k (get_mem e) n (ok k n e)
  · unfold D3.toks D3.keys
    rw [List.length_map]
    exact List.length_filter_le _ _
/-! ### a demand in the heap -/
def DemAt (K : PySem.W.Frag) (H : Hp) (a : Addr) (d : D3) (q : Addr) : Prop := ∃ dx kvs, H a = some (.ins (He.ga K "Demand") dx [("_newest", .ref q)]) ∧ H q = some (.dK kvs) ∧ Holds kvs d
theorem DemAt.sm {K : PySem.W.Frag} {H H' : Hp} {a q : Addr} {d : D3} (e : Sm H H') (h : DemAt K H a d q) : DemAt K H' a d q := by
  obtain ⟨dx, kvs, h1, h2, h3⟩ := h
  exact ⟨dx, kvs, e.keep _ _ h1 fun _ z => (nomatch z), e.keep _ _ h2 fun _ z => (nomatch z), h3⟩
theorem DemAt.ne {K : PySem.W.Frag} {H : Hp} {a q : Addr} {d : D3} (h : DemAt K H a d q) : a ≠ q := fun e => by
  obtain ⟨dx, kvs, h1, h2, h3⟩ := h
  rw [e, h2] at h1
  cases h1
theorem DemAt.put {K : PySem.W.Frag} {H : Hp} {a q : Addr} {d d' : D3} {kvs : List (Key × V)} (h : DemAt K H a d q) (h' : Holds kvs d') : DemAt K (upd H q (.dK kvs)) a d' q := by
  have ne := h.ne
  obtain ⟨dx, kvs, h1, h2, h3⟩ := h
  exact ⟨dx, _, by rw [upd_ne ne]; exact h1, upd_same, h'⟩
theorem DemAt.other {K : PySem.W.Frag} {H : Hp} {a b q r : Addr} {d e : D3} {o : HO} (h : DemAt K H a d q) (hb : DemAt K H b e r) (n : q ≠ r) : DemAt K (upd H r o) a d q := by
  obtain ⟨dx, kvs, h1, h2, h3⟩ := h
  obtain ⟨_, _, g1, g2, _⟩ := hb
  have na : a ≠ r := fun z => by
    rw [z, g2] at h1
    cases h1
  exact ⟨dx, kvs, by rw [upd_ne na]; exact h1, by rw [upd_ne n]; exact h2, h3⟩
theorem DemAt.tabs {K : PySem.W.Frag} {tf : List He.Defn} {H : Hp} {a q : Addr} {d : D3} {o : HO} (h : DemAt K H a d q) (t : Tabs K tf H) : Tabs K tf (upd H q o) := by
  obtain ⟨dx, kvs, h1, h2, h3⟩ := h
  exact t.updB h2 fun _ z => nomatch z
theorem updBoth {H H' : Hp} {q : Addr} {o : HO} (e : Sm H H') : Sm (upd H q o) (upd H' q o) := by
  refine ⟨fun b u hb n => ?_, fun b ps hb => ?_⟩
  · by_cases z : b = q
    · rw [z, upd_same] at hb ⊢
      exact hb
    · rw [upd_ne z] at hb ⊢
      exact e.keep b u hb n
  · by_cases z : b = q
    · rw [z, upd_same] at hb ⊢
      exact ⟨ps, hb, fun z => z⟩
    · rw [upd_ne z] at hb ⊢
      exact e.tab b ps hb
end A4

set_option Elab.async false
set_option linter.all false
set_option maxRecDepth 100000
set_option maxHeartbeats 4000000
namespace A4
open PySem PySem.Spec PyProof.Rows L2 AS
abbrev DC (K : PySem.W.Frag) (mg : Str → Option Value) : Prop := ClsC K mg "Demand" ["_newest"] ["note", "take", "token_for", "tokens", "text", "is_met"]
abbrev M (P : Program) (w : World) (K : PySem.W.Frag) (mg : Str → Option Value) (base : Heap) (k : Nat) (m : Str) (ps : List Str) (sp : Sp) : Prop := MOk P w K mg base CX0 k "Demand" m ps sp
def spInitD (K : PySem.W.Frag) : Sp := fun vs H Q _ => ∃ a dx, vs = [.ref a] ∧ H a = some (.ins (He.ga K "Demand") dx []) ∧ ∀ q, H q = none → Q .non (upd (upd H q (.dK [])) a (.ins (He.ga K "Demand") dx [("_newest", .ref q)]))
def spNote (K : PySem.W.Frag) (tf : List He.Defn) : Sp := fun vs H Q _ => ∃ a k n d q, vs = [.ref a, .str (tokS k (n : Nat))] ∧ DemAt K H a d q ∧ k ∈ three ∧ n ∈ nums ∧ Tabs K tf H ∧
  ∀ kvs H', Holds kvs (d.note k n) → Sm (upd H q (.dK kvs)) H' → Q (.bl (d.newer k n)) H'
def spTokFor (K : PySem.W.Frag) : Sp := fun vs H Q _ => ∃ a k d q, vs = [.ref a, .str k] ∧ DemAt K H a d q ∧ Q (.str (d.tok k)) H
def spToks (K : PySem.W.Frag) : Sp := fun vs H Q _ => ∃ a d q, vs = [.ref a] ∧ DemAt K H a d q ∧ ∀ H' p, Sm H H' → H p = none → H' p = some (.lst (d.toks.map V.str)) → Q (.ref p) H'
def spTextD (K : PySem.W.Frag) : Sp := fun vs H Q _ => ∃ a d q, vs = [.ref a] ∧ DemAt K H a d q ∧ ∀ H', Sm H H' → Q (.str d.text) H'
def D3.met (d : D3) (k : Str) (n : Nat) : Bool := match d.get k with
  | some m => decide (m ≤ n)
  | none => true
def spMet (K : PySem.W.Frag) : Sp := fun vs H Q _ => ∃ a k n d q, vs = [.ref a, .str k, .int (n : Nat)] ∧ DemAt K H a d q ∧ Q (.bl (d.met k n)) H
section
variable {P : Program} {w : World} {K : PySem.W.Frag} {mg : Str → Option Value} {base : Heap}
theorem ok_init (T : Top NN K mg base) (R : DC K mg) : M P w K mg base 1 "__init__" ["self"] (spInitD K) := by
  refine MOk.mk (T.okM (d := dDemand_init) iDemand_init rfl rfl rfl rfl scDemand_init (fun _ _ _ _ _ _ us hl => match us, hl with | [_], _ => rfl) (fun vs H Q E h => ?_) (fun cdv A outer s H vs Q E hr h => ?_))
  · obtain ⟨a, dx, rfl, _⟩ := h
    rfl
  · obtain ⟨a, dx, rfl, ha, q⟩ := h
    refine ⟨_, PSs.nox (pss_one (ps_fld (pv 0) pe_dnewK rfl)), ?_⟩
    refine fun p np => ⟨.ref a, rfl, a, _, dx, [], rfl, ?_, R.cl, R.no _ (.head _), by decide, q p np⟩
    have na : a ≠ p := fun e => by
      rw [e, np] at ha
      cases ha
    rw [upd_ne na]
    exact ha
theorem ok_note (T : Top NN K mg base) (R : DC K mg) : M P w K mg base 4 "note" ["self", "token"] (spNote K NN.tf) := by
  refine MOk.mk (T.okM (d := dDemand_note) iDemand_note rfl rfl rfl rfl scDemand_note (fun _ _ _ _ _ _ us hl => match us, hl with | [_, _], _ => rfl) (fun vs H Q E h => ?_) (fun cdv A outer s H vs Q E hr h => ?_))
  · obtain ⟨a, k, n, d, q, rfl, _⟩ := h
    rfl
  · obtain ⟨a, k, n, d, q, rfl, hD, hk, hn, hT, hq⟩ := h
    have G_split_token := ok_split_token (P := P) (w := w) T
    refine ⟨_, PSs.nox (pss_cons (ps_asg (pe_callD G_split_token hr (pa_cons (pv 1) pa_nil)) (pg_tup (by rfl) (pgs_cons (pg_name (i := 2) scDemand_note.nd rfl (.inl rfl)) (pgs_cons (pg_name (i := 3) scDemand_note.nd rfl (.inl rfl)) pgs_nil))))
      (pss_cons (ps_if (PW.pt (pw_and (pt_cmp (pc_din (hu_of hr) (pv 2) (pe_fld (pv 0) rfl)) rfl) (pw_and1 (pt_cmpR op_le (pv 3) (pe_dget (hu_of hr) (pe_fld (pv 0) rfl) (pv 2) (fun _ _ => rfl)) (nomark _))))) (pss_one (ps_ret pe_bl)) pss_nil)
      (pss_cons (ps_dput (hu_of hr) (pe_fld (pv 0) rfl) (pv 2) (pv 3) rfl)
      (pss_one (ps_ret pe_bl))))), ?_⟩
    have big : (1000 : Nat) ≤ sizeLine := by decide
    have tl9 := tok_len k hk n hn
    refine ⟨.str (tokS k (n : Nat)), rfl, _, rfl, by omega, hT, fun e => ?_, fun k' n' e H1 p s1 np ep => ?_⟩
    · rw [splitTok_tok k hk n hn] at e
      cases e
    rw [splitTok_tok k hk n hn] at e
    cases e
    refine ⟨p, _, rfl, .inl (.inl ep), rfl, _, _, rfl, _, _, rfl, rfl, ?_⟩
    have hD1 := hD.sm s1
    obtain ⟨dx, kvs, h1, h2, h3⟩ := hD1
    have g0 : H q = some (.dK kvs) := by
      obtain ⟨_, kv0, _, g2, _⟩ := hD
      have := s1.keep _ _ g2 fun _ z => nomatch z
      rw [h2] at this
      rw [g2, Option.some.inj this]
    have fin : ∀ kvs', Sm (upd H q (.dK kvs')) (upd H1 q (.dK kvs')) := fun kvs' => updBoth s1
    refine ⟨.str k, rfl, .ref a, rfl, a, _, dx, _, _, rfl, h1, R.cl, R.no _ (.head _), rfl, q, _, rfl, .inl ⟨kvs, .inr k, .inl h2, rfl, rfl⟩, ?_⟩
    rw [h3.val k]
    have h3p : Holds (putK kvs (.inr k) (.int (n : Nat))) (d.put k n) := h3.put hk hn
    have hlen : kvs.length < sizeLine := Nat.lt_of_le_of_lt h3.len (by decide)
    have store : d.newer k n = true → (fun (kvs' : List (Key × V)) => Q (.bl true) (upd H1 q (.dK kvs'))) (putK kvs (.inr k) (.int (n : Nat))) := fun e => by
      have e2 : d.note k n = d.put k n := by
        unfold D3.note
        rw [if_pos e]
      have z := hq _ _ (by rw [e2]; exact h3p) (fin (putK kvs (.inr k) (.int (n : Nat))))
      rw [e] at z
      exact z
    cases e : d.get k with
    | none =>
      have nw : d.newer k n = true := by
        unfold D3.newer
        rw [e]
      refine ⟨false, rfl, iteF (iteF ⟨.int (n : Nat), rfl, .ref a, rfl, a, _, dx, _, _, rfl, h1, R.cl, R.no _ (.head _), rfl, .str k, rfl, q, _, rfl, .inl ⟨kvs, .inr k, h2, rfl, hlen, rfl⟩, store nw⟩)⟩
    | some m =>
      refine ⟨true, rfl, iteT ⟨.int (n : Nat), rfl, .ref a, rfl, a, _, dx, _, _, rfl, h1, R.cl, R.no _ (.head _), rfl, .str k, rfl, q, .int (m : Nat), rfl, .inl ⟨kvs, .inr k, .inl h2, rfl, by rw [h3.val k, e]; rfl⟩, ?_⟩⟩
      refine ⟨(n : Int), (m : Int), rfl, rfl, _, rfl, ?_⟩
      by_cases c : n ≤ m
      · have nw : d.newer k n = false := by
          unfold D3.newer
          rw [e]
          exact decide_eq_false (by omega)
        refine toIf (decide_eq_true (by omega)) (iteT ?_)
        have e2 : d.note k n = d := by
          unfold D3.note
          rw [if_neg (by rw [nw]; exact Bool.false_ne_true)]
        have z := hq kvs H1 (by rw [e2]; exact h3) (by rw [upd_back g0]; exact s1)
        rw [nw] at z
        exact z
      · have nw : d.newer k n = true := by
          unfold D3.newer
          rw [e]
          exact decide_eq_true (by omega)
        refine toIf (decide_eq_false (by omega)) (iteF ?_)
        exact ⟨.int (n : Nat), rfl, .ref a, rfl, a, _, dx, _, _, rfl, h1, R.cl, R.no _ (.head _), rfl, .str k, rfl, q, _, rfl, .inl ⟨kvs, .inr k, h2, rfl, hlen, rfl⟩, store nw⟩
end
end A4

set_option Elab.async false
set_option linter.all false
set_option maxRecDepth 100000
set_option maxHeartbeats 4000000
namespace A4
open PySem PySem.Spec PyProof.Rows L2 AS
theorem joinL_le (S : List Nat) : ∀ l : List (List Nat), (TL.joinL S l).length ≤ (l.map List.length).sum + l.length * S.length
  | [] => by simp [TL.joinL]
  | [p] => by
    show p.length ≤ _
    simp
  | p :: q :: r => by
    show (p ++ (S ++ TL.joinL S (q :: r))).length ≤ _
    have ih := joinL_le S (q :: r)
    rw [List.length_append, List.length_append, List.map_cons, List.sum_cons, List.length_cons, Nat.succ_mul]
    omega
theorem join_len_le (y : Str) (ys : List Str) : (Txt.join y ys).length ≤ (ys.map (·.length)).sum + ys.length * y.length := by
  rw [TL.len_tl, TL.join_eq, TL.tl_join]
  have h := joinL_le (TL.tl y) (ys.map TL.tl)
  rw [List.map_map, List.length_map] at h
  have e : List.length ∘ TL.tl = fun y : Str => y.length := by
    funext z
    exact (TL.len_tl z).symm
  rw [e, ← TL.len_tl y] at h
  exact h
theorem sum_le {c : Nat} : ∀ {l : List Nat}, (∀ x ∈ l, x ≤ c) → l.sum ≤ l.length * c
  | [], _ => by simp
  | x :: r, h => by
    rw [List.sum_cons, List.length_cons, Nat.succ_mul]
    have := sum_le (l := r) fun y hy => h y (List.mem_cons_of_mem _ hy)
    have := h x (List.mem_cons_self ..)
    omega
theorem toks_sum {d : D3} (ok : ∀ k n, d.get k = some n → n ∈ nums) : (d.toks.map (·.length)).sum + d.toks.length * spS.length ≤ 30 := by
  obtain ⟨h1, h2⟩ := toks_len ok
  have h3 := sum_le (c := 9) (l := d.toks.map (·.length)) fun x hx => by
    obtain ⟨t, ht, rfl⟩ := List.mem_map.mp hx
    exact h1 t ht
  rw [List.length_map] at h3
  have h4 : spS.length = 1 := by decide +kernel
  rw [h4]
  omega
theorem text_len {d : D3} (ok : ∀ k n, d.get k = some n → n ∈ nums) : d.text.length ≤ 30 := Nat.le_trans (join_len_le _ _) (toks_sum ok)
/-- what taking leads to: the demand, and how many were newer -/
def D3.takeL (e : D3) : List Str → D3 × Nat → D3 × Nat
  | [], s => s
  | k :: r, s => e.takeL r (s.1.note k ((e.get k).getD 0), s.2 + if s.1.newer k ((e.get k).getD 0) = true then 1 else 0)
def D3.takes (d e : D3) : D3 × Nat := e.takeL e.keys (d, 0)
theorem takeL_snoc (e : D3) : ∀ (l : List Str) (k : Str) (s : D3 × Nat), e.takeL (l ++ [k]) s = (((e.takeL l s).1.note k ((e.get k).getD 0)), (e.takeL l s).2 + if (e.takeL l s).1.newer k ((e.get k).getD 0) = true then 1 else 0)
  | [], k, s => rfl
  | x :: r, k, s => takeL_snoc e r k _
def spTake (K : PySem.W.Frag) (tf : List He.Defn) : Sp := fun vs H Q _ => ∃ a d q b e r, vs = [.ref a, .ref b] ∧ DemAt K H a d q ∧ DemAt K H b e r ∧ q ≠ r ∧ Tabs K tf H ∧
  ∀ kvs H', Holds kvs (d.takes e).1 → Sm (upd H q (.dK kvs)) H' → Q (.int ((d.takes e).2 : Nat)) H'
section
variable {P : Program} {w : World} {K : PySem.W.Frag} {mg : Str → Option Value} {base : Heap}
theorem ok_token_for (T : Top NN K mg base) (R : DC K mg) : M P w K mg base 2 "token_for" ["self", "store"] (spTokFor K) := by
  refine MOk.mk (T.okM (d := dDemand_token_for) iDemand_token_for rfl rfl rfl rfl scDemand_token_for (fun _ _ _ _ _ _ us hl => match us, hl with | [_, _], _ => rfl) (fun vs H Q E h => ?_) (fun cdv A outer s H vs Q E hr h => ?_))
  · obtain ⟨a, k, d, q, rfl, _⟩ := h
    rfl
  · obtain ⟨a, k, d, q, rfl, ⟨dx, kvs, h1, h2, h3⟩, hq⟩ := h
    have G_token_of := ok_token_of (P := P) (w := w) T
    refine ⟨_, PSs.nox (pss_one (ps_ret (pe_ifExp (pt_cmp (pc_din (hu_of hr) (pv 1) (pe_fld (pv 0) rfl)) rfl) (pe_callD G_token_of hr (pa_cons (pv 1) (pa_cons (pe_dget (hu_of hr) (pe_fld (pv 0) rfl) (pv 1) (fun _ _ => rfl)) pa_nil))) pe_str))), ?_⟩
    refine ⟨.str k, rfl, .ref a, rfl, a, _, dx, _, _, rfl, h1, R.cl, R.no _ (.head _), rfl, q, _, rfl, .inl ⟨kvs, .inr k, .inl h2, rfl, rfl⟩, ?_⟩
    rw [h3.val k]
    cases e : d.get k with
    | none =>
      refine ⟨false, rfl, iteF ?_⟩
      unfold D3.tok at hq
      rw [e] at hq
      exact hq
    | some m =>
      have hm := h3.ok k m e
      have l4 := three_len k (get_mem e)
      have m4 := nums_le m hm
      refine ⟨true, rfl, iteT ⟨.str k, rfl, .ref a, rfl, a, _, dx, _, _, rfl, h1, R.cl, R.no _ (.head _), rfl, .str k, rfl, q, .int (m : Nat), rfl, .inl ⟨kvs, .inr k, .inl h2, rfl, by rw [h3.val k, e]; rfl⟩, k, m, rfl, by omega, by omega, ?_⟩⟩
      unfold D3.tok at hq
      rw [e] at hq
      exact hq
theorem ok_tokens (T : Top NN K mg base) (R : DC K mg) : M P w K mg base 3 "tokens" ["self"] (spToks K) := by
  refine MOk.mk (T.okM (d := dDemand_tokens) iDemand_tokens rfl rfl rfl rfl scDemand_tokens (fun _ _ _ _ _ _ us hl => match us, hl with | [_], _ => rfl) (fun vs H Q E h => ?_) (fun cdv A outer s H vs Q E hr h => ?_))
  · obtain ⟨a, d, q, rfl, _⟩ := h
    rfl
  · obtain ⟨a, d, q, rfl, hD, hq⟩ := h
    have G_Demand_token_for := ok_token_for (P := P) (w := w) T R
    have n_sorted := T.f "sorted" (by decide +kernel)
    have R_Demand := R
    refine ⟨_, PSs.nox (pss_one (ps_ret (pe_lc (own := [("store", 1)]) (g := gName 1) (tt := tYes) rfl scDemand_tokens.nd (pi_list (pe_callB (call_sortedD rfl) (by rfl) n_sorted (by decide +kernel) (pa_cons (pe_fld (pv 0) rfl) pa_nil))) (blkOk_by (N := ["self", "store"]) (sc := defScope sDemand_tokens) (by decide +kernel)) (fun _ _ _ _ _ => (pg_name (i := 1) scDemand_tokens.nd rfl (.inl rfl))) (fun _ _ _ _ _ => pts_nil) (fun _ _ _ _ _ => (pe_methD (K := K) G_Demand_token_for R_Demand (by decide) hr (pv 0) (pa_cons (pv 1) pa_nil)))))), ?_⟩
    obtain ⟨dx, kvs, h1, h2, h3⟩ := hD
    obtain ⟨ks, ek, l3, hs⟩ := h3.sorted
    refine ⟨.ref a, rfl, a, _, dx, _, _, rfl, h1, R.cl, R.no _ (.head _), rfl, q, kvs, ks, rfl, .inl h2, ek, by omega, fun ys p hp hsd np => ?_⟩
    obtain rfl := hs ys hp hsd
    have s0 : Sm H (upd H p (.lst (d.keys.map V.str))) := Sm.new np
    refine ⟨p, rfl, ⟨_, .inl (.inl upd_same)⟩, fun D nD => ?_⟩
    have nDH := s0.free nD
    refine lc_list (K := K) (a := p) (xs := d.keys.map V.str) (fun i H' => Sm H H' ∧ H' p = some (.lst (d.keys.map V.str)) ∧ H' D = some (.lst ((d.keys.take i).map fun k => V.str (d.tok k)))) ⟨s0.put nDH, by rw [upd_ne (ne_of_none upd_same nD)]; exact upd_same, upd_same⟩ (fun i H' _ hP => .inl (.inl hP.2.1)) (fun i x H' hx hP => ?_) fun H' hP => ?_
    · obtain ⟨sm, ep, eD⟩ := hP
      rw [List.getElem?_map] at hx
      obtain ⟨k, hk, rfl⟩ := Option.map_eq_some_iff.mp hx
      refine ⟨rfl, ?_⟩
      refine ⟨.ref a, rfl, a, dx, _, rfl, sm.keep _ _ h1 fun _ z => (nomatch z), rfl, ?_⟩
      refine ⟨.str k, rfl, a, k, d, q, rfl, ⟨dx, kvs, sm.keep _ _ h1 fun _ z => (nomatch z), sm.keep _ _ h2 fun _ z => (nomatch z), h3⟩, _, eD, ?_, sm.put nDH, ?_, ?_⟩
      · rw [List.length_map, List.length_take]
        exact small1000 (Nat.le_trans (Nat.min_le_right _ _) (by unfold D3.keys; exact Nat.le_trans (List.length_filter_le _ _) (by decide)))
      · have n : p ≠ D := fun z => by
          rw [z, upd_same] at nD
          cases nD
        rw [upd_ne n]
        exact ep
      · rw [upd_same, List.take_add_one, hk, List.map_append]
        rfl
    · obtain ⟨sm, ep, eD⟩ := hP
      rw [List.length_map, List.take_length] at eD
      refine hq H' D sm nDH ?_
      rw [eD]
      unfold D3.toks
      rw [List.map_map]
      rfl
theorem ok_text (T : Top NN K mg base) (R : DC K mg) : M P w K mg base 4 "text" ["self"] (spTextD K) := by
  refine MOk.mk (T.okM (d := dDemand_text) iDemand_text rfl rfl rfl rfl scDemand_text (fun _ _ _ _ _ _ us hl => match us, hl with | [_], _ => rfl) (fun vs H Q E h => ?_) (fun cdv A outer s H vs Q E hr h => ?_))
  · obtain ⟨a, d, q, rfl, _⟩ := h
    rfl
  · obtain ⟨a, d, q, rfl, hD, hq⟩ := h
    have G_Demand_tokens := ok_tokens (P := P) (w := w) T R
    refine ⟨_, PSs.nox (pss_one (ps_ret (pe_join pe_str (pe_methD0 (K := K) G_Demand_tokens R (by decide) hr (pv 0))))), ?_⟩
    obtain ⟨dx, kvs, h1, h2, h3⟩ := hD
    refine ⟨⟨_, rfl⟩, .ref a, rfl, a, dx, _, rfl, h1, rfl, a, d, q, rfl, ⟨dx, kvs, h1, h2, h3⟩, fun H' p sm np ep => ?_⟩
    exact ⟨spS, p, d.toks, rfl, rfl, .inl (.inl (.inl ep)), Nat.le_trans (toks_sum h3.ok) (by decide), hq H' sm⟩
theorem ok_is_met (T : Top NN K mg base) (R : DC K mg) : M P w K mg base 1 "is_met" ["self", "store", "revision"] (spMet K) := by
  refine MOk.mk (T.okM (d := dDemand_is_met) iDemand_is_met rfl rfl rfl rfl scDemand_is_met (fun _ _ _ _ _ _ us hl => match us, hl with | [_, _, _], _ => rfl) (fun vs H Q E h => ?_) (fun cdv A outer s H vs Q E hr h => ?_))
  · obtain ⟨a, k, n, d, q, rfl, _⟩ := h
    rfl
  · obtain ⟨a, k, n, d, q, rfl, ⟨dx, kvs, h1, h2, h3⟩, hq⟩ := h
    refine ⟨_, PSs.nox (pss_one (ps_ret (pe_or (pe_cmp (pc_dnotin (hu_of hr) (pv 1) (pe_fld (pv 0) rfl)) rfl) (pe_one (pe_cmpR op_ge (pv 2) (pe_dget (hu_of hr) (pe_fld (pv 0) rfl) (pv 1) (fun _ _ => rfl)) (nomark _)))))), ?_⟩
    refine ⟨.str k, rfl, .ref a, rfl, a, _, dx, _, _, rfl, h1, R.cl, R.no _ (.head _), rfl, q, _, rfl, .inl ⟨kvs, .inr k, .inl h2, rfl, rfl⟩, ?_⟩
    rw [h3.val k]
    unfold D3.met at hq
    cases e : d.get k with
    | none =>
      rw [e] at hq
      exact ⟨true, rfl, iteT hq⟩
    | some m =>
      rw [e] at hq
      refine ⟨false, rfl, iteF ⟨.int (n : Nat), rfl, .ref a, rfl, a, _, dx, _, _, rfl, h1, R.cl, R.no _ (.head _), rfl, .str k, rfl, q, .int (m : Nat), rfl, .inl ⟨kvs, .inr k, .inl h2, rfl, by rw [h3.val k, e]; rfl⟩, (n : Int), (m : Int), rfl, rfl, ?_⟩⟩
      exact toBl (decide_eq_decide.mpr ⟨fun h => by omega, fun h => by omega⟩) hq
end
end A4

set_option Elab.async false
set_option linter.all false
set_option maxRecDepth 100000
set_option maxHeartbeats 4000000
namespace A4
open PySem PySem.Spec PyProof.Rows L2 AS
section
variable {P : Program} {w : World} {K : PySem.W.Frag} {mg : Str → Option Value} {base : Heap}
theorem ok_take (T : Top NN K mg base) (R : DC K mg) : M P w K mg base 5 "take" ["self", "other"] (spTake K NN.tf) := by
  refine MOk.mk (T.okM (d := dDemand_take) iDemand_take rfl rfl rfl rfl scDemand_take (fun _ _ _ _ _ _ us hl => match us, hl with | [_, _], _ => rfl) (fun vs H Q E h => ?_) (fun cdv A outer s H vs Q E hr h => ?_))
  · obtain ⟨a, d, q, b, e, r, rfl, _⟩ := h
    rfl
  · obtain ⟨a, d, q, b, e, r, rfl, hD, hE, hqr, hT, hq⟩ := h
    have G_Demand_note := ok_note (P := P) (w := w) T R
    have G_Demand_tokens := (ok_tokens (P := P) (w := w) T R).mono (show 3 ≤ 4 by decide)
    have R_Demand := R
    refine ⟨_, PSs.nox (pss_cons (ps_set (i := 2) scDemand_take.nd rfl (.inl rfl) pe_int)
      (pss_cons (ps_for PassesOwn.never rfl (pi_list (pe_methD0 (K := K) G_Demand_tokens R_Demand (by decide) hr (pv 1))) (pg_name (i := 3) scDemand_take.nd rfl (.inl rfl)) (pss_one (ps_if (pt_val (pe_methD (K := K) G_Demand_note R_Demand (by decide) hr (pv 0) (pa_cons (pv 3) pa_nil))) (pss_one (ps_aug (i := 2) scDemand_take.nd rfl (.inl rfl) pe_int ip_add)) pss_nil)))
      (pss_one (ps_ret (pv 2))))), ?_⟩
    obtain ⟨ex, kve, g1, g2, g3⟩ := hE
    refine ⟨.ref b, rfl, b, ex, _, rfl, g1, rfl, b, e, r, rfl, ⟨ex, kve, g1, g2, g3⟩, fun H1 p s1 np ep => ?_⟩
    obtain ⟨dx, kv0, h1, h2, h3⟩ := hD
    have hpq : p ≠ q := fun z => by
      rw [z, h2] at np
      cases np
    refine ⟨p, rfl, ⟨_, .inl (.inl ep)⟩, ?_⟩
    refine for_list (K := K) (a := p) (xs := e.toks.map V.str) (fun i σ H' => ∃ u kvs, σ = [some (.ref a), some (.ref b), some (.int ((e.takeL (e.keys.take i) (d, 0)).2 : Nat)), u] ∧ Holds kvs (e.takeL (e.keys.take i) (d, 0)).1 ∧ Sm (upd H q (.dK kvs)) H' ∧ H' p = some (.lst (e.toks.map V.str)))
      ⟨none, kv0, rfl, h3, by rw [upd_back h2]; exact s1, ep⟩ (fun i σ H' _ hP => ?_) (fun i x σ H' hx hP => ?_) fun σ H' hP => ?_
    · obtain ⟨u, kvs, rfl, hk, sm, e1⟩ := hP
      exact .inl (.inl e1)
    · obtain ⟨u, kvs, rfl, hk, sm, e1⟩ := hP
      unfold D3.toks at hx
      rw [List.getElem?_map, List.getElem?_map] at hx
      obtain ⟨y, hy, rfl⟩ := Option.map_eq_some_iff.mp hx
      obtain ⟨k, hk1, rfl⟩ := Option.map_eq_some_iff.mp hy
      have hk3 := List.mem_of_getElem? hk1
      obtain ⟨n, en⟩ := Option.isSome_iff_exists.mp (mem_keys.mp hk3)
      have etok : e.tok k = tokS k (n : Nat) := by
        unfold D3.tok
        rw [en]
      have hDi : DemAt K H' a (e.takeL (e.keys.take i) (d, 0)).1 q := DemAt.sm sm (DemAt.put ⟨dx, kv0, h1, h2, h3⟩ hk)
      have hDi2 := hDi
      obtain ⟨dx', kv', i1, i2, i3⟩ := hDi2
      refine ⟨.ref a, rfl, a, dx', _, rfl, i1, rfl, ?_⟩
      have hTi : Tabs K NN.tf H' := sm.tabs (DemAt.tabs (K := K) (a := a) (d := d) ⟨dx, kv0, h1, h2, h3⟩ hT)
      refine ⟨.str (e.tok k), rfl, a, k, n, _, q, by rw [etok]; rfl, hDi, get_mem en, g3.ok k n en, hTi, fun kvs' H2 hk' sm' => ?_⟩
      have sm2 : Sm (upd H q (.dK kvs')) H2 := by
        have z := updBoth (q := q) (o := .dK kvs') sm
        rw [upd_upd] at z
        exact z.trans sm'
      have ep2 : H2 p = some (.lst (e.toks.map V.str)) := sm'.keep _ _ (by rw [upd_ne hpq]; exact e1) fun _ z => (nomatch z)
      have step := takeL_snoc e (e.keys.take i) k (d, 0)
      rw [en] at step
      have etk : e.keys.take (i + 1) = e.keys.take i ++ [k] := by rw [List.take_add_one, hk1]; rfl
      rw [← etk] at step
      have e1' : (e.takeL (e.keys.take (i + 1)) (d, 0)).1 = (e.takeL (e.keys.take i) (d, 0)).1.note k n := by rw [step]; rfl
      have e2' : (e.takeL (e.keys.take (i + 1)) (d, 0)).2 = (e.takeL (e.keys.take i) (d, 0)).2 + if (e.takeL (e.keys.take i) (d, 0)).1.newer k n = true then 1 else 0 := by rw [step]; rfl
      refine ⟨_, rfl, iteB (fun c => ?_) fun c => ?_⟩
      · refine ⟨_, rfl, ?_⟩
        refine ⟨_, 1, rfl, rfl, some (.str (e.tok k)), kvs', ?_, by rw [e1']; exact hk', sm2, ep2⟩
        rw [e2', c]
        rfl
      · refine ⟨some (.str (e.tok k)), kvs', ?_, by rw [e1']; exact hk', sm2, ep2⟩
        rw [e2', c]
        rfl
    · obtain ⟨u, kvs, rfl, hk, sm, e1⟩ := hP
      have hl : (e.toks.map V.str).length = e.keys.length := by
        unfold D3.toks
        rw [List.length_map, List.length_map]
      rw [hl, List.take_length] at hk ⊢
      exact ⟨_, rfl, hq kvs H' hk sm⟩
end
end A4

set_option Elab.async false
set_option linter.all false
set_option maxRecDepth 100000
set_option maxHeartbeats 4000000
namespace A4
open PySem PySem.Spec PyProof.Rows L2 AS
def noDem : Str := "no demand"
def wordsOf (z : Str) : List Str := if z = Str.empty then [] else Txt.split z spS
def noteW : D3 → List Str → Option D3
  | d, [] => some d
  | d, w :: r => match splitTok w with
    | none => none
    | some (k, n) => noteW (d.note k n) r
def readL (ws : List Str) (z : Str) : Option D3 := match noteW D3.new ws with
  | none => none
  | some d => if d.text = z then some d else none
def readD (z : Str) : Option D3 := readL (wordsOf z) z
def wordOk (w : Str) : Bool := decide (w.length ≤ 30) && match splitTok w with
  | none => true
  | some (k, n) => decide (k ∈ three) && (decide (n ∈ nums) && decide (w = tokS k (n : Nat)))
theorem words_join {ps : List Str} {z : Str} (hz : z = Txt.join spS ps) (h0 : ps = [] → z = Str.empty) (h1 : ps ≠ [] → z ≠ Str.empty) (hp : ∀ p ∈ ps, 32 ∉ tl p) : wordsOf z = ps := by
  unfold wordsOf
  by_cases e : ps = []
  · rw [if_pos (h0 e), e]
  · rw [if_neg (h1 e), hz]
    have e2 : tl spS = 32 :: [] := by decide +kernel
    exact TL.split_join e2 (by decide +kernel) e hp
def opts : List (Option Nat) := none :: nums.map some
def goodB (d : D3) : Bool := decide (readL d.toks d.text = some d) && (d.toks.all wordOk && ((d.toks.all fun p => decide (32 ∉ tl p)) && (decide (d.toks = []) == decide (d.text = Str.empty))))
theorem read_x (x : Option Nat) (h : (opts.all fun y => opts.all fun z => goodB ⟨x, y, z⟩) = true) : ∀ y ∈ opts, ∀ z ∈ opts, goodB ⟨x, y, z⟩ = true := fun y hy z hz => List.all_eq_true.mp (List.all_eq_true.mp h y hy) z hz
theorem read_0 : (opts.all fun y => opts.all fun z => goodB ⟨none, y, z⟩) = true := by decide +kernel
theorem read_1 : (opts.all fun y => opts.all fun z => goodB ⟨some 0, y, z⟩) = true := by decide +kernel
theorem read_2 : (opts.all fun y => opts.all fun z => goodB ⟨some 1, y, z⟩) = true := by decide +kernel
theorem read_3 : (opts.all fun y => opts.all fun z => goodB ⟨some 2, y, z⟩) = true := by decide +kernel
theorem read_4 : (opts.all fun y => opts.all fun z => goodB ⟨some 3, y, z⟩) = true := by decide +kernel
theorem read_5 : (opts.all fun y => opts.all fun z => goodB ⟨some 12, y, z⟩) = true := by decide +kernel
theorem read_6 : (opts.all fun y => opts.all fun z => goodB ⟨some 999, y, z⟩) = true := by decide +kernel
theorem read_7 : (opts.all fun y => opts.all fun z => goodB ⟨some 1000, y, z⟩) = true := by decide +kernel
theorem read_all : ∀ x ∈ opts, ∀ y ∈ opts, ∀ z ∈ opts, goodB ⟨x, y, z⟩ = true := fun x hx => by
  unfold opts nums at hx
  simp only [List.map_cons, List.map_nil, List.mem_cons, List.not_mem_nil, or_false] at hx
  rcases hx with rfl | rfl | rfl | rfl | rfl | rfl | rfl | rfl
  · exact read_x _ read_0
  · exact read_x _ read_1
  · exact read_x _ read_2
  · exact read_x _ read_3
  · exact read_x _ read_4
  · exact read_x _ read_5
  · exact read_x _ read_6
  · exact read_x _ read_7
def bads : List Str := ["main@1 a@2", "a@1 a@2", "a@1  main@2", " ", "a@01", "a", "a@1 "]
def badPs : List (List Str) := [["main@1", "a@2"], ["a@1", "a@2"], ["a@1", "", "main@2"], ["", ""], ["a@01"], ["a"], ["a@1", ""]]
def badB (z : Str) (ps : List Str) : Bool := decide (z = Txt.join spS ps) && (decide (readL ps z = none) && (ps.all wordOk && ((ps.all fun p => decide (32 ∉ tl p)) && (decide (z.length ≤ 30) && (decide (ps ≠ []) && decide (z ≠ Str.empty))))))
theorem bads_all : ∀ i, i < 7 → badB (bads.getD i Str.empty) (badPs.getD i []) = true := by decide +kernel
theorem bad_read {i : Nat} (h : i < 7) : readD (bads.getD i Str.empty) = none ∧ (wordsOf (bads.getD i Str.empty)).all wordOk = true ∧ (bads.getD i Str.empty).length ≤ 30 := by
  have hb := bads_all i h
  unfold badB at hb
  obtain ⟨h1, hb⟩ := He.ba hb
  obtain ⟨h2, hb⟩ := He.ba hb
  obtain ⟨h3, hb⟩ := He.ba hb
  obtain ⟨h4, hb⟩ := He.ba hb
  obtain ⟨h5, hb⟩ := He.ba hb
  obtain ⟨h6, h7⟩ := He.ba hb
  have e := words_join (of_decide_eq_true h1) (fun e => absurd e (of_decide_eq_true h6)) (fun _ => of_decide_eq_true h7) fun p hp => of_decide_eq_true (List.all_eq_true.mp h4 p hp)
  unfold readD
  rw [e]
  exact ⟨of_decide_eq_true h2, h3, of_decide_eq_true h5⟩
theorem in_opts {o : Option Nat} (h : ∀ n, o = some n → n ∈ nums) : o ∈ opts := by
  cases o with
  | none => exact .head _
  | some n => exact .tail _ (List.mem_map.mpr ⟨n, h n rfl, rfl⟩)
theorem read_text {d : D3} (ok : ∀ k n, d.get k = some n → n ∈ nums) : readD d.text = some d ∧ (wordsOf d.text).all wordOk = true := by
  have h1 := in_opts (o := d.a) fun n e => ok aS n (by unfold D3.get; rw [if_pos rfl]; exact e)
  have h2 := in_opts (o := d.m) fun n e => ok mS n (by unfold D3.get; rw [if_neg (by decide +kernel), if_pos rfl]; exact e)
  have h3 := in_opts (o := d.u) fun n e => ok uS n (by unfold D3.get; rw [if_neg (by decide +kernel), if_neg (by decide +kernel), if_pos rfl]; exact e)
  have hb : goodB d = true := read_all _ h1 _ h2 _ h3
  unfold goodB at hb
  obtain ⟨g1, hb⟩ := He.ba hb
  obtain ⟨g2, hb⟩ := He.ba hb
  obtain ⟨g3, g4⟩ := He.ba hb
  have iff : (d.toks = [] ↔ d.text = Str.empty) := decide_eq_decide.mp (eq_of_beq g4)
  have e := words_join (z := d.text) rfl iff.mp (fun n q => n (iff.mpr q)) fun p hp => of_decide_eq_true (List.all_eq_true.mp g3 p hp)
  unfold readD
  rw [e]
  exact ⟨of_decide_eq_true g1, g2⟩
theorem noteW_snoc : ∀ (l : List Str) (w : Str) (d : D3), noteW d (l ++ [w]) = match noteW d l with
    | none => none
    | some e => match splitTok w with
      | none => none
      | some (k, n) => some (e.note k n)
  | [], w, d => by
    show (match splitTok w with | none => none | some (k, n) => noteW (d.note k n) []) = _
    cases splitTok w with
    | none => rfl
    | some p => rfl
  | x :: l, w, d => by
    show (match splitTok x with | none => none | some (k, n) => noteW (d.note k n) (l ++ [w])) = (match (match splitTok x with | none => none | some (k, n) => noteW (d.note k n) l) with | none => none | some e => match splitTok w with | none => none | some (k, n) => some (e.note k n))
    cases splitTok x with
    | none => rfl
    | some p => exact noteW_snoc l w _
theorem noteW_none : ∀ (l : List Str) (i : Nat) (w : Str) (d : D3), l[i]? = some w → splitTok w = none → noteW d l = none
  | [], i, w, d, h, _ => by cases h
  | x :: l, 0, w, d, h, e => by
    cases h
    show (match splitTok x with | none => none | some (k, n) => noteW (d.note k n) l) = none
    rw [e]
  | x :: l, i + 1, w, d, h, e => by
    show (match splitTok x with | none => none | some (k, n) => noteW (d.note k n) l) = none
    cases splitTok x with
    | none => rfl
    | some p => exact noteW_none l i w _ h e
end A4

set_option Elab.async false
set_option linter.all false
set_option maxRecDepth 100000
set_option maxHeartbeats 4000000
namespace A4
open PySem PySem.Spec PyProof.Rows L2 AS
section
variable {P : Program} {w : World} {K : PySem.W.Frag} {mg : Str → Option Value} {base : Heap}
theorem ok_BadFeed_init (T : Top NN K mg base) (B : VeInit K (He.ga K "AuthError")) : ∃ fd, FnOk P w K mg base CX0 1 (He.ma K (He.ga K "BadFeed") "__init__") fd ["self", "line", "what"] (spInit K "line" "what") ∧ Binds K fd ["self", "line", "what"] [] := by
  have gA := T.g "AuthError" (by decide +kernel)
  refine T.okM (d := dBadFeed_init) iBadFeed_init rfl rfl rfl rfl scBadFeed_init (fun _ _ _ _ _ _ us hl => match us, hl with | [_, _, _], _ => rfl) (fun vs H Q E h => ?_) (fun cdv A outer s H vs Q E hr h => ?_)
  · obtain ⟨a, C, x, y, rfl, _⟩ := h
    rfl
  · obtain ⟨a, C, x, y, rfl, hx, hy, ox, n1, n2, ha, q⟩ := h
    refine ⟨_, PSs.nox (pss_cons (ps_expr (pe_clsinit rfl gA B (pa_cons (pv 0) (pa_cons (pe_joined (PJ.cons pe_str (PJ.cons (pe_fmt (pv 1)) (PJ.cons pe_str (PJ.cons (pe_fmt (pv 2)) PJ.nil))))) pa_nil))))
      (pss_cons (ps_ost (pv 0) (pv 1)) (pss_one (ps_ost (pv 0) (pv 2))))), ?_⟩
    have big : (10000 : Nat) ≤ sizeLine := by decide
    have la : ∀ (x y : Str), (x ++ y).length = x.length + y.length := fun x y => Str.length_append x y
    have ex : ∀ (u v : Str) (m n : Nat), u.length ≤ m → v.length ≤ n → (u ++ v).length ≤ m + n := fun u v m n h1 h2 => by
      rw [la]
      omega
    refine ⟨.ref a, rfl, _, rfl, by decide +kernel, x, rfl, ?_⟩
    dsimp only
    refine fmt_fld hx fun l hl => ?_
    have b1 : (Str.empty ++ "line " : Str).length ≤ 5 := by decide +kernel
    have b2 := ex _ l 5 1000 b1 hl
    have b3 := ex _ (": " : Str) _ 2 b2 (by decide +kernel)
    refine ⟨l, rfl, Nat.le_trans b2 (by omega), _, rfl, Nat.le_trans b3 (by omega), y, rfl, ?_⟩
    dsimp only
    refine fmt_fld hy fun t ht => ?_
    have b4 := ex _ t _ 1000 b3 ht
    refine ⟨t, rfl, Nat.le_trans b4 (by omega), a, C, _, rfl, by show 1 ≤ 1000; decide, ox, ha, ?_⟩
    -- self.line = line
    refine ⟨x, rfl, .ref a, rfl, a, C, rfl, ox, n1, .inl ⟨ha, fun d hd hda => ?_⟩⟩
    -- self.what = what
    refine ⟨y, rfl, .ref a, rfl, a, C, rfl, ox, n2, .inr ⟨d, [("line", x)], upd_same, by rw [upd_ne hda]; exact upd_same, by show 1 ≤ 900; decide, q d hd hda⟩⟩
end
end A4

set_option Elab.async false
set_option linter.all false
set_option maxRecDepth 100000
set_option maxHeartbeats 4000000
namespace A4
open PySem PySem.Spec PyProof.Rows L2 AS
def spRead (K : PySem.W.Frag) (tf : List He.Defn) : Sp := fun vs H Q E => ∃ z : Str, vs = [.str z] ∧ z.length ≤ 30 ∧ Tabs K tf H ∧ (wordsOf z).all wordOk = true ∧
  (∀ d, readD z = some d → ∀ H' a q, Sm H H' → H a = none → H q = none → DemAt K H' a d q → Q (.ref a) H') ∧
  (readD z = none → ∀ dd H', Sm H H' → H dd = none → H' dd = some (.xd [("what", .str noDem), ("line", .int 1)]) → E (.ref (He.ga K "BadFeed")) (some dd) H')
section
variable {P : Program} {w : World} {K : PySem.W.Frag} {mg : Str → Option Value} {base : Heap}
theorem ok_read_demand (T : Top NN K mg base) (B : VeInit K (He.ga K "AuthError")) (R_BadFeed : ErrC K mg "BadFeed" "line" "what") (R_Demand : DC K mg) : DOk P w K mg base (CX P w) 5 "read_demand" ["text"] (spRead K NN.tf) := by
  refine T.ok (d := dread_demand) iread_demand rfl rfl rfl rfl (by decide +kernel) scread_demand (fun _ _ _ _ _ _ us hl => match us, hl with | [_], _ => rfl) (fun vs H Q E h => ?_) (fun cdv A outer s H vs Q E ec hr h => ?_)
  · obtain ⟨z, rfl, _⟩ := h
    rfl
  · obtain ⟨z, rfl, hz, hT, hw, q1, q2⟩ := h
    have G_Demand_init := ok_init (P := P) (w := w) T R_Demand
    have G_Demand_note := ok_note (P := P) (w := w) T R_Demand
    have G_Demand_text := ok_text (P := P) (w := w) T R_Demand
    have G_split_token := (ok_split_token (P := P) (w := w) T).mono (show 3 ≤ 4 by decide)
    obtain ⟨fE, F_BadFeed, b_BadFeed⟩ := ok_BadFeed_init (P := P) (w := w) T B
    have hrE := hr.mono (show 2 ≤ 4 by decide)
    refine ⟨_, (pss_cons (ps_set (i := 1) scread_demand.nd rfl (.inl rfl) (pe_makeD0 (K := K) G_Demand_init R_Demand hrE))
      (pss_cons (ps_set (i := 2) scread_demand.nd rfl (.inl rfl) (pe_ifExp (pt_cmpR op_eq (pv 0) pe_str (nomark _)) (pe_lst pa_nil) (pe_split (pv 0) pe_str)))
      (pss_cons (ps_for (passes_of rfl) rfl (pi_list (pv 2)) (pg_name (i := 3) scread_demand.nd rfl (.inl rfl)) (pss_cons (ps_if (pt_cmpR op_isN (pe_callD G_split_token hr (pa_cons (pv 3) pa_nil)) pe_non (nomark _)) (pss_one (ps_raise rfl (takes_of rfl rfl rfl rfl) (pmk_oex R_BadFeed.ox R_BadFeed.iC R_BadFeed.tI F_BadFeed hrE b_BadFeed .nil pass0 rfl R_BadFeed.gl (pa_cons pe_int (pa_cons pe_str pa_nil))))) pss_nil)
      (pss_one (ps_expr (pe_methD (K := K) G_Demand_note R_Demand (by decide) hr (pv 1) (pa_cons (pv 3) pa_nil))))))
      (pss_cons (ps_if (pt_cmpR op_ne (pe_methD0 (K := K) G_Demand_text R_Demand (by decide) hr (pv 1)) (pv 0) (nomark _)) (pss_one (ps_raise rfl (takes_of rfl rfl rfl rfl) (pmk_oex R_BadFeed.ox R_BadFeed.iC R_BadFeed.tI F_BadFeed hrE b_BadFeed .nil pass0 rfl R_BadFeed.gl (pa_cons pe_int (pa_cons pe_str pa_nil))))) pss_nil)
      (pss_one (ps_ret (pv 1))))))), ?_⟩
    have big : (1000000 : Nat) ≤ sizeLine := by decide
    refine fun a dx na nd nda => ⟨a, dx, rfl, upd_same, fun q nq => ⟨rfl, ?_⟩⟩
    have naH : H a = none := na
    have nqa : q ≠ a := fun e => by
      rw [e, upd_same] at nq
      cases nq
    have nqH : H q = none := by
      rw [upd_ne nqa] at nq
      exact (Sm.new nd).free nq
    have s0 : Sm H (upd (upd (upd (upd H dx (.own a)) a (.ins (He.ga K "Demand") dx [])) q (.dK [])) a (.ins (He.ga K "Demand") dx [("_newest", .ref q)])) := (((Sm.new nd).put na).put nqH).put na
    have hD0 : DemAt K (upd (upd (upd (upd H dx (.own a)) a (.ins (He.ga K "Demand") dx [])) q (.dK [])) a (.ins (He.ga K "Demand") dx [("_newest", .ref q)])) a D3.new q := ⟨dx, [], upd_same, by rw [upd_ne nqa]; exact upd_same, Holds.new⟩
    generalize (upd (upd (upd (upd H dx (.own a)) a (.ins (He.ga K "Demand") dx [])) q (.dK [])) a (.ins (He.ga K "Demand") dx [("_newest", .ref q)])) = H0 at s0 hD0
    have fail : ∀ {H' : Hp}, Sm H H' → readD z = none → ∀ dd H2, Sm H' H2 → H' dd = none → H2 dd = some (.xd [("what", .str noDem), ("line", .int 1)]) → E (.ref (He.ga K "BadFeed")) (some dd) H2 := fun sm e dd H2 s2 nd ed => q2 e dd H2 (sm.trans s2) (sm.free nd) ed
    refine cutG (C := fun p H1 => Sm H0 H1 ∧ H0 p = none ∧ H1 p = some (.lst ((wordsOf z).map V.str))) ?G (fun rest => ?br) ?later
    case br =>
      refine ⟨_, rfl, rfl, _, rfl, iteB (fun h => ?_) fun h => ?_⟩
      · have e : z = Str.empty := V.str.inj (of_decide_eq_true h)
        refine ⟨Nat.zero_le _, fun p np => ?_⟩
        have c : Sm H0 (upd H0 p (.lst [])) ∧ H0 p = none ∧ upd H0 p (.lst []) p = some (.lst ((wordsOf z).map V.str)) := ⟨Sm.new np, np, by
          unfold wordsOf
          rw [if_pos e]
          exact upd_same⟩
        generalize upd H0 p (.lst []) = H1 at c ⊢
        exact rest p H1 c
      · have e : z ≠ Str.empty := fun e => of_decide_eq_false h (by rw [e]; rfl)
        refine ⟨.str z, rfl, ⟨_, rfl⟩, z, spS, rfl, rfl, by decide +kernel, by omega, fun p np => ?_⟩
        have c : Sm H0 (upd H0 p (.lst ((Txt.split z spS).map V.str))) ∧ H0 p = none ∧ upd H0 p (.lst ((Txt.split z spS).map V.str)) p = some (.lst ((wordsOf z).map V.str)) := ⟨Sm.new np, np, by
          unfold wordsOf
          rw [if_neg e]
          exact upd_same⟩
        generalize upd H0 p (.lst ((Txt.split z spS).map V.str)) = H1 at c ⊢
        exact rest p H1 c
    case later =>
      intro p H1 c
      obtain ⟨s1, np, ep⟩ := c
      have npq : p ≠ q := fun e => by
        obtain ⟨_, kv, _, k2, _⟩ := hD0
        rw [e, k2] at np
        cases np
      refine ⟨.ref p, rfl, p, rfl, ⟨_, .inl (.inl ep)⟩, ?_⟩
      refine for_list (K := K) (a := p) (xs := (wordsOf z).map V.str) (fun i σ H' => ∃ u d, σ = [some (.str z), some (.ref a), some (.ref p), u] ∧ noteW D3.new ((wordsOf z).take i) = some d ∧ DemAt K H' a d q ∧ Sm H H' ∧ H' p = some (.lst ((wordsOf z).map V.str)))
        ⟨none, D3.new, rfl, rfl, hD0.sm s1, s0.trans s1, ep⟩ (fun i σ H' _ hP => ?_) (fun i x σ H' hx hP => ?_) fun σ H' hP => ?_
      · obtain ⟨u, d, rfl, hn, hD, sm, e1⟩ := hP
        exact .inl (.inl e1)
      · obtain ⟨u, d, rfl, hn, hD, sm, e1⟩ := hP
        rw [List.getElem?_map] at hx
        obtain ⟨y, hy, rfl⟩ := Option.map_eq_some_iff.mp hx
        have hok := List.all_eq_true.mp hw y (List.mem_of_getElem? hy)
        obtain ⟨hy30, hok⟩ := He.ba hok
        have hy30 := of_decide_eq_true hy30
        have etk : (wordsOf z).take (i + 1) = (wordsOf z).take i ++ [y] := by rw [List.take_add_one, hy]; rfl
        refine ⟨.str y, rfl, y, rfl, by omega, sm.tabs hT, fun e H2 s2 => ?_, fun k n e H2 r s2 nr er => ?_⟩
        · refine ⟨rfl, _, rfl, iteT ?_⟩
          have er : readD z = none := by
            unfold readD readL
            rw [noteW_none _ i y _ hy e]
          refine mk_read R_BadFeed (.inl ⟨_, rfl, by omega, by omega⟩) (.inr ⟨noDem, rfl, by decide +kernel⟩) fun dd H4 s4 nd ed => ?_
          exact fail (sm.trans s2) er dd H4 s4 nd ed
        · refine ⟨rfl, _, rfl, iteF ?_⟩
          rw [e] at hok
          obtain ⟨hk, hok⟩ := He.ba hok
          obtain ⟨hn2, hw2⟩ := He.ba hok
          have hk := of_decide_eq_true hk
          have hn2 := of_decide_eq_true hn2
          have hw2 := of_decide_eq_true hw2
          have hD2 := hD.sm s2
          have hD3 := hD2
          obtain ⟨dx2, kv2, k1, k2, k3⟩ := hD3
          refine ⟨.ref a, rfl, a, dx2, _, rfl, k1, rfl, .str y, rfl, a, k, n, d, q, by rw [hw2]; rfl, hD2, hk, hn2, (sm.trans s2).tabs hT, fun kvs' H3 hk' s3 => ?_⟩
          have smq : Sm H (upd H2 q (.dK kvs')) := (sm.trans s2).put nqH
          refine ⟨some (.str y), d.note k n, rfl, ?_, DemAt.sm s3 (hD2.put hk'), smq.trans s3, ?_⟩
          · rw [etk, noteW_snoc, hn]
            dsimp only
            rw [e]
          · exact s3.keep _ _ (by rw [upd_ne npq]; exact s2.lst e1) fun _ z => (nomatch z)
      · obtain ⟨u, d, rfl, hn, hD, sm, e1⟩ := hP
        rw [List.length_map, List.take_length] at hn
        have hD3 := hD
        obtain ⟨dx2, kv2, k1, k2, k3⟩ := hD3
        refine ⟨.ref a, rfl, a, dx2, _, rfl, k1, rfl, a, d, q, rfl, hD, fun H2 s2 => ?_⟩
        refine ⟨.str z, rfl, rfl, _, rfl, ?_⟩
        have e2 : readD z = if d.text = z then some d else none := by
          unfold readD readL
          rw [hn]
        by_cases c : d.text = z
        · refine toIf (b := false) (by rw [c, decide_eq_true rfl]; rfl) (iteF ?_)
          rw [if_pos c] at e2
          exact ⟨.ref a, rfl, q1 d e2 H2 a q (sm.trans s2) naH nqH (hD.sm s2)⟩
        · refine toIf (b := true) ?_ (iteT ?_)
          · rw [Bool.not_eq_true']
            exact decide_eq_false fun h => c (V.str.inj h)
          rw [if_neg c] at e2
          refine mk_read R_BadFeed (.inl ⟨_, rfl, by omega, by omega⟩) (.inr ⟨noDem, rfl, by decide +kernel⟩) fun dd H4 s4 nd ed => ?_
          exact fail (sm.trans s2) e2 dd H4 s4 nd ed
end
end A4

set_option Elab.async false
set_option linter.all false
set_option maxRecDepth 100000
set_option maxHeartbeats 4000000
namespace A4
open PySem PySem.Spec PyProof.Rows L2 AS
def spBad (K : PySem.W.Frag) (tf : List He.Defn) : Sp := fun vs H Q _ => ∃ z : Str, vs = [.str z] ∧ z.length ≤ 30 ∧ Tabs K tf H ∧ (wordsOf z).all wordOk = true ∧ readD z = none ∧ ∀ H', Sm H H' → Q (.bl true) H'
section
variable {P : Program} {w : World} {K : PySem.W.Frag} {mg : Str → Option Value} {base : Heap}
theorem ok_law_is_bad (T : Top NN K mg base) (B : VeInit K (He.ga K "AuthError")) (R : ErrC K mg "BadFeed" "line" "what") (RD : DC K mg) : D P w K mg base 6 "_law_is_bad" ["text"] (spBad K NN.tf) := by
  refine T.ok0 (d := d_law_is_bad) i_law_is_bad rfl rfl rfl rfl (by decide +kernel) sc_law_is_bad (fun _ _ _ _ _ _ us hl => match us, hl with | [_], _ => rfl) (fun vs H Q E h => ?_) (fun cdv A outer s H vs Q E ec hr h => ?_)
  · obtain ⟨l, rfl, _⟩ := h
    rfl
  · obtain ⟨z, rfl, hz, hT, hw, hn, q⟩ := h
    obtain ⟨⟨fd, F, b⟩, kp, gl⟩ := ok_read_demand (P := P) (w := w) T B R RD
    refine ⟨_, PSs.nox (pss_cons (ps_try_as (i := 1) (tb := fun W D σ H => tDrop (tCallS (spRead K NN.tf) (WE W) (tCons (tVar 0) tNil)) D σ H)
      (ts := fun a cls d D σ H => tRet (tAndV (tOp rEq (tXf a cls d (He.ga K "BadFeed") "line" (tVar 1)) (tC (.int 1))) (tOp rEq (tXf a cls d (He.ga K "BadFeed") "what" (tVar 1)) (tC (.str noDem)))) D σ H) (Wout := fun _ _ _ _ => False) rfl rfl sc_law_is_bad.nd rfl rfl ⟨rfl, by decide, .inl R.gl⟩ takes0 ?_ ?_)
      (pss_one (ps_ret pe_bl))), ?_⟩
    · exact fun W pn xe tk _ => pss_one (ps_expr (pe_callS F hr (by rfl) gl kp b (fun σ => passAt tk σ) (pa_cons (pv 0) pa_nil)))
    · exact fun a oe cls d pn hz hf => pss_one (ps_ret (pe_and (pe_cmpR op_eq (pe_xf R.xf R.no1 hz hf (pv 1)) pe_int (nomark _)) (pe_one (pe_cmpR op_eq (pe_xf R.xf R.no2 hz hf (pv 1)) pe_str (nomark _)))))
    refine ⟨_, rfl, z, rfl, hz, hT, hw, fun d e => ?_, fun _ dd H' sm nd ed => ?_⟩
    · rw [hn] at e
      cases e
    · refine ⟨true, R.te, fun _ a na => ?_, fun q => Bool.noConfusion q⟩
      refine ⟨_, rfl, rfl, rfl, dd, _, _, rfl, ed, rfl, rfl, ?_⟩
      refine ⟨true, rfl, iteT ⟨_, rfl, rfl, rfl, dd, _, _, rfl, ed, rfl, rfl, ?_⟩⟩
      exact toBl (by decide +kernel) (q H' sm)
end
end A4

set_option Elab.async false
set_option linter.all false
set_option maxRecDepth 100000
set_option maxHeartbeats 4000000
namespace A4
open PySem PySem.Spec PyProof.Rows L2 AS
theorem ne_same {K : PySem.W.Frag} {H : Hp} {a b : Addr} {zs : List Str} (ha : H a = some (.lst (zs.map V.str))) (hb : H b = some (.lst (zs.map V.str))) {Q : VK} (q : Q (.bl false) H) : rEqP K true (.ref a) (.ref b) H Q := by
  refine ⟨.list (zs.map PyData.str), .list (zs.map PyData.str), .lst (.inl (.inl ha)) (dp_strs K H zs), .lst (.inl (.inl hb)) (dp_strs K H zs), strs_plainAll zs, strs_plainAll zs, ?_, ?_⟩
  · have e : (PyData.list (zs.map PyData.str)).depth = 1 := by
      simp [PyData.depth, strs_depthAll]
    rw [e]
    decide
  · refine toBl ?_ q
    show (!PyData.eqvAll (zs.map PyData.str) (zs.map PyData.str)) = false
    rw [strs_eqv, decide_eq_true rfl]
    rfl
def spShown (K : PySem.W.Frag) (tf : List He.Defn) : Sp := fun vs H Q _ => ∃ a kn d q kvn, vs = [.ref a, .ref kn] ∧ DemAt K H a d q ∧ H kn = some (.dK kvn) ∧ Holds kvn d ∧ Tabs K tf H ∧ ∀ H', Sm H H' → Q (.bl true) H'
theorem met_eq (d : D3) (k : Str) (n : Nat) : d.met k n = decide ((d.get k).getD 0 ≤ n) := by
  unfold D3.met
  cases d.get k with
  | none => exact (decide_eq_true (Nat.zero_le n)).symm
  | some m => rfl
theorem getD_val {kvn : List (Key × V)} {d : D3} (h : Holds kvn d) (k : Str) : (valV kvn (.inr k)).getD (.int 0) = .int ((d.get k).getD 0 : Nat) := by
  rw [h.val k]
  cases d.get k <;> rfl
theorem k_small {d : D3} {kvn : List (Key × V)} (h : Holds kvn d) (k : Str) : (d.get k).getD 0 ≤ 1000 := by
  cases e : d.get k with
  | none => exact Nat.zero_le _
  | some m => exact nums_le m (h.ok k m e)
section
variable {P : Program} {w : World} {K : PySem.W.Frag} {mg : Str → Option Value} {base : Heap}
theorem ok_law_is_shown (T : Top NN K mg base) (B : VeInit K (He.ga K "AuthError")) (R : ErrC K mg "BadFeed" "line" "what") (R_Demand : DC K mg) : D P w K mg base 6 "_law_is_shown" ["demand", "known"] (spShown K NN.tf) := by
  refine T.ok0 (d := d_law_is_shown) i_law_is_shown rfl rfl rfl rfl (by decide +kernel) sc_law_is_shown (fun _ _ _ _ _ _ us hl => match us, hl with | [_, _], _ => rfl) (fun vs H Q E h => ?_) (fun cdv A outer s H vs Q E ec hr h => ?_)
  · obtain ⟨a, kn, d, q, kvn, rfl, _⟩ := h
    rfl
  · obtain ⟨a, kn, d, q, kvn, rfl, hD, hk, hK, hT, hq⟩ := h
    have G_read_demand := ok_read_demand (P := P) (w := w) T B R R_Demand
    have G_Demand_tokens := (ok_tokens (P := P) (w := w) T R_Demand).mono (show 3 ≤ 5 by decide)
    have G_Demand_text := (ok_text (P := P) (w := w) T R_Demand).mono (show 4 ≤ 5 by decide)
    have G_Demand_token_for := (ok_token_for (P := P) (w := w) T R_Demand).mono (show 2 ≤ 5 by decide)
    have G_Demand_is_met := (ok_is_met (P := P) (w := w) T R_Demand).mono (show 1 ≤ 5 by decide)
    have n_sorted := T.f "sorted" (by decide +kernel)
    have n_str := T.f "str" (by decide +kernel)
    refine ⟨_, (pss_cons (ps_setLc (i := 3) (own := [("store", 2)]) (g := gName 2) (tt := tYes) rfl sc_law_is_shown.nd rfl rfl (sw_true rfl rfl rfl (by decide +kernel)) (pi_list (pe_callB (call_sortedD rfl) (by rfl) n_sorted (by decide +kernel) (pa_cons (pv 1) pa_nil))) (blkOk_by (N := ["demand", "known", "store", "due", "number"]) (sc := defScope s_law_is_shown) (by decide +kernel)) (fun _ _ _ _ _ => (pg_name (i := 2) sc_law_is_shown.nd rfl (.inl rfl))) (fun _ _ _ _ _ => pts_nil) (fun _ _ _ _ _ => (pe_op op_add_str (pe_op op_add_str (pv 2) pe_str) (pe_callTy call_str_int (by rfl) n_str (by decide +kernel) (pa_cons (pe_dget (hu_of hr) (pv 1) (pv 2) (fun _ _ => rfl)) pa_nil)))))
      (pss_cons (ps_if (PW.pt (pw_or (pt_cmpR (op_neP hr.units) (pe_methD0 (K := K) G_Demand_tokens R_Demand (by decide) hr (pv 0)) (pv 3) (nomark _)) (pw_or (pt_cmpR op_ne (pe_methD0 (K := K) G_Demand_text R_Demand (by decide) hr (pv 0)) (pe_join pe_str (pv 3)) (nomark _)) (pw_or1 (pt_cmpR (op_neP hr.units) (pe_methD0 (K := K) G_Demand_tokens R_Demand (by decide) hr (pe_callE G_read_demand hr (pa_cons (pe_methD0 (K := K) G_Demand_text R_Demand (by decide) hr (pv 0)) pa_nil))) (pv 3) (nomark _)))))) (pss_one (ps_ret pe_bl)) pss_nil)
      (pss_cons (ps_for PassesOwn.never rfl (pi_tup (pe_tup (pa_cons pe_str (pa_cons pe_str (pa_cons pe_str (pa_cons pe_str pa_nil)))))) (pg_name (i := 2) sc_law_is_shown.nd rfl (.inl rfl)) (pss_cons (ps_if (pt_cmpR op_ne (pe_methD (K := K) G_Demand_token_for R_Demand (by decide) hr (pv 0) (pa_cons (pv 2) pa_nil)) (pe_ifExp (pt_cmp (pc_din (hu_of hr) (pv 2) (pv 1)) rfl) (pe_op op_add_str (pe_op op_add_str (pv 2) pe_str) (pe_callTy call_str_int (by rfl) n_str (by decide +kernel) (pa_cons (pe_dget (hu_of hr) (pv 1) (pv 2) (fun _ _ => rfl)) pa_nil))) pe_str) (nomark _)) (pss_one (ps_ret pe_bl)) pss_nil)
      (pss_one (ps_for PassesOwn.never rfl (pi_tup (pe_tup (pa_cons pe_int (pa_cons pe_int (pa_cons (pe_dget2 (hu_of hr) (pv 1) (pv 2) pe_int ⟨rfl, rfl, rfl, rfl⟩) (pa_cons pe_int pa_nil)))))) (pg_name (i := 4) sc_law_is_shown.nd rfl (.inl rfl)) (pss_cons (ps_if (PW.pt (pw_and (pt_cmpR op_isnot_bl (pe_methD (K := K) G_Demand_is_met R_Demand (by decide) hr (pv 0) (pa_cons (pv 2) (pa_cons (pv 4) pa_nil))) pe_bl (nomark _)) (pw_and1 (pt_cmpR op_ge (pv 4) (pe_dget2 (hu_of hr) (pv 1) (pv 2) pe_int ⟨rfl, rfl, rfl, rfl⟩) (nomark _))))) (pss_one (ps_ret pe_bl)) pss_nil)
      (pss_one (ps_if (PW.pt (pw_and (pt_cmpR op_isnot_bl (pe_methD (K := K) G_Demand_is_met R_Demand (by decide) hr (pv 0) (pa_cons (pv 2) (pa_cons (pv 4) pa_nil))) pe_bl (nomark _)) (pw_and1 (pt_cmpR op_lt (pv 4) (pe_dget2 (hu_of hr) (pv 1) (pv 2) pe_int ⟨rfl, rfl, rfl, rfl⟩) (nomark _))))) (pss_one (ps_ret pe_bl)) pss_nil)))))))
      (pss_one (ps_ret pe_bl))))), ?_⟩
    have big : (1000 : Nat) ≤ sizeLine := by decide
    have e1 : atS.length = 1 := by decide +kernel
    -- due
    obtain ⟨ks, ek, l3, hs⟩ := hK.sorted
    refine ⟨.ref kn, rfl, kn, kvn, ks, rfl, .inl hk, ek, by omega, fun ys p hp hsd np => ?_⟩
    obtain rfl := hs ys hp hsd
    have s0 : Sm H (upd H p (.lst (d.keys.map V.str))) := Sm.new np
    refine ⟨p, rfl, ⟨_, .inl (.inl upd_same)⟩, fun o no => ?_⟩
    have noH := s0.free no
    refine lc_list (K := K) (a := p) (xs := d.keys.map V.str) (fun i H' => Sm H H' ∧ H' p = some (.lst (d.keys.map V.str)) ∧ H' o = some (.lst ((d.keys.take i).map fun k => V.str (d.tok k)))) ⟨s0.put noH, by rw [upd_ne (ne_of_none upd_same no)]; exact upd_same, upd_same⟩ (fun i H' _ hP => .inl (.inl hP.2.1)) (fun i x H' hx hP => ?_) fun H1 hP => ?_
    · obtain ⟨sm, ep, eo⟩ := hP
      rw [List.getElem?_map] at hx
      obtain ⟨k, hk1, rfl⟩ := Option.map_eq_some_iff.mp hx
      have hk3 := List.mem_of_getElem? hk1
      obtain ⟨n, en⟩ := Option.isSome_iff_exists.mp (mem_keys.mp hk3)
      have l4 := three_len k (get_mem en)
      have n4 := nums_le n (hK.ok k n en)
      have etok : d.tok k = k ++ atS ++ toString (n : Int) := by
        unfold D3.tok
        rw [en]
        rfl
      have l7 := num_len (n := n) (by omega)
      refine ⟨rfl, ?_⟩
      refine ⟨.str k, rfl, k, atS, rfl, rfl, by omega, .ref kn, rfl, .str k, rfl, kn, .int (n : Nat), rfl, .inl ⟨kvn, .inr k, .inl (sm.keep _ _ hk fun _ z => (nomatch z)), rfl, by rw [hK.val k, en]; rfl⟩, (n : Int), rfl, log2_small (by omega), k ++ atS, toString (n : Int), rfl, rfl, by rw [Str.length_append]; omega, _, eo, ?_, sm.put noH, ?_, ?_⟩
      · rw [List.length_map, List.length_take]
        exact small1000 (Nat.le_trans (Nat.min_le_right _ _) (by unfold D3.keys; exact Nat.le_trans (List.length_filter_le _ _) (by decide)))
      · have n : p ≠ o := fun z => by
          rw [z, upd_same] at no
          cases no
        rw [upd_ne n]
        exact ep
      · rw [upd_same, List.take_add_one, hk1, List.map_append, ← etok]
        rfl
    obtain ⟨s1, ep, eo⟩ := hP
    rw [List.length_map, List.take_length] at eo
    have eo : H1 o = some (.lst (d.toks.map V.str)) := by
      rw [eo]
      unfold D3.toks
      rw [List.map_map]
      rfl
    clear ep
    have hok := hK.ok
    have D1 := hD.sm s1
    -- the three ways
    obtain ⟨dx, kvs, h1, h2, h3⟩ := D1
    refine ⟨.ref a, rfl, a, dx, _, rfl, h1, rfl, a, d, q, rfl, ⟨dx, kvs, h1, h2, h3⟩, fun H2 p2 s2 np2 ep2 => ?_⟩
    refine ⟨.ref o, rfl, ne_same ep2 (s2.lst eo) ⟨_, rfl, iteF ?_⟩⟩
    have D2 := hD.sm (s1.trans s2)
    obtain ⟨dx2, kvs2, h21, h22, h23⟩ := D2
    refine ⟨.ref a, rfl, a, dx2, _, rfl, h21, rfl, a, d, q, rfl, ⟨dx2, kvs2, h21, h22, h23⟩, fun H3 s3 => ?_⟩
    refine ⟨⟨_, rfl⟩, .ref o, rfl, spS, o, d.toks, rfl, rfl, .inl (.inl (.inl ((s2.trans s3).lst eo))), Nat.le_trans (toks_sum hok) (by decide), ?_⟩
    refine ⟨rfl, _, rfl, toIf (b := false) ?_ (iteF ?_)⟩
    · show (!decide (V.str d.text = V.str d.text)) = false
      rw [decide_eq_true rfl]
      rfl
    have s13 := (s1.trans s2).trans s3
    have D3' := hD.sm s13
    obtain ⟨dx3, kvs3, h31, h32, h33⟩ := D3'
    obtain ⟨rd, rw3⟩ := read_text hok
    refine ⟨.ref a, rfl, a, dx3, _, rfl, h31, rfl, a, d, q, rfl, ⟨dx3, kvs3, h31, h32, h33⟩, fun H4 s4 => ?_⟩
    have s14 := s13.trans s4
    refine ⟨d.text, rfl, text_len hok, s14.tabs hT, rw3, fun d' ed H5 b r s5 nb nr Db => ?_, fun en => ?_⟩
    · rw [rd] at ed
      cases ed
      obtain ⟨dx5, kvs5, h51, h52, h53⟩ := Db
      refine ⟨b, dx5, _, rfl, h51, rfl, b, d, r, rfl, ⟨dx5, kvs5, h51, h52, h53⟩, fun H6 p6 s6 np6 ep6 => ?_⟩
      refine ⟨.ref o, rfl, ne_same ep6 (((s2.trans s3).trans s4 |>.trans s5 |>.trans s6).lst eo) ⟨_, rfl, iteF ?_⟩⟩
      have s16 := (s14.trans s5).trans s6
      -- the stores
      refine ⟨by show 4 ≤ sizeLine; decide, fun t nt => ⟨t, rfl, ⟨_, .inl (.inl upd_same)⟩, ?_⟩⟩
      have s17 := s16.put (o := .tup [.str mS, .str uS, .str aS, .str zS]) (s16.free nt)
      refine for_tup (K := K) (a := t) (xs := [.str mS, .str uS, .str aS, .str zS]) (fun i σ H' => (∃ u2 u4, σ = [some (.ref a), some (.ref kn), u2, some (.ref o), u4]) ∧ Sm H H' ∧ H' t = some (.tup [.str mS, .str uS, .str aS, .str zS])) ⟨⟨_, _, rfl⟩, s17, upd_same⟩ (fun i σ H' _ hP => .inl (.inl hP.2.2)) (fun i x σ H' hx hP => ?_) fun σ H' hP => ?_
      · obtain ⟨⟨u2, u4, rfl⟩, sm, et⟩ := hP
        obtain ⟨k, rfl, hk4⟩ : ∃ k : Str, x = .str k ∧ k.length ≤ 4 := by
          have hm := List.mem_of_getElem? hx
          simp only [List.mem_cons, List.not_mem_nil, or_false] at hm
          rcases hm with rfl | rfl | rfl | rfl
          · exact ⟨mS, rfl, by decide +kernel⟩
          · exact ⟨uS, rfl, by decide +kernel⟩
          · exact ⟨aS, rfl, by decide +kernel⟩
          · exact ⟨zS, rfl, by decide +kernel⟩
        have hDk := hD.sm sm
        obtain ⟨dx', kvs', i1, i2, i3⟩ := hDk
        have eK : H' kn = some (.dK kvn) := sm.keep _ _ hk fun _ z => nomatch z
        refine ⟨.ref a, rfl, a, dx', _, rfl, i1, rfl, .str k, rfl, a, k, d, q, rfl, ⟨dx', kvs', i1, i2, i3⟩, ?_⟩
        refine ⟨.str k, rfl, .ref kn, rfl, kn, _, rfl, .inl ⟨kvn, .inr k, .inl eK, rfl, rfl⟩, _, rfl, ?_⟩
        rw [hK.val k]
        refine cutP ?G (fun rest => ?br) ?later
        case br =>
          have hn : ∀ x : V, (!decide (x = x)) = false := fun x => by
            rw [decide_eq_true rfl]
            rfl
          cases en : d.get k with
          | none =>
            have etok : d.tok k = Str.empty := by
              unfold D3.tok
              rw [en]
            refine iteF ⟨rfl, _, rfl, toIf (b := false) ?_ (iteF ?_)⟩
            · rw [etok]
              exact hn _
            · exact rest
          | some n =>
            have etok : d.tok k = k ++ atS ++ toString (n : Int) := by
              unfold D3.tok
              rw [en]
              rfl
            have n4 := nums_le n (hok k n en)
            have l7 := num_len (n := n) (by omega)
            refine iteT ⟨.str k, rfl, k, atS, rfl, rfl, by omega, .ref kn, rfl, .str k, rfl, kn, .int (n : Nat), rfl, .inl ⟨kvn, .inr k, .inl eK, rfl, by rw [hK.val k, en]; rfl⟩, (n : Int), rfl, log2_small (by omega), k ++ atS, toString (n : Int), rfl, rfl, by rw [Str.length_append]; omega, rfl, _, rfl, toIf (b := false) ?_ (iteF ?_)⟩
            · rw [etok]
              exact hn _
            · exact rest
        case later =>
          have hg := k_small hK k
          have gv : ∀ {H0 : Hp}, Sm H H0 → DGet H0 kn (.str k) (valV kvn (.inr k)) := fun s => .inl ⟨kvn, .inr k, .inl (s.keep _ _ hk fun _ z => nomatch z), rfl, rfl⟩
          have isd : ∀ {H0 : Hp}, Sm H H0 → IsD H0 kn := fun s => .inl ⟨kvn, .inl (s.keep _ _ hk fun _ z => nomatch z)⟩
          refine ⟨.ref kn, rfl, kn, rfl, isd sm, .str k, rfl, _, gv sm, ?_⟩
          rw [getD_val hK k]
          generalize hgn : (d.get k).getD 0 = g at hg
          refine ⟨by show 4 ≤ sizeLine; decide, fun t2 nt2 => ⟨t2, rfl, ⟨_, .inl (.inl upd_same)⟩, ?_⟩⟩
          refine for_tup (K := K) (a := t2) (xs := [.int 0, .int 3, .int (g : Nat), .int 1000]) (fun j σ2 H9 => (∃ u4, σ2 = [some (.ref a), some (.ref kn), some (.str k), some (.ref o), u4]) ∧ Sm H H9 ∧ H9 t = some (.tup [.str mS, .str uS, .str aS, .str zS]) ∧ H9 t2 = some (.tup [.int 0, .int 3, .int (g : Nat), .int 1000]))
            ⟨⟨_, rfl⟩, sm.put (sm.free nt2), by rw [upd_ne (ne_of_none et nt2)]; exact et, upd_same⟩ (fun j σ2 H9 _ hP => .inl (.inl hP.2.2.2)) (fun j x2 σ2 H9 hx2 hP => ?_) fun σ2 H9 hP => ?_
          · obtain ⟨⟨u4, rfl⟩, sm9, et9, et29⟩ := hP
            obtain ⟨n, rfl, hn1⟩ : ∃ n : Nat, x2 = .int (n : Nat) ∧ n ≤ 1000 := by
              have hm := List.mem_of_getElem? hx2
              simp only [List.mem_cons, List.not_mem_nil, or_false] at hm
              rcases hm with rfl | rfl | rfl | rfl
              · exact ⟨0, rfl, by omega⟩
              · exact ⟨3, rfl, by omega⟩
              · exact ⟨g, rfl, hg⟩
              · exact ⟨1000, rfl, by omega⟩
            have hD9 := hD.sm sm9
            obtain ⟨dx9, kvs9, j1, j2, j3⟩ := hD9
            have met : d.met k n = decide (g ≤ n) := by rw [met_eq, hgn]
            refine ⟨.ref a, rfl, a, dx9, _, rfl, j1, rfl, .str k, rfl, .int (n : Nat), rfl, a, k, n, d, q, rfl, ⟨dx9, kvs9, j1, j2, j3⟩, d.met k n, true, rfl, rfl, _, rfl, ?_⟩
            rw [met]
            by_cases c : g ≤ n
            · refine toIf (b := false) (by rw [decide_eq_true c]; rfl) (iteF (iteF ?_))
              refine ⟨.ref a, rfl, a, dx9, _, rfl, j1, rfl, .str k, rfl, .int (n : Nat), rfl, a, k, n, d, q, rfl, ⟨dx9, kvs9, j1, j2, j3⟩, d.met k n, false, rfl, rfl, _, rfl, ?_⟩
              rw [met]
              refine toIf (b := true) (by rw [decide_eq_true c]; rfl) (iteT ?_)
              refine ⟨.int (n : Nat), rfl, .ref kn, rfl, kn, rfl, isd sm9, .str k, rfl, _, gv sm9, ?_⟩
              rw [getD_val hK k, hgn]
              exact ⟨(n : Int), (g : Int), rfl, rfl, _, rfl, toIf (b := false) (decide_eq_false (by omega)) (iteF ⟨⟨_, rfl⟩, sm9, et9, et29⟩)⟩
            · refine toIf (b := true) (by rw [decide_eq_false c]; rfl) (iteT ?_)
              refine ⟨.int (n : Nat), rfl, .ref kn, rfl, kn, rfl, isd sm9, .str k, rfl, _, gv sm9, ?_⟩
              rw [getD_val hK k, hgn]
              refine ⟨(n : Int), (g : Int), rfl, rfl, _, rfl, toIf (b := false) (decide_eq_false (by omega)) (iteF ?_)⟩
              refine ⟨.ref a, rfl, a, dx9, _, rfl, j1, rfl, .str k, rfl, .int (n : Nat), rfl, a, k, n, d, q, rfl, ⟨dx9, kvs9, j1, j2, j3⟩, d.met k n, false, rfl, rfl, _, rfl, ?_⟩
              rw [met]
              exact toIf (b := false) (by rw [decide_eq_false c]; rfl) (iteF (iteF ⟨⟨_, rfl⟩, sm9, et9, et29⟩))
          · obtain ⟨⟨u4, rfl⟩, sm9, et9, et29⟩ := hP
            exact ⟨⟨_, _, rfl⟩, sm9, et9⟩
      · obtain ⟨⟨u2, u4, rfl⟩, sm, et⟩ := hP
        exact hq H' sm
    · rw [rd] at en
      cases en
end
end A4

set_option Elab.async false
set_option linter.all false
set_option maxRecDepth 100000
set_option maxHeartbeats 4000000
namespace A4
open PySem PySem.Spec PyProof.Rows L2 AS
/-! ### taking, store by store -/
def D3.nw (d e : D3) (k : Str) : Bool := d.newer k ((e.get k).getD 0)
theorem note_get {d : D3} {k j : Str} {n : Nat} (hk : k ∈ three) : (d.note k n).get j = if j = k ∧ d.newer k n = true then some n else d.get j := by
  unfold D3.note
  by_cases c : d.newer k n = true
  · rw [if_pos c, get_put hk]
    by_cases e : j = k
    · rw [if_pos e, if_pos ⟨e, c⟩]
    · rw [if_neg e, if_neg fun h => e h.1]
  · rw [if_neg c, if_neg fun h => c h.2]
theorem newer_congr {d d' : D3} {k : Str} (h : d'.get k = d.get k) (n : Nat) : d'.newer k n = d.newer k n := by
  unfold D3.newer
  rw [h]
theorem takeL_get {e : D3} : ∀ (l : List Str) (d : D3) (c : Nat), l.Nodup → (∀ k ∈ l, (e.get k).isSome = true) → ∀ j, (e.takeL l (d, c)).1.get j = if j ∈ l ∧ d.nw e j = true then e.get j else d.get j
  | [], d, c, _, _, j => by
    rw [if_neg fun h => List.not_mem_nil h.1]
    rfl
  | k :: r, d, c, hn, hs, j => by
    obtain ⟨n, en⟩ := Option.isSome_iff_exists.mp (hs k List.mem_cons_self)
    have hk := get_mem en
    rw [List.nodup_cons] at hn
    have ih := takeL_get r (d.note k n) (c + if d.newer k n = true then 1 else 0) hn.2 (fun x hx => hs x (.tail _ hx)) j
    have e1 : e.takeL (k :: r) (d, c) = e.takeL r (d.note k n, c + if d.newer k n = true then 1 else 0) := by
      show e.takeL r (d.note k ((e.get k).getD 0), c + if d.newer k ((e.get k).getD 0) = true then 1 else 0) = _
      rw [en]
      rfl
    rw [e1, ih, note_get hk]
    by_cases z : j = k
    · rw [if_neg fun h => hn.1 (z ▸ h.1)]
      have w : d.nw e j = d.newer k n := by
        unfold D3.nw
        rw [z, en]
        rfl
      rw [w]
      by_cases c : d.newer k n = true
      · rw [if_pos ⟨z, c⟩, if_pos ⟨by rw [z]; exact .head _, c⟩, z, en]
      · rw [if_neg fun h => c h.2, if_neg fun h => c h.2]
    · have g : (d.note k n).get j = d.get j := by
        rw [note_get hk, if_neg fun h => z h.1]
      have w : (d.note k n).nw e j = d.nw e j := newer_congr g _
      rw [w, if_neg fun h : j = k ∧ d.newer k n = true => z h.1]
      by_cases m : j ∈ r ∧ d.nw e j = true
      · rw [if_pos m, if_pos ⟨.tail _ m.1, m.2⟩]
      · rw [if_neg m, if_neg fun h => m ⟨(List.mem_cons.mp h.1).resolve_left z, h.2⟩]
theorem takeL_cnt {e : D3} : ∀ (l : List Str) (d : D3) (c : Nat), l.Nodup → (∀ k ∈ l, (e.get k).isSome = true) → (e.takeL l (d, c)).2 = c + (l.filter (d.nw e)).length
  | [], d, c, _, _ => rfl
  | k :: r, d, c, hn, hs => by
    obtain ⟨n, en⟩ := Option.isSome_iff_exists.mp (hs k List.mem_cons_self)
    have hk := get_mem en
    rw [List.nodup_cons] at hn
    have ih := takeL_cnt r (d.note k n) (c + if d.newer k n = true then 1 else 0) hn.2 (fun x hx => hs x (.tail _ hx))
    have e1 : e.takeL (k :: r) (d, c) = e.takeL r (d.note k n, c + if d.newer k n = true then 1 else 0) := by
      show e.takeL r (d.note k ((e.get k).getD 0), c + if d.newer k ((e.get k).getD 0) = true then 1 else 0) = _
      rw [en]
      rfl
    have w : d.nw e k = d.newer k n := by
      unfold D3.nw
      rw [en]
      rfl
    have fc : r.filter ((d.note k n).nw e) = r.filter (d.nw e) := List.filter_congr fun j hj => by
      have z : j ≠ k := fun q => hn.1 (q ▸ hj)
      exact newer_congr (by rw [note_get hk, if_neg fun h => z h.1]) _
    rw [e1, ih, fc, List.filter_cons, w]
    by_cases c2 : d.newer k n = true
    · rw [if_pos c2, if_pos c2, List.length_cons]
      omega
    · rw [if_neg c2, if_neg c2]
      rfl
theorem keys_nodup (d : D3) : d.keys.Nodup := List.Nodup.sublist List.filter_sublist (by decide +kernel : three.Nodup)
theorem takes_get (d e : D3) (j : Str) : (d.takes e).1.get j = if j ∈ e.keys ∧ d.nw e j = true then e.get j else d.get j := takeL_get e.keys d 0 (keys_nodup e) (fun k hk => mem_keys.mp hk) j
theorem takes_cnt (d e : D3) : (d.takes e).2 = (e.keys.filter (d.nw e)).length := by
  have h := takeL_cnt (e := e) e.keys d 0 (keys_nodup e) fun k hk => mem_keys.mp hk
  rw [Nat.zero_add] at h
  exact h
def omax : Option Nat → Option Nat → Option Nat
  | none, y => y
  | some m, none => some m
  | some m, some n => if m < n then some n else some m
theorem takes_max (d e : D3) (j : Str) : (d.takes e).1.get j = omax (d.get j) (e.get j) := by
  rw [takes_get]
  have w : d.nw e j = match d.get j with | some m => decide (m < (e.get j).getD 0) | none => true := rfl
  cases ee : e.get j with
  | none =>
    rw [if_neg fun h => by
      have := mem_keys.mp h.1
      rw [ee] at this
      cases this]
    cases d.get j <;> rfl
  | some n =>
    have hm : j ∈ e.keys := mem_keys.mpr (by rw [ee]; rfl)
    rw [ee] at w
    cases ed : d.get j with
    | none =>
      rw [ed] at w
      rw [if_pos ⟨hm, w⟩]
      rfl
    | some m =>
      rw [ed] at w
      show _ = if m < n then some n else some m
      by_cases c : m < n
      · rw [if_pos c, if_pos ⟨hm, by rw [w]; exact decide_eq_true c⟩]
      · rw [if_neg c, if_neg fun h => c (by
          have h2 := h.2
          rw [w] at h2
          exact of_decide_eq_true h2)]
theorem ext3 {d e : D3} (h : ∀ j, d.get j = e.get j) : d = e := by
  have e1 : mS ≠ aS := by decide +kernel
  have e2 : uS ≠ aS := by decide +kernel
  have e3 : uS ≠ mS := by decide +kernel
  have ha := h aS
  have hm := h mS
  have hu := h uS
  unfold D3.get at ha hm hu
  rw [if_pos rfl, if_pos rfl] at ha
  rw [if_neg e1, if_pos rfl, if_neg e1, if_pos rfl] at hm
  rw [if_neg e2, if_neg e3, if_pos rfl, if_neg e2, if_neg e3, if_pos rfl] at hu
  cases d
  cases e
  dsimp only at ha hm hu
  rw [ha, hm, hu]
theorem omax_back (x y : Option Nat) : omax y (omax x y) = omax x y := by
  cases x with
  | none => cases y with
    | none => rfl
    | some n =>
      show (if n < n then some n else some n) = some n
      rw [if_neg (Nat.lt_irrefl n)]
  | some m => cases y with
    | none => rfl
    | some n =>
      show omax (some n) (if m < n then some n else some m) = if m < n then some n else some m
      by_cases c : m < n
      · rw [if_pos c]
        show (if n < n then some n else some n) = some n
        rw [if_neg (Nat.lt_irrefl n)]
      · rw [if_neg c]
        show (if n < m then some m else some n) = some m
        by_cases c2 : n < m
        · rw [if_pos c2]
        · rw [if_neg c2]
          congr 1
          omega
theorem takes_back (d e : D3) : (e.takes (d.takes e).1).1 = (d.takes e).1 := ext3 fun j => by rw [takes_max, takes_max, omax_back]
/-- the law's own way to take -/
def putL (e : D3) (d : D3) (l : List Str) : D3 := l.foldl (fun d k => d.put k ((e.get k).getD 0)) d
theorem putL_snoc (e d : D3) (l : List Str) (k : Str) : putL e d (l ++ [k]) = (putL e d l).put k ((e.get k).getD 0) := by
  unfold putL
  rw [List.foldl_append]
  rfl
theorem putL_get {e : D3} : ∀ (l : List Str) (d : D3), (∀ k ∈ l, (e.get k).isSome = true) → ∀ j, (putL e d l).get j = if j ∈ l then e.get j else d.get j
  | [], d, _, j => by
    rw [if_neg List.not_mem_nil]
    rfl
  | k :: r, d, hs, j => by
    obtain ⟨n, en⟩ := Option.isSome_iff_exists.mp (hs k List.mem_cons_self)
    have ih := putL_get r (d.put k n) (fun x hx => hs x (.tail _ hx)) j
    have e1 : putL e d (k :: r) = putL e (d.put k n) r := by
      show putL e (d.put k ((e.get k).getD 0)) r = _
      rw [en]
      rfl
    rw [e1, ih, get_put (get_mem en)]
    by_cases h : j ∈ r
    · rw [if_pos h, if_pos (.tail _ h)]
    · rw [if_neg h]
      by_cases z : j = k
      · rw [if_pos z, if_pos (by rw [z]; exact .head _), z, en]
      · rw [if_neg z, if_neg fun q => (List.mem_cons.mp q).elim z h]
theorem putL_takes {e d : D3} {l : List Str} (h : ∀ j, j ∈ l ↔ j ∈ e.keys ∧ d.nw e j = true) : putL e d l = (d.takes e).1 := ext3 fun j => by
  rw [putL_get l d (fun k hk => mem_keys.mp ((h k).mp hk).1) j, takes_get]
  by_cases c : j ∈ l
  · rw [if_pos c, if_pos ((h j).mp c)]
  · rw [if_neg c, if_neg fun q => c ((h j).mpr q)]
end A4

set_option Elab.async false
set_option linter.all false
set_option maxRecDepth 100000
set_option maxHeartbeats 4000000
namespace A4
open PySem PySem.Spec PyProof.Rows L2 AS
/-! ### the law's two demands and two dicts -/
structure LS (K : PySem.W.Frag) (H0 H : Hp) (p1 p2 : Addr) (aa qq kk : Bool → Addr) (dd kd : Bool → D3) : Prop where
  sm : Sm H0 H
  l1 : H p1 = some (.lst [.ref (aa false), .ref (aa true)])
  l2 : H p2 = some (.lst [.ref (kk false), .ref (kk true)])
  dem : ∀ b, DemAt K H (aa b) (dd b) (qq b)
  kno : ∀ b, ∃ kv, H (kk b) = some (.dK kv) ∧ Holds kv (kd b)
  nq : ∀ b, H0 (qq b) = none
  nk : ∀ b, H0 (kk b) = none
  qne : ∀ b, qq b ≠ qq (!b)
  kne : ∀ b, kk b ≠ kk (!b)
  qk : ∀ b c, qq b ≠ kk c
def put2 (dd : Bool → D3) (b : Bool) (d : D3) : Bool → D3 := fun c => if c = b then d else dd c
theorem put2_same {dd : Bool → D3} {b : Bool} {d : D3} : put2 dd b d b = d := if_pos rfl
theorem put2_not {dd : Bool → D3} {b : Bool} {d : D3} : put2 dd b d (!b) = dd (!b) := if_neg (by cases b <;> decide)
theorem put2_id {dd : Bool → D3} {b : Bool} : put2 dd b (dd b) = dd := by
  funext c
  unfold put2
  by_cases h : c = b
  · rw [if_pos h, h]
  · rw [if_neg h]
theorem put2_put2 {dd : Bool → D3} {b : Bool} {d e : D3} : put2 (put2 dd b d) b e = put2 dd b e := by
  funext c
  unfold put2
  by_cases h : c = b
  · rw [if_pos h, if_pos h]
  · rw [if_neg h, if_neg h, if_neg h]
section
variable {K : PySem.W.Frag} {H0 H H' : Hp} {p1 p2 : Addr} {aa qq kk : Bool → Addr} {dd kd : Bool → D3}
theorem LS.mono (L : LS K H0 H p1 p2 aa qq kk dd kd) (e : Sm H H') : LS K H0 H' p1 p2 aa qq kk dd kd where
  sm := L.sm.trans e
  l1 := e.lst L.l1
  l2 := e.lst L.l2
  dem := fun b => (L.dem b).sm e
  kno := fun b => by
    obtain ⟨kv, h1, h2⟩ := L.kno b
    exact ⟨kv, e.keep _ _ h1 fun _ z => (nomatch z), h2⟩
  nq := L.nq
  nk := L.nk
  qne := L.qne
  kne := L.kne
  qk := L.qk
theorem ne_not {b c : Bool} (h : c ≠ b) : c = !b := by cases b <;> cases c <;> first | rfl | exact absurd rfl h
theorem LS.setK (L : LS K H0 H p1 p2 aa qq kk dd kd) (b : Bool) {kv : List (Key × V)} {d : D3} (h : Holds kv d) : LS K H0 (upd H (kk b) (.dK kv)) p1 p2 aa qq kk dd (put2 kd b d) where
  sm := L.sm.put (L.nk b)
  l1 := by
    obtain ⟨kv, h1, h2⟩ := L.kno b
    rw [upd_ne fun e => by rw [← e, L.l1] at h1; cases h1]
    exact L.l1
  l2 := by
    obtain ⟨kv, h1, h2⟩ := L.kno b
    rw [upd_ne fun e => by rw [← e, L.l2] at h1; cases h1]
    exact L.l2
  dem := fun c => by
    obtain ⟨kv0, h1, h2⟩ := L.kno b
    obtain ⟨dx, kvs, g1, g2, g3⟩ := L.dem c
    exact ⟨dx, kvs, by rw [upd_ne fun e => by rw [← e, g1] at h1; cases h1]; exact g1, by rw [upd_ne (L.qk c b)]; exact g2, g3⟩
  kno := fun c => by
    by_cases e : c = b
    · rw [e, put2_same]
      exact ⟨kv, upd_same, h⟩
    · obtain ⟨kv0, h1, h2⟩ := L.kno c
      refine ⟨kv0, ?_, ?_⟩
      · rw [upd_ne]
        · exact h1
        · intro z
          have := L.kne b
          rw [← ne_not e] at this
          exact this z.symm
      · unfold put2
        rw [if_neg e]
        exact h2
  nq := L.nq
  nk := L.nk
  qne := L.qne
  kne := L.kne
  qk := L.qk
theorem LS.setQ (L : LS K H0 H p1 p2 aa qq kk dd kd) (b : Bool) {kv : List (Key × V)} {d : D3} (h : Holds kv d) : LS K H0 (upd H (qq b) (.dK kv)) p1 p2 aa qq kk (put2 dd b d) kd where
  sm := L.sm.put (L.nq b)
  l1 := by
    obtain ⟨dx, kvs, h0, h1, h2⟩ := L.dem b
    rw [upd_ne fun e => by rw [← e, L.l1] at h1; cases h1]
    exact L.l1
  l2 := by
    obtain ⟨dx, kvs, h0, h1, h2⟩ := L.dem b
    rw [upd_ne fun e => by rw [← e, L.l2] at h1; cases h1]
    exact L.l2
  dem := fun c => by
    by_cases e : c = b
    · rw [e, put2_same]
      exact (L.dem b).put h
    · obtain ⟨dx, kvs, h0, h1, h2⟩ := L.dem b
      obtain ⟨dx, kvs, g1, g2, g3⟩ := L.dem c
      refine ⟨dx, kvs, by rw [upd_ne fun e => by rw [← e, g1] at h1; cases h1]; exact g1, ?_, ?_⟩
      · rw [upd_ne]
        · exact g2
        · intro z
          have := L.qne b
          rw [← ne_not e] at this
          exact this z.symm
      · unfold put2
        rw [if_neg e]
        exact g3
  kno := fun c => by
    obtain ⟨kv0, h1, h2⟩ := L.kno c
    exact ⟨kv0, by rw [upd_ne (Ne.symm (L.qk b c))]; exact h1, h2⟩
  nq := L.nq
  nk := L.nk
  qne := L.qne
  kne := L.kne
  qk := L.qk
theorem ix2 {x y : V} {b : Bool} : atI [x, y] (b.toNat : Int) = some (if b = true then y else x) := by
  cases b
  · exact atI_nat (j := 0) rfl
  · exact atI_nat (j := 1) rfl
theorem LS.ixA (L : LS K H0 H p1 p2 aa qq kk dd kd) {b : Bool} {Q : VK} (q : Q (.ref (aa b)) H) : rIxL K (.ref p1) (.int (b.toNat : Nat)) H Q :=
  ⟨p1, _, _, .ref (aa b), rfl, rfl, .inl (.inl L.l1), by rw [ix2]; cases b <;> rfl, q⟩
theorem LS.ixB (L : LS K H0 H p1 p2 aa qq kk dd kd) {b : Bool} {Q : VK} (q : Q (.ref (aa (!b))) H) : rIxL K (.ref p1) (.int (1 - (b.toNat : Nat))) H Q :=
  ⟨p1, _, _, .ref (aa (!b)), rfl, rfl, .inl (.inl L.l1), by cases b <;> rfl, q⟩
theorem LS.ixK (L : LS K H0 H p1 p2 aa qq kk dd kd) {b : Bool} {Q : VK} (q : Q (.ref (kk b)) H) : rIxL K (.ref p2) (.int (b.toNat : Nat)) H Q :=
  ⟨p2, _, _, .ref (kk b), rfl, rfl, .inl (.inl L.l2), by rw [ix2]; cases b <;> rfl, q⟩
theorem LS.ixL (L : LS K H0 H p1 p2 aa qq kk dd kd) {b : Bool} {Q : VK} (q : Q (.ref (kk (!b))) H) : rIxL K (.ref p2) (.int (1 - (b.toNat : Nat))) H Q :=
  ⟨p2, _, _, .ref (kk (!b)), rfl, rfl, .inl (.inl L.l2), by cases b <;> rfl, q⟩
end
theorem at2 {f : Bool → Addr} {b : Bool} : atI [V.ref (f false), .ref (f true)] (b.toNat : Int) = some (.ref (f b)) := by
  rw [ix2]
  cases b <;> rfl
theorem at2n {f : Bool → Addr} {b : Bool} : atI [V.ref (f false), .ref (f true)] (1 - (b.toNat : Int)) = some (.ref (f (!b))) := by
  cases b
  · exact atI_nat (j := 1) rfl
  · exact atI_nat (j := 0) rfl
def gi (o : Option Nat) : Int := match o with
  | some m => (m : Nat)
  | none => -1
theorem gi_val {kv : List (Key × V)} {d : D3} (h : Holds kv d) (k : Str) : (valV kv (.inr k)).getD (.int (-1)) = .int (gi (d.get k)) := by
  rw [h.val k]
  cases d.get k <;> rfl
theorem gi_newer (d : D3) (k : Str) (n : Nat) : decide (gi (d.get k) < (n : Int)) = d.newer k n := by
  unfold D3.newer gi
  cases d.get k with
  | none => exact decide_eq_true (by show (-1 : Int) < n; omega)
  | some m =>
    show decide ((m : Int) < n) = decide (m < n)
    exact decide_eq_decide.mpr ⟨fun h => by omega, fun h => by omega⟩
theorem keyAt {kv : List (Key × V)} {ks : List Str} (e : kv.map (·.1) = ks.map Sum.inr) {i : Nat} {k : Key} {v : V} (h : kv[i]? = some (k, v)) : ∃ s, ks[i]? = some s ∧ k = .inr s := by
  have h1 : (kv.map (·.1))[i]? = some k := by
    rw [List.getElem?_map, h]
    rfl
  rw [e, List.getElem?_map] at h1
  obtain ⟨s, h2, h3⟩ := Option.map_eq_some_iff.mp h1
  exact ⟨s, h2, h3.symm⟩
theorem eq_same {K : PySem.W.Frag} {H : Hp} {a b : Addr} {zs : List Str} (ha : H a = some (.lst (zs.map V.str))) (hb : H b = some (.lst (zs.map V.str))) {Q : VK} (q : Q (.bl true) H) : rEqP K false (.ref a) (.ref b) H Q := by
  refine ⟨.list (zs.map PyData.str), .list (zs.map PyData.str), .lst (.inl (.inl ha)) (dp_strs K H zs), .lst (.inl (.inl hb)) (dp_strs K H zs), strs_plainAll zs, strs_plainAll zs, ?_, ?_⟩
  · have e : (PyData.list (zs.map PyData.str)).depth = 1 := by
      simp [PyData.depth, strs_depthAll]
    rw [e]
    decide
  · refine toBl ?_ q
    show PyData.eqvAll (zs.map PyData.str) (zs.map PyData.str) = true
    rw [strs_eqv, decide_eq_true rfl]
theorem LS.takes {K : PySem.W.Frag} {H0 H : Hp} {p1 p2 : Addr} {aa qq kk : Bool → Addr} {dd kd : Bool → D3} (L : LS K H0 H p1 p2 aa qq kk dd kd) (b : Bool) (hT : Tabs K NN.tf H0) {Q : VK}
    (q : ∀ H', LS K H0 H' p1 p2 aa qq kk (put2 dd b ((dd b).takes (dd (!b))).1) kd → Q (.int (((dd b).takes (dd (!b))).2 : Nat)) H') : spTake K NN.tf [.ref (aa b), .ref (aa (!b))] H Q E0 :=
  ⟨aa b, dd b, qq b, aa (!b), dd (!b), qq (!b), rfl, L.dem b, L.dem (!b), L.qne b, L.sm.tabs hT, fun kvs H' hk s => q H' ((L.setQ b hk).mono s)⟩
/-- a new demand -/
theorem made {K : PySem.W.Frag} {H : Hp} {a dx q : Addr} (na : H a = none) (nd : H dx = none) (nq : upd (upd H dx (.own a)) a (.ins (He.ga K "Demand") dx []) q = none) :
    H q = none ∧ Sm H (upd (upd (upd (upd H dx (.own a)) a (.ins (He.ga K "Demand") dx [])) q (.dK [])) a (.ins (He.ga K "Demand") dx [("_newest", .ref q)])) ∧
    DemAt K (upd (upd (upd (upd H dx (.own a)) a (.ins (He.ga K "Demand") dx [])) q (.dK [])) a (.ins (He.ga K "Demand") dx [("_newest", .ref q)])) a D3.new q := by
  have nqa : q ≠ a := fun e => by
    rw [e, upd_same] at nq
    cases nq
  have nqH : H q = none := by
    rw [upd_ne nqa] at nq
    exact (Sm.new nd).free nq
  exact ⟨nqH, (((Sm.new nd).put na).put nqH).put na, dx, [], upd_same, by rw [upd_ne nqa]; exact upd_same, Holds.new⟩
theorem DemAt.neq {K : PySem.W.Frag} {H : Hp} {a q r : Addr} {d : D3} (h : DemAt K H a d q) (n : H r = none) : q ≠ r := by
  obtain ⟨_, _, _, h2, _⟩ := h
  exact ne_of_none h2 n
/-- unfrozen again, a new list beside it -/
theorem upd_frz {H : Hp} {d D : Addr} {u f l : HO} (h : H d = some u) (n : D ≠ d) : upd (upd (upd H d f) D l) d u = upd H D l := by
  funext b
  by_cases e1 : b = d
  · rw [e1, upd_same, upd_ne (Ne.symm n), h]
  · rw [upd_ne e1]
    by_cases e2 : b = D
    · rw [e2, upd_same, upd_same]
    · rw [upd_ne e2, upd_ne e1, upd_ne e2]
end A4

set_option Elab.async false
set_option linter.all false
set_option maxRecDepth 100000
set_option maxHeartbeats 4000000
namespace A4
open PySem PySem.Spec PyProof.Rows L2 AS
def spLaw (K : PySem.W.Frag) : Sp := fun vs H Q _ => ∃ (a : Addr) (ns : List Int), vs = [.ref a] ∧ SqL K H a (ns.map V.int) ∧ ns.length ≤ 63 ∧ Tabs K NN.tf H ∧ ∀ H', Q (.bl true) H'
section
variable {P : Program} {w : World} {K : PySem.W.Frag} {mg : Str → Option Value} {base : Heap}
theorem ok_law (T : Top NN K mg base) (B : VeInit K (He.ga K "AuthError")) (R : ErrC K mg "BadFeed" "line" "what") (R_Demand : DC K mg) {fd : FuncData} (F : FunD K dlaw.name dlaw.qual dlaw.params dlaw.body dlaw.scope [] [] (He.ga K "law") fd) : FnOk P w K mg base CX0 7 (He.ga K "law") fd ["script"] (spLaw K) := by
  refine okF F sclaw (fun vs H Q E h => ?_) (fun cdv A outer s H vs Q E hr h => ?_)
  · obtain ⟨a, ns, rfl, _⟩ := h
    rfl
  · obtain ⟨a, ns, rfl, hS, hn, hT, q⟩ := h
    have n_bool := T.f "bool" (by decide +kernel)
    have n_int := T.f "int" (by decide +kernel)
    have n_isinstance := T.f "isinstance" (by decide +kernel)
    have n_len := T.f "len" (by decide +kernel)
    have n_range := T.f "range" (by decide +kernel)
    have n_str := T.f "str" (by decide +kernel)
    have G_Demand_init := ok_init (P := P) (w := w) T R_Demand
    have hr2 := hr.mono (show 2 ≤ 6 by decide)
    have G_Demand_note := (ok_note (P := P) (w := w) T R_Demand).mono (show 4 ≤ 6 by decide)
    have G_Demand_take := (ok_take (P := P) (w := w) T R_Demand).mono (show 5 ≤ 6 by decide)
    have G_Demand_tokens := (ok_tokens (P := P) (w := w) T R_Demand).mono (show 3 ≤ 6 by decide)
    have G__law_cell := (ok_law_cell (P := P) (w := w) T).mono (show 1 ≤ 6 by decide)
    have G__law_draws := (ok_law_draws (P := P) (w := w) T).mono (show 1 ≤ 6 by decide)
    have G__law_is_shown := ok_law_is_shown (P := P) (w := w) T B R R_Demand
    have G__law_is_bad := ok_law_is_bad (P := P) (w := w) T B R R_Demand
    refine ⟨_, (pss_cons (ps_set (i := 1) sclaw.nd rfl (.inl rfl) (pe_lst (pa_cons (pe_makeD0 (K := K) G_Demand_init R_Demand hr2) (pa_cons (pe_makeD0 (K := K) G_Demand_init R_Demand hr2) pa_nil))))
        (pss_cons (ps_set (i := 2) sclaw.nd rfl (.inr rfl) (pe_lst (pa_cons pe_dnewK (pa_cons pe_dnewK pa_nil))))
        (pss_cons (ps_for PassesOwn.never rfl (pi_range1 rfl n_range (pa_cons (pe_op op_mod (pe_callD G__law_cell hr (pa_cons (pv 0) (pa_cons pe_int pa_nil))) pe_int) pa_nil)) (pg_name (i := 3) sclaw.nd rfl (.inl rfl)) (pss_cons (ps_set (i := 4) sclaw.nd rfl (.inl rfl) (pe_callD G__law_draws hr (pa_cons (pe_callD G__law_cell hr (pa_cons (pv 0) (pa_cons (pe_op op_add pe_int (pv 3)) pa_nil))) (pa_cons pe_int pa_nil))))
        (pss_cons (ps_set (i := 5) sclaw.nd rfl (.inr rfl) (pe_op op_mod (pe_callTy call_int1 (by rfl) n_int (by decide +kernel) (pa_cons (pe_ix  ix_list (pv 4) pe_int (fun _ _ => rfl)) pa_nil)) pe_int))
        (C8.pss_cut (ps_if (pt_cmpR op_eq (pe_op op_mod (pe_callTy call_int1 (by rfl) n_int (by decide +kernel) (pa_cons (pe_ix  ix_list (pv 4) pe_int (fun _ _ => rfl)) pa_nil)) pe_int) pe_int (nomark _)) (pss_cons (ps_lock (ps_setLc (i := 7) (own := [("store", 6)]) (g := gName 6)  rfl sclaw.nd rfl rfl (sw_true rfl rfl rfl (by decide +kernel)) (pi_keys (pe_ix  ix_list (pv 2) (pe_op op_sub pe_int (pv 5)) (fun _ _ => rfl))) (blkOk_by (N := ["script", "demands", "known", "k", "draws", "one", "store", "newer", "number", "is_newer", "told", "bad"]) (sc := defScope slaw) (by decide +kernel)) (fun _ _ _ _ _ => (pg_name (i := 6) sclaw.nd rfl (.inl rfl))) (fun _ _ _ _ _ => pts_one (pt_cmpR op_gt (pe_dget (hu_of hr) (pe_ix (r := rIxL K) ix_list (pv 2) (pe_op op_sub pe_int (pv 5)) (fun _ _ => rfl)) (pv 6) (fun _ _ => rfl)) (pe_dget2 (hu_of hr) (pe_ix (r := rIxL K) ix_list (pv 2) (pv 5) (fun _ _ => rfl)) (pv 6) (pe_un un_neg pe_int) ⟨rfl, rfl, rfl, rfl⟩) (nomark _))) (fun _ _ _ _ _ => (pv 6))))
        (pss_cons (ps_if (pt_cmpR op_ne (pe_methD (K := K) G_Demand_take R_Demand (by decide) hr (pe_ix  ix_list (pv 1) (pv 5) (fun _ _ => rfl)) (pa_cons (pe_ix  ix_list (pv 1) (pe_op op_sub pe_int (pv 5)) (fun _ _ => rfl)) pa_nil)) (pe_callB call_len_seq (by rfl) n_len PySem.boot_len (pa_cons (pv 7) pa_nil)) (nomark _)) (pss_one (ps_ret pe_bl)) pss_nil)
        (pss_one (ps_for PassesOwn.never rfl (pi_list (pv 7)) (pg_name (i := 6) sclaw.nd rfl (.inl rfl)) (pss_one (ps_dput (hu_of hr) (pe_ix  ix_list (pv 2) (pv 5) (fun _ _ => rfl)) (pv 6) (pe_dget (hu_of hr) (pe_ix  ix_list (pv 2) (pe_op op_sub pe_int (pv 5)) (fun _ _ => rfl)) (pv 6) (fun _ _ => rfl)) rfl)))))) (pss_cons (ps_set (i := 6) sclaw.nd rfl (.inl rfl) (pe_ix  ix_list (pe_lst (pa_cons pe_str (pa_cons pe_str (pa_cons pe_str pa_nil)))) (pe_op op_mod (pe_callTy call_int1 (by rfl) n_int (by decide +kernel) (pa_cons (pe_ix  ix_list (pv 4) pe_int (fun _ _ => rfl)) pa_nil)) pe_int) (fun _ _ => rfl)))
        (pss_cons (ps_set (i := 8) sclaw.nd rfl (.inl rfl) (pe_ix  ix_list (pe_lst (pa_cons pe_int (pa_cons pe_int (pa_cons pe_int (pa_cons pe_int (pa_cons pe_int (pa_cons pe_int (pa_cons pe_int pa_nil)))))))) (pe_op op_mod (pe_callTy call_int1 (by rfl) n_int (by decide +kernel) (pa_cons (pe_ix  ix_list (pv 4) pe_int (fun _ _ => rfl)) pa_nil)) pe_int) (fun _ _ => rfl)))
        (pss_cons (ps_set (i := 9) sclaw.nd rfl (.inl rfl) (pe_cmpR op_gt (pv 8) (pe_dget2 (hu_of hr) (pe_ix  ix_list (pv 2) (pv 5) (fun _ _ => rfl)) (pv 6) (pe_un un_neg pe_int) ⟨rfl, rfl, rfl, rfl⟩) (nomark _)))
        (pss_cons (ps_set (i := 10) sclaw.nd rfl (.inl rfl) (pe_methD (K := K) G_Demand_note R_Demand (by decide) hr (pe_ix  ix_list (pv 1) (pv 5) (fun _ _ => rfl)) (pa_cons (pe_op op_add_str (pe_op op_add_str (pv 6) pe_str) (pe_callTy call_str_int (by rfl) n_str (by decide +kernel) (pa_cons (pv 8) pa_nil))) pa_nil)))
        (pss_cons (ps_if (PW.pt (pw_or (pt_not (pt_val (pe_callB call_isi (by rfl) n_isinstance (by decide +kernel) (pa_cons (pv 10) (pa_cons (pe_bltn (v := .ty "bool") (by rfl) n_bool (by decide +kernel) rfl) pa_nil))))) (pw_or1 (pt_cmpR op_ne (pv 10) (pv 9) (nomark _))))) (pss_one (ps_ret pe_bl)) pss_nil)
        (pss_one (ps_if (pt_val (pv 9)) (pss_one (ps_dput (hu_of hr) (pe_ix  ix_list (pv 2) (pv 5) (fun _ _ => rfl)) (pv 6) (pv 8) rfl)) pss_nil))))))))
        (pss_one (ps_if (PW.pt (pw_or (pt_not (pt_val (pe_callD G__law_is_shown hr (pa_cons (pe_ix  ix_list (pv 1) pe_int (fun _ _ => rfl)) (pa_cons (pe_ix  ix_list (pv 2) pe_int (fun _ _ => rfl)) pa_nil))))) (pw_or1 (pt_not (pt_val (pe_callD G__law_is_shown hr (pa_cons (pe_ix  ix_list (pv 1) pe_int (fun _ _ => rfl)) (pa_cons (pe_ix  ix_list (pv 2) pe_int (fun _ _ => rfl)) pa_nil)))))))) (pss_one (ps_ret pe_bl)) pss_nil))))))
        (pss_cons (ps_set (i := 11) sclaw.nd rfl (.inl rfl) (pe_ix  ix_list (pe_lst (pa_cons pe_str (pa_cons pe_str (pa_cons pe_str (pa_cons pe_str (pa_cons pe_str (pa_cons pe_str (pa_cons pe_str pa_nil)))))))) (pe_op op_mod (pe_callD G__law_cell hr (pa_cons (pv 0) (pa_cons pe_int pa_nil))) pe_int) (fun _ _ => rfl)))
        (pss_cons (ps_expr (pe_methD (K := K) G_Demand_take R_Demand (by decide) hr (pe_ix  ix_list (pv 1) pe_int (fun _ _ => rfl)) (pa_cons (pe_ix  ix_list (pv 1) pe_int (fun _ _ => rfl)) pa_nil)))
        (pss_cons (ps_expr (pe_methD (K := K) G_Demand_take R_Demand (by decide) hr (pe_ix  ix_list (pv 1) pe_int (fun _ _ => rfl)) (pa_cons (pe_ix  ix_list (pv 1) pe_int (fun _ _ => rfl)) pa_nil)))
        (pss_one (ps_ret (pe_and (pe_callD G__law_is_bad hr (pa_cons (pv 11) pa_nil)) (pe_one (pe_cmpR (op_eqP hr.units) (pe_methD0 (K := K) G_Demand_tokens R_Demand (by decide) hr (pe_ix  ix_list (pv 1) pe_int (fun _ _ => rfl))) (pe_methD0 (K := K) G_Demand_tokens R_Demand (by decide) hr (pe_ix  ix_list (pv 1) pe_int (fun _ _ => rfl))) (nomark _)))))))))))), ?_⟩
    have big : (1000 : Nat) ≤ sizeLine := by decide
    -- two demands, two dicts
    refine fun a0 dx0 na0 nd0 nda0 => ⟨a0, dx0, rfl, upd_same, fun q0 nq0 => ⟨rfl, ?_⟩⟩
    obtain ⟨nq0H, s0, D0⟩ := made na0 nd0 nq0
    generalize (upd (upd (upd (upd H dx0 (.own a0)) a0 (.ins (He.ga K "Demand") dx0 [])) q0 (.dK [])) a0 (.ins (He.ga K "Demand") dx0 [("_newest", .ref q0)])) = H1 at s0 D0
    refine fun a1 dx1 na1 nd1 nda1 => ⟨a1, dx1, rfl, upd_same, fun q1 nq1 => ⟨rfl, ?_⟩⟩
    obtain ⟨nq1H, s1, D1⟩ := made na1 nd1 nq1
    generalize (upd (upd (upd (upd H1 dx1 (.own a1)) a1 (.ins (He.ga K "Demand") dx1 [])) q1 (.dK [])) a1 (.ins (He.ga K "Demand") dx1 [("_newest", .ref q1)])) = H2 at s1 D1
    refine ⟨by show 2 ≤ sizeLine; decide, fun p1 np1 => ?_⟩
    have s2 := Sm.new (o := .lst [.ref a0, .ref a1]) np1
    have e2 : upd H2 p1 (.lst [.ref a0, .ref a1]) p1 = some (.lst [.ref a0, .ref a1]) := upd_same
    generalize upd H2 p1 (.lst [.ref a0, .ref a1]) = H3 at s2 e2
    refine fun k0 nk0 => ?_
    have s3 := Sm.new (o := .dK []) nk0
    have e3 : upd H3 k0 (.dK []) k0 = some (.dK []) := upd_same
    generalize upd H3 k0 (.dK []) = H4 at s3 e3
    refine fun k1 nk1 => ?_
    have s4 := Sm.new (o := .dK []) nk1
    have e4 : upd H4 k1 (.dK []) k1 = some (.dK []) := upd_same
    generalize upd H4 k1 (.dK []) = H5 at s4 e4
    refine ⟨by show 2 ≤ sizeLine; decide, fun p2 np2 => ?_⟩
    have s5 := Sm.new (o := .lst [.ref k0, .ref k1]) np2
    have e5 : upd H5 p2 (.lst [.ref k0, .ref k1]) p2 = some (.lst [.ref k0, .ref k1]) := upd_same
    generalize upd H5 p2 (.lst [.ref k0, .ref k1]) = H6 at s5 e5
    have keepD : ∀ {G G' : Hp} {k : Addr}, Sm G G' → G k = some (.dK []) → G' k = some (.dK []) := fun s h => s.keep _ _ h fun _ z => nomatch z
    have L0 : LS K H H6 p1 p2 (fun b => bif b then a1 else a0) (fun b => bif b then q1 else q0) (fun b => bif b then k1 else k0) (fun _ => D3.new) (fun _ => D3.new) := by
      have n01 : q0 ≠ q1 := D0.neq nq1H
      have n0k0 : q0 ≠ k0 := (D0.sm (s1.trans s2)).neq nk0
      have n0k1 : q0 ≠ k1 := (D0.sm ((s1.trans s2).trans s3)).neq nk1
      have n1k0 : q1 ≠ k0 := (D1.sm s2).neq nk0
      have n1k1 : q1 ≠ k1 := (D1.sm (s2.trans s3)).neq nk1
      have nk01 : k0 ≠ k1 := ne_of_none e3 nk1
      have fq1 : H q1 = none := s0.free nq1H
      have fk0 : H k0 = none := ((s0.trans s1).trans s2).free nk0
      have fk1 : H k1 = none := (((s0.trans s1).trans s2).trans s3).free nk1
      refine ⟨((((s0.trans s1).trans s2).trans s3).trans s4).trans s5, (((s3.trans s4).trans s5).lst e2), e5, ?_, ?_, ?_, ?_, ?_, ?_, ?_⟩
      · intro b
        cases b
        · exact D0.sm ((((s1.trans s2).trans s3).trans s4).trans s5)
        · exact D1.sm (((s2.trans s3).trans s4).trans s5)
      · intro b
        cases b
        · exact ⟨[], keepD (s4.trans s5) e3, Holds.new⟩
        · exact ⟨[], keepD s5 e4, Holds.new⟩
      · intro b
        cases b
        · exact nq0H
        · exact fq1
      · intro b
        cases b
        · exact fk0
        · exact fk1
      · intro b
        cases b
        · exact n01
        · exact n01.symm
      · intro b
        cases b
        · exact nk01
        · exact nk01.symm
      · intro b c
        cases b <;> cases c
        · exact n0k0
        · exact n0k1
        · exact n1k0
        · exact n1k1
    generalize (fun b => bif b then a1 else a0) = aa at L0
    generalize (fun b => bif b then q1 else q0) = qq at L0
    generalize (fun b => bif b then k1 else k0) = kk at L0
    clear na0 nd0 nda0 nq0 nq0H s0 D0 na1 nd1 nda1 nq1 nq1H s1 D1 np1 s2 e2 nk0 s3 e3 nk1 s4 e4 np2 s5 e5 keepD
    -- the deeds
    obtain ⟨n, en, hn41⟩ := mod_nat (ns.getD 0 0) 41 (by decide)
    refine ⟨.ref a, rfl, a, ns, 0, rfl, L0.sm.seq hS, hn, _, 41, rfl, rfl, by show (0 : Int) < 41; decide, (n : Int), congrArg (fun z => [V.int z]) en, by omega, by omega, ?_⟩
    refine for_range (n := ((n : Nat) : Int).toNat) (fun i σ H' => ∃ dd u3 u4 u5 u6 u7 u8 u9 u10 u11, σ = [some (.ref a), some (.ref p1), some (.ref p2), u3, u4, u5, u6, u7, u8, u9, u10, u11] ∧ LS K H H' p1 p2 aa qq kk dd dd)
      ⟨_, _, _, _, _, _, _, _, _, _, rfl, L0⟩ (fun i σ H' hi hP => ?_) fun σ H' hP => ?_
    · obtain ⟨dd, u3, u4, u5, u6, u7, u8, u9, u10, u11, rfl, L⟩ := hP
      refine ⟨.ref a, rfl, .int (0 + (i : Nat)), rfl, 2, _, rfl, rfl, a, ns, 2 + i, congrArg (fun z => [V.ref a, V.int z]) (by omega), L.sm.seq hS, hn, _, 4, rfl, by omega, fun H7 o ds hds s7 no eo => ?_⟩
      have hdl := hds.1
      have L := L.mono s7
      refine draw_read (i := 4) (k := 0) (n := 2) rfl (.inl (.inl eo)) (by omega) (by decide) fun m hm => ?_
      obtain ⟨b, rfl⟩ : ∃ b : Bool, m = b.toNat := by
        match m, hm with
        | 0, _ => exact ⟨false, rfl⟩
        | 1, _ => exact ⟨true, rfl⟩
        | m + 2, h => exact absurd h (by omega)
      refine ⟨fun σ H' => ∃ dd u6 u7 u8 u9 u10, σ = [some (.ref a), some (.ref p1), some (.ref p2), some (.int (0 + (i : Nat))), some (.ref o), some (.int (b.toNat : Nat)), u6, u7, u8, u9, u10, u11] ∧ LS K H H' p1 p2 aa qq kk dd dd, ?_, fun σ H' hM => ?_⟩
      · refine draw_read (i := 4) (k := 1) (n := 5) rfl (.inl (.inl eo)) (by omega) (by decide) fun m hm => ?_
        refine ⟨rfl, _, rfl, iteB (fun c => ?_) fun c => ?_⟩
        · -- one takes the other
          obtain ⟨kv, g0, hK⟩ := L.kno (!b)
          obtain ⟨ks, ek, nd, hmem⟩ := hK.ks
          have hok := hK.ok
          refine ⟨kk (!b), .dK kv, g0, trivial, fun od => ?_⟩
          have np2 : p2 ≠ kk (!b) := fun e => by
            have := L.l2
            rw [e, g0] at this
            cases this
          have l2f : upd H7 (kk (!b)) (.frz od (.dK kv)) p2 = some (.lst [.ref (kk false), .ref (kk true)]) := by
            rw [upd_ne np2]
            exact L.l2
          obtain ⟨kv1, g1, hK1⟩ := L.kno b
          have g1f : upd H7 (kk (!b)) (.frz od (.dK kv)) (kk b) = some (.dK kv1) := by
            rw [upd_ne (L.kne b)]
            exact g1
          have e0f : upd H7 (kk (!b)) (.frz od (.dK kv)) (kk (!b)) = some (.frz od (.dK kv)) := upd_same
          have unf : ∀ {D : Addr} {l : HO}, D ≠ kk (!b) → upd (upd (upd H7 (kk (!b)) (.frz od (.dK kv))) D l) (kk (!b)) (.dK kv) = upd H7 D l := fun n => upd_frz g0 n
          generalize hHf : upd H7 (kk (!b)) (.frz od (.dK kv)) = Hf at l2f g1f e0f unf
          refine ⟨.ref p2, rfl, .int (b.toNat : Nat), rfl, 1, _, rfl, rfl, p2, _, _, .ref (kk (!b)), rfl, rfl, .inl (.inl l2f), at2n, kk (!b), od, rfl, .inl ⟨kv, e0f, fun D nD => ?_⟩⟩
          have nDk : D ≠ kk (!b) := fun e => by
            rw [e, e0f] at nD
            cases nD
          have nDH : H7 D = none := by
            rw [← hHf, upd_ne nDk] at nD
            exact nD
          have nDp : p2 ≠ D := ne_of_none l2f nD
          have nDk1 : kk b ≠ D := ne_of_none g1f nD
          let nl : Nat → List Str := fun i => (ks.take i).filter ((dd b).nw (dd (!b)))
          refine lc_it (walk_keys (d := kk (!b)) (o := od) (kvs := kv)) (fun i H' => H' = upd Hf D (.lst ((nl i).map V.str))) rfl (fun i H' _ hP => by rw [hP, upd_ne (Ne.symm nDk)]; exact e0f) (fun i x H' H'' hi hP hY => ?_) fun H' hP => ?_
          · obtain ⟨rfl, k0, v, hkv, rfl⟩ := hY
            obtain ⟨k, hki, rfl⟩ := keyAt ek hkv
            have hmk : (dd (!b)).get k |>.isSome := (hmem k).mp (List.mem_of_getElem? hki)
            obtain ⟨n, en⟩ := Option.isSome_iff_exists.mp hmk
            subst hP
            have l2g : upd Hf D (.lst ((nl i).map V.str)) p2 = some (.lst [.ref (kk false), .ref (kk true)]) := by rw [upd_ne nDp]; exact l2f
            have e0g : upd Hf D (.lst ((nl i).map V.str)) (kk (!b)) = some (.frz od (.dK kv)) := by rw [upd_ne (Ne.symm nDk)]; exact e0f
            have g1g : upd Hf D (.lst ((nl i).map V.str)) (kk b) = some (.dK kv1) := by rw [upd_ne nDk1]; exact g1f
            refine ⟨rfl, ?_⟩
            refine ⟨.ref p2, rfl, .int (b.toNat : Nat), rfl, 1, _, rfl, rfl, p2, _, _, .ref (kk (!b)), rfl, rfl, .inl (.inl l2g), at2n, .str k, rfl, kk (!b), .int (n : Nat), rfl, .inl ⟨kv, .inr k, .inr ⟨od, e0g⟩, rfl, by rw [hK.val k, en]; rfl⟩, ?_⟩
            refine ⟨.ref p2, rfl, .int (b.toNat : Nat), rfl, p2, _, _, .ref (kk b), rfl, rfl, .inl (.inl l2g), at2, kk b, rfl, .inl ⟨kv1, .inl g1g⟩, .str k, rfl, 1, rfl, _, .inl ⟨kv1, .inr k, .inl g1g, rfl, rfl⟩, ?_⟩
            rw [gi_val hK1 k]
            refine ⟨(n : Int), gi ((dd b).get k), rfl, rfl, _, rfl, ?_⟩
            have enw : decide ((n : Int) > gi ((dd b).get k)) = (dd b).nw (dd (!b)) k := by
              unfold D3.nw
              rw [en]
              exact gi_newer (dd b) k n
            have enl : nl (i + 1) = nl i ++ if (dd b).nw (dd (!b)) k = true then [k] else [] := by
              show (ks.take (i + 1)).filter _ = _
              rw [List.take_add_one, hki, List.filter_append]
              show _ ++ List.filter _ [k] = _
              rw [List.filter_cons, List.filter_nil]
            refine iteB (fun c => ?_) fun c => ?_
            · rw [enw] at c
              rw [if_pos c] at enl
              refine ⟨.str k, rfl, _, upd_same, ?_, ?_⟩
              · rw [List.length_map]
                refine small1000 (Nat.le_trans (List.length_filter_le _ _) (Nat.le_trans (List.length_take_le _ _) ?_))
                have hl3 := hK.len
                have := congrArg List.length ek
                rw [List.length_map, List.length_map] at this
                omega
              · rw [upd_upd, enl, List.map_append]
                rfl
            · rw [enw] at c
              rw [if_neg (by rw [c]; exact Bool.false_ne_true), List.append_nil] at enl
              rw [enl]
          · subst hP
            have hlk : ks.length = kv.length := by
              have := congrArg List.length ek
              rw [List.length_map, List.length_map] at this
              exact this.symm
            have ent : nl kv.length = ks.filter ((dd b).nw (dd (!b))) := by
              show (ks.take kv.length).filter _ = _
              rw [← hlk, List.take_length]
            rw [ent]
            generalize hnl : ks.filter ((dd b).nw (dd (!b))) = nw at *
            refine ⟨by rw [upd_ne (Ne.symm nDk)]; exact e0f, ?_⟩
            rw [unf nDk]
            have L := L.mono (Sm.new (o := .lst (nw.map V.str)) nDH)
            have eD : upd H7 D (.lst (nw.map V.str)) D = some (.lst (nw.map V.str)) := upd_same
            generalize upd H7 D (.lst (nw.map V.str)) = H8 at L eD ⊢
            have memL : ∀ j, j ∈ nw ↔ j ∈ (dd (!b)).keys ∧ (dd b).nw (dd (!b)) j = true := fun j => by
              rw [← hnl, List.mem_filter, hmem j, mem_keys]
            have cnt : ((dd b).takes (dd (!b))).2 = nw.length := by
              rw [takes_cnt, ← hnl]
              exact ((((List.perm_ext_iff_of_nodup nd (keys_nodup _)).mpr fun k => (hmem k).trans mem_keys.symm).filter _).length_eq).symm
            obtain ⟨dx, kvs, h1, h2, h3⟩ := L.dem b
            have nDq : D ≠ qq b := fun e => by
              rw [e, h2] at eD
              cases eD
            refine ⟨.ref p1, rfl, .int (b.toNat : Nat), rfl, p1, _, _, .ref (aa b), rfl, rfl, .inl (.inl L.l1), at2, aa b, dx, _, rfl, h1, rfl, .ref p1, rfl, .int (b.toNat : Nat), rfl, 1, _, rfl, rfl, p1, _, _, .ref (aa (!b)), rfl, rfl, .inl (.inl L.l1), at2n, aa b, dd b, qq b, aa (!b), dd (!b), qq (!b), rfl, L.dem b, L.dem (!b), L.qne b, L.sm.tabs hT, fun kvs' H9 hk' s9 => ?_⟩
            have L := (L.setQ b hk').mono s9
            have eD : H9 D = some (.lst (nw.map V.str)) := s9.lst (by rw [upd_ne nDq]; exact eD)
            refine ⟨.ref D, rfl, D, _, rfl, .inl (.inl (.inl eD)), rfl, _, rfl, toIf (b := false) ?_ (iteF ?_)⟩
            · rw [List.length_map, cnt, decide_eq_true rfl]
              rfl
            refine ⟨.ref D, rfl, D, rfl, ⟨_, .inl (.inl eD)⟩, ?_⟩
            have hidx : ∀ j, j ∈ nw → ∃ n : Nat, (dd (!b)).get j = some n ∧ n ∈ nums := fun j hj => by
              obtain ⟨n, en⟩ := Option.isSome_iff_exists.mp (mem_keys.mp ((memL j).mp hj).1)
              exact ⟨n, en, hok j n en⟩
            refine for_list (K := K) (a := D) (xs := nw.map V.str) (fun j σ H' => ∃ u6, σ = [some (.ref a), some (.ref p1), some (.ref p2), some (.int (0 + (i : Nat))), some (.ref o), some (.int (b.toNat : Nat)), u6, some (.ref D), u8, u9, u10, u11] ∧
                LS K H H' p1 p2 aa qq kk (put2 dd b ((dd b).takes (dd (!b))).1) (put2 dd b (putL (dd (!b)) (dd b) (nw.take j))) ∧ H' D = some (.lst (nw.map V.str)))
              ⟨_, rfl, by show LS K H H9 p1 p2 aa qq kk _ (put2 dd b (dd b)); rw [put2_id]; exact L, eD⟩ (fun j σ H' _ hP => ?_) (fun j x σ H' hx hP => ?_) fun σ H' hP => ?_
            · obtain ⟨u6, rfl, L, eD⟩ := hP
              exact .inl (.inl eD)
            · obtain ⟨u6, rfl, L, eD⟩ := hP
              rw [List.getElem?_map] at hx
              obtain ⟨k, hkj, rfl⟩ := Option.map_eq_some_iff.mp hx
              obtain ⟨n, en, hn7⟩ := hidx k (List.mem_of_getElem? hkj)
              obtain ⟨kvA, gA, hA⟩ := L.kno (!b)
              rw [put2_not] at hA
              obtain ⟨kvB, gB, hB⟩ := L.kno b
              rw [put2_same] at hB
              have nDk2 : D ≠ kk b := fun e => by
                rw [e, gB] at eD
                cases eD
              refine ⟨.ref p2, rfl, .int (b.toNat : Nat), rfl, 1, _, rfl, rfl, p2, _, _, .ref (kk (!b)), rfl, rfl, .inl (.inl L.l2), at2n, .str k, rfl, kk (!b), .int (n : Nat), rfl, .inl ⟨kvA, .inr k, .inl gA, rfl, by rw [hA.val k, en]; rfl⟩, ?_⟩
              refine ⟨.ref p2, rfl, .int (b.toNat : Nat), rfl, p2, _, _, .ref (kk b), rfl, rfl, .inl (.inl L.l2), at2, .str k, rfl, kk b, _, rfl, .inl ⟨kvB, .inr k, gB, rfl, Nat.lt_of_le_of_lt hB.len (by decide), rfl⟩, ?_⟩
              have L := L.setK b (hB.put (get_mem en) hn7)
              rw [put2_put2] at L
              refine ⟨_, rfl, ?_, by rw [upd_ne nDk2]; exact eD⟩
              rw [List.take_add_one, hkj]
              show LS K H _ p1 p2 aa qq kk _ (put2 dd b (putL (dd (!b)) (dd b) (nw.take j ++ [k])))
              rw [putL_snoc, en]
              exact L
            · obtain ⟨u6, rfl, L, eD⟩ := hP
              rw [List.length_map, List.take_length, putL_takes memL] at L
              exact ⟨_, _, _, _, _, _, rfl, L⟩
        · -- a token is noted
          have words3 : ([mS, uS, aS] : List Str).length = 3 := rfl
          refine ⟨by show 3 ≤ sizeLine; decide, fun p np => ?_⟩
          have L := L.mono (Sm.new (o := .lst ([mS, uS, aS].map V.str)) np)
          have eo1 := (Sm.new (o := .lst ([mS, uS, aS].map V.str)) np).lst eo
          refine draw_read (i := 4) (k := 2) (n := 3) rfl (.inl (.inl eo1)) (by omega) (by decide) fun m3 hm3 => ?_
          refine ⟨p, [mS, uS, aS].map V.str, m3, .str ([mS, uS, aS][m3]'(by omega)), rfl, rfl, .inl (.inl upd_same), at_str (ds := [mS, uS, aS]) (by omega), ?_⟩
          have hk : [mS, uS, aS][m3]'(by omega) ∈ three := by
            have z := List.getElem_mem (l := [mS, uS, aS]) (n := m3) (by omega)
            revert z
            generalize [mS, uS, aS][m3]'(by omega) = x
            intro z
            simp only [List.mem_cons, List.not_mem_nil, or_false] at z
            rcases z with rfl | rfl | rfl <;> decide +kernel
          generalize [mS, uS, aS][m3]'(by omega) = k at hk ⊢
          refine ⟨by show 7 ≤ sizeLine; decide, fun p' np' => ?_⟩
          have L := L.mono (Sm.new (o := .lst (nums.map fun n => V.int (n : Nat))) np')
          have eo2 := (Sm.new (o := .lst (nums.map fun n => V.int (n : Nat))) np').lst eo1
          refine draw_read (i := 4) (k := 3) (n := 7) rfl (.inl (.inl eo2)) (by omega) (by decide) fun m7 hm7 => ?_
          have hl7 : m7 < nums.length := hm7
          refine ⟨p', nums.map fun n => V.int (n : Nat), m7, .int (nums[m7] : Nat), rfl, rfl, .inl (.inl upd_same), atI_nat (by rw [List.getElem?_map, List.getElem?_eq_getElem hl7]; rfl), ?_⟩
          have hn7 : nums[m7] ∈ nums := List.getElem_mem hl7
          generalize nums[m7] = n7 at hn7 ⊢
          have l4 := three_len k hk
          have n4 := nums_le n7 hn7
          have l7 := num_len (n := n7) (by omega)
          have e1 : atS.length = 1 := by decide +kernel
          obtain ⟨kv, g0, hK⟩ := L.kno b
          refine ⟨.int (n7 : Nat), rfl, .ref p2, rfl, .int (b.toNat : Nat), rfl, p2, _, _, .ref (kk b), rfl, rfl, .inl (.inl L.l2), at2, kk b, rfl, .inl ⟨kv, .inl g0⟩, .str k, rfl, 1, rfl, _, .inl ⟨kv, .inr k, .inl g0, rfl, rfl⟩, ?_⟩
          rw [gi_val hK k]
          refine ⟨(n7 : Int), gi ((dd b).get k), rfl, rfl, ?_⟩
          have enw : decide ((n7 : Int) > gi ((dd b).get k)) = (dd b).newer k n7 := gi_newer (dd b) k n7
          obtain ⟨dx, kvs, h1, h2, h3⟩ := L.dem b
          refine ⟨.ref p1, rfl, .int (b.toNat : Nat), rfl, p1, _, _, .ref (aa b), rfl, rfl, .inl (.inl L.l1), at2, aa b, dx, _, rfl, h1, rfl, .str k, rfl, k, atS, rfl, rfl, by omega, .int (n7 : Nat), rfl, (n7 : Int), rfl, log2_small (by omega), k ++ atS, toString (n7 : Int), rfl, rfl, by rw [Str.length_append]; omega, aa b, k, n7, dd b, qq b, rfl, L.dem b, hk, hn7, L.sm.tabs hT, fun kvs' H10 hk' s10 => ?_⟩
          have L := (L.setQ b hk').mono s10
          refine ⟨.bl ((dd b).newer k n7), rfl, .bl ((dd b).newer k n7), .ty "bool", _, _, true, rfl, .ty _, .base (.bl _), kit_ty (by decide +kernel), true, rfl, iteF ?_⟩
          refine ⟨.bl ((dd b).newer k n7), rfl, .bl (decide ((n7 : Int) > gi ((dd b).get k))), rfl, rfl, _, rfl, toIf (b := false) (by rw [enw, decide_eq_true rfl]; rfl) (iteF ?_)⟩
          refine ⟨.bl (decide ((n7 : Int) > gi ((dd b).get k))), rfl, _, rfl, iteB (fun nw => ?_) fun nw => ?_⟩
          · rw [enw] at nw
            obtain ⟨kv, g0, hK⟩ := L.kno b
            refine ⟨.int (n7 : Nat), rfl, .ref p2, rfl, .int (b.toNat : Nat), rfl, p2, _, _, .ref (kk b), rfl, rfl, .inl (.inl L.l2), at2, .str k, rfl, kk b, _, rfl, .inl ⟨kv, .inr k, g0, rfl, Nat.lt_of_le_of_lt hK.len (by decide), rfl⟩, ?_⟩
            have L := L.setK b (hK.put hk hn7)
            have en : (dd b).note k n7 = (dd b).put k n7 := if_pos nw
            rw [en] at L
            exact ⟨_, _, _, _, _, _, rfl, L⟩
          · rw [enw] at nw
            have en : (dd b).note k n7 = dd b := if_neg (by rw [nw]; exact Bool.false_ne_true)
            rw [en, put2_id] at L
            exact ⟨_, _, _, _, _, _, rfl, L⟩
      · obtain ⟨dd, u6, u7, u8, u9, u10, rfl, L⟩ := hM
        obtain ⟨kv0, g0, h0⟩ := L.kno false
        refine ⟨.ref p1, rfl, p1, _, 0, .ref (aa false), rfl, rfl, .inl (.inl L.l1), rfl, .ref p2, rfl, p2, _, 0, .ref (kk false), rfl, rfl, .inl (.inl L.l2), rfl, aa false, kk false, dd false, qq false, kv0, rfl, L.dem false, g0, h0, L.sm.tabs hT, fun H8 s8 => ?_⟩
        have L := L.mono s8
        obtain ⟨kv1, g1, h1⟩ := L.kno true
        refine ⟨_, rfl, iteF ⟨.ref p1, rfl, p1, _, 1, .ref (aa true), rfl, rfl, .inl (.inl L.l1), rfl, .ref p2, rfl, p2, _, 1, .ref (kk true), rfl, rfl, .inl (.inl L.l2), rfl, aa true, kk true, dd true, qq true, kv1, rfl, L.dem true, g1, h1, L.sm.tabs hT, fun H9 s9 => ?_⟩⟩
        have L := L.mono s9
        exact ⟨_, rfl, iteF ⟨dd, _, _, _, _, _, _, _, _, _, rfl, L⟩⟩
    · obtain ⟨dd, u3, u4, u5, u6, u7, u8, u9, u10, u11, rfl, L⟩ := hP
      -- the end
      obtain ⟨m, em, hm⟩ := mod_nat (ns.getD 1 0) 7 (by decide)
      refine ⟨by show 7 ≤ sizeLine; decide, fun p np => ?_⟩
      have L := L.mono (Sm.new (o := .lst (bads.map V.str)) np)
      have hb : atI (bads.map V.str) (m : Int) = some (.str (bads.getD m Str.empty)) := by
        rw [at_str (ds := bads) (k := m) hm, List.getD_eq_getElem?_getD, List.getElem?_eq_getElem (show m < bads.length from hm)]
        rfl
      refine ⟨.ref a, rfl, a, ns, 1, rfl, L.sm.seq hS, hn, _, 7, rfl, rfl, by show (0 : Int) < 7; decide, p, bads.map V.str, m, .str (bads.getD m Str.empty), rfl, congrArg V.int em, .inl (.inl upd_same), hb, ?_⟩
      obtain ⟨dx0, kv0, g0, g1, g2⟩ := L.dem false
      refine ⟨.ref p1, rfl, p1, _, 0, .ref (aa false), rfl, rfl, .inl (.inl L.l1), rfl, aa false, dx0, _, rfl, g0, rfl, .ref p1, rfl, p1, _, 1, .ref (aa true), rfl, rfl, .inl (.inl L.l1), rfl, aa false, dd false, qq false, aa true, dd true, qq true, rfl, L.dem false, L.dem true, L.qne false, L.sm.tabs hT, fun kvs8 H8 hk8 s8 => ?_⟩
      have L := (L.setQ false hk8).mono s8
      obtain ⟨dx1, kv1, g3, g4, g5⟩ := L.dem true
      refine ⟨.ref p1, rfl, p1, _, 1, .ref (aa true), rfl, rfl, .inl (.inl L.l1), rfl, aa true, dx1, _, rfl, g3, rfl, .ref p1, rfl, p1, _, 0, .ref (aa false), rfl, rfl, .inl (.inl L.l1), rfl, aa true, _, qq true, aa false, _, qq false, rfl, L.dem true, L.dem false, L.qne true, L.sm.tabs hT, fun kvs9 H9 hk9 s9 => ?_⟩
      have L := (L.setQ true hk9).mono s9
      have hbad := bad_read hm
      refine ⟨_, rfl, bads.getD m Str.empty, rfl, hbad.2.2, L.sm.tabs hT, hbad.2.1, hbad.1, fun H10 s10 => ?_⟩
      have L := L.mono s10
      obtain ⟨dx2, kv2, g6, g7, g8⟩ := L.dem false
      refine ⟨true, rfl, iteT ⟨.ref p1, rfl, p1, _, 0, .ref (aa false), rfl, rfl, .inl (.inl L.l1), rfl, aa false, dx2, _, rfl, g6, rfl, aa false, _, qq false, rfl, L.dem false, fun H11 r0 s11 nr0 er0 => ?_⟩⟩
      have L := L.mono s11
      obtain ⟨dx3, kv3, g9, g10, g11⟩ := L.dem true
      refine ⟨.ref p1, rfl, p1, _, 1, .ref (aa true), rfl, rfl, .inl (.inl L.l1), rfl, aa true, dx3, _, rfl, g9, rfl, aa true, _, qq true, rfl, L.dem true, fun H12 r1 s12 nr1 er1 => ?_⟩
      refine eq_same (s12.lst er0) ?_ (q _)
      rw [er1]
      have e1 : ((dd true).takes ((dd false).takes (dd true)).1).1 = ((dd false).takes (dd true)).1 := takes_back (dd false) (dd true)
      exact congrArg (fun d : D3 => some (HO.lst (d.toks.map V.str))) e1
end
end A4

set_option Elab.async false
set_option linter.all false
set_option maxRecDepth 100000
set_option maxHeartbeats 0
namespace A4
open PySem PySem.Spec PyProof.Rows L2 AS
abbrev R : PySem.W.OpenRow := PySem.W.OpenLaw.row PySem.Challenge.rw_authsync_k05_demands
abbrev ex0 : PySem.W.Frag → Bool := fun K => veInitB K (He.ga K "AuthError") && (errB K "BadFeed" "line" "what" && clsB K "Demand" ["_newest"] ["note", "take", "token_for", "tokens", "text", "is_met"])
abbrev hk : PySem.W.Hook := AS.hookY 4 NN.fa NN.fn [] NN.tf ex0
def ob (s : PySem.W.SharedT) : He.AlX := AS.obsY 4 NN.fa NN.fn [] NN.tf ex0 (HandSHeadRun.getT s)
theorem ob_eq (s : PySem.W.SharedT) : ob s = hk.obs s.abs := AS.obsY_eq (HandSHeadRun.getT_eq s)
def loose : List Str := ["AuthError", "BadFeed", "_is_word", "is_identifier", "read_revision", "token_of", "split_token", "Demand", "read_demand", "_law_cell", "_law_draws", "_law_is_shown", "_law_is_bad", "LETTERS", "DIGITS", "WORD_SIGNS", "WORD_LIMIT", "GREATEST_REVISION", "REVISION_DIGITS"]
theorem run (w : World) : HandSHeadRun.RunEq R (PySem.W.view R.prog [23]) hk ob 8000 loose w := by
  intro os
  kernel_rfl
end A4

set_option Elab.async false
set_option linter.all false
set_option maxRecDepth 100000
set_option maxHeartbeats 0
open PySem PySem.W PySem.Calls PyProof.Rows
theorem PySem.Challenge.cw_authsync_k05_demands_holds : PySem.Challenge.rw_authsync_k05_demands.Holds := by
  w_on; o_law
  refine HandSHeadRun.head_any (r := A4.R) (q := view A4.R.prog [23]) (H := A4.hk) (ob := A4.ob) (M := 8000) (loose := A4.loose) (d := HandSHeadRun.topDef A4.R.prog 23) (kwd := []) A4.ob_eq
    (by kernel_rfl) (fun s => by kernel_rfl) A4.run (by kernel_rfl) (by kernel_rfl) (by kernel_rfl) (by rfl) (by first | assumption | decide +kernel) (by decide +kernel) ⟨rfl, rfl, rfl, rfl, rfl, by decide +kernel⟩ ?hw ?hc
  case hw => w_witness2
  case hc =>
    refine LamX.walk_ofTsE (l := PySem.Challenge.rw_authsync_k05_demands) (n := 63) (k := 7) (x := "script") (CX := fun _ => L2.CX0) rfl (by decide) (by kernel_rfl) ⟨rfl, by decide, by decide⟩ ?F (fun _ _ _ _ _ z => z)
    intro w mg fa h Y G hmg0
    obtain ⟨K, KX, c⟩ := Y
    have hmg : mg ("law" : PySem.Str) = some (.ref fa) := by
      have e : (HandSHeadRun.topDef A4.R.prog 23).name = ("law" : PySem.Str) := by kernel_rfl
      rw [← e]
      exact hmg0
    obtain ⟨m1, m23⟩ := He.ba c.more
    obtain ⟨m2, m3⟩ := He.ba m23
    refine ⟨K, KX, AS.lawAt (N := A4.NN) (d := A4.dlaw) (sp := A4.spLaw K) KX G c hmg (by decide +kernel) 18 rfl rfl rfl rfl (fun _ _ _ _ _ _ us hl => match us, hl with | [_], _ => rfl) (fun H a ns hl _ hT hS => ⟨a, ns, rfl, hS, hl, hT, fun _ => rfl⟩) fun base fd T F => A4.ok_law T (AS.veInitB_ok m1) (AS.errB_ok (T.g "BadFeed" (by decide +kernel)) m2) (AS.clsB_ok (T.g "Demand" (by decide +kernel)) m3) F⟩
