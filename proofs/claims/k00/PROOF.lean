import PyProof.Rows.All
import Wide.All
import OpenK.AllK
import Wide.FinOn
import HandS.AnyAll
import HandS.EndTab
import HandS.ForSpec
import HandS.ForMost
import HandS.Flow
import HandS.HeadWalk
import HandS.HeadHook4
import HandS.Head0
import HandS.Head1
import HandS.Head2
import HandS.HeadEnd
import HandS.IsInst
import HandS.FStr
import HandS.StrMore
import HandS.Wide
import HandS.Codes
import HandS.DeepEq
import HandS.Deep
import PySem.Challenge.RW_authsync_k00_names_and_tokens
import KE.DataEq
set_option Elab.async false
set_option linter.all false
set_option maxRecDepth 100000
set_option maxHeartbeats 2000000
namespace AS
open PySem PySem.Spec PyProof.Rows L2 GxR

/-- an element of a generator expression over signs that may read the module's names -/
def EltM (X : Cx) (scope : Scope) (x : Str) (elt : Expr) (pb : Nat → Bool) : Prop :=
  ∀ (ce : Env) (B : Around) (F : Value → Shared → Prop) (c : Nat) (t : Tok) (u : Shared) (m : Str → Option Value),
    ce.scope = scope → ce.globals = mainGlobals → u.heap.Ns mainGlobals X.mg → u.heap.Ns ce.locals m →
    m x = some (.str ⟨#[c]⟩ t) →
    wpAny (model X.prog X.w) B (eval elt ce) (fun y v => y = .bool (pb c) ∧ Keeps u v) F u

section
variable {X : Cx} {pins : List (Addr × Obj)} {σ : L2.St} {H : Hp} {s : Shared}

/-- x in NAME, NAME a text of the module's top -/
theorem elt_in {scope : Scope} {x g k : Str} {tk : Tok} {p1 p2 p3 : Pos}
    (hk : scope.kind = .function) (hl : scope.names.lookup x = some .local)
    (hg : scope.names.lookup g = some .globalImplicit) (hm : X.mg g = some (.str k tk))
    (hd : (x == ("__debug__" : Str)) = false := by decide) (hd2 : (g == ("__debug__" : Str)) = false := by decide) :
    EltM X scope x (.Compare (.Name x p1) [.In] [.Name g p2] p3)
      (fun c => decide (c ∈ k.cps.toList)) := by
  intro ce B F c t u m hs hgl hM hn hx
  refine wpAny_Compare1 ?_
  refine wpAny_Name (wpAny_loadName_local (by rw [hs]; exact hk)
    (show ce.scope.names.lookup x = some .local by rw [hs]; exact hl) hn hx ?_) hd
  refine Calls.Name_function_global (by rw [hs]; exact hk)
    (show ce.scope.names.lookup g = some .globalImplicit by rw [hs]; exact hg)
    (Calls.loadGlobal_global (by rw [hgl]; exact hM) hm ?_) hd2
  exact PySem.P.in_str ⟨congrArg Value.bool (PySem.StrLaws.found_one k c), keeps_tok _ _⟩

/-- what the walk's state is behind the iterator's making and the code object's finding: the heap m3 -/
theorem gen_tail {c P : Addr} {elt : Expr} {x : Str} {scope : Scope} {pb : Nat → Bool} {R : Str → Hp → Prop}
    {W' : Value → Shared → Prop} {a : Str} {H1 : Hp} {s1 : Shared} {o : Obj} {St : Nat → Heap → Prop} {ps : Array Value}
    {k : Nat} (hr : Room k X.A) (tb : TabB X.base X.mg c P) (gs : GenS X.env scope x) (hel : EltM X scope x elt pb)
    (J : Inv X pins σ H1 s1) (hP : H1 P = some (.tbl ps)) (hR : R a H1)
    (hW : ∀ a H1 g s5, R a H1 → Ready X pins σ H1 P a pb g s5 → W' (.ref g) s5)
    (wk : ∀ A' : Around, A'.handled = none →
      Walks X.prog X.w A' s1.heap.objs.size [s1.heap.objs.size] [s1.heap.objs.size] a.cps.size (SignAt a) St)
    (hst : St 0 (s1.heap.push o))
    (code : Value) (m3 : Heap) (tk : Nat) (qs : Array Value) (ext : Heap.ExtBut P (s1.heap.push o) m3)
    (grow : (s1.heap.push o).objs.size ≤ m3.objs.size)
    (at3 : m3.get? P = some { cls := .none, data := .fields qs }) (more : ∃ z, qs = ps ++ z) (trip : TriplesOk qs.toList) :
    wpAny (model X.prog X.w) X.A (builtinsFor X.env.globals X.env.builtins) (fun bi s₄ =>
      ∃ J fp wr n₀ Pf S0 pz F, Value.ref s1.heap.objs.size = .ref J ∧
        (∀ A' : Around, A'.handled = none → Walks X.prog X.w A' J fp wr n₀ Pf S0) ∧ S0 0 s₄.heap ∧
        (∀ b ∈ fp, b < s₄.heap.objs.size) ∧ s₄.heap.NoLimit ∧ cStatics ∉ wr ∧
        (∀ rf : Heap, (∀ b o, s₄.heap.get? b = some o → rf.get? b = some o) →
          QuietGen X.prog X.w (genEnv scope (cloFrom X.env.cells scope.names []) s₄.heap.objs.size code bi X.env)
            x [] elt (List.range s₄.heap.objs.size) wr Pf pz F rf) ∧
        (∀ g h₅ t5 st, st.bare = true → s₄.heap.objs.size < g → h₅.objs.size = g + 1 →
          (∀ b o, s₄.heap.get? b = some o → h₅.get? b = some o) →
          WalksS X.prog X.w X.A.in4 g (g :: s₄.heap.objs.size :: List.range s₄.heap.objs.size)
            (s₄.heap.objs.size :: wr) (GenOnlyQ s₄.gens.size) (passing pz n₀ 0).length
            (fun j y => ∃ i, (passing pz n₀ 0)[j]? = some i ∧ F i y)
            (GenAt X.prog X.w X.A.in4 g s₄.gens.size s₄.heap.objs.size (List.range s₄.heap.objs.size) wr pz n₀ F) →
          GenAt X.prog X.w X.A.in4 g s₄.gens.size s₄.heap.objs.size (List.range s₄.heap.objs.size) wr pz n₀ F 0
            { s₄ with gens := s₄.gens.push st, toks := t5, heap := h₅ } →
          W' (.ref g) { s₄ with gens := s₄.gens.push st, toks := t5, heap := h₅ })) X.xe { s1 with heap := m3, toks := tk } := by
  have tabAt : s1.heap.get? P = some { cls := .none, data := .fields ps } := J.hok P _ hP
  have tabLt := Heap.lt_size tabAt
  have lim := J.nolimit.push o
  obtain ⟨_, limNs, _⟩ := J.nolimit
  have stNe : cStatics ≠ P := fun z => by
    obtain ⟨ob, _, _, e, d, _⟩ := limNs
    rw [z, tabAt] at e
    cases e
    cases d
  have stLt := limNs.lt
  have glob1 : s1.heap.Ns mainGlobals X.mg := J.mod.glob.keeps J.bk
  have glob3 : m3.Ns mainGlobals X.mg := (glob1.push o).extBut ext tb.gP
  have szP : (s1.heap.push o).objs.size = s1.heap.objs.size + 1 := Heap.size_push ..
  have kept : ∀ b v, b ≠ P → s1.heap.get? b = some v → m3.get? b = some v :=
    fun b v n e => ext b v n (Heap.get?_push_of_some _ e)
  obtain ⟨bm, bo, b1, b2, b3, b4, b5, b6, b7, b8⟩ := tb.bm
  refine wpAny_builtinsFor (m := X.mg) (by rw [J.ok.glob]; exact glob3) b1 b2 (kept _ _ b4 (J.bk _ _ b5)) b6 b7 b8 ?_
  have one : ∀ b : Addr, b ∈ [s1.heap.objs.size] → b = s1.heap.objs.size := fun b hb => List.mem_singleton.mp hb
  refine ⟨_, _, _, _, _, _, (fun _ => true), (fun i y => ∃ cc, a.cps[i]? = some cc ∧ y = .bool (pb cc)), rfl, wk, ?_, ?_,
    lim.extBut ext stNe, fun z => Nat.ne_of_lt stLt (one _ z), ?_, ?_⟩
  · refine (wk X.A hr.hd).frame _ _ _ hst fun b hb v e => ext b v (fun z => ?_) e
    rw [z] at hb
    exact Nat.ne_of_lt tabLt (one _ hb)
  · intro b hb
    rw [one b hb]
    show s1.heap.objs.size < m3.objs.size
    omega
  · intro rf hrf
    constructor
    · intro A' E' i v s₂ m₂ _ _ _ _ _
      simp only [List.forIn_nil]
      exact wpAny_pure ⟨rfl, keeps_refl _⟩
    · intro A' E' i v s₂ m₂ _ hv _ hn hm hk
      obtain ⟨cc, u, hcc, rfl⟩ := hv
      have g2 : s₂.heap.Ns mainGlobals X.mg := by
        have hlt : mainGlobals < s1.heap.objs.size := glob1.lt
        obtain ⟨og, es, ep, e, r⟩ := glob3
        refine ⟨og, es, ep, hk mainGlobals (List.mem_range.mpr (Heap.lt_size e)) (fun z => Nat.ne_of_lt hlt (one _ z)) og (hrf _ _ e), r⟩
      exact wpAny_mono (hel _ A' E' cc u s₂ m₂ rfl J.ok.glob g2 hn hm) (fun y s3 r => ⟨⟨cc, hcc, r.1⟩, r.2⟩) fun _ _ e => e
  · intro g h5 t5 st bare lt5 sz5 keep5 W5 at5
    have full : passing (fun _ => true) a.cps.size 0 = List.range a.cps.size := passing_true _
    rw [full, List.length_range] at W5
    refine hW a H1 g _ hR ⟨_, _, _, _, _, W5.in4_1, at5, ?_, ?_⟩
    · intro j y sj Qj Ej hy hQj
      obtain ⟨i, hij, cc, hcc, rfl⟩ := hy
      obtain ⟨hj, ej⟩ := List.getElem?_eq_some_iff.mp hij
      rw [List.getElem_range] at ej
      subst ej
      have e9 : a.cps.toList[j]? = some cc := Array.getElem?_toList.trans hcc
      have e8 : trF pb a.cps.toList j = pb cc := trF_some e9
      have hQ2 : Qj (trF pb a.cps.toList j) sj := hQj
      rw [e8] at hQ2
      exact wpAny_truthy_bool hQ2
    · intro s' mv
      obtain ⟨z, ez⟩ := more
      have nw : ∀ b v, s1.heap.get? b = some v → b ∉ m3.objs.size :: [s1.heap.objs.size] := fun b v e hb => by
        have lt := Heap.lt_size e
        rcases List.mem_cons.mp hb with q | q
        · rw [q] at lt
          have l2 : s1.heap.objs.size < m3.objs.size := by omega
          exact Nat.lt_asymm l2 lt
        · rw [one b q] at lt
          exact Nat.lt_irrefl _ lt
      have grown : s'.heap.get? P = some { cls := .none, data := .fields (ps ++ z) } := by
        rw [← ez]
        exact mv.heap P _ (nw P _ tabAt) (keep5 P _ at3)
      have K := inv_tab (more := z) (h' := s'.heap) (g' := s'.gens) (d' := s'.drawn) (t' := s'.toks) J hP
        (fun b v n e => mv.heap b v (nw b v e) (keep5 b v (kept b v n e))) grown (AllBare.movedS (J.bare.push bare) mv)
      rw [sh_eta s1 s' mv.os] at K
      exact ⟨_, ⟨⟨ps ++ z, upd_same, by rw [← ez]; exact trip⟩, fun b n => upd_ne n⟩, K⟩

theorem gen_strM {c P : Addr} {elt iter : Expr} {x : Str} {px gpos : Pos} {scope : Scope} {pb : Nat → Bool}
    {te : TE} {k : Nat} {W' : Value → Shared → Prop} {R : Str → Hp → Prop}
    (hr : Room k X.A) (tb : TabB X.base X.mg c P) (hc : X.env.code = .ref c) (gs : GenS X.env scope x)
    (hi : PE X iter te) (hel : EltM X scope x elt pb) (hs : ∀ v, genFold iter X.env v = pure v)
    (I : Inv X pins σ H s) (h : te σ H fun v H1 => ∃ a : Str, v = .str a ∧ TabG H1 P ∧ R a H1)
    (hW : ∀ a H1 g s5, R a H1 → Ready X pins σ H1 P a pb g s5 → W' (.ref g) s5) :
    wpAny (model X.prog X.w) X.A (eval (.GeneratorExp elt [⟨.Name x px, iter, [], 0⟩] scope gpos) X.env) W' X.xe s := by
  have dp := hr.dp
  refine wpAny_GeneratorExp_walksQ hr.hd gs.co (closure_ok gs.free) gs.cell gs.dot gs.loc gs.kind (by omega) ?_ hs
  refine thn (hi.run pins s σ H _ I h) fun xv s1 r => ?_
  obtain ⟨v, H1, J, rv, a, rfl, ⟨ps, hP, ht⟩, hR⟩ := r
  obtain ⟨t, rfl⟩ := (show ∃ t, xv = Value.str a t from rv)
  refine wpAny_pyIter_str fun o St wk hst => ⟨J.nolimit.push o, ?_⟩
  have tabP : (s1.heap.push o).get? P = some { cls := .none, data := .fields ps } := Heap.get?_push_of_some _ (J.hok P _ hP)
  have cd : PySem.W.CodeHd (s1.heap.push o) c P := tb.code.keeps fun b u e => Heap.get?_push_of_some _ (J.bk b u e)
  have go := @gen_tail X pins σ c P elt x scope pb R W' a H1 s1 o St ps k hr tb gs hel J hP hR hW wk hst
  cases hf : codeAmong gpos ps.toList with
  | some cv =>
    exact wpAny_genexprCode_hit hc (cd.code tabP ht) hf (go cv _ s1.toks ps (Heap.ExtBut.refl _ _) (Nat.le_refl _) tabP ⟨#[], by simp⟩ ht)
  | none =>
    refine wpAny_genexprCodeX hc (cd.code tabP ht) (cd.tab tabP) hf fun c' h' tk hx hge hlt hco' _ htab' _ => ?_
    obtain ⟨o1, vs, f1, tf, fl, tg, inF, tx, tt, op, _, _, _, _, _, _, _, _, _, htr, _⟩ := hco'
    exact go _ h' tk _ hx (Nat.le_trans hge (Nat.le_of_lt hlt)) htab'.2 ⟨_, rfl⟩ htr

/-- all(test for x in e), e a text, the test an EltM -/
theorem pe_allM {c P : Addr} {elt iter : Expr} {x : Str} {px p pos gpos : Pos} {scope : Scope} {pb : Nat → Bool} {te : TE} {k : Nat}
    (hr : Room k X.A) (hg : Gl X "all") (hm : X.mg "all" = none) (tb : TabB X.base X.mg c P) (hc : X.env.code = .ref c)
    (gs : GenS X.env scope x) (hi : PE X iter te) (hel : EltM X scope x elt pb) (hs : ∀ v, genFold iter X.env v = pure v)
    (hb : bootBuiltins "all" = some (.builtin "all") := by decide +kernel)
    (he : starEach [.GeneratorExp elt [⟨.Name x px, iter, [], 0⟩] scope gpos] X.env =
      (false, eval (.GeneratorExp elt [⟨.Name x px, iter, [], 0⟩] scope gpos) X.env) :: starEach [] X.env := by rfl) :
    PE X (.Call (.Name "all" p) [.GeneratorExp elt [⟨.Name x px, iter, [], 0⟩] scope gpos] [] pos) (tAllS P pb te) := by
  constructor
  intro pins s σ H Q I h
  refine wpAny_Call_Name_kw (ld_blt I hg hm hb (PyProof.Rows.callWith_builtin1 ?_ he (by rfl)))
  rw [he]
  show wpAny _ _ (spliced ((false, eval (.GeneratorExp elt [⟨.Name x px, iter, [], 0⟩] scope gpos) X.env) ::
    backTo pos (starEach [] X.env))) _ _ s
  refine Calls.spliced_cons (gen_strM (R := fun a H1 => ∀ H2, Tabbed P H1 H2 → Q (.bl (a.cps.toList.all pb)) H2)
    hr tb hc gs hi hel hs I h fun a H1 g s5 hR hG => Calls.spliced_nil ?_)
  obtain ⟨fp, wr, G, F, St, W, hst, htr, hI⟩ := hG
  refine call_all_walkS (W.self 0 _ _ _ hst ⟨g, fp, wr, G, _, F, St, _, rfl, W, hst, htr, fun s' mv => ?_⟩)
  obtain ⟨H2, hT, J⟩ := hI s' mv
  have q := hR H2 hT
  rw [← all_signs a pb] at q
  exact ⟨.bl _, H2, J, rfl, q⟩
end
end AS

set_option Elab.async false
set_option linter.all false
set_option maxRecDepth 100000
set_option maxHeartbeats 2000000
namespace AS
open PySem PySem.Spec PyProof.Rows L2

/-! ### the facts behind the top, by names -/
structure Names where
  glos : List Str
  frees : List Str
  txts : List (Str × Str)
  nums : List (Str × Int)
  fn : List He.DefD
  tf : List He.Defn
def Names.fa (N : Names) : List He.Fa := N.glos.map .glo ++ (N.frees.map .free ++ (N.txts.map (fun p => .str p.1 p.2) ++ N.nums.map fun p => .int p.1 p.2))
structure Top (N : Names) (K : PySem.W.Frag) (mg : Str → Option Value) (base : Heap) : Prop where
  d : He.SaysD N.fa N.fn K
  g : ∀ x ∈ N.glos, mg x = some (.ref (He.ga K x))
  f : ∀ x ∈ N.frees, mg x = none
  s : ∀ p ∈ N.txts, ∃ t, mg p.1 = some (.str p.2 t)
  i : ∀ p ∈ N.nums, ∃ t, mg p.1 = some (.int p.2 t)
  tb : ∀ p ∈ N.tf, GxR.TabB base mg (He.cT K p).1 (He.cT K p).2

theorem Top.mk' {N : Names} {K : PySem.W.Frag} {mg : Str → Option Value} {base h : Heap} (X : K.In h) (G : h.Ns mainGlobals mg) (c : He.SaysD N.fa N.fn K)
    (tb : ∀ p ∈ N.tf, GxR.TabB base mg (He.cT K p).1 (He.cT K p).2) : Top N K mg base where
  d := c
  tb := tb
  g := fun x hx => He.glo_ok X G (c.facts (f := .glo x) (List.mem_append_left _ (List.mem_map.mpr ⟨x, hx, rfl⟩)))
  f := fun x hx => He.free_ok X G (c.facts (f := .free x) (List.mem_append_right _ (List.mem_append_left _ (List.mem_map.mpr ⟨x, hx, rfl⟩))))
  s := fun p hp => He.str_ok X G (c.facts (f := .str p.1 p.2) (List.mem_append_right _ (List.mem_append_right _ (List.mem_append_left _ (List.mem_map.mpr ⟨p, hp, rfl⟩)))))
  i := fun p hp => He.int_ok X G (c.facts (f := .int p.1 p.2) (List.mem_append_right _ (List.mem_append_right _ (List.mem_append_right _ (List.mem_map.mpr ⟨p, hp, rfl⟩)))))

/-! ### a def that keeps a promise, and its call -/
structure DOk (P : Program) (w : World) (K : PySem.W.Frag) (mg : Str → Option Value) (base : Heap) (CX : CXT) (k : Nat) (x : Str) (ps : List Str) (sp : Sp) : Prop where
  ex : ∃ fd, FnOk P w K mg base CX k (He.ga K x) fd ps sp ∧ Binds K fd ps []
  kp : PySem.W.keepIn K (.ref (He.ga K x)) = true
  gl : mg x = some (.ref (He.ga K x))
section
variable {P : Program} {w : World} {K : PySem.W.Frag} {mg : Str → Option Value} {base : Heap} {N : Names}
theorem DOk.mono {CX : CXT} {j k : Nat} {x : Str} {ps : List Str} {sp : Sp} (G : DOk P w K mg base CX j x ps sp) (h : j ≤ k) : DOk P w K mg base CX k x ps sp := by
  obtain ⟨⟨fd, F, b⟩, kp, gl⟩ := G
  exact ⟨⟨fd, F.mono h, b⟩, kp, gl⟩
/-- THE RULE for a def of the list; it also tells which code object the frame runs -/
theorem Top.ok {CX : CXT} {d : He.DefD} {x : Str} {ps L : List Str} {k : Nat} {sp : Sp} (T : Top N K mg base) (i : Nat) (hi : N.fn[i]? = some d) (hat : d.at_ = (x, none)) (hdf : d.dfl = []) (hkw : d.kwd = []) (hx : x ∈ N.glos)
    (S : FnScope L ps d.scope)
    (hb : ∀ (kV doc pm : Value) (an : Option Addr) (cdv ct : Value) (us : List Value), us.length = ps.length → bindArgs (PySem.W.fnOf d.name d.qual d.params d.body d.scope .none kV doc pm an cdv ct) ⟨us, []⟩ = pure (ps.zip us))
    (len : ∀ vs H Q E, sp vs H Q E → vs.length = ps.length)
    (hbody : ∀ (cdv : Value) (A : Around) (outer : List Env) (s : Shared) (H : Hp) (vs : List V) (Q : VK) (E : XK), cdv = .ref (He.codeOf K (x, none)) → Room k (A.deeper (envOfC d.qual d.scope s.heap.objs.size (He.ga K x) cdv)) → sp vs H Q E →
      ∃ t, PSs (cxOf CX P w K mg base L d.qual d.scope (He.ga K x) cdv A outer s H E) d.body t ∧ t { nx := fun _ H' => Q .non H', rt := Q } (start L vs) H) :
    DOk P w K mg base CX (k + 1) x ps sp := by
  obtain ⟨fd, F⟩ := T.d.def_ i hi
  have e1 : d.dvs K = [] := by unfold He.DefD.dvs; rw [hdf]; rfl
  have e2 : d.kws K = [] := by unfold He.DefD.kws; rw [hkw]; rfl
  have e3 : He.fAd K d.at_ = He.ga K x := by rw [hat]; rfl
  rw [e1, e2, e3] at F
  refine ⟨⟨fd, ?_, F.bindsN hb⟩, F.kp, T.g x hx⟩
  obtain ⟨oc, od, dV, kV, doc, pm, an, cdv, ct, osl, rfl, lk, hcd, hD, _⟩ := F.ex
  obtain ⟨c, ec⟩ := He.codeIn_ref hcd
  have lk2 : K.lookup (He.fAd K (x, none)) = some ⟨oc, od, .func (PySem.W.fnOf d.name d.qual d.params d.body d.scope dV kV doc pm an cdv ct), osl⟩ := lk
  have ek : cdv = .ref (He.codeOf K (x, none)) := by
    rw [He.codeOf_eq lk2 (show (PySem.W.fnOf d.name d.qual d.params d.body d.scope dV kV doc pm an cdv ct).code = .ref c from ec), ec]
  exact fn_of lk hcd S len fun A outer s H vs Q E hr hsp => hbody cdv A outer s H vs Q E ek hr hsp
/-- .. for a def that lets nothing out -/
theorem Top.ok0 {d : He.DefD} {x : Str} {ps L : List Str} {k : Nat} {sp : Sp} (T : Top N K mg base) (i : Nat) (hi : N.fn[i]? = some d) (hat : d.at_ = (x, none)) (hdf : d.dfl = []) (hkw : d.kwd = []) (hx : x ∈ N.glos)
    (S : FnScope L ps d.scope)
    (hb : ∀ (kV doc pm : Value) (an : Option Addr) (cdv ct : Value) (us : List Value), us.length = ps.length → bindArgs (PySem.W.fnOf d.name d.qual d.params d.body d.scope .none kV doc pm an cdv ct) ⟨us, []⟩ = pure (ps.zip us))
    (len : ∀ vs H Q E, sp vs H Q E → vs.length = ps.length)
    (hbody : ∀ (cdv : Value) (A : Around) (outer : List Env) (s : Shared) (H : Hp) (vs : List V) (Q : VK) (E : XK), cdv = .ref (He.codeOf K (x, none)) → Room k (A.deeper (envOfC d.qual d.scope s.heap.objs.size (He.ga K x) cdv)) → sp vs H Q E →
      ∃ t, PSs (cxOf CX0 P w K mg base L d.qual d.scope (He.ga K x) cdv A outer s H E).nox d.body t ∧ t { nx := fun _ H' => Q .non H', rt := Q } (start L vs) H) :
    DOk P w K mg base CX0 (k + 1) x ps sp :=
  T.ok i hi hat hdf hkw hx S hb len fun cdv A outer s H vs Q E ec hr hsp => let ⟨t, h, q⟩ := hbody cdv A outer s H vs Q E ec hr hsp; ⟨t, h.nox, q⟩
end
section
variable {X : Cx} {CX : CXT} {k : Nat} {x : Str} {ps : List Str} {sp : Sp} {p pos : Pos} {e : Expr} {es : List Expr} {t : TA}
/-- f(e, ..) of a def that lets nothing out -/
theorem pe_callD (G : DOk X.prog X.w X.K X.mg X.base CX0 k x ps sp) (hr : Room k X.A) (ha : PA X (e :: es) t) (hg : Gl X x := by rfl) (hdb : (x == ("__debug__" : Str)) = false := by decide)
    (he : starEach (e :: es) X.env = (false, eval e X.env) :: starEach es X.env := by rfl) (hpl : (backTo pos (starEach es X.env)).any (·.1) = false := by rfl) : PE X (.Call (.Name x p) (e :: es) [] pos) (tCall sp [] E0 t) := by
  obtain ⟨fd, F, b⟩ := G.ex
  exact pe_call F hr hg G.gl G.kp b .nil pass0 ha hdb he hpl
end

section
variable {P : Program} {w : World} {K : PySem.W.Frag} {mg : Str → Option Value} {base : Heap} {N : Names}
/-- the law's own def, its function object given -/
theorem okF {d : He.DefD} {x : Str} {ps L : List Str} {k : Nat} {sp : Sp} {fd : FuncData} (F : FunD K d.name d.qual d.params d.body d.scope [] [] (He.ga K x) fd) (S : FnScope L ps d.scope)
    (len : ∀ vs H Q E, sp vs H Q E → vs.length = ps.length)
    (hbody : ∀ (cdv : Value) (A : Around) (outer : List Env) (s : Shared) (H : Hp) (vs : List V) (Q : VK) (E : XK), Room k (A.deeper (envOfC d.qual d.scope s.heap.objs.size (He.ga K x) cdv)) → sp vs H Q E →
      ∃ t, PSs (cxOf CX0 P w K mg base L d.qual d.scope (He.ga K x) cdv A outer s H E).nox d.body t ∧ t { nx := fun _ H' => Q .non H', rt := Q } (start L vs) H) :
    FnOk P w K mg base CX0 (k + 1) (He.ga K x) fd ps sp := by
  obtain ⟨oc, od, dV, kV, doc, pm, an, cdv, ct, osl, rfl, lk, hcd, hD, _⟩ := F.ex
  exact fn_of lk hcd S len fun A outer s H vs Q E hr hsp => let ⟨t, h, q⟩ := hbody cdv A outer s H vs Q E hr hsp; ⟨t, h.nox, q⟩

/-- the tables of the listed defs -/
def Tabs (K : PySem.W.Frag) (tf : List He.Defn) (H : Hp) : Prop := ∀ p ∈ tf, GxR.TabG H (He.cT K p).2

theorem lawAt {l : PySem.W.OpenLaw} {fa : Addr} {h : Heap} {ex : PySem.W.Frag → Bool} {k n : Nat} {sp : Sp} {d : He.DefD} (X : K.In h) (G : h.Ns mainGlobals mg) (c : He.SaysX N.fa N.fn [] N.tf ex w h K)
    (hfa : mg "law" = some (.ref fa)) (hl : ("law" : Str) ∈ N.glos) (i : Nat) (hi : N.fn[i]? = some d) (hat : d.at_ = (("law" : Str), none)) (hdf : d.dfl = []) (hkw : d.kwd = [])
    (hb : ∀ (kV doc pm : Value) (an : Option Addr) (cdv ct : Value) (us : List Value), us.length = [("script" : Str)].length → bindArgs (PySem.W.fnOf d.name d.qual d.params d.body d.scope .none kV doc pm an cdv ct) ⟨us, []⟩ = pure ([("script" : Str)].zip us))
    (hsp : ∀ (H : Hp) (a : Addr) (ns : List Int), ns.length ≤ n → (∀ z ∈ ns, Builtin.Int.intBits z ≤ 1048576) → Tabs K N.tf H → SqL K H a (ns.map V.int) → sp [.ref a] H (fun v _ => v = .bl true) fun _ _ _ => False)
    (hF : ∀ (base : Heap) (fd : FuncData), Top N K mg base → FunD K d.name d.qual d.params d.body d.scope [] [] (He.ga K "law") fd → FnOk l.prog w K mg base CX0 k (He.ga K "law") fd ["script"] sp) :
    LamX.LawAtS l w K CX0 k n "script" mg fa h := by
  obtain ⟨fd, F⟩ := c.t.d.def_ i hi
  have e1 : d.dvs K = [] := by unfold He.DefD.dvs; rw [hdf]; rfl
  have e2 : d.kws K = [] := by unfold He.DefD.kws; rw [hkw]; rfl
  have e3 : He.fAd K d.at_ = He.ga K "law" := by rw [hat]; rfl
  rw [e1, e2, e3] at F
  have eg : mg "law" = some (.ref (He.ga K "law")) := He.glo_ok X G (c.t.d.facts (f := .glo "law") (List.mem_append_left _ (List.mem_map.mpr ⟨_, hl, rfl⟩)))
  rw [hfa] at eg
  cases eg
  have mem : ∀ p, p ∈ N.tf.map (He.cT K) → ∃ q ∈ N.tf, He.cT K q = p := fun p hp => List.mem_map.mp hp
  refine ⟨fd, N.tf.map (He.cT K), sp, fun p hp => ?_, fun p hp => ?_, fun p hp => ?_, fun s u => FunD.bindsA (ps := [("script" : Str)]) F hb s [u] rfl, fun H a ns hl hbits hT hS => hsp H a ns hl hbits (fun q hq => ⟨_, hT _ (List.mem_map.mpr ⟨q, hq, rfl⟩), trivial⟩) hS, fun base X2 G2 hT => hF base fd (Top.mk' X2 G2 c.t.d fun q hq => have z := hT _ (List.mem_map.mpr ⟨q, hq, rfl⟩); ⟨z.code, z.bm, z.gP⟩) F⟩
  · obtain ⟨q, hq, rfl⟩ := mem p hp
    exact c.empty q hq
  · obtain ⟨q, hq, rfl⟩ := mem p hp
    exact c.out q hq
  · obtain ⟨q, hq, rfl⟩ := mem p hp
    exact PySem.W.codeHd_of_K X (c.hd q hq)
end
end AS

set_option Elab.async false
set_option linter.all false
set_option maxRecDepth 100000
set_option maxHeartbeats 2000000
namespace AS
open PySem PySem.Spec PyProof.Rows L2
/-- what a call leaves: all that stood, but that tables of code objects may have grown -/
structure Sm (H H' : Hp) : Prop where
  keep : ∀ b o, H b = some o → (∀ ps, o ≠ .tbl ps) → H' b = some o
  tab : ∀ b ps, H b = some (.tbl ps) → ∃ qs, H' b = some (.tbl qs) ∧ (TriplesOk ps.toList → TriplesOk qs.toList)
theorem Sm.refl (H : Hp) : Sm H H := ⟨fun _ _ h _ => h, fun _ ps h => ⟨ps, h, fun z => z⟩⟩
theorem Sm.trans {H H1 H2 : Hp} (a : Sm H H1) (b : Sm H1 H2) : Sm H H2 where
  keep := fun c o h n => b.keep c o (a.keep c o h n) n
  tab := fun c ps h => by
    obtain ⟨q1, h1, t1⟩ := a.tab c ps h
    obtain ⟨q2, h2, t2⟩ := b.tab c q1 h1
    exact ⟨q2, h2, fun z => t2 (t1 z)⟩
theorem Sm.free {H H' : Hp} (e : Sm H H') {l : Addr} (h : H' l = none) : H l = none := by
  cases q : H l with
  | none => rfl
  | some o =>
    cases o with
    | tbl ps =>
      obtain ⟨_, h1, _⟩ := e.tab l ps q
      rw [h] at h1
      cases h1
    | _ =>
      have h1 := e.keep l _ q (fun _ z => nomatch z)
      rw [h] at h1
      cases h1
/-- an object that the first heap does not know is laid or written -/
theorem Sm.put {H H' : Hp} (e : Sm H H') {l : Addr} {o : HO} (h : H l = none) : Sm H (upd H' l o) where
  keep := fun c u hc n => by
    rw [upd_ne (ne_of_none hc h)]
    exact e.keep c u hc n
  tab := fun c ps hc => by
    rw [upd_ne (ne_of_none hc h)]
    exact e.tab c ps hc
theorem Sm.new {H : Hp} {l : Addr} {o : HO} (h : H l = none) : Sm H (upd H l o) := (Sm.refl H).put h
theorem Sm.tabbed {H H' : Hp} {P : Addr} (g : GxR.TabG H P) (t : GxR.Tabbed P H H') : Sm H H' where
  keep := fun c u hc n => by
    by_cases h : c = P
    · obtain ⟨ps, hp, _⟩ := g
      rw [h, hp] at hc
      exact absurd (Option.some.inj hc).symm (n ps)
    · rw [t.2 c h]
      exact hc
  tab := fun c ps hc => by
    by_cases h : c = P
    · obtain ⟨qs, hq, z⟩ := t.1
      rw [h]
      exact ⟨qs, hq, fun _ => z⟩
    · rw [t.2 c h]
      exact ⟨ps, hc, fun z => z⟩
theorem Sm.same {H H' : Hp} (e : Same H H') : Sm H H' := ⟨fun b o h _ => e b o h, fun b ps h => ⟨ps, e b _ h, fun z => z⟩⟩
theorem Sm.seq {K : PySem.W.Frag} {H H' : Hp} {a : Addr} {xs : List V} (e : Sm H H') (h : SqL K H a xs) : SqL K H' a xs := by
  rcases h with (h | ⟨o, h⟩) | h
  · exact .inl (.inl (e.keep _ _ h fun _ z => nomatch z))
  · exact .inl (.inr ⟨o, e.keep _ _ h fun _ z => nomatch z⟩)
  · exact .inr h
theorem Sm.seqT {K : PySem.W.Frag} {H H' : Hp} {a : Addr} {xs : List V} (e : Sm H H') (h : SqT K H a xs) : SqT K H' a xs := by
  rcases h with (h | ⟨o, h⟩) | h
  · exact .inl (.inl (e.keep _ _ h fun _ z => nomatch z))
  · exact .inl (.inr ⟨o, e.keep _ _ h fun _ z => nomatch z⟩)
  · exact .inr h
theorem Sm.lst {H H' : Hp} (e : Sm H H') {a : Addr} {xs : List V} (h : H a = some (.lst xs)) : H' a = some (.lst xs) := e.keep _ _ h fun _ z => nomatch z
theorem Sm.tup {H H' : Hp} (e : Sm H H') {a : Addr} {xs : List V} (h : H a = some (.tup xs)) : H' a = some (.tup xs) := e.keep _ _ h fun _ z => nomatch z
theorem Sm.tabs {K : PySem.W.Frag} {tf : List He.Defn} {H H' : Hp} (e : Sm H H') (t : Tabs K tf H) : Tabs K tf H' := fun p hp => by
  obtain ⟨ps, h, z⟩ := t p hp
  obtain ⟨qs, h1, z1⟩ := e.tab _ ps h
  exact ⟨qs, h1, z1 z⟩

/-- a promise: one text, the answer a plain value, nothing changed -/
def sp1 (K : PySem.W.Frag) (tf : List He.Defn) (f : Str → V) : Sp := fun vs H Q _ => ∃ z : Str, vs = [.str z] ∧ z.length ≤ sizeLine ∧ Tabs K tf H ∧ ∀ H', Sm H H' → Q (f z) H'
theorem sp1_len {K : PySem.W.Frag} {tf : List He.Defn} {f : Str → V} {x : Str} : ∀ vs H Q E, sp1 K tf f vs H Q E → vs.length = [x].length := fun vs H Q E h => by
  obtain ⟨z, rfl, _⟩ := h
  rfl
theorem gs_mk {env : Env} {scope : Scope} {x : Str} (h1 : scope.kind = .function) (h2 : scope.isCoroutine = false) (h3 : ∀ y ∈ scope.names, y.2 ≠ .cell) (h4 : scope.names.lookup (".0" : Str) = some NameKind.local)
    (h5 : scope.names.lookup x = some .local) (h6 : ∀ y ∈ scope.names, y.2 ≠ .free) : GxR.GenS env scope x := ⟨h1, h2, h3, h4, h5, fun y hy e => absurd e (h6 y hy)⟩
end AS

set_option Elab.async false
set_option linter.all false
set_option maxRecDepth 100000
set_option maxHeartbeats 4000000
namespace A0
open PySem PySem.Spec PyProof.Rows L2 AS
def top (i : Nat) : Stmt := PySem.Challenge.pw_authsync_k00_names_and_tokens.main.body.getD i (.Pass ⟨0, 0, 0, 0⟩)
abbrev s_is_word : Stmt := top 7
def d_is_word : He.DefD := ⟨("_is_word", none), "_is_word", "_is_word", defArgs s_is_word, defBody s_is_word, defScope s_is_word, [], []⟩
theorem sc_is_word : FnScope ["text"] ["text"] (defScope s_is_word) := ⟨rfl, rfl, rfl, by decide +kernel, rfl, by decide +kernel, by decide +kernel⟩
abbrev sis_identifier : Stmt := top 8
def dis_identifier : He.DefD := ⟨("is_identifier", none), "is_identifier", "is_identifier", defArgs sis_identifier, defBody sis_identifier, defScope sis_identifier, [], []⟩
theorem scis_identifier : FnScope ["text"] ["text"] (defScope sis_identifier) := ⟨rfl, rfl, rfl, by decide +kernel, rfl, by decide +kernel, by decide +kernel⟩
abbrev sis_object : Stmt := top 9
def dis_object : He.DefD := ⟨("is_object", none), "is_object", "is_object", defArgs sis_object, defBody sis_object, defScope sis_object, [], []⟩
theorem scis_object : FnScope ["text", "kind", "_", "rest"] ["text"] (defScope sis_object) := ⟨rfl, rfl, rfl, by decide +kernel, rfl, by decide +kernel, by decide +kernel⟩
abbrev sis_reference : Stmt := top 10
def dis_reference : He.DefD := ⟨("is_reference", none), "is_reference", "is_reference", defArgs sis_reference, defBody sis_reference, defScope sis_reference, [], []⟩
theorem scis_reference : FnScope ["text", "target", "sign", "name"] ["text"] (defScope sis_reference) := ⟨rfl, rfl, rfl, by decide +kernel, rfl, by decide +kernel, by decide +kernel⟩
abbrev stype_of : Stmt := top 11
def dtype_of : He.DefD := ⟨("type_of", none), "type_of", "type_of", defArgs stype_of, defBody stype_of, defScope stype_of, [], []⟩
theorem sctype_of : FnScope ["target"] ["target"] (defScope stype_of) := ⟨rfl, rfl, rfl, by decide +kernel, rfl, by decide +kernel, by decide +kernel⟩
abbrev ssplit_reference : Stmt := top 12
def dsplit_reference : He.DefD := ⟨("split_reference", none), "split_reference", "split_reference", defArgs ssplit_reference, defBody ssplit_reference, defScope ssplit_reference, [], []⟩
theorem scsplit_reference : FnScope ["reference", "target", "_", "name"] ["reference"] (defScope ssplit_reference) := ⟨rfl, rfl, rfl, by decide +kernel, rfl, by decide +kernel, by decide +kernel⟩
abbrev sread_revision : Stmt := top 13
def dread_revision : He.DefD := ⟨("read_revision", none), "read_revision", "read_revision", defArgs sread_revision, defBody sread_revision, defScope sread_revision, [], []⟩
theorem scread_revision : FnScope ["text", "revision"] ["text"] (defScope sread_revision) := ⟨rfl, rfl, rfl, by decide +kernel, rfl, by decide +kernel, by decide +kernel⟩
abbrev stoken_of : Stmt := top 14
def dtoken_of : He.DefD := ⟨("token_of", none), "token_of", "token_of", defArgs stoken_of, defBody stoken_of, defScope stoken_of, [], []⟩
theorem sctoken_of : FnScope ["store", "revision"] ["store", "revision"] (defScope stoken_of) := ⟨rfl, rfl, rfl, by decide +kernel, rfl, by decide +kernel, by decide +kernel⟩
abbrev ssplit_token : Stmt := top 15
def dsplit_token : He.DefD := ⟨("split_token", none), "split_token", "split_token", defArgs ssplit_token, defBody ssplit_token, defScope ssplit_token, [], []⟩
theorem scsplit_token : FnScope ["text", "store", "_", "digits", "revision"] ["text"] (defScope ssplit_token) := ⟨rfl, rfl, rfl, by decide +kernel, rfl, by decide +kernel, by decide +kernel⟩
abbrev s_law_cell : Stmt := top 17
def d_law_cell : He.DefD := ⟨("_law_cell", none), "_law_cell", "_law_cell", defArgs s_law_cell, defBody s_law_cell, defScope s_law_cell, [], []⟩
theorem sc_law_cell : FnScope ["script", "k"] ["script", "k"] (defScope s_law_cell) := ⟨rfl, rfl, rfl, by decide +kernel, rfl, by decide +kernel, by decide +kernel⟩
abbrev s_law_draws : Stmt := top 18
def d_law_draws : He.DefD := ⟨("_law_draws", none), "_law_draws", "_law_draws", defArgs s_law_draws, defBody s_law_draws, defScope s_law_draws, [], []⟩
theorem sc_law_draws : FnScope ["cell", "count", "found", "is_wide", "k", "mixed"] ["cell", "count"] (defScope s_law_draws) := ⟨rfl, rfl, rfl, by decide +kernel, rfl, by decide +kernel, by decide +kernel⟩
abbrev s_law_same : Stmt := top 19
def d_law_same : He.DefD := ⟨("_law_same", none), "_law_same", "_law_same", defArgs s_law_same, defBody s_law_same, defScope s_law_same, [], []⟩
theorem sc_law_same : FnScope ["actual", "expected", "k"] ["actual", "expected"] (defScope s_law_same) := ⟨rfl, rfl, rfl, by decide +kernel, rfl, by decide +kernel, by decide +kernel⟩
abbrev s_law_word : Stmt := top 20
def d_law_word : He.DefD := ⟨("_law_word", none), "_law_word", "_law_word", defArgs s_law_word, defBody s_law_word, defScope s_law_word, [], []⟩
theorem sc_law_word : FnScope ["draws", "at", "size", "k"] ["draws", "at"] (defScope s_law_word) := ⟨rfl, rfl, rfl, by decide +kernel, rfl, by decide +kernel, by decide +kernel⟩
abbrev s_law_text : Stmt := top 21
def d_law_text : He.DefD := ⟨("_law_text", none), "_law_text", "_law_text", defArgs s_law_text, defBody s_law_text, defScope s_law_text, [], []⟩
theorem sc_law_text : FnScope ["script", "draws", "first", "digits", "kind", "text", "at", "sign", "choice"] ["script"] (defScope s_law_text) := ⟨rfl, rfl, rfl, by decide +kernel, rfl, by decide +kernel, by decide +kernel⟩
abbrev s_law_is_run : Stmt := top 22
def d_law_is_run : He.DefD := ⟨("_law_is_run", none), "_law_is_run", "_law_is_run", defArgs s_law_is_run, defBody s_law_is_run, defScope s_law_is_run, [], []⟩
theorem sc_law_is_run : FnScope ["text", "sign"] ["text"] (defScope s_law_is_run) := ⟨rfl, rfl, rfl, by decide +kernel, rfl, by decide +kernel, by decide +kernel⟩
abbrev s_law_is_identifier : Stmt := top 23
def d_law_is_identifier : He.DefD := ⟨("_law_is_identifier", none), "_law_is_identifier", "_law_is_identifier", defArgs s_law_is_identifier, defBody s_law_is_identifier, defScope s_law_is_identifier, [], []⟩
theorem sc_law_is_identifier : FnScope ["text"] ["text"] (defScope s_law_is_identifier) := ⟨rfl, rfl, rfl, by decide +kernel, rfl, by decide +kernel, by decide +kernel⟩
abbrev s_law_is_object : Stmt := top 24
def d_law_is_object : He.DefD := ⟨("_law_is_object", none), "_law_is_object", "_law_is_object", defArgs s_law_is_object, defBody s_law_is_object, defScope s_law_is_object, [], []⟩
theorem sc_law_is_object : FnScope ["text", "at"] ["text"] (defScope s_law_is_object) := ⟨rfl, rfl, rfl, by decide +kernel, rfl, by decide +kernel, by decide +kernel⟩
abbrev s_law_token : Stmt := top 25
def d_law_token : He.DefD := ⟨("_law_token", none), "_law_token", "_law_token", defArgs s_law_token, defBody s_law_token, defScope s_law_token, [], []⟩
theorem sc_law_token : FnScope ["text", "at", "number"] ["text"] (defScope s_law_token) := ⟨rfl, rfl, rfl, by decide +kernel, rfl, by decide +kernel, by decide +kernel⟩
abbrev slaw : Stmt := top 26
def dlaw : He.DefD := ⟨("law", none), "law", "law", defArgs slaw, defBody slaw, defScope slaw, [], []⟩
theorem sclaw : FnScope ["script", "text", "at", "is_one", "told", "answer", "due"] ["script"] (defScope slaw) := ⟨rfl, rfl, rfl, by decide +kernel, rfl, by decide +kernel, by decide +kernel⟩
def NN : Names := {
  glos := ["_is_word", "is_identifier", "is_object", "is_reference", "type_of", "split_reference", "read_revision", "token_of", "split_token", "_law_cell", "_law_draws", "_law_same", "_law_word", "_law_text", "_law_is_run", "_law_is_identifier", "_law_is_object", "_law_token", "law"],
  frees := ["all", "bool", "int", "isinstance", "len", "range", "str", "tuple"],
  txts := [("LETTERS", "abcdefghijklmnopqrstuvwxyz"), ("DIGITS", "0123456789"), ("WORD_SIGNS", "abcdefghijklmnopqrstuvwxyz0123456789_")],
  nums := [("WORD_LIMIT", 20), ("GREATEST_REVISION", 1000), ("REVISION_DIGITS", 4)],
  fn := [d_is_word, dis_identifier, dis_object, dis_reference, dtype_of, dsplit_reference, dread_revision, dtoken_of, dsplit_token, d_law_cell, d_law_draws, d_law_same, d_law_word, d_law_text, d_law_is_run, d_law_is_identifier, d_law_is_object, d_law_token, dlaw],
  tf := [("_is_word", none), ("read_revision", none)] }
end A0

set_option Elab.async false
set_option linter.all false
set_option maxRecDepth 100000
set_option maxHeartbeats 4000000
namespace A0
open PySem PySem.Spec PyProof.Rows L2 AS
/-! ### the mathematics of names -/
theorem iteB {b : Bool} {A B : Prop} (h1 : b = true → A) (h2 : b = false → B) : if b = true then A else B := by
  cases b with
  | true => exact iteT (h1 rfl)
  | false => exact iteF (h2 rfl)
theorem toBl {Q : VK} {b b' : Bool} {H : Hp} (e : b = b') (h : Q (.bl b') H) : Q (.bl b) H := by
  rw [e]
  exact h
abbrev tl (x : Str) : List Nat := x.cps.toList
def lettersS : Str := "abcdefghijklmnopqrstuvwxyz"
def digitsS : Str := "0123456789"
def signsS : Str := "abcdefghijklmnopqrstuvwxyz0123456789_"
def isWord (z : Str) : Bool := decide (1 ≤ z.length) && (decide (z.length ≤ 20) && (tl z).all fun c => decide (c ∈ tl signsS))
def headIn (z a : Str) : Bool := match tl z with
  | c :: _ => decide (c ∈ tl a)
  | [] => false
def isIdent (z : Str) : Bool := isWord z && headIn z lettersS
section
variable {P : Program} {w : World} {K : PySem.W.Frag} {mg : Str → Option Value} {base : Heap}
abbrev D (P : Program) (w : World) (K : PySem.W.Frag) (mg : Str → Option Value) (base : Heap) (k : Nat) (x : Str) (ps : List Str) (sp : Sp) : Prop := DOk P w K mg base CX0 k x ps sp
theorem ok_is_word (T : Top NN K mg base) : D P w K mg base 1 "_is_word" ["text"] (sp1 K NN.tf fun z => .bl (isWord z)) := by
  refine T.ok0 (d := d_is_word) 0 rfl rfl rfl rfl (by decide +kernel) sc_is_word (fun _ _ _ _ _ _ us hl => match us, hl with | [_], _ => rfl) sp1_len (fun cdv A outer s H vs Q E ec hr h => ?_)
  obtain ⟨z, rfl, hz, hT, q⟩ := h
  obtain ⟨t1, m1⟩ := T.i ("WORD_LIMIT", 20) (by decide +kernel)
  obtain ⟨t2, m2⟩ := T.s ("WORD_SIGNS", signsS) (by decide +kernel)
  have nl := T.f "len" (by decide +kernel)
  have na := T.f "all" (by decide +kernel)
  refine ⟨_, pss_one (ps_ret (pe_and (pe_chain op_le op_le pe_int (pe_callB call_len_str (by rfl) nl PySem.boot_len (pa_cons (pv 0) pa_nil)) (pe_glob (v := .int 20) rfl m1 ⟨_, rfl⟩))
    (pe_one (pe_allM (P := (He.cT K ("_is_word", none)).2) hr rfl na (T.tb ("_is_word", none) (by decide +kernel)) ec
      (gs_mk rfl rfl (by decide +kernel) rfl rfl (by decide +kernel)) (pv 0) (elt_in rfl rfl rfl m2) (fun _ => rfl))))), ?_⟩
  refine ⟨.str z, rfl, z, rfl, hz, 1, z.length, rfl, rfl, decide (1 ≤ (z.length : Int)), rfl, ?_⟩
  have e1 : decide (1 ≤ (z.length : Int)) = decide (1 ≤ z.length) := decide_eq_decide.mpr (by omega)
  have e2 : decide ((z.length : Int) ≤ 20) = decide (z.length ≤ 20) := decide_eq_decide.mpr (by omega)
  have fin : ∀ b, isWord z = b → Q (.bl b) H := fun b e => by
    rw [← e]
    exact q H (Sm.refl H)
  refine iteB (fun h1 => ?_) fun h1 => ?_
  · rw [e1] at h1
    refine ⟨z.length, 20, rfl, rfl, decide ((z.length : Int) ≤ 20), rfl, iteB (fun h2 => ?_) fun h2 => ?_⟩
    · rw [e2] at h2
      refine ⟨.str z, rfl, z, rfl, hT _ (by decide +kernel), fun H2 tb => ?_⟩
      have e3 : isWord z = (tl z).all fun c => decide (c ∈ tl signsS) := by
        unfold isWord
        rw [h1, h2]
        rfl
      rw [show (z.cps.toList.all fun c => decide (c ∈ tl signsS)) = isWord z from e3.symm]
      exact q H2 (Sm.tabbed (hT _ (by decide +kernel)) tb)
    · rw [e2] at h2
      exact fin _ (by unfold isWord; rw [h2, Bool.false_and, Bool.and_false])
  · rw [e1] at h1
    exact ⟨false, rfl, iteF (fin _ (by unfold isWord; rw [h1]; rfl))⟩
theorem ok_is_identifier (T : Top NN K mg base) : D P w K mg base 2 "is_identifier" ["text"] (sp1 K NN.tf fun z => .bl (isIdent z)) := by
  refine T.ok0 (d := dis_identifier) 1 rfl rfl rfl rfl (by decide +kernel) scis_identifier (fun _ _ _ _ _ _ us hl => match us, hl with | [_], _ => rfl) sp1_len (fun cdv A outer s H vs Q E ec hr h => ?_)
  obtain ⟨z, rfl, hz, hT, q⟩ := h
  obtain ⟨t2, m2⟩ := T.s ("LETTERS", lettersS) (by decide +kernel)
  have G := ok_is_word (P := P) (w := w) T
  refine ⟨_, pss_one (ps_ret (pe_and (pe_callD G hr (pa_cons (pv 0) pa_nil)) (pe_one (pe_cmpR op_in_sign (pe_ix ix_str (pv 0) pe_int (fun _ _ => rfl)) (pe_glob (v := .str lettersS) rfl m2 ⟨_, rfl⟩) rfl)))), ?_⟩
  refine ⟨.str z, rfl, z, rfl, hz, hT, fun H1 s1 => ⟨isWord z, rfl, iteB (fun h1 => ?_) fun h1 => ?_⟩⟩
  · have h2 := h1
    unfold isWord at h2
    simp only [Bool.and_eq_true, decide_eq_true_eq] at h2
    obtain ⟨h3, _⟩ := h2
    cases e : tl z with
    | nil =>
      have e2 : z.length = (tl z).length := by simp [Str.length]
      rw [e] at e2
      rw [e2] at h3
      exact absurd h3 (by decide)
    | cons c r =>
      refine ⟨.str z, rfl, z, 0, c, rfl, rfl, hz, atI_nat (j := 0) (by show (tl z)[0]? = _; rw [e]; rfl), c, lettersS, rfl, rfl, ?_⟩
      have e3 : isIdent z = decide (c ∈ tl lettersS) := by
        unfold isIdent headIn
        rw [h1, e]
        rfl
      rw [show decide (c ∈ lettersS.cps.toList) = isIdent z from e3.symm]
      exact q H1 s1
  · have e3 : isIdent z = false := by
      unfold isIdent
      rw [h1]
      rfl
    rw [← e3]
    exact q H1 s1
/-! ### partition -/
abbrev colon : Str := ":"
abbrev hash : Str := "#"
abbrev atS : Str := "@"
theorem part_len (z y : Str) : (Txt.partition z y).1.length ≤ z.length ∧ (Txt.partition z y).2.1.length ≤ z.length ∧ (Txt.partition z y).2.2.length ≤ z.length := fact_partition z y
def isObj (z : Str) : Bool := isIdent (Txt.partition z colon).1 && isWord (Txt.partition z colon).2.2
def isRef (z : Str) : Bool := isObj (Txt.partition z hash).1 && (decide ((Txt.partition z hash).2.1 = Str.empty) || isIdent (Txt.partition z hash).2.2)
theorem ok_is_object (T : Top NN K mg base) : D P w K mg base 3 "is_object" ["text"] (sp1 K NN.tf fun z => .bl (isObj z)) := by
  refine T.ok0 (d := dis_object) 2 rfl rfl rfl rfl (by decide +kernel) scis_object (fun _ _ _ _ _ _ us hl => match us, hl with | [_], _ => rfl) sp1_len (fun cdv A outer s H vs Q E ec hr h => ?_)
  obtain ⟨z, rfl, hz, hT, q⟩ := h
  have G1 := ok_is_identifier (P := P) (w := w) T
  have G2 := (ok_is_word (P := P) (w := w) T).mono (show 1 ≤ 2 by decide)
  obtain ⟨l1, l2, l3⟩ := part_len z colon
  refine ⟨_, pss_cons (ps_asg (pe_partition (pv 0) pe_str) (pg_tup (by rfl) (pgs_cons (pg_name (i := 1) scis_object.nd rfl (.inl rfl)) (pgs_cons (pg_name (i := 2) scis_object.nd rfl (.inl rfl)) (pgs_cons (pg_name (i := 3) scis_object.nd rfl (.inl rfl)) pgs_nil)))))
    (pss_one (ps_ret (pe_and (pe_callD G1 hr (pa_cons (pv 1) pa_nil)) (pe_one (pe_callD G2 hr (pa_cons (pv 3) pa_nil)))))), ?_⟩
  refine ⟨.str z, rfl, ⟨_, rfl⟩, z, colon, rfl, rfl, by decide +kernel, hz, fun p np => ?_⟩
  refine ⟨p, _, rfl, .inl (.inl upd_same), rfl, _, _, rfl, _, _, rfl, _, _, rfl, rfl, ?_⟩
  have s0 := Sm.new (o := .tup [.str (Txt.partition z colon).1, .str (Txt.partition z colon).2.1, .str (Txt.partition z colon).2.2]) np
  refine ⟨.str (Txt.partition z colon).1, rfl, _, rfl, Nat.le_trans l1 hz, s0.tabs hT, fun H1 s1 => ⟨_, rfl, iteB (fun h1 => ?_) fun h1 => ?_⟩⟩
  · refine ⟨.str (Txt.partition z colon).2.2, rfl, _, rfl, Nat.le_trans l3 hz, (s0.trans s1).tabs hT, fun H2 s2 => ?_⟩
    have e : isWord (Txt.partition z colon).2.2 = isObj z := by
      unfold isObj
      rw [h1, Bool.true_and]
    exact toBl e (q H2 ((s0.trans s1).trans s2))
  · have e : isObj z = false := by
      unfold isObj
      rw [h1, Bool.false_and]
    rw [← e]
    exact q H1 (s0.trans s1)
theorem ok_is_reference (T : Top NN K mg base) : D P w K mg base 4 "is_reference" ["text"] (sp1 K NN.tf fun z => .bl (isRef z)) := by
  refine T.ok0 (d := dis_reference) 3 rfl rfl rfl rfl (by decide +kernel) scis_reference (fun _ _ _ _ _ _ us hl => match us, hl with | [_], _ => rfl) sp1_len (fun cdv A outer s H vs Q E ec hr h => ?_)
  obtain ⟨z, rfl, hz, hT, q⟩ := h
  have G1 := ok_is_object (P := P) (w := w) T
  have G2 := (ok_is_identifier (P := P) (w := w) T).mono (show 2 ≤ 3 by decide)
  obtain ⟨l1, l2, l3⟩ := part_len z hash
  refine ⟨_, pss_cons (ps_asg (pe_partition (pv 0) pe_str) (pg_tup (by rfl) (pgs_cons (pg_name (i := 1) scis_reference.nd rfl (.inl rfl)) (pgs_cons (pg_name (i := 2) scis_reference.nd rfl (.inl rfl)) (pgs_cons (pg_name (i := 3) scis_reference.nd rfl (.inl rfl)) pgs_nil)))))
    (pss_one (ps_ret (pe_and (pe_callD G1 hr (pa_cons (pv 1) pa_nil)) (pe_one (pe_or (pe_cmpR op_eq (pv 2) pe_str (nomark _)) (pe_one (pe_callD G2 hr (pa_cons (pv 3) pa_nil)))))))), ?_⟩
  refine ⟨.str z, rfl, ⟨_, rfl⟩, z, hash, rfl, rfl, by decide +kernel, hz, fun p np => ?_⟩
  refine ⟨p, _, rfl, .inl (.inl upd_same), rfl, _, _, rfl, _, _, rfl, _, _, rfl, rfl, ?_⟩
  have s0 := Sm.new (o := .tup [.str (Txt.partition z hash).1, .str (Txt.partition z hash).2.1, .str (Txt.partition z hash).2.2]) np
  refine ⟨.str (Txt.partition z hash).1, rfl, _, rfl, Nat.le_trans l1 hz, s0.tabs hT, fun H1 s1 => ⟨_, rfl, iteB (fun h1 => ?_) fun h1 => ?_⟩⟩
  · refine ⟨.str (Txt.partition z hash).2.1, rfl, rfl, decide (V.str (Txt.partition z hash).2.1 = V.str Str.empty), rfl, iteB (fun h2 => ?_) fun h2 => ?_⟩
    · have h3 : (Txt.partition z hash).2.1 = Str.empty := V.str.inj (of_decide_eq_true h2)
      have e : isRef z = true := by
        unfold isRef
        rw [h1, decide_eq_true h3]
        rfl
      rw [← e]
      exact q H1 (s0.trans s1)
    · have h3 : ¬ (Txt.partition z hash).2.1 = Str.empty := fun e => of_decide_eq_false h2 (by rw [e])
      refine ⟨.str (Txt.partition z hash).2.2, rfl, _, rfl, Nat.le_trans l3 hz, (s0.trans s1).tabs hT, fun H2 s2 => ?_⟩
      have e : isIdent (Txt.partition z hash).2.2 = isRef z := by
        unfold isRef
        rw [h1, decide_eq_false h3]
        rfl
      exact toBl e (q H2 ((s0.trans s1).trans s2))
  · have e : isRef z = false := by
      unfold isRef
      rw [h1, Bool.false_and]
    rw [← e]
    exact q H1 (s0.trans s1)
theorem ok_type_of (T : Top NN K mg base) : D P w K mg base 1 "type_of" ["target"] (sp1 K NN.tf fun z => .str (Txt.partition z colon).1) := by
  refine T.ok0 (d := dtype_of) 4 rfl rfl rfl rfl (by decide +kernel) sctype_of (fun _ _ _ _ _ _ us hl => match us, hl with | [_], _ => rfl) sp1_len (fun cdv A outer s H vs Q E ec hr h => ?_)
  obtain ⟨z, rfl, hz, hT, q⟩ := h
  refine ⟨_, pss_one (ps_ret (pe_ix ix_tup (pe_partition (pv 0) pe_str) pe_int (fun _ _ => rfl))), ?_⟩
  refine ⟨.str z, rfl, ⟨_, rfl⟩, z, colon, rfl, rfl, by decide +kernel, hz, fun p np => ?_⟩
  exact ⟨p, _, 0, _, rfl, rfl, .inl (.inl upd_same), atI_nat (j := 0) rfl, q _ (Sm.new np)⟩
/-- a promise: one text, a new pair of texts -/
def spPair (K : PySem.W.Frag) (tf : List He.Defn) (f : Str → Str × Str) : Sp := fun vs H Q _ => ∃ z : Str, vs = [.str z] ∧ z.length ≤ sizeLine ∧ Tabs K tf H ∧ ∀ H' p, Sm H H' → H p = none → H' p = some (.tup [.str (f z).1, .str (f z).2]) → Q (.ref p) H'
theorem spPair_len {K : PySem.W.Frag} {tf : List He.Defn} {f : Str → Str × Str} {x : Str} : ∀ vs H Q E, spPair K tf f vs H Q E → vs.length = [x].length := fun vs H Q E h => by
  obtain ⟨z, rfl, _⟩ := h
  rfl
theorem ok_split_reference (T : Top NN K mg base) : D P w K mg base 1 "split_reference" ["reference"] (spPair K NN.tf fun z => ((Txt.partition z hash).1, (Txt.partition z hash).2.2)) := by
  refine T.ok0 (d := dsplit_reference) 5 rfl rfl rfl rfl (by decide +kernel) scsplit_reference (fun _ _ _ _ _ _ us hl => match us, hl with | [_], _ => rfl) spPair_len (fun cdv A outer s H vs Q E ec hr h => ?_)
  obtain ⟨z, rfl, hz, hT, q⟩ := h
  refine ⟨_, pss_cons (ps_asg (pe_partition (pv 0) pe_str) (pg_tup (by rfl) (pgs_cons (pg_name (i := 1) scsplit_reference.nd rfl (.inl rfl)) (pgs_cons (pg_name (i := 2) scsplit_reference.nd rfl (.inl rfl)) (pgs_cons (pg_name (i := 3) scsplit_reference.nd rfl (.inl rfl)) pgs_nil)))))
    (pss_one (ps_ret (pe_tup (pa_cons (pv 1) (pa_cons (pv 3) pa_nil))))), ?_⟩
  refine ⟨.str z, rfl, ⟨_, rfl⟩, z, hash, rfl, rfl, by decide +kernel, hz, fun p np => ?_⟩
  refine ⟨p, _, rfl, .inl (.inl upd_same), rfl, _, _, rfl, _, _, rfl, _, _, rfl, rfl, ?_⟩
  have s0 := Sm.new (o := .tup [.str (Txt.partition z hash).1, .str (Txt.partition z hash).2.1, .str (Txt.partition z hash).2.2]) np
  refine ⟨.str (Txt.partition z hash).1, rfl, .str (Txt.partition z hash).2.2, rfl, by show 2 ≤ sizeLine; decide, fun r nr => ?_⟩
  exact q _ r (s0.put (s0.free nr)) (s0.free nr) upd_same
end
end A0

set_option Elab.async false
set_option linter.all false
set_option maxRecDepth 100000
set_option maxHeartbeats 4000000
namespace A0
open PySem PySem.Spec PyProof.Rows L2 AS
/-! ### revisions and tokens -/
def allDig (z : Str) : Bool := (tl z).all fun c => decide (c ∈ tl digitsS)
def zeroHead (z : Str) : Bool := match tl z with
  | c :: _ => decide (c = 48)
  | [] => false
def zeroS : Str := "0"
def readRev (z : Str) : Option Nat :=
  if (decide (1 ≤ z.length) && decide (z.length ≤ 4) && allDig z) = true then
    if (zeroHead z && !decide (z = zeroS)) = true then none else
      if NumText.digitsVal (tl z) ≤ 1000 then some (NumText.digitsVal (tl z)) else none
  else none
def revV : Option Nat → V
  | some n => .int n
  | none => .non
def splitTok (z : Str) : Option (Str × Nat) := match readRev (Txt.partition z atS).2.2 with
  | none => none
  | some n => if isIdent (Txt.partition z atS).1 = true then some ((Txt.partition z atS).1, n) else none
def tokS (s : Str) (n : Int) : Str := s ++ atS ++ toString n
theorem digits_tl : tl digitsS = [48, 49, 50, 51, 52, 53, 54, 55, 56, 57] := by decide +kernel
theorem allDig_digits {z : Str} (h : allDig z = true) : NumText.AllDigits (tl z) := fun c hc => by
  have h1 := of_decide_eq_true (List.all_eq_true.mp h c hc)
  rw [digits_tl] at h1
  simp only [List.mem_cons, List.not_mem_nil, or_false] at h1
  omega
theorem log2_small {n : Nat} (h : n < 2 ^ 64) : n.log2 < 1920 := by
  by_cases h0 : n = 0
  · subst h0
    decide
  · have h1 : n.log2 < 64 := (Nat.log2_lt h0).mpr h
    omega
theorem toZ {Q : VK} {v v' : V} {H : Hp} (e : v = v') (h : Q v' H) : Q v H := by
  rw [e]
  exact h
theorem len_tl (z : Str) : z.length = (tl z).length := by simp [Str.length]
section
variable {P : Program} {w : World} {K : PySem.W.Frag} {mg : Str → Option Value} {base : Heap}
theorem ok_read_revision (T : Top NN K mg base) : D P w K mg base 1 "read_revision" ["text"] (sp1 K NN.tf fun z => revV (readRev z)) := by
  refine T.ok0 (d := dread_revision) 6 rfl rfl rfl rfl (by decide +kernel) scread_revision (fun _ _ _ _ _ _ us hl => match us, hl with | [_], _ => rfl) sp1_len (fun cdv A outer s H vs Q E ec hr h => ?_)
  obtain ⟨z, rfl, hz, hT, q⟩ := h
  obtain ⟨t1, m1⟩ := T.i ("REVISION_DIGITS", 4) (by decide +kernel)
  obtain ⟨t2, m2⟩ := T.s ("DIGITS", digitsS) (by decide +kernel)
  obtain ⟨t3, m3⟩ := T.i ("GREATEST_REVISION", 1000) (by decide +kernel)
  have nl := T.f "len" (by decide +kernel)
  have na := T.f "all" (by decide +kernel)
  have ni := T.f "int" (by decide +kernel)
  have mP : GxR.TabG H (He.cT K ("read_revision", none)).2 := hT _ (by decide +kernel)
  refine ⟨_, pss_cons (ps_if (PW.pt (pw_or (pt_not (pt_chain op_le op_le pe_int (pe_callB call_len_str (by rfl) nl PySem.boot_len (pa_cons (pv 0) pa_nil)) (pe_glob (v := .int 4) rfl m1 ⟨_, rfl⟩)))
      (pw_or1 (pt_not (pt_val (pe_allM (P := (He.cT K ("read_revision", none)).2) hr rfl na (T.tb ("read_revision", none) (by decide +kernel)) ec
        (gs_mk rfl rfl (by decide +kernel) rfl rfl (by decide +kernel)) (pv 0) (elt_in rfl rfl rfl m2) (fun _ => rfl))))))) (pss_one (ps_ret pe_non)) pss_nil)
    (pss_cons (ps_if (PW.pt (pw_and (pt_cmpR op_eq (pe_ix ix_str (pv 0) pe_int (fun _ _ => rfl)) pe_str (nomark _)) (pw_and1 (pt_cmpR op_ne (pv 0) pe_str (nomark _))))) (pss_one (ps_ret pe_non)) pss_nil)
    (pss_cons (ps_set (i := 1) scread_revision.nd rfl (.inl rfl) (pe_callTy call_int_str (by rfl) ni (by decide +kernel) (pa_cons (pv 0) pa_nil)))
    (pss_one (ps_ret (pe_ifExp (pt_cmpR op_le (pv 1) (pe_glob (v := .int 1000) rfl m3 ⟨_, rfl⟩) (nomark _)) (pv 1) pe_non))))), ?_⟩
  refine ⟨.str z, rfl, z, rfl, hz, 1, z.length, rfl, rfl, decide (1 ≤ (z.length : Int)), rfl, ?_⟩
  have e1 : decide (1 ≤ (z.length : Int)) = decide (1 ≤ z.length) := decide_eq_decide.mpr (by omega)
  have e2 : decide ((z.length : Int) ≤ 4) = decide (z.length ≤ 4) := decide_eq_decide.mpr (by omega)
  have bad : (decide (1 ≤ z.length) && decide (z.length ≤ 4) && allDig z) = false → readRev z = none := fun e => by
    unfold readRev
    rw [e]
    exact if_neg Bool.false_ne_true
  refine iteB (fun h1 => ?_) fun h1 => ?_
  · rw [e1] at h1
    refine ⟨z.length, 4, rfl, rfl, decide ((z.length : Int) ≤ 4), rfl, ?_⟩
    show if (!decide ((z.length : Int) ≤ 4)) = true then _ else _
    rw [e2]
    refine iteB (fun h2 => ?_) fun h2 => ?_
    · have h3 : decide (z.length ≤ 4) = false := by
        rw [Bool.not_eq_true'] at h2
        exact h2
      exact iteT (toZ (v' := revV (readRev z)) (by rw [bad (by rw [h3, Bool.and_false, Bool.false_and])]; rfl) (q H (Sm.refl H)))
    · have h3 : decide (z.length ≤ 4) = true := by
        rw [Bool.not_eq_false'] at h2
        exact h2
      refine ⟨.str z, rfl, z, rfl, mP, fun H2 tb => ⟨_, rfl, ?_⟩⟩
      have s1 : Sm H H2 := Sm.tabbed mP tb
      show if (!allDig z) = true then _ else _
      refine iteB (fun h4 => ?_) fun h4 => ?_
      · have h5 : allDig z = false := by
          rw [Bool.not_eq_true'] at h4
          exact h4
        exact toZ (v' := revV (readRev z)) (by rw [bad (by rw [h5, Bool.and_false])]; rfl) (q H2 s1)
      · have h5 : allDig z = true := by
          rw [Bool.not_eq_false'] at h4
          exact h4
        have good : (decide (1 ≤ z.length) && decide (z.length ≤ 4) && allDig z) = true := by
          rw [h1, h3, h5]
          rfl
        have h6 : 1 ≤ z.length := of_decide_eq_true h1
        have h7 : z.length ≤ 4 := of_decide_eq_true h3
        obtain ⟨c, r, ez⟩ : ∃ c r, tl z = c :: r := by
          cases e : tl z with
          | nil =>
            rw [len_tl, e] at h6
            exact absurd h6 (by decide)
          | cons c r => exact ⟨c, r, rfl⟩
        -- if text[0] == '0' and text != '0'
        refine ⟨.str z, rfl, z, 0, c, rfl, rfl, hz, atI_nat (j := 0) (by show (tl z)[0]? = _; rw [ez]; rfl), rfl, _, rfl, ?_⟩
        have ec0 : decide (V.str (⟨#[c]⟩ : Str) = V.str zeroS) = zeroHead z := by
          unfold zeroHead
          rw [ez]
          show decide (V.str (⟨#[c]⟩ : Str) = V.str zeroS) = decide (c = 48)
          refine decide_eq_decide.mpr ⟨fun e => ?_, fun e => by rw [e]; rfl⟩
          have e9 := congrArg (fun y : Str => y.cps.toList) (V.str.inj e)
          have e10 : [c] = [48] := e9
          exact List.head_eq_of_cons_eq e10
        have go : (zeroHead z && !decide (z = zeroS)) = true → readRev z = none := fun e => by
          unfold readRev
          rw [if_pos good, if_pos e]
        have rest : (zeroHead z && !decide (z = zeroS)) = false → readRev z = if NumText.digitsVal (tl z) ≤ 1000 then some (NumText.digitsVal (tl z)) else none := fun e => by
          unfold readRev
          rw [if_pos good, if_neg (by rw [e]; exact Bool.false_ne_true)]
        have tail : readRev z = (if NumText.digitsVal (tl z) ≤ 1000 then some (NumText.digitsVal (tl z)) else none) →
            (tSeq (tAsg (tCB (fun xs H Q => ∃ a n, xs = [.str a] ∧ PySem.intText? a = some n ∧ a.length ≤ 640 ∧ Q (.int n) H) (tCons (tVar 0) tNil)) (gName 1)) (tRet (tIf (tTest (tOp (rI0 fun i j => .bl (decide (i ≤ j))) (tVar 1) (tC (.int 1000)))) (tVar 1) (tC .non)))) { nx := fun _ H' => Q .non H', rt := Q } (start ["text", "revision"] [.str z]) H2 := fun e => by
          have hv := intText_digits (x := z) (allDig_digits h5) (by show tl z ≠ []; rw [ez]; simp) (by omega)
          refine ⟨.str z, rfl, z, _, rfl, hv, by omega, ?_⟩
          refine ⟨_, rfl, _, 1000, rfl, rfl, _, rfl, iteB (fun g => ?_) fun g => ?_⟩
          · have g1 := of_decide_eq_true g
            refine ⟨_, rfl, toZ (v' := revV (readRev z)) ?_ (q H2 s1)⟩
            rw [e, if_pos (by exact Int.ofNat_le.mp g1)]
            rfl
          · have g1 := of_decide_eq_false g
            refine toZ (v' := revV (readRev z)) ?_ (q H2 s1)
            rw [e, if_neg (by intro z2; exact g1 (Int.ofNat_le.mpr z2))]
            rfl
        show if decide (V.str (⟨#[c]⟩ : Str) = V.str zeroS) = true then _ else _
        rw [ec0]
        refine iteB (fun g => ?_) fun g => ?_
        · refine ⟨.str z, rfl, rfl, _, rfl, ?_⟩
          have ez0 : decide (V.str z = V.str zeroS) = decide (z = zeroS) := decide_eq_decide.mpr ⟨V.str.inj, fun e => by rw [e]⟩
          show if (!decide (V.str z = V.str zeroS)) = true then _ else _
          rw [ez0]
          refine iteB (fun g2 => ?_) fun g2 => ?_
          · exact toZ (v' := revV (readRev z)) (by rw [go (by rw [g, g2]; rfl)]; rfl) (q H2 s1)
          · exact tail (rest (by rw [g2, Bool.and_false]))
        · exact iteF (tail (rest (by rw [g, Bool.false_and])))
  · rw [e1] at h1
    exact ⟨false, rfl, iteT (iteT (toZ (v' := revV (readRev z)) (by rw [bad (by rw [h1]; rfl)]; rfl) (q H (Sm.refl H))))⟩
/-- a promise: a text and a number, their token -/
def spTok (K : PySem.W.Frag) (tf : List He.Defn) : Sp := fun vs H Q _ => ∃ (z : Str) (n : Nat), vs = [.str z, .int n] ∧ z.length ≤ 100000 ∧ n ≤ 1000000 ∧ Q (.str (tokS z n)) H
theorem num_len {n : Nat} (h : n ≤ 1000000) : (toString (n : Int) : Str).length ≤ 7 := by
  have z := PyProof.Rows.toString_length_le (v := (n : Int)) (by omega) (show 0 < 7 by decide) (by omega)
  exact z
theorem ok_token_of (T : Top NN K mg base) : D P w K mg base 1 "token_of" ["store", "revision"] (spTok K NN.tf) := by
  refine T.ok0 (d := dtoken_of) 7 rfl rfl rfl rfl (by decide +kernel) sctoken_of (fun _ _ _ _ _ _ us hl => match us, hl with | [_, _], _ => rfl) (fun vs H Q E h => ?_) (fun cdv A outer s H vs Q E ec hr h => ?_)
  · obtain ⟨z, n, rfl, _⟩ := h
    rfl
  · obtain ⟨z, n, rfl, hz, hn, q⟩ := h
    refine ⟨_, pss_one (ps_ret (pe_joined (PJ.cons (pe_fmt (pv 0)) (PJ.cons pe_str (PJ.cons (pe_fmt (pv 1)) PJ.nil))))), ?_⟩
    have hl := num_len hn
    have big : (100000 : Nat) + 8 ≤ sizeLine := by decide
    have e0 : (Str.empty ++ z).length = z.length := by rw [Str.length_append]; show 0 + z.length = _; omega
    have e1 : (Str.empty ++ z ++ atS).length = z.length + 1 := by rw [Str.length_append, e0]; rfl
    refine ⟨.str z, rfl, .inl ⟨z, rfl, by omega, z, rfl, by omega, atS, rfl, by omega, .int n, rfl, .inr ⟨n, rfl, log2_small (by omega), toString (n : Int), rfl, ?_, ?_⟩⟩⟩
    · rw [Str.length_append, e1]
      omega
    · have e2 : (Str.empty ++ z : Str) = z := TL.ext_tl (by rw [TL.tl_append]; rfl)
      exact toZ (by rw [e2]; rfl) q
end
end A0

set_option Elab.async false
set_option linter.all false
set_option maxRecDepth 100000
set_option maxHeartbeats 4000000
namespace A0
open PySem PySem.Spec PyProof.Rows L2 AS
section
variable {P : Program} {w : World} {K : PySem.W.Frag} {mg : Str → Option Value} {base : Heap}
/-- a promise: one text, None or a new pair of a text and a number -/
def spTokSplit (K : PySem.W.Frag) (tf : List He.Defn) : Sp := fun vs H Q _ => ∃ z : Str, vs = [.str z] ∧ z.length ≤ sizeLine ∧ Tabs K tf H ∧
  (splitTok z = none → ∀ H', Sm H H' → Q .non H') ∧ ∀ a n, splitTok z = some (a, n) → ∀ H' p, Sm H H' → H p = none → H' p = some (.tup [.str a, .int (n : Nat)]) → Q (.ref p) H'
theorem ok_split_token (T : Top NN K mg base) : D P w K mg base 3 "split_token" ["text"] (spTokSplit K NN.tf) := by
  refine T.ok0 (d := dsplit_token) 8 rfl rfl rfl rfl (by decide +kernel) scsplit_token (fun _ _ _ _ _ _ us hl => match us, hl with | [_], _ => rfl) (fun vs H Q E h => ?_) (fun cdv A outer s H vs Q E ec hr h => ?_)
  · obtain ⟨z, rfl, _⟩ := h
    rfl
  · obtain ⟨z, rfl, hz, hT, q1, q2⟩ := h
    have G1 := (ok_read_revision (P := P) (w := w) T).mono (show 1 ≤ 2 by decide)
    have G2 := ok_is_identifier (P := P) (w := w) T
    obtain ⟨l1, l2, l3⟩ := part_len z atS
    refine ⟨_, pss_cons (ps_asg (pe_partition (pv 0) pe_str) (pg_tup (by rfl) (pgs_cons (pg_name (i := 1) scsplit_token.nd rfl (.inl rfl)) (pgs_cons (pg_name (i := 2) scsplit_token.nd rfl (.inl rfl)) (pgs_cons (pg_name (i := 3) scsplit_token.nd rfl (.inl rfl)) pgs_nil)))))
      (pss_cons (ps_set (i := 4) scsplit_token.nd rfl (.inl rfl) (pe_callD G1 hr (pa_cons (pv 3) pa_nil)))
      (pss_cons (ps_if (PW.pt (pw_or (pt_cmpR op_isN (pv 4) pe_non (nomark _)) (pw_or1 (pt_not (pt_val (pe_callD G2 hr (pa_cons (pv 1) pa_nil))))))) (pss_one (ps_ret pe_non)) pss_nil)
      (pss_one (ps_ret (pe_tup (pa_cons (pv 1) (pa_cons (pv 4) pa_nil))))))), ?_⟩
    refine ⟨.str z, rfl, ⟨_, rfl⟩, z, atS, rfl, rfl, by decide +kernel, hz, fun p np => ?_⟩
    refine ⟨p, _, rfl, .inl (.inl upd_same), rfl, _, _, rfl, _, _, rfl, _, _, rfl, rfl, ?_⟩
    have s0 := Sm.new (o := .tup [.str (Txt.partition z atS).1, .str (Txt.partition z atS).2.1, .str (Txt.partition z atS).2.2]) np
    refine ⟨.str (Txt.partition z atS).2.2, rfl, _, rfl, Nat.le_trans l3 hz, s0.tabs hT, fun H1 s1 => ?_⟩
    refine ⟨revV (readRev (Txt.partition z atS).2.2), rfl, rfl, _, rfl, ?_⟩
    have s01 := s0.trans s1
    cases e : readRev (Txt.partition z atS).2.2 with
    | none =>
      refine iteT (iteT (q1 ?_ H1 s01))
      unfold splitTok
      rw [e]
    | some n =>
      refine iteF ⟨.str (Txt.partition z atS).1, rfl, _, rfl, Nat.le_trans l1 hz, s01.tabs hT, fun H2 s2 => ⟨_, rfl, ?_⟩⟩
      have s012 := s01.trans s2
      show if (!isIdent (Txt.partition z atS).1) = true then _ else _
      refine iteB (fun h => ?_) fun h => ?_
      · rw [Bool.not_eq_true'] at h
        refine q1 ?_ H2 s012
        unfold splitTok
        rw [e]
        exact if_neg (by rw [h]; exact Bool.false_ne_true)
      · rw [Bool.not_eq_false'] at h
        have ev : V.int n = revV (readRev (Txt.partition z atS).2.2) := by rw [e]; rfl
        refine ⟨.str (Txt.partition z atS).1, rfl, _, rfl, by show 2 ≤ sizeLine; decide, fun r nr => ?_⟩
        refine q2 _ n ?_ _ r (s012.put (s012.free nr)) (s012.free nr) (by rw [ev]; exact upd_same)
        unfold splitTok
        rw [e]
        exact if_pos h
/-! ### the law's cells and draws -/
def spCell (K : PySem.W.Frag) : Sp := fun vs H Q _ => ∃ (a : Addr) (ns : List Int) (k : Nat), vs = [.ref a, .int k] ∧ SqL K H a (ns.map V.int) ∧ ns.length ≤ 63 ∧ Q (.int (ns.getD k 0)) H
theorem ok_law_cell (T : Top NN K mg base) : D P w K mg base 1 "_law_cell" ["script", "k"] (spCell K) := by
  refine T.ok0 (d := d_law_cell) 9 rfl rfl rfl rfl (by decide +kernel) sc_law_cell (fun _ _ _ _ _ _ us hl => match us, hl with | [_, _], _ => rfl) (fun vs H Q E h => ?_) (fun cdv A outer s H vs Q E ec hr h => ?_)
  · obtain ⟨a, ns, k, rfl, _⟩ := h
    rfl
  · obtain ⟨a, ns, k, rfl, hS, hl, q⟩ := h
    have nl := T.f "len" (by decide +kernel)
    refine ⟨_, pss_cons (ps_if (pt_cmpR op_lt (pv 1) (pe_callB call_len_seq (by rfl) nl PySem.boot_len (pa_cons (pv 0) pa_nil)) (nomark _)) (pss_one (ps_ret (pe_ix ix_list (pv 0) (pv 1) (fun _ _ => rfl)))) pss_nil)
      (pss_one (ps_ret pe_int)), ?_⟩
    refine ⟨_, rfl, .ref a, rfl, a, _, rfl, .inl hS, k, _, rfl, rfl, _, rfl, iteB (fun h => ?_) fun h => ?_⟩
    · have h1 : (k : Int) < ((ns.map V.int).length : Int) := of_decide_eq_true h
      rw [List.length_map] at h1
      have h2 : k < ns.length := by omega
      refine ⟨.ref a, rfl, .int k, rfl, a, _, k, .int (ns.getD k 0), rfl, rfl, hS, atI_nat (j := k) ?_, q⟩
      rw [List.getElem?_map, List.getElem?_eq_getElem h2, List.getD_eq_getElem?_getD, List.getElem?_eq_getElem h2]
      rfl
    · have h1 : ¬ (k : Int) < ((ns.map V.int).length : Int) := of_decide_eq_false h
      rw [List.length_map] at h1
      have h2 : ns.length ≤ k := by omega
      have e : ns.getD k 0 = 0 := by rw [List.getD_eq_getElem?_getD, List.getElem?_eq_none h2]; rfl
      rw [e] at q
      exact q
def mixed (c : Int) (k : Nat) : Int := (c * 48271 + (0 + (k : Int)) * 69621) % 2147483647
/-- a promise: a cell and a count; a new list of so many numbers from 0 on, below 1000003 -/
def Drawn3 (n : Nat) (ds : List Int) : Prop := ds.length = n ∧ ∀ d ∈ ds, 0 ≤ d ∧ d < 1000003
def spDraws : Sp := fun vs H Q _ => ∃ (c : Int) (n : Nat), vs = [.int c, .int n] ∧ n ≤ 100 ∧ ∀ H' p ds, Drawn3 n ds → Sm H H' → H p = none → H' p = some (.lst (ds.map V.int)) → Q (.ref p) H'
theorem ok_law_draws (T : Top NN K mg base) : D P w K mg base 1 "_law_draws" ["cell", "count"] spDraws := by
  refine T.ok0 (d := d_law_draws) 10 rfl rfl rfl rfl (by decide +kernel) sc_law_draws (fun _ _ _ _ _ _ us hl => match us, hl with | [_, _], _ => rfl) (fun vs H Q E h => ?_) (fun cdv A outer s H vs Q E ec hr h => ?_)
  · obtain ⟨a, k, rfl, _⟩ := h
    rfl
  · obtain ⟨c, n, rfl, hn, q⟩ := h
    have nr := T.f "range" (by decide +kernel)
    have ni := T.f "int" (by decide +kernel)
    refine ⟨_, pss_cons (ps_set (i := 2) sc_law_draws.nd rfl (.inl rfl) (pe_lst pa_nil))
      (pss_cons (ps_set (i := 3) sc_law_draws.nd rfl (.inl rfl) (pe_cmpR op_ge (pv 0) (pe_op op_pow pe_int pe_int) (nomark _)))
      (pss_cons (ps_for PassesOwn.never rfl (pi_range1 rfl nr (pa_cons (pv 1) pa_nil)) (pg_name (i := 4) sc_law_draws.nd rfl (.inl rfl))
        (pss_one (ps_if (pt_val (pv 3))
          (pss_cons (ps_expr (pe_bm PySem.F.plainAttrs_list PySem.F.slot_list_append PySem.F.type_list_append mt_append (pv 2) (pa_cons (pe_op op_mod (pe_callTy call_int1 (by rfl) ni (by decide +kernel) (pa_cons (pv 0) pa_nil)) pe_int) pa_nil)))
            (pss_one (ps_set (i := 0) sc_law_draws.nd rfl (.inl rfl) (pe_op op_fdivN (pv 0) pe_int))))
          (pss_cons (ps_set (i := 5) sc_law_draws.nd rfl (.inl rfl) (pe_op op_mod (pe_callTy call_int1 (by rfl) ni (by decide +kernel) (pa_cons (pe_op op_add (pe_op op_mul (pv 0) pe_int) (pe_op op_mul (pv 4) pe_int)) pa_nil)) pe_int))
            (pss_one (ps_expr (pe_bm PySem.F.plainAttrs_list PySem.F.slot_list_append PySem.F.type_list_append mt_append (pv 2) (pa_cons (pe_op op_mod (pe_callTy call_int1 (by rfl) ni (by decide +kernel) (pa_cons (pe_op op_add (pe_op op_add (pe_op op_mul (pv 5) (pv 5)) (pe_op op_mul (pv 0) pe_int)) (pv 4)) pa_nil)) pe_int) pa_nil))))))))
      (pss_one (ps_ret (pv 2))))), ?_⟩
    refine ⟨Nat.zero_le _, fun o no => ?_⟩
    refine ⟨_, rfl, 10, 18, rfl, rfl, ⟨by decide, by decide, by decide⟩, c, _, rfl, rfl, ?_⟩
    refine ⟨_, rfl, n, rfl, by omega, by omega, for_range (n := (n : Int).toNat) (fun i σ H' => ∃ (c' : Int) (y4 y5 : Option V) (wd : Bool) (ds : List Int), σ = [some (.int c'), some (.int n), some (.ref o), some (.bl wd), y4, y5] ∧ Drawn3 i ds ∧ Sm H H' ∧ H' o = some (.lst (ds.map V.int)))
      ⟨c, none, none, _, [], rfl, ⟨rfl, fun d hd => nomatch hd⟩, Sm.new no, upd_same⟩ (fun i σ H' hi hP => ?_) fun σ H' hP => ?_⟩
    · obtain ⟨c', y4, y5, wd, ds, rfl, ⟨dl, db⟩, sm, eo⟩ := hP
      have hlt : (ds.map V.int).length < sizeLine := by
        rw [List.length_map, dl]
        exact small1000 (by omega)
      have ex : ∀ e : Int, (0 ≤ e ∧ e < 1000003) → Drawn3 (i + 1) (ds ++ [e]) := fun e he => ⟨by rw [List.length_append, dl]; rfl, fun d hd => by
        rcases List.mem_append.mp hd with h | h
        · exact db d h
        · rw [List.mem_singleton.mp h]
          exact he⟩
      have em : ∀ e : Int, (ds.map V.int) ++ [.int e] = (ds ++ [e]).map V.int := fun e => by rw [List.map_append]; rfl
      have rd : ∀ b : Int, 0 ≤ b % 1000003 ∧ b % 1000003 < 1000003 := fun b => ⟨Int.emod_nonneg b (by decide), Int.emod_lt_of_pos b (by decide)⟩
      refine ⟨_, rfl, wd, rfl, iteB (fun h => ?_) fun h => ?_⟩
      · refine ⟨.ref o, rfl, .inl ⟨rfl, _, .inl (.inl eo)⟩, .int c', rfl, .inl ⟨c', rfl, ?_⟩⟩
        refine ⟨c', 1009, rfl, rfl, by show (0 : Int) < 1009; decide, o, _, _, rfl, rfl, eo, hlt, ?_⟩
        refine ⟨.int c', rfl, c', 1009, rfl, rfl, ⟨by decide, by decide⟩, ?_⟩
        have r1 : 0 ≤ c' % 1009 ∧ c' % 1009 < 1000003 := ⟨Int.emod_nonneg c' (by decide), by have := Int.emod_lt_of_pos c' (show (0 : Int) < 1009 by decide); omega⟩
        refine ⟨_, _, _, _, ds ++ [c' % 1009], rfl, ex _ r1, sm.put no, ?_⟩
        rw [← em]
        exact upd_same
      · refine ⟨.int c', rfl, c', 48271, rfl, rfl, .inr ⟨by decide, by decide⟩, .int (0 + i), rfl, _, 69621, rfl, rfl, .inr ⟨by decide, by decide⟩, _, _, rfl, rfl, .inl ⟨_, rfl, _, 2147483647, rfl, rfl, by show (0 : Int) < 2147483647; decide, ?_⟩⟩
        have m1 : 0 ≤ mixed c' i := Int.emod_nonneg _ (by decide)
        have m2 : mixed c' i < 2147483647 := Int.emod_lt_of_pos _ (by decide)
        refine ⟨.ref o, rfl, .inl ⟨rfl, _, .inl (.inl eo)⟩, .int (mixed c' i), rfl, .int (mixed c' i), rfl, mixed c' i, mixed c' i, rfl, rfl, .inl ⟨by omega, by omega⟩, .int c', rfl, c', 31, rfl, rfl, .inr ⟨by decide, by decide⟩, _, _, rfl, rfl, .int (0 + i), rfl, _, _, rfl, rfl,
          .inl ⟨_, rfl, _, 1000003, rfl, rfl, by show (0 : Int) < 1000003; decide, o, _, _, rfl, rfl, eo, hlt, ?_⟩⟩
        refine ⟨_, _, _, _, ds ++ [(mixed c' i * mixed c' i + c' * 31 + (0 + (i : Int))) % 1000003], rfl, ex _ (rd _), sm.put no, ?_⟩
        rw [← em]
        exact upd_same
    · obtain ⟨c', y4, y5, wd, ds, rfl, hd, sm, eo⟩ := hP
      have e : (n : Int).toNat = n := by omega
      rw [e] at hd
      exact ⟨_, rfl, q H' o ds hd sm no eo⟩
end
end A0

set_option Elab.async false
set_option linter.all false
set_option maxRecDepth 100000
set_option maxHeartbeats 4000000
namespace A0
open PySem PySem.Spec PyProof.Rows L2 AS
/-! ### _law_same of equal data -/
def EqD (H : Hp) : Nat → V → V → Prop
  | 0, _, _ => False
  | d + 1, x, y => (x = y ∧ ((∃ z, x = .str z) ∨ (∃ i, x = .int i) ∨ x = .non)) ∨
      ∃ (a b : Addr) (xs ys : List V), x = .ref a ∧ y = .ref b ∧ H a = some (.tup xs) ∧ H b = some (.tup ys) ∧ xs.length = ys.length ∧ ys.length ≤ 1000 ∧ ∀ (i : Nat) (u v : V), xs[i]? = some u → ys[i]? = some v → EqD H d u v
def spSame (d : Nat) : Sp := fun vs H Q _ => ∃ x y, vs = [x, y] ∧ EqD H d x y ∧ Q (.bl true) H
section
variable {P : Program} {w : World} {K : PySem.W.Frag} {mg : Str → Option Value} {base : Heap}
theorem spSame_len {d : Nat} : ∀ vs H Q E, spSame d vs H Q E → vs.length = [("actual" : Str), "expected"].length := fun vs H Q E h => by
  obtain ⟨x, y, rfl, _⟩ := h
  rfl
theorem same0 (T : Top NN K mg base) : D P w K mg base 0 "_law_same" ["actual", "expected"] (spSame 0) := by
  have G : D P w K mg base 1 "_law_same" ["actual", "expected"] (spSame 0) := by
    refine T.ok0 (d := d_law_same) 11 rfl rfl rfl rfl (by decide +kernel) sc_law_same (fun _ _ _ _ _ _ us hl => match us, hl with | [_, _], _ => rfl) spSame_len (fun cdv A outer s H vs Q E ec hr h => ?_)
    obtain ⟨x, y, _, z, _⟩ := h
    exact z.elim
  obtain ⟨⟨fd, F, b⟩, kp, gl⟩ := G
  exact ⟨⟨fd, ⟨spSame_len, fun A outer s H args us vs Q E hr he hb hv hs => by
    obtain ⟨x, y, _, z, _⟩ := hs
    exact z.elim⟩, b⟩, kp, gl⟩
theorem ok_law_same (T : Top NN K mg base) : ∀ d, D P w K mg base d "_law_same" ["actual", "expected"] (spSame d)
  | 0 => same0 T
  | d + 1 => by
    have G := ok_law_same T d
    refine T.ok0 (d := d_law_same) 11 rfl rfl rfl rfl (by decide +kernel) sc_law_same (fun _ _ _ _ _ _ us hl => match us, hl with | [_, _], _ => rfl) spSame_len (fun cdv A outer s H vs Q E ec hr h => ?_)
    obtain ⟨x, y, rfl, he, q⟩ := h
    have ni := T.f "isinstance" (by decide +kernel)
    have nt := T.f "tuple" (by decide +kernel)
    have nb := T.f "bool" (by decide +kernel)
    have ns := T.f "str" (by decide +kernel)
    have nn := T.f "int" (by decide +kernel)
    have nl := T.f "len" (by decide +kernel)
    have nr := T.f "range" (by decide +kernel)
    refine ⟨_, pss_cons (ps_if (pt_val (pe_callB call_isi (by rfl) ni (by decide +kernel) (pa_cons (pv 1) (pa_cons (pe_bltn (v := .ty "tuple") (by rfl) nt (by decide +kernel) rfl) pa_nil))))
        (pss_cons (ps_if (PW.pt (pw_or (pt_not (pt_val (pe_callB call_isi (by rfl) ni (by decide +kernel) (pa_cons (pv 0) (pa_cons (pe_bltn (v := .ty "tuple") (by rfl) nt (by decide +kernel) rfl) pa_nil)))))
            (pw_or1 (pt_cmpR op_ne (pe_callB call_len_seq (by rfl) nl PySem.boot_len (pa_cons (pv 0) pa_nil)) (pe_callB call_len_seq (by rfl) nl PySem.boot_len (pa_cons (pv 1) pa_nil)) (nomark _))))) (pss_one (ps_ret pe_bl)) pss_nil)
        (pss_cons (ps_for PassesOwn.never rfl (pi_range1 rfl nr (pa_cons (pe_callB call_len_seq (by rfl) nl PySem.boot_len (pa_cons (pv 1) pa_nil)) pa_nil)) (pg_name (i := 2) sc_law_same.nd rfl (.inl rfl))
            (pss_one (ps_if (pt_not (pt_val (pe_callD G hr (pa_cons (pe_ix ix_tup (pv 0) (pv 2) (fun _ _ => rfl)) (pa_cons (pe_ix ix_tup (pv 1) (pv 2) (fun _ _ => rfl)) pa_nil))))) (pss_one (ps_ret pe_bl)) pss_nil)))
        (pss_one (ps_ret pe_bl)))) pss_nil)
      (pss_cons (ps_if (pt_cmpR op_isN (pv 1) pe_non (nomark _)) (pss_one (ps_ret (pe_cmpR op_isN (pv 0) pe_non (nomark _)))) pss_nil)
      (pss_cons (ps_if (pt_val (pe_callB call_isi (by rfl) ni (by decide +kernel) (pa_cons (pv 1) (pa_cons (pe_bltn (v := .ty "bool") (by rfl) nb (by decide +kernel) rfl) pa_nil))))
        (pss_one (ps_ret (pe_and (pe_callB call_isi (by rfl) ni (by decide +kernel) (pa_cons (pv 0) (pa_cons (pe_bltn (v := .ty "bool") (by rfl) nb (by decide +kernel) rfl) pa_nil))) (pe_one (pe_cmpR op_eq (pv 0) (pv 1) (nomark _)))))) pss_nil)
      (pss_cons (ps_if (pt_val (pe_callB call_isi (by rfl) ni (by decide +kernel) (pa_cons (pv 1) (pa_cons (pe_bltn (v := .ty "str") (by rfl) ns (by decide +kernel) rfl) pa_nil))))
        (pss_one (ps_ret (pe_and (pe_callB call_isi (by rfl) ni (by decide +kernel) (pa_cons (pv 0) (pa_cons (pe_bltn (v := .ty "str") (by rfl) ns (by decide +kernel) rfl) pa_nil))) (pe_one (pe_cmpR op_eq (pv 0) (pv 1) (nomark _)))))) pss_nil)
      (pss_one (ps_ret (pe_and (pe_callB call_isi (by rfl) ni (by decide +kernel) (pa_cons (pv 0) (pa_cons (pe_bltn (v := .ty "int") (by rfl) nn (by decide +kernel) rfl) pa_nil)))
        (pe_and (pe_not (pe_callB call_isi (by rfl) ni (by decide +kernel) (pa_cons (pv 0) (pa_cons (pe_bltn (v := .ty "bool") (by rfl) nb (by decide +kernel) rfl) pa_nil)))) (pe_one (pe_cmpR op_eq (pv 0) (pv 1) (nomark _)))))))))), ?_⟩
    rcases he with ⟨rfl, hs⟩ | ⟨a, b, xs, ys, rfl, rfl, ha, hb, hl, hy, hi⟩
    · rcases hs with ⟨z, rfl⟩ | ⟨i, rfl⟩ | rfl
      · -- a text
        refine ⟨.str z, rfl, .str z, .ty "tuple", _, _, false, rfl, .ty _, .base (.str z), kit_ty (by decide +kernel), false, rfl, iteF ?_⟩
        refine ⟨.str z, rfl, rfl, false, rfl, iteF ?_⟩
        refine ⟨.str z, rfl, .str z, .ty "bool", _, _, false, rfl, .ty _, .base (.str z), kit_ty (by decide +kernel), false, rfl, iteF ?_⟩
        refine ⟨.str z, rfl, .str z, .ty "str", _, _, true, rfl, .ty _, .base (.str z), kit_ty (by decide +kernel), true, rfl, iteT ?_⟩
        refine ⟨.str z, rfl, .str z, .ty "str", _, _, true, rfl, .ty _, .base (.str z), kit_ty (by decide +kernel), true, rfl, iteT ?_⟩
        exact ⟨.str z, rfl, .str z, rfl, rfl, toBl (decide_eq_true rfl) q⟩
      · -- a number
        refine ⟨.int i, rfl, .int i, .ty "tuple", _, _, false, rfl, .ty _, .base (.int i), kit_ty (by decide +kernel), false, rfl, iteF ?_⟩
        refine ⟨.int i, rfl, rfl, false, rfl, iteF ?_⟩
        refine ⟨.int i, rfl, .int i, .ty "bool", _, _, false, rfl, .ty _, .base (.int i), kit_ty (by decide +kernel), false, rfl, iteF ?_⟩
        refine ⟨.int i, rfl, .int i, .ty "str", _, _, false, rfl, .ty _, .base (.int i), kit_ty (by decide +kernel), false, rfl, iteF ?_⟩
        refine ⟨.int i, rfl, .int i, .ty "int", _, _, true, rfl, .ty _, .base (.int i), kit_ty (by decide +kernel), true, rfl, iteT ?_⟩
        refine ⟨.int i, rfl, .int i, .ty "bool", _, _, false, rfl, .ty _, .base (.int i), kit_ty (by decide +kernel), false, rfl, true, rfl, iteT ?_⟩
        exact ⟨.int i, rfl, .int i, rfl, rfl, toBl (decide_eq_true rfl) q⟩
      · -- None
        refine ⟨.non, rfl, .non, .ty "tuple", _, _, false, rfl, .ty _, .base .non, kit_ty (by decide +kernel), false, rfl, iteF ?_⟩
        refine ⟨.non, rfl, rfl, true, rfl, iteT ?_⟩
        exact ⟨.non, rfl, rfl, toBl (decide_eq_true rfl) q⟩
    · refine ⟨.ref b, rfl, .ref b, .ty "tuple", _, _, true, rfl, .ty _, .base (.tup hb), kit_ty (by decide +kernel), true, rfl, iteT ?_⟩
      refine ⟨.ref a, rfl, .ref a, .ty "tuple", _, _, true, rfl, .ty _, .base (.tup ha), kit_ty (by decide +kernel), true, rfl, iteF ?_⟩
      refine ⟨.ref a, rfl, a, xs, rfl, .inr (.inl (.inl ha)), .ref b, rfl, b, ys, rfl, .inr (.inl (.inl hb)), rfl, false, ?_, iteF ?_⟩
      · show V.bl (!decide (V.int (xs.length : Int) = V.int (ys.length : Int))) = V.bl false
        rw [hl, decide_eq_true rfl]
        rfl
      · refine ⟨.ref b, rfl, b, ys, rfl, .inr (.inl (.inl hb)), _, rfl, by omega, by omega, for_range (n := ((ys.length : Nat) : Int).toNat) (fun i σ H' => H' = H ∧ ∃ u, σ = [some (.ref a), some (.ref b), u]) ⟨rfl, none, rfl⟩ (fun i σ H' hlt hP => ?_) fun σ H' hP => ?_⟩
        · obtain ⟨rfl, u, rfl⟩ := hP
          have h1 : i < ys.length := by omega
          have h2 : i < xs.length := by omega
          have z : (0 : Int) + (i : Int) = (i : Int) := by omega
          refine ⟨.ref a, rfl, .int (0 + i), rfl, a, xs, _, xs[i], rfl, rfl, .inl (.inl ha), by rw [z]; exact atI_nat (List.getElem?_eq_getElem h2), ?_⟩
          refine ⟨.ref b, rfl, .int (0 + i), rfl, b, ys, _, ys[i], rfl, rfl, .inl (.inl hb), by rw [z]; exact atI_nat (List.getElem?_eq_getElem h1), ?_⟩
          exact ⟨xs[i], ys[i], rfl, hi i _ _ (List.getElem?_eq_getElem h2) (List.getElem?_eq_getElem h1), true, rfl, iteF ⟨rfl, _, rfl⟩⟩
        · obtain ⟨rfl, u, rfl⟩ := hP
          exact q
end
end A0

set_option Elab.async false
set_option linter.all false
set_option maxRecDepth 100000
set_option maxHeartbeats 4000000
namespace A0
open PySem PySem.Spec PyProof.Rows L2 AS
theorem sum_ones : ∀ {ys : List Str}, (∀ y ∈ ys, y.length = 1) → (ys.map (·.length)).sum = ys.length
  | [], _ => rfl
  | y :: r, h => by
    rw [List.map_cons, List.sum_cons, h y (List.mem_cons_self ..), sum_ones fun z hz => h z (List.mem_cons_of_mem _ hz), List.length_cons]
    omega
theorem joinL_len : ∀ l : List (List Nat), (TL.joinL [] l).length = (l.map List.length).sum
  | [] => rfl
  | [p] => by
    show p.length = _
    simp
  | p :: q :: r => by
    show (p ++ ([] ++ TL.joinL [] (q :: r))).length = _
    rw [List.nil_append, List.length_append, joinL_len (q :: r)]
    simp [Nat.add_assoc]
theorem join_len (ys : List Str) : (Txt.join Str.empty ys).length = (ys.map (·.length)).sum := by
  rw [TL.len_tl, TL.join_eq, TL.tl_join]
  show (TL.joinL [] (ys.map TL.tl)).length = _
  rw [joinL_len, List.map_map]
  congr 1
/-- a promise: drawn numbers, a place: some short text -/
def spWord (K : PySem.W.Frag) : Sp := fun vs H Q _ => ∃ (a : Addr) (ds : List Int) (k : Nat), vs = [.ref a, .int k] ∧ SqL K H a (ds.map V.int) ∧ k + 1 < ds.length ∧ (∀ d ∈ ds, 0 ≤ d) ∧ ∀ H' z, z.length ≤ 21 → Sm H H' → Q (.str z) H'
def sizes : List Int := [1, 2, 3, 19, 20, 21, 0, 4]
section
variable {P : Program} {w : World} {K : PySem.W.Frag} {mg : Str → Option Value} {base : Heap}
theorem ok_law_word (T : Top NN K mg base) : D P w K mg base 1 "_law_word" ["draws", "at"] (spWord K) := by
  refine T.ok0 (d := d_law_word) 12 rfl rfl rfl rfl (by decide +kernel) sc_law_word (fun _ _ _ _ _ _ us hl => match us, hl with | [_, _], _ => rfl) (fun vs H Q E h => ?_) (fun cdv A outer s H vs Q E ec hr h => ?_)
  · obtain ⟨a, ns, k, rfl, _⟩ := h
    rfl
  · obtain ⟨a, ds, k, rfl, hS, hk, hd, q⟩ := h
    have ni := T.f "int" (by decide +kernel)
    have nr := T.f "range" (by decide +kernel)
    refine ⟨_, pss_cons (ps_set (i := 2) sc_law_word.nd rfl (.inl rfl) (pe_ix ix_list (pe_lst (pa_cons pe_int (pa_cons pe_int (pa_cons pe_int (pa_cons pe_int (pa_cons pe_int (pa_cons pe_int (pa_cons pe_int (pa_cons pe_int pa_nil)))))))))
        (pe_op op_mod (pe_callTy call_int1 (by rfl) ni (by decide +kernel) (pa_cons (pe_ix ix_list (pv 0) (pv 1) (fun _ _ => rfl)) pa_nil)) pe_int) (fun _ _ => rfl)))
      (pss_one (ps_ret (pe_join pe_str (pe_lc (own := [("k", 3)]) (g := gName 3) (tt := tYes) rfl sc_law_word.nd (pi_range1 rfl nr (pa_cons (pv 2) pa_nil)) (blkOk_by (N := ["draws", "at", "size", "k"]) (sc := defScope s_law_word) (by decide +kernel))
        (fun _ _ _ _ _ => pg_name (i := 3) sc_law_word.nd rfl (Or.inl rfl)) (fun _ _ _ _ _ => pts_nil)
        (fun _ _ _ _ _ => pe_ix ix_str pe_str (pe_op op_mod (pe_op op_fdivN (pe_callTy call_int1 (by rfl) ni (by decide +kernel) (pa_cons (pe_ix (r := rIxL K) ix_list (pv 0) (pe_op op_add (pv 1) pe_int) (fun _ _ => rfl)) pa_nil)) (pe_op op_add (pv 3) pe_int)) pe_int) (fun _ _ => rfl)))))), ?_⟩
    have h1 : k < ds.length := by omega
    have g1 : (ds.map V.int)[k]? = some (.int ds[k]) := by
      rw [List.getElem?_map, List.getElem?_eq_getElem h1]
      rfl
    have g2 : (ds.map V.int)[k + 1]? = some (.int ds[k + 1]) := by
      rw [List.getElem?_map, List.getElem?_eq_getElem hk]
      rfl
    refine ⟨by show 8 ≤ sizeLine; decide, fun p np => ?_⟩
    have s0 : Sm H (upd H p (.lst (sizes.map V.int))) := Sm.new np
    refine ⟨.ref a, rfl, .int k, rfl, a, _, k, _, rfl, rfl, s0.seq hS, atI_nat g1, .inl ⟨_, rfl, ds[k], 8, rfl, rfl, by show (0 : Int) < 8; decide, ?_⟩⟩
    have b1 : 0 ≤ ds[k] % 8 := Int.emod_nonneg _ (by decide)
    have b2 : ds[k] % 8 < 8 := Int.emod_lt_of_pos _ (by decide)
    obtain ⟨m, em⟩ : ∃ m : Nat, ds[k] % 8 = (m : Int) := ⟨(ds[k] % 8).toNat, by omega⟩
    have hm : m < sizes.length := by show m < 8; omega
    obtain ⟨n, en, hn⟩ : ∃ n : Nat, sizes[m] = (n : Int) ∧ n ≤ 21 := by
      have key : ∀ m, (h : m < sizes.length) → 0 ≤ sizes[m] ∧ sizes[m] ≤ 21 := by decide
      obtain ⟨k1, k2⟩ := key m hm
      exact ⟨sizes[m].toNat, by omega, by omega⟩
    refine ⟨p, sizes.map V.int, ds[k] % 8, .int (n : Int), rfl, rfl, .inl (.inl upd_same), by rw [em]; exact atI_nat (by rw [List.getElem?_map, List.getElem?_eq_getElem hm, en]; rfl), ?_⟩
    refine ⟨⟨_, rfl⟩, .int (n : Int), rfl, n, rfl, by omega, by omega, fun D hD => ?_⟩
    have nD := s0.free hD
    refine lc_range (n := (n : Int).toNat) (fun i H' => ∃ ys : List Str, ys.length = i ∧ (∀ y ∈ ys, y.length = 1) ∧ Sm H H' ∧ H' D = some (.lst (ys.map V.str))) ⟨[], rfl, (fun _ h => nomatch h), s0.put nD, upd_same⟩ (fun i H' hi hP => ?_) fun H' hP => ?_
    · obtain ⟨ys, hl, hy, sm, eD⟩ := hP
      refine ⟨rfl, ?_⟩
      refine ⟨.ref a, rfl, .int k, rfl, k, 1, rfl, rfl, a, _, (k : Int) + 1, _, rfl, rfl, sm.seq hS, atI_nat (j := k + 1) g2, .inl ⟨_, rfl, .int (0 + i), rfl, _, 1, rfl, rfl, ds[k + 1], _, rfl, rfl, ⟨by omega, by omega⟩, _, 6, rfl, rfl, by show (0 : Int) < 6; decide, ?_⟩⟩
      have c1 : 0 ≤ (ds[k + 1].fdiv (0 + (i : Int) + 1)) % 6 := Int.emod_nonneg _ (by decide)
      have c2 : (ds[k + 1].fdiv (0 + (i : Int) + 1)) % 6 < 6 := Int.emod_lt_of_pos _ (by decide)
      obtain ⟨r, er⟩ : ∃ r : Nat, (ds[k + 1].fdiv (0 + (i : Int) + 1)) % 6 = (r : Int) := ⟨((ds[k + 1].fdiv (0 + (i : Int) + 1)) % 6).toNat, by omega⟩
      have hr6 : r < (tl "az09_q").length := by show r < 6; omega
      refine ⟨"az09_q", _, (tl "az09_q")[r], rfl, rfl, by decide +kernel, by rw [er]; exact atI_nat (List.getElem?_eq_getElem hr6), ?_⟩
      refine ⟨_, eD, ?_, ys ++ [⟨#[(tl "az09_q")[r]]⟩], by rw [List.length_append, hl]; rfl, fun y h => ?_, sm.put nD, ?_⟩
      · rw [List.length_map, hl]
        exact small1000 (by omega)
      · rcases List.mem_append.mp h with h | h
        · exact hy y h
        · rw [List.mem_singleton.mp h]
          rfl
      · rw [List.map_append]
        exact upd_same
    · obtain ⟨ys, hl, hy, sm, eD⟩ := hP
      have hs := sum_ones hy
      have hz : (Txt.join Str.empty ys).length ≤ 21 := by
        rw [join_len, hs, hl]
        omega
      refine ⟨Str.empty, D, ys, rfl, rfl, .inl (.inl (.inl eD)), ?_, q H' _ hz sm⟩
      rw [hs, hl]
      show (n : Int).toNat + ys.length * 0 ≤ _
      omega
end
end A0

set_option Elab.async false
set_option linter.all false
set_option maxRecDepth 100000
set_option maxHeartbeats 4000000
namespace A0
open PySem PySem.Spec PyProof.Rows L2 AS
/-- a promise: the script; some text that is not long -/
def spText (K : PySem.W.Frag) : Sp := fun vs H Q _ => ∃ (a : Addr) (ns : List Int), vs = [.ref a] ∧ SqL K H a (ns.map V.int) ∧ ns.length ≤ 63 ∧ ∀ H' z, z.length ≤ 200 → Sm H H' → Q (.str z) H'
def firsts : List Str := ["", "", "", "a", "q_"]
def digs : List Str := ["0", "7", "12", "1000", "1001", "007", "99", "", "1x", "999"]
theorem mod_nat (d : Int) (n : Nat) (h : 0 < n) : ∃ m : Nat, d % (n : Int) = (m : Int) ∧ m < n := by
  have b1 : 0 ≤ d % (n : Int) := Int.emod_nonneg _ (by omega)
  have b2 : d % (n : Int) < n := Int.emod_lt_of_pos _ (by omega)
  exact ⟨(d % (n : Int)).toNat, by omega, by omega⟩
theorem at_int {ds : List Int} {k : Nat} (h : k < ds.length) : atI (ds.map V.int) (k : Int) = some (.int ds[k]) := atI_nat (by
  rw [List.getElem?_map, List.getElem?_eq_getElem h]
  rfl)
theorem at_str {ds : List Str} {k : Nat} (h : k < ds.length) : atI (ds.map V.str) (k : Int) = some (.str ds[k]) := atI_nat (by
  rw [List.getElem?_map, List.getElem?_eq_getElem h]
  rfl)
theorem lenOk {a b : Str} {m n : Nat} (h1 : a.length ≤ m) (h2 : b.length ≤ n) (h : m + n ≤ 1000 := by decide) : a.length + b.length ≤ sizeLine := by
  have big : (1000 : Nat) ≤ sizeLine := by decide
  omega
theorem colon_len : colon.length ≤ 1 := by decide +kernel
theorem hash_len : hash.length ≤ 1 := by decide +kernel
theorem at_len : atS.length ≤ 1 := by decide +kernel
section
variable {P : Program} {w : World} {K : PySem.W.Frag} {mg : Str → Option Value} {base : Heap}
theorem ok_law_text (T : Top NN K mg base) : D P w K mg base 2 "_law_text" ["script"] (spText K) := by
  refine T.ok0 (d := d_law_text) 13 rfl rfl rfl rfl (by decide +kernel) sc_law_text (fun _ _ _ _ _ _ us hl => match us, hl with | [_], _ => rfl) (fun vs H Q E h => ?_) (fun cdv A outer s H vs Q E ec hr h => ?_)
  · obtain ⟨a, ns, rfl, _⟩ := h
    rfl
  · obtain ⟨a, ns, rfl, hS, hn, q⟩ := h
    have ni := T.f "int" (by decide +kernel)
    have nl := T.f "len" (by decide +kernel)
    have GC := ok_law_cell (P := P) (w := w) T
    have GD := ok_law_draws (P := P) (w := w) T
    have GW := ok_law_word (P := P) (w := w) T
    have nd := sc_law_text.nd
    refine ⟨_, pss_cons (ps_set (i := 1) nd rfl (.inl rfl) (pe_callD GD hr (pa_cons (pe_callD GC hr (pa_cons (pv 0) (pa_cons pe_int pa_nil))) (pa_cons pe_int pa_nil))))
      (pss_cons (ps_set (i := 2) nd rfl (.inl rfl) (pe_op op_add_str (pe_ix ix_list (pe_lst (pa_cons pe_str (pa_cons pe_str (pa_cons pe_str (pa_cons pe_str (pa_cons pe_str pa_nil))))))
          (pe_op op_mod (pe_callTy call_int1 (by rfl) ni (by decide +kernel) (pa_cons (pe_ix ix_list (pv 1) pe_int (fun _ _ => rfl)) pa_nil)) pe_int) (fun _ _ => rfl)) (pe_callD GW hr (pa_cons (pv 1) (pa_cons pe_int pa_nil)))))
      (pss_cons (ps_set (i := 3) nd rfl (.inl rfl) (pe_ix ix_list (pe_lst (pa_cons pe_str (pa_cons pe_str (pa_cons pe_str (pa_cons pe_str (pa_cons pe_str (pa_cons pe_str (pa_cons pe_str (pa_cons pe_str (pa_cons pe_str (pa_cons pe_str pa_nil)))))))))))
          (pe_op op_mod (pe_callTy call_int1 (by rfl) ni (by decide +kernel) (pa_cons (pe_ix ix_list (pv 1) pe_int (fun _ _ => rfl)) pa_nil)) pe_int) (fun _ _ => rfl)))
      (pss_cons (ps_set (i := 4) nd rfl (.inl rfl) (pe_op op_mod (pe_callTy call_int1 (by rfl) ni (by decide +kernel) (pa_cons (pe_ix ix_list (pv 1) pe_int (fun _ _ => rfl)) pa_nil)) pe_int))
      (pss_cons (ps_set (i := 5) nd rfl (.inl rfl) (pe_ix ix_list (pe_lst (pa_cons (pv 2)
            (pa_cons (pe_op op_add_str (pe_op op_add_str (pv 2) pe_str) (pe_callD GW hr (pa_cons (pv 1) (pa_cons pe_int pa_nil))))
            (pa_cons (pe_op op_add_str (pe_op op_add_str (pe_op op_add_str (pe_op op_add_str (pv 2) pe_str) (pe_callD GW hr (pa_cons (pv 1) (pa_cons pe_int pa_nil)))) pe_str) (pe_callD GW hr (pa_cons (pv 1) (pa_cons pe_int pa_nil))))
            (pa_cons (pe_op op_add_str (pe_op op_add_str (pv 2) pe_str) (pv 3)) pa_nil))))) (pv 4) (fun _ _ => rfl)))
      (pss_cons (ps_set (i := 1) nd rfl (.inl rfl) (pe_callD GD hr (pa_cons (pe_callD GC hr (pa_cons (pv 0) (pa_cons pe_int pa_nil))) (pa_cons pe_int pa_nil))))
      (pss_cons (ps_set (i := 6) nd rfl (.inl rfl) (pe_op op_mod (pe_callTy call_int1 (by rfl) ni (by decide +kernel) (pa_cons (pe_ix ix_list (pv 1) pe_int (fun _ _ => rfl)) pa_nil)) (pe_op op_add (pe_callB call_len_str (by rfl) nl PySem.boot_len (pa_cons (pv 5) pa_nil)) pe_int)))
      (pss_cons (ps_set (i := 7) nd rfl (.inl rfl) (pe_ix ix_str pe_str (pe_op op_mod (pe_callTy call_int1 (by rfl) ni (by decide +kernel) (pa_cons (pe_ix ix_list (pv 1) pe_int (fun _ _ => rfl)) pa_nil)) pe_int) (fun _ _ => rfl)))
      (pss_cons (ps_set (i := 8) nd rfl (.inl rfl) (pe_op op_mod (pe_callTy call_int1 (by rfl) ni (by decide +kernel) (pa_cons (pe_ix ix_list (pv 1) pe_int (fun _ _ => rfl)) pa_nil)) pe_int))
      (pss_cons (ps_if (pt_cmpR op_eq (pv 8) pe_int (nomark _)) (pss_one (ps_ret (pe_op op_add_str (pe_op op_add_str (pe_slice sl_str (pv 5) po_none (po_some (pv 6))) (pv 7)) (pe_slice sl_str (pv 5) (po_some (pv 6)) po_none)))) pss_nil)
      (pss_cons (ps_if (pt_cmpR op_eq (pv 8) pe_int (nomark _)) (pss_one (ps_ret (pe_op op_add_str (pe_op op_add_str (pe_slice sl_str (pv 5) po_none (po_some (pv 6))) (pv 7)) (pe_slice sl_str (pv 5) (po_some (pe_op op_add (pv 6) pe_int)) po_none)))) pss_nil)
      (pss_one (ps_ret (pe_ifExp (pt_cmpR op_eq (pv 8) pe_int (nomark _)) (pe_op op_add_str (pe_slice sl_str (pv 5) po_none (po_some (pv 6))) (pe_slice sl_str (pv 5) (po_some (pe_op op_add (pv 6) pe_int)) po_none)) (pv 5)))))))))))))), ?_⟩
    have big : (1000 : Nat) ≤ sizeLine := by decide
    -- draws
    refine ⟨.ref a, rfl, a, ns, 0, rfl, hS, hn, _, 12, rfl, by decide, fun H1 o ds dr s1 no eo => ?_⟩
    obtain ⟨dl, db⟩ := dr
    have dp : ∀ d ∈ ds, 0 ≤ d := fun d hd => (db d hd).1
    have oS : SqL K H1 o (ds.map V.int) := .inl (.inl eo)
    -- first
    refine ⟨by show 5 ≤ sizeLine; decide, fun p np => ?_⟩
    have s2 : Sm H1 (upd H1 p (.lst (firsts.map V.str))) := Sm.new np
    refine ⟨.ref o, rfl, o, _, 10, _, rfl, rfl, s2.seq oS, at_int (k := 10) (by omega), .inl ⟨_, rfl, _, 5, rfl, rfl, by show (0 : Int) < 5; decide, ?_⟩⟩
    obtain ⟨m, em, hm⟩ := mod_nat ds[10] 5 (by decide)
    have hm2 : m < firsts.length := hm
    have fl : ∀ m, (h : m < firsts.length) → firsts[m].length ≤ 2 := by decide +kernel
    refine ⟨p, firsts.map V.str, ds[10] % 5, .str firsts[m], rfl, rfl, .inl (.inl upd_same), by rw [show ds[10] % 5 = (m : Int) from em]; exact at_str hm2, ?_⟩
    refine ⟨.ref o, rfl, o, ds, 0, rfl, s2.seq oS, by omega, dp, fun H3 w1 hw1 s3 => ?_⟩
    have l1 := fl m hm2
    have s13 : Sm H1 H3 := s2.trans s3
    have g1 : (firsts[m] ++ w1).length ≤ 23 := by
      rw [Str.length_append]
      omega
    refine ⟨_, _, rfl, rfl, by omega, ?_⟩
    -- digits
    refine ⟨by show 10 ≤ sizeLine; decide, fun p2 np2 => ?_⟩
    have s4 : Sm H1 (upd H3 p2 (.lst (digs.map V.str))) := s13.trans (Sm.new np2)
    refine ⟨.ref o, rfl, o, _, 8, _, rfl, rfl, s4.seq oS, at_int (k := 8) (by omega), .inl ⟨_, rfl, _, 10, rfl, rfl, by show (0 : Int) < 10; decide, ?_⟩⟩
    obtain ⟨m2, em2, hm2'⟩ := mod_nat ds[8] 10 (by decide)
    have hm3 : m2 < digs.length := hm2'
    have fl2 : ∀ m, (h : m < digs.length) → digs[m].length ≤ 4 := by decide +kernel
    refine ⟨p2, digs.map V.str, ds[8] % 10, .str digs[m2], rfl, rfl, .inl (.inl upd_same), by rw [show ds[8] % 10 = (m2 : Int) from em2]; exact at_str hm3, ?_⟩
    have l2 := fl2 m2 hm3
    -- kind
    refine ⟨.ref o, rfl, o, _, 9, _, rfl, rfl, s4.seq oS, at_int (k := 9) (by omega), .inl ⟨_, rfl, _, 4, rfl, rfl, by show (0 : Int) < 4; decide, ?_⟩⟩
    obtain ⟨m3, em3, hm4⟩ := mod_nat ds[9] 4 (by decide)
    -- text
    have la : ∀ (x y : Str), (x ++ y).length = x.length + y.length := fun x y => Str.length_append x y
    have lc : colon.length = 1 := by decide +kernel
    have lh : hash.length = 1 := by decide +kernel
    have lt : atS.length = 1 := by decide +kernel
    have k0 : (firsts[m] ++ w1 ++ colon).length ≤ 24 := by rw [la, lc]; omega
    have k5 : (firsts[m] ++ w1 ++ atS).length ≤ 24 := by rw [la, lt]; omega
    have k6 : (firsts[m] ++ w1 ++ atS ++ digs[m2]).length ≤ 28 := by rw [la]; omega
    refine ⟨_, rfl, _, rfl, _, _, rfl, rfl, lenOk g1 colon_len, .ref o, rfl, o, ds, 2, rfl, s4.seq oS, by omega, dp, fun H5 w2 hw2 s5 => ?_⟩
    have s15 := s4.trans s5
    have k1 : (firsts[m] ++ w1 ++ colon ++ w2).length ≤ 45 := by rw [la]; omega
    refine ⟨_, _, rfl, rfl, lenOk k0 hw2, ?_⟩
    refine ⟨_, rfl, _, _, rfl, rfl, lenOk g1 colon_len, .ref o, rfl, o, ds, 2, rfl, s15.seq oS, by omega, dp, fun H6 w3 hw3 s6 => ?_⟩
    have s16 := s15.trans s6
    have k2 : (firsts[m] ++ w1 ++ colon ++ w3).length ≤ 45 := by rw [la]; omega
    have k3 : (firsts[m] ++ w1 ++ colon ++ w3 ++ hash).length ≤ 46 := by rw [la, lh]; omega
    refine ⟨_, _, rfl, rfl, lenOk k0 hw3, _, _, rfl, rfl, lenOk k2 hash_len, .ref o, rfl, o, ds, 4, rfl, s16.seq oS, by omega, dp, fun H7 w4 hw4 s7 => ?_⟩
    have s17 := s16.trans s7
    have k4 : (firsts[m] ++ w1 ++ colon ++ w3 ++ hash ++ w4).length ≤ 67 := by rw [la]; omega
    refine ⟨_, _, rfl, rfl, lenOk k3 hw4, ?_⟩
    refine ⟨_, rfl, _, _, rfl, rfl, lenOk g1 at_len, _, rfl, _, _, rfl, rfl, lenOk k5 l2, by show 4 ≤ sizeLine; decide, fun p3 np3 => ?_⟩
    have tl4 : m3 < ([firsts[m] ++ w1, firsts[m] ++ w1 ++ colon ++ w2, firsts[m] ++ w1 ++ colon ++ w3 ++ hash ++ w4, firsts[m] ++ w1 ++ atS ++ digs[m2]] : List Str).length := hm4
    have fl3 : ∀ x ∈ ([firsts[m] ++ w1, firsts[m] ++ w1 ++ colon ++ w2, firsts[m] ++ w1 ++ colon ++ w3 ++ hash ++ w4, firsts[m] ++ w1 ++ atS ++ digs[m2]] : List Str), x.length ≤ 67 := fun x hx => by
      simp only [List.mem_cons, List.not_mem_nil, or_false] at hx
      rcases hx with rfl | rfl | rfl | rfl <;> omega
    have l4 := fl3 _ (List.getElem_mem tl4)
    obtain ⟨text, et⟩ : ∃ text, ([firsts[m] ++ w1, firsts[m] ++ w1 ++ colon ++ w2, firsts[m] ++ w1 ++ colon ++ w3 ++ hash ++ w4, firsts[m] ++ w1 ++ atS ++ digs[m2]] : List Str)[m3] = text := ⟨_, rfl⟩
    rw [et] at l4
    refine ⟨_, rfl, p3, ([firsts[m] ++ w1, firsts[m] ++ w1 ++ colon ++ w2, firsts[m] ++ w1 ++ colon ++ w3 ++ hash ++ w4, firsts[m] ++ w1 ++ atS ++ digs[m2]] : List Str).map V.str, ds[9] % 4, .str text, rfl, rfl, .inl (.inl upd_same), by rw [show ds[9] % 4 = (m3 : Int) from em3, ← et]; exact at_str tl4, ?_⟩
    have s8 : Sm H (upd H7 p3 (.lst (([firsts[m] ++ w1, firsts[m] ++ w1 ++ colon ++ w2, firsts[m] ++ w1 ++ colon ++ w3 ++ hash ++ w4, firsts[m] ++ w1 ++ atS ++ digs[m2]] : List Str).map V.str))) := s1.trans (s17.trans (Sm.new np3))
    clear s17 s16 s15 s7 s6 s5 s4 s3 s2
    -- draws, at, sign, choice
    refine ⟨.ref a, rfl, a, ns, 1, rfl, s8.seq hS, hn, _, 4, rfl, by decide, fun H8 o2 ds2 dr2 s9 no2 eo2 => ?_⟩
    obtain ⟨dl2, db2⟩ := dr2
    have oS2 : SqL K H8 o2 (ds2.map V.int) := .inl (.inl eo2)
    have s19 := s8.trans s9
    have tz : text.length ≤ sizeLine := by omega
    refine ⟨.ref o2, rfl, o2, _, 0, _, rfl, rfl, oS2, at_int (k := 0) (by omega), .inl ⟨_, rfl, .str text, rfl, text, rfl, tz, _, 1, rfl, rfl, _, _, rfl, rfl, by show (0 : Int) < (text.length : Int) + 1; omega, ?_⟩⟩
    refine ⟨.ref o2, rfl, o2, _, 1, _, rfl, rfl, oS2, at_int (k := 1) (by omega), .inl ⟨_, rfl, _, 7, rfl, rfl, by show (0 : Int) < 7; decide, ?_⟩⟩
    obtain ⟨m4, em4, hm5⟩ := mod_nat ds2[1] 7 (by decide)
    have hm6 : m4 < (tl ":#@ A-.").length := hm5
    refine ⟨":#@ A-.", _, (tl ":#@ A-.")[m4], rfl, rfl, by decide +kernel, by rw [show ds2[1] % 7 = (m4 : Int) from em4]; exact atI_nat (List.getElem?_eq_getElem hm6), ?_⟩
    refine ⟨.ref o2, rfl, o2, _, 2, _, rfl, rfl, oS2, at_int (k := 2) (by omega), .inl ⟨_, rfl, _, 7, rfl, rfl, by show (0 : Int) < 7; decide, ?_⟩⟩
    have cz : ∀ lo hi, (cutS text lo hi).length ≤ 67 := fun lo hi => Nat.le_trans (cutS_length text lo hi) l4
    have cz2 : ∀ lo hi, ∀ z : Str, z.length ≤ 1 → (cutS text lo hi ++ z).length ≤ 68 := fun lo hi z hz => by
      rw [la]
      have := cz lo hi
      omega
    have one : ∀ c : Nat, (⟨#[c]⟩ : Str).length ≤ 1 := fun _ => Nat.le_refl _
    refine ⟨_, rfl, rfl, _, rfl, iteB (fun e => ?_) fun e => ?_⟩
    · refine ⟨.str text, rfl, _, rfl, _, rfl, text, rfl, tz, _, rfl, _, _, rfl, rfl, lenOk (cz _ _) (one _), .str text, rfl, _, rfl, _, rfl, text, rfl, tz, _, _, rfl, rfl, lenOk (cz2 _ _ _ (one _)) (cz _ _), ?_⟩
      refine q H8 _ ?_ s19
      rw [la]
      exact Nat.le_trans (Nat.add_le_add (cz2 _ _ _ (one _)) (cz _ _)) (by decide)
    · refine ⟨_, rfl, rfl, _, rfl, iteB (fun e => ?_) fun e => ?_⟩
      · refine ⟨.str text, rfl, _, rfl, _, rfl, text, rfl, tz, _, rfl, _, _, rfl, rfl, lenOk (cz _ _) (one _), .str text, rfl, _, rfl, _, 1, rfl, rfl, _, rfl, text, rfl, tz, _, _, rfl, rfl, lenOk (cz2 _ _ _ (one _)) (cz _ _), ?_⟩
        refine q H8 _ ?_ s19
        rw [la]
        exact Nat.le_trans (Nat.add_le_add (cz2 _ _ _ (one _)) (cz _ _)) (by decide)
      · refine ⟨_, rfl, rfl, _, rfl, iteB (fun e => ?_) fun e => ?_⟩
        · refine ⟨.str text, rfl, _, rfl, _, rfl, text, rfl, tz, .str text, rfl, _, rfl, _, 1, rfl, rfl, _, rfl, text, rfl, tz, _, _, rfl, rfl, lenOk (cz _ _) (cz _ _), ?_⟩
          refine q H8 _ ?_ s19
          rw [la]
          exact Nat.le_trans (Nat.add_le_add (cz _ _) (cz _ _)) (by decide)
        · exact ⟨.str text, rfl, q H8 text (by omega) s19⟩
end
end A0

set_option Elab.async false
set_option linter.all false
set_option maxRecDepth 100000
set_option maxHeartbeats 4000000
namespace A0
open PySem PySem.Spec PyProof.Rows L2 AS
/-! ### find and partition agree -/
def sep (c : Nat) : Str := ⟨#[c]⟩
theorem sep_len (c : Nat) : (sep c).length = 1 := rfl
theorem cut_take (z : Str) (i : Nat) : tl (cutS z none (some (i : Int))) = (tl z).take i := by
  show (((tl z).drop (HT.sIx z.length 0 none)).take (HT.sIx z.length z.length (some (i : Int)) - HT.sIx z.length 0 none)) = _
  rw [HT.sIx_none, HT.sIx_nat, List.drop_zero, Nat.sub_zero, len_tl]
  by_cases h : i ≤ (tl z).length
  · rw [Nat.min_eq_left h]
  · rw [Nat.min_eq_right (by omega), List.take_of_length_le (Nat.le_refl _), List.take_of_length_le (by omega)]
theorem cut_drop (z : Str) (i : Nat) : tl (cutS z (some (i : Int)) none) = (tl z).drop i := by
  show (((tl z).drop (HT.sIx z.length 0 (some (i : Int)))).take (HT.sIx z.length z.length none - HT.sIx z.length 0 (some (i : Int)))) = _
  rw [HT.sIx_none, HT.sIx_nat, len_tl]
  by_cases h : i ≤ (tl z).length
  · rw [Nat.min_eq_left h]
    exact List.take_of_length_le (by rw [List.length_drop]; omega)
  · rw [Nat.min_eq_right (by omega), List.drop_of_length_le (by omega), List.drop_of_length_le (by omega), List.take_nil]
/-- where the sign c stands first -/
theorem part_cases (z : Str) (c : Nat) :
    (Txt.find z (sep c) = -1 ∧ Txt.partition z (sep c) = (z, Str.empty, Str.empty) ∧ c ∉ tl z) ∨
    ∃ i : Nat, Txt.find z (sep c) = (i : Int) ∧ (tl z)[i]? = some c ∧ c ∉ (tl z).take i ∧ Txt.partition z (sep c) = (cutS z none (some (i : Int)), sep c, cutS z (some ((i : Int) + 1)) none) := by
  have nx : ∀ i, StrLaws.At z (sep c) z.length i ↔ (tl z)[i]? = some c := fun i => StrLaws.subAt_one z c i
  rcases find_whole z (sep c) with ⟨f, fn⟩ | ⟨i, f, fi, fl⟩
  · left
    rcases partition_whole z (sep c) with ⟨p, _⟩ | ⟨j, _, pj, _⟩
    · refine ⟨f, p, fun h => ?_⟩
      obtain ⟨k, hk⟩ := List.mem_iff_getElem?.mp h
      exact fn k ((nx k).mpr hk)
    · exact absurd pj (fn j)
  · right
    rcases partition_whole z (sep c) with ⟨_, pn⟩ | ⟨j, p, pj, pl⟩
    · exact absurd fi (pn i)
    · have e : i = j := by
        rcases Nat.lt_trichotomy i j with h | h | h
        · exact absurd fi (pl i h)
        · exact h
        · exact absurd pj (fl j h)
      subst e
      refine ⟨i, f, (nx i).mp fi, fun h => ?_, ?_⟩
      · obtain ⟨k, hk⟩ := List.mem_iff_getElem?.mp h
        have hlt : k < i := by
          have h1 := (List.getElem?_eq_some_iff.mp hk).1
          rw [List.length_take] at h1
          omega
        rw [List.getElem?_take_of_lt hlt] at hk
        exact fl k hlt ((nx k).mpr hk)
      · rw [p]
        have e1 : PySem.Builtin.Str.strSub z 0 i = cutS z none (some (i : Int)) := TL.ext_tl (by
          rw [TL.tl_strSub, List.drop_zero, Nat.sub_zero]
          exact (cut_take z i).symm)
        have e2 : PySem.Builtin.Str.strSub z (i + (sep c).length) z.length = cutS z (some ((i : Int) + 1)) none := TL.ext_tl (by
          rw [TL.tl_strSub_end]
          exact (cut_drop z (i + 1)).symm)
        rw [e1, e2]
theorem isWord_empty : isWord Str.empty = false := by decide +kernel
/-! ### numbers written and read back -/
def readRevL (l : List Nat) : Option Nat :=
  if (decide (1 ≤ l.length) && decide (l.length ≤ 4) && l.all fun c => decide (c ∈ tl digitsS)) = true then
    if ((match l with | c :: _ => decide (c = 48) | [] => false) && !decide (l = [48])) = true then none else
      if NumText.digitsVal l ≤ 1000 then some (NumText.digitsVal l) else none
  else none
theorem readRev_L (z : Str) : readRev z = readRevL (tl z) := by
  unfold readRev readRevL allDig zeroHead
  have e : decide (z = zeroS) = decide (tl z = [48]) := decide_eq_decide.mpr ⟨fun h => by rw [h]; rfl, fun h => TL.ext_tl h⟩
  rw [e, len_tl]
  try rfl
theorem readRev_num (n : Nat) (h : n ≤ 1000) : readRev (toString (n : Int)) = some n := by
  rw [readRev_L]
  have e : tl (toString (n : Int) : Str) = TL.numL n := TL.tl_num n
  rw [e]
  have key : ∀ m, m < 1001 → readRevL (TL.numL m) = some m := by decide +kernel
  exact key n (by omega)
theorem val_snoc (l : List Nat) (d : Nat) : NumText.digitsVal (l ++ [d]) = NumText.digitsVal l * 10 + (d - 48) := by
  unfold NumText.digitsVal
  rw [List.foldl_append]
  rfl
theorem num_back : ∀ (k : Nat) (l : List Nat), l.length = k → NumText.AllDigits l → l ≠ [] → (l.head? ≠ some 48 ∨ l = [48]) → TL.numL (NumText.digitsVal l) = l := by
  intro k
  induction k with
  | zero =>
    intro l hl _ hn _
    exact absurd (List.length_eq_zero_iff.mp hl) hn
  | succ k ih =>
    intro l hl hd hn hh
    have el : l.dropLast ++ [l.getLast hn] = l := List.dropLast_concat_getLast hn
    generalize ei : l.dropLast = i at el
    generalize l.getLast hn = d at el
    have dd : 48 ≤ d ∧ d ≤ 57 := hd d (by rw [← el]; exact List.mem_append_right _ (List.mem_singleton.mpr rfl))
    rw [← el, val_snoc]
    cases i with
    | nil =>
      show TL.numL (0 * 10 + (d - 48)) = [d]
      rw [show 0 * 10 + (d - 48) = d - 48 by omega, TL.numL_lt (by omega)]
      congr 1
      omega
    | cons c r =>
      have hk : (c :: r).length = k := by
        have h := congrArg List.length el
        rw [List.length_append] at h
        simp only [List.length_singleton] at h
        omega
      have h48 : c ≠ 48 := fun e => by
        rcases hh with h | h
        · rw [← el, e] at h
          exact h rfl
        · rw [← el] at h
          have h2 := congrArg List.length h
          simp at h2
      have back := ih (c :: r) hk (fun x hx => hd x (by rw [← el]; exact List.mem_append_left _ hx)) (by simp) (.inl (fun e => h48 (Option.some.inj e)))
      have pos : 1 ≤ NumText.digitsVal (c :: r) := by
        rcases Nat.eq_zero_or_pos (NumText.digitsVal (c :: r)) with h0 | h0
        · rw [h0] at back
          have b2 : [48] = c :: r := back
          exact absurd (List.head_eq_of_cons_eq b2).symm h48
        · exact h0
      rw [TL.numL_step (by omega)]
      have e1 : (NumText.digitsVal (c :: r) * 10 + (d - 48)) / 10 = NumText.digitsVal (c :: r) := by omega
      have e2 : 48 + (NumText.digitsVal (c :: r) * 10 + (d - 48)) % 10 = d := by omega
      rw [e1, e2, back]
theorem readRev_back {z : Str} {n : Nat} (h : readRev z = some n) : z = toString (n : Int) ∧ n ≤ 1000 := by
  unfold readRev at h
  by_cases g : (decide (1 ≤ z.length) && decide (z.length ≤ 4) && allDig z) = true
  · rw [if_pos g] at h
    by_cases g2 : (zeroHead z && !decide (z = zeroS)) = true
    · rw [if_pos g2] at h
      cases h
    · rw [if_neg g2] at h
      by_cases g3 : NumText.digitsVal (tl z) ≤ 1000
      · rw [if_pos g3] at h
        have e := Option.some.inj h
        rw [Bool.and_eq_true, Bool.and_eq_true] at g
        obtain ⟨⟨g4, g5⟩, g6⟩ := g
        have g7 := of_decide_eq_true g4
        have ne : tl z ≠ [] := fun q => by
          rw [len_tl, q] at g7
          exact absurd g7 (by decide)
        have hh : (tl z).head? ≠ some 48 ∨ tl z = [48] := by
          by_cases q : z = zeroS
          · right
            rw [q]
            rfl
          · left
            intro q2
            apply g2
            have q3 : zeroHead z = true := by
              unfold zeroHead
              cases e : tl z with
              | nil => exact absurd e ne
              | cons c r =>
                rw [e] at q2
                exact decide_eq_true (Option.some.inj q2)
            rw [q3, decide_eq_false q]
            rfl
        have back := num_back _ (tl z) rfl (allDig_digits g6) ne hh
        rw [e] at back
        refine ⟨TL.ext_tl ?_, by omega⟩
        have e9 : tl (toString (n : Int) : Str) = TL.numL n := TL.tl_num n
        exact back.symm.trans e9.symm
      · rw [if_neg g3] at h
        cases h
  · rw [if_neg g] at h
    cases h
end A0

set_option Elab.async false
set_option linter.all false
set_option maxRecDepth 100000
set_option maxHeartbeats 4000000
namespace A0
open PySem PySem.Spec PyProof.Rows L2 AS
section
variable {P : Program} {w : World} {K : PySem.W.Frag} {mg : Str → Option Value} {base : Heap}
theorem ok_law_is_run (T : Top NN K mg base) : D P w K mg base 1 "_law_is_run" ["text"] (sp1 K NN.tf fun z => .bl (isWord z)) := by
  refine T.ok0 (d := d_law_is_run) 14 rfl rfl rfl rfl (by decide +kernel) sc_law_is_run (fun _ _ _ _ _ _ us hl => match us, hl with | [_], _ => rfl) sp1_len (fun cdv A outer s H vs Q E ec hr h => ?_)
  obtain ⟨z, rfl, hz, hT, q⟩ := h
  have nl := T.f "len" (by decide +kernel)
  refine ⟨_, pss_cons (ps_if (PW.pt (pw_or (pt_cmpR op_lt (pe_callB call_len_str (by rfl) nl PySem.boot_len (pa_cons (pv 0) pa_nil)) pe_int (nomark _)) (pw_or1 (pt_cmpR op_gt (pe_callB call_len_str (by rfl) nl PySem.boot_len (pa_cons (pv 0) pa_nil)) pe_int (nomark _))))) (pss_one (ps_ret pe_bl)) pss_nil)
    (pss_cons (ps_for PassesOwn.never rfl (pi_str (pv 0)) (pg_name (i := 1) sc_law_is_run.nd rfl (.inl rfl)) (pss_one (ps_if (pt_cmpR op_notIn_sign (pv 1) pe_str rfl) (pss_one (ps_ret pe_bl)) pss_nil)))
    (pss_one (ps_ret pe_bl))), ?_⟩
  have fin : ∀ b, isWord z = b → Q (.bl b) H := fun b e => by
    rw [← e]
    exact q H (Sm.refl H)
  refine ⟨.str z, rfl, z, rfl, hz, z.length, 1, rfl, rfl, _, rfl, iteB (fun h1 => ?_) fun h1 => ?_⟩
  · have h2 : (z.length : Int) < 1 := of_decide_eq_true h1
    refine iteT (fin _ ?_)
    unfold isWord
    rw [decide_eq_false (by omega), Bool.false_and]
  · have h2 : ¬ (z.length : Int) < 1 := of_decide_eq_false h1
    refine ⟨.str z, rfl, z, rfl, hz, z.length, 20, rfl, rfl, _, rfl, iteB (fun h3 => ?_) fun h3 => ?_⟩
    · have h4 : 20 < (z.length : Int) := of_decide_eq_true h3
      refine fin _ ?_
      unfold isWord
      rw [decide_eq_false (show ¬ z.length ≤ 20 by omega), Bool.false_and, Bool.and_false]
    · have h4 : ¬ 20 < (z.length : Int) := of_decide_eq_false h3
      have whole : isWord z = (tl z).all fun c => decide (c ∈ tl signsS) := by
        unfold isWord
        rw [decide_eq_true (show 1 ≤ z.length by omega), decide_eq_true (show z.length ≤ 20 by omega)]
        rfl
      have sz : z.cps.size = (tl z).length := by simp
      refine ⟨.str z, rfl, z, rfl, fun i m σ H' => H' = H ∧ (∃ u, σ = [some (.str z), u]) ∧ i + m = z.cps.size ∧ ∀ c ∈ (tl z).take i, c ∈ tl signsS, ⟨z.cps.size, rfl, ⟨none, rfl⟩, by omega, fun c hc => by rw [List.take_zero] at hc; cases hc⟩, fun i m σ H' hW => ?_⟩
      obtain ⟨rfl, ⟨u, rfl⟩, em, ha⟩ := hW
      by_cases hi : i < z.cps.size
      · refine .inr ⟨hi, fun σ' H'' => H'' = H' ∧ (∃ u, σ' = [some (.str z), u]) ∧ ∀ c ∈ (tl z).take (i + 1), c ∈ tl signsS, fun σ' H'' hN => ⟨m - 1, by omega, hN.1, hN.2.1, by omega, hN.2.2⟩, fun x H'' hy => ?_⟩
        obtain ⟨rfl, c, hc, rfl⟩ := hy
        have hc2 : (tl z)[i]? = some c := by
          show z.cps.toList[i]? = some c
          rw [Array.getElem?_toList]
          exact hc
        refine ⟨_, rfl, c, signsS, rfl, rfl, _, rfl, ?_⟩
        show if (!decide (c ∈ tl signsS)) = true then _ else _
        refine iteB (fun g => ?_) fun g => ?_
        · refine fin _ ?_
          rw [whole]
          rw [Bool.not_eq_true', decide_eq_false_iff_not] at g
          refine Bool.eq_false_iff.mpr fun t => g ?_
          exact of_decide_eq_true (List.all_eq_true.mp t c (List.mem_of_getElem? hc2))
        · rw [Bool.not_eq_false', decide_eq_true_eq] at g
          refine ⟨rfl, ⟨_, rfl⟩, fun d hd => ?_⟩
          rw [List.take_add_one, hc2] at hd
          rcases List.mem_append.mp hd with h | h
          · exact ha d h
          · have e : d = c := by simpa using h
            rw [e]
            exact g
      · refine .inl ⟨Nat.le_of_not_lt hi, fin _ ?_⟩
        rw [whole]
        rw [List.take_of_length_le (by omega)] at ha
        exact List.all_eq_true.mpr fun c hc => decide_eq_true (ha c hc)
theorem ok_law_is_identifier (T : Top NN K mg base) : D P w K mg base 2 "_law_is_identifier" ["text"] (sp1 K NN.tf fun z => .bl (isIdent z)) := by
  refine T.ok0 (d := d_law_is_identifier) 15 rfl rfl rfl rfl (by decide +kernel) sc_law_is_identifier (fun _ _ _ _ _ _ us hl => match us, hl with | [_], _ => rfl) sp1_len (fun cdv A outer s H vs Q E ec hr h => ?_)
  obtain ⟨z, rfl, hz, hT, q⟩ := h
  have G := ok_law_is_run (P := P) (w := w) T
  refine ⟨_, pss_one (ps_ret (pe_and (pe_callD G hr (pa_cons (pv 0) pa_nil)) (pe_one (pe_cmpR op_in_sign (pe_ix ix_str (pv 0) pe_int (fun _ _ => rfl)) pe_str rfl)))), ?_⟩
  refine ⟨.str z, rfl, z, rfl, hz, hT, fun H1 s1 => ⟨isWord z, rfl, iteB (fun h1 => ?_) fun h1 => ?_⟩⟩
  · have h2 := h1
    unfold isWord at h2
    simp only [Bool.and_eq_true, decide_eq_true_eq] at h2
    obtain ⟨h3, _⟩ := h2
    cases e : tl z with
    | nil =>
      rw [len_tl, e] at h3
      exact absurd h3 (by decide)
    | cons c r =>
      refine ⟨.str z, rfl, z, 0, c, rfl, rfl, hz, atI_nat (j := 0) (by show (tl z)[0]? = _; rw [e]; rfl), c, lettersS, rfl, rfl, ?_⟩
      have e3 : isIdent z = decide (c ∈ tl lettersS) := by
        unfold isIdent headIn
        rw [h1, e]
        rfl
      exact toBl e3.symm (q H1 s1)
  · have e3 : isIdent z = false := by
      unfold isIdent
      rw [h1]
      rfl
    rw [← e3]
    exact q H1 s1
theorem isObj_none {z : Str} (p : Txt.partition z colon = (z, Str.empty, Str.empty)) : isObj z = false := by
  unfold isObj
  rw [p]
  show (isIdent z && isWord Str.empty) = false
  rw [isWord_empty, Bool.and_false]
theorem ok_law_is_object (T : Top NN K mg base) : D P w K mg base 3 "_law_is_object" ["text"] (sp1 K NN.tf fun z => .bl (isObj z)) := by
  refine T.ok0 (d := d_law_is_object) 16 rfl rfl rfl rfl (by decide +kernel) sc_law_is_object (fun _ _ _ _ _ _ us hl => match us, hl with | [_], _ => rfl) sp1_len (fun cdv A outer s H vs Q E ec hr h => ?_)
  obtain ⟨z, rfl, hz, hT, q⟩ := h
  have G1 := ok_law_is_identifier (P := P) (w := w) T
  have G2 := (ok_law_is_run (P := P) (w := w) T).mono (show 1 ≤ 2 by decide)
  refine ⟨_, pss_cons (ps_set (i := 1) sc_law_is_object.nd rfl (.inl rfl) (pe_m1 PySem.F.slot_str_find PySem.F.type_str_find mt_find (pv 0) pe_str))
    (pss_one (ps_ret (pe_and (pe_cmpR op_ge (pv 1) pe_int (nomark _)) (pe_and (pe_callD G1 hr (pa_cons (pe_slice sl_str (pv 0) po_none (po_some (pv 1))) pa_nil)) (pe_one (pe_callD G2 hr (pa_cons (pe_slice sl_str (pv 0) (po_some (pe_op op_add (pv 1) pe_int)) po_none) pa_nil))))))), ?_⟩
  refine ⟨.str z, rfl, ⟨_, rfl⟩, z, colon, rfl, rfl, ?_⟩
  refine ⟨_, rfl, Txt.find z colon, 0, rfl, rfl, _, rfl, iteB (fun h => ?_) fun h => ?_⟩
  · have h1 : 0 ≤ Txt.find z colon := of_decide_eq_true h
    rcases part_cases z 58 with ⟨f, _⟩ | ⟨i, f, hi, hn, p⟩
    · have f2 : Txt.find z colon = -1 := f
      omega
    · have f2 : Txt.find z colon = (i : Int) := f
      have p2 : Txt.partition z colon = (cutS z none (some (i : Int)), colon, cutS z (some ((i : Int) + 1)) none) := p
      have e1 : isObj z = (isIdent (cutS z none (some (i : Int))) && isWord (cutS z (some ((i : Int) + 1)) none)) := by
        unfold isObj
        rw [p2]
      refine ⟨.str z, rfl, .int (i : Int), by rw [← f2]; rfl, i, rfl, z, rfl, hz, _, rfl, Nat.le_trans (cutS_length ..) hz, hT, fun H1 s1 => ⟨_, rfl, iteB (fun g => ?_) fun g => ?_⟩⟩
      · refine ⟨.str z, rfl, .int (i : Int), by rw [← f2]; rfl, i, 1, rfl, rfl, (i : Int) + 1, rfl, z, rfl, hz, _, rfl, Nat.le_trans (cutS_length ..) hz, s1.tabs hT, fun H2 s2 => ?_⟩
        refine toBl ?_ (q H2 (s1.trans s2))
        rw [e1, g, Bool.true_and]
      · refine toBl ?_ (q H1 s1)
        rw [e1, g, Bool.false_and]
  · have h1 : ¬ 0 ≤ Txt.find z colon := of_decide_eq_false h
    rcases part_cases z 58 with ⟨f, p, _⟩ | ⟨i, f, _⟩
    · exact toBl (isObj_none p).symm (q H (Sm.refl H))
    · have f2 : Txt.find z colon = (i : Int) := f
      omega
end
end A0

set_option Elab.async false
set_option linter.all false
set_option maxRecDepth 100000
set_option maxHeartbeats 4000000
namespace A0
open PySem PySem.Spec PyProof.Rows L2 AS
theorem readRev_empty : readRev Str.empty = none := by
  rw [readRev_L]
  decide +kernel
theorem splitTok_none {z : Str} (p : Txt.partition z atS = (z, Str.empty, Str.empty)) : splitTok z = none := by
  unfold splitTok
  rw [p]
  have e : readRev (z, Str.empty, Str.empty).2.2 = none := readRev_empty
  rw [e]
section
variable {P : Program} {w : World} {K : PySem.W.Frag} {mg : Str → Option Value} {base : Heap}
theorem ok_law_token (T : Top NN K mg base) : D P w K mg base 3 "_law_token" ["text"] (spTokSplit K NN.tf) := by
  refine T.ok0 (d := d_law_token) 17 rfl rfl rfl rfl (by decide +kernel) sc_law_token (fun _ _ _ _ _ _ us hl => match us, hl with | [_], _ => rfl) (fun vs H Q E h => ?_) (fun cdv A outer s H vs Q E ec hr h => ?_)
  · obtain ⟨z, rfl, _⟩ := h
    rfl
  · obtain ⟨z, rfl, hz, hT, q1, q2⟩ := h
    have G := ok_law_is_identifier (P := P) (w := w) T
    have nr := T.f "range" (by decide +kernel)
    have ns := T.f "str" (by decide +kernel)
    have nd := sc_law_token.nd
    refine ⟨_, pss_cons (ps_set (i := 1) nd rfl (.inl rfl) (pe_m1 PySem.F.slot_str_find PySem.F.type_str_find mt_find (pv 0) pe_str))
      (pss_cons (ps_if (PW.pt (pw_or (pt_cmpR op_lt (pv 1) pe_int (nomark _)) (pw_or1 (pt_not (pt_val (pe_callD G hr (pa_cons (pe_slice sl_str (pv 0) po_none (po_some (pv 1))) pa_nil))))))) (pss_one (ps_ret pe_non)) pss_nil)
      (pss_cons (ps_for PassesOwn.never rfl (pi_range1 rfl nr (pa_cons pe_int pa_nil)) (pg_name (i := 2) nd rfl (.inl rfl))
        (pss_one (ps_if (pt_cmpR op_eq (pe_slice sl_str (pv 0) (po_some (pe_op op_add (pv 1) pe_int)) po_none) (pe_callTy call_str_int (by rfl) ns (by decide +kernel) (pa_cons (pv 2) pa_nil)) (nomark _))
          (pss_one (ps_ret (pe_tup (pa_cons (pe_slice sl_str (pv 0) po_none (po_some (pv 1))) (pa_cons (pv 2) pa_nil))))) pss_nil)))
      (pss_one (ps_ret pe_non)))), ?_⟩
    refine ⟨.str z, rfl, ⟨_, rfl⟩, z, atS, rfl, rfl, ?_⟩
    refine ⟨_, rfl, Txt.find z atS, 0, rfl, rfl, _, rfl, iteB (fun h => ?_) fun h => ?_⟩
    · have h1 : Txt.find z atS < 0 := of_decide_eq_true h
      rcases part_cases z 64 with ⟨f, p, _⟩ | ⟨i, f, _⟩
      · exact iteT (q1 (splitTok_none p) H (Sm.refl H))
      · have f2 : Txt.find z atS = (i : Int) := f
        omega
    · have h1 : ¬ Txt.find z atS < 0 := of_decide_eq_false h
      rcases part_cases z 64 with ⟨f, _⟩ | ⟨i, f, hi, hn, p⟩
      · have f2 : Txt.find z atS = -1 := f
        omega
      · have f2 : Txt.find z atS = (i : Int) := f
        have p2 : Txt.partition z atS = (cutS z none (some (i : Int)), atS, cutS z (some ((i : Int) + 1)) none) := p
        have e1 : splitTok z = match readRev (cutS z (some ((i : Int) + 1)) none) with
            | none => none
            | some n => if isIdent (cutS z none (some (i : Int))) = true then some (cutS z none (some (i : Int)), n) else none := by
          unfold splitTok
          rw [p2]
          try rfl
        rw [f2]
        refine ⟨.str z, rfl, .int (i : Int), rfl, i, rfl, z, rfl, hz, _, rfl, Nat.le_trans (cutS_length ..) hz, hT, fun H1 s1 => ⟨_, rfl, ?_⟩⟩
        show if (!isIdent (cutS z none (some (i : Int)))) = true then _ else _
        refine iteB (fun g => ?_) fun g => ?_
        · rw [Bool.not_eq_true'] at g
          refine q1 ?_ H1 s1
          rw [e1, g]
          cases readRev (cutS z (some ((i : Int) + 1)) none) with
          | none => rfl
          | some n => exact if_neg Bool.false_ne_true
        · rw [Bool.not_eq_false'] at g
          refine ⟨1001, rfl, by decide, by decide, for_range (n := 1001) (fun k σ H' => H' = H1 ∧ (∃ u, σ = [some (.str z), some (.int i), u]) ∧ ∀ j, j < k → cutS z (some ((i : Int) + 1)) none ≠ toString (j : Int)) ⟨rfl, ⟨none, rfl⟩, fun j hj => absurd hj (Nat.not_lt_zero j)⟩ (fun k σ H' hk hP => ?_) fun σ H' hP => ?_⟩
          · obtain ⟨rfl, ⟨u, rfl⟩, ha⟩ := hP
            have z0 : (0 : Int) + (k : Int) = (k : Int) := by omega
            rw [z0]
            refine ⟨.str z, rfl, .int i, rfl, i, 1, rfl, rfl, _, rfl, z, rfl, hz, .int k, rfl, k, rfl, log2_small (by omega), rfl, _, rfl, iteB (fun e => ?_) fun e => ?_⟩
            · have e2 : cutS z (some ((i : Int) + 1)) none = toString (k : Int) := V.str.inj (of_decide_eq_true e)
              refine ⟨.str z, rfl, .int i, rfl, i, rfl, z, rfl, hz, .int k, rfl, by show 2 ≤ sizeLine; decide, fun r nr2 => ?_⟩
              refine q2 (cutS z none (some (i : Int))) k ?_ _ r (s1.put (s1.free nr2)) (s1.free nr2) upd_same
              rw [e1, e2, readRev_num k (by omega)]
              exact if_pos g
            · exact ⟨rfl, ⟨_, rfl⟩, fun j hj => by
                by_cases hjk : j = k
                · rw [hjk]
                  intro e3
                  exact of_decide_eq_false e (by rw [e3])
                · exact ha j (by omega)⟩
          · obtain ⟨rfl, ⟨u, rfl⟩, ha⟩ := hP
            refine q1 ?_ _ s1
            rw [e1]
            cases e : readRev (cutS z (some ((i : Int) + 1)) none) with
            | none => rfl
            | some n =>
              obtain ⟨e2, e3⟩ := readRev_back e
              exact absurd e2 (ha n (by omega))
end
end A0

set_option Elab.async false
set_option linter.all false
set_option maxRecDepth 100000
set_option maxHeartbeats 4000000
namespace A0
open PySem PySem.Spec PyProof.Rows L2 AS
/-- the law's promise -/
def spLaw (K : PySem.W.Frag) : Sp := fun vs H Q _ => ∃ (a : Addr) (ns : List Int), vs = [.ref a] ∧ SqL K H a (ns.map V.int) ∧ ns.length ≤ 63 ∧ Tabs K NN.tf H ∧ ∀ H', Q (.bl true) H'
theorem isRef_none {z : Str} (p : Txt.partition z hash = (z, Str.empty, Str.empty)) : isRef z = isObj z := by
  unfold isRef
  rw [p]
  show (isObj z && (decide (Str.empty = Str.empty) || _)) = _
  rw [decide_eq_true rfl, Bool.true_or, Bool.and_true]
theorem isRef_some {z a b : Str} (p : Txt.partition z hash = (a, hash, b)) : isRef z = (isObj a && isIdent b) := by
  unfold isRef
  rw [p]
  show (isObj a && (decide (hash = Str.empty) || isIdent b)) = _
  rw [show decide (hash = Str.empty) = false by decide +kernel, Bool.false_or]
theorem first_unique {l : List Nat} {c i j : Nat} (h1 : l[i]? = some c) (h2 : c ∉ l.take i) (h3 : l[j]? = some c) (h4 : c ∉ l.take j) : i = j := by
  rcases Nat.lt_trichotomy i j with h | h | h
  · exact absurd (List.mem_of_getElem? (by rw [List.getElem?_take_of_lt h]; exact h1)) h4
  · exact h
  · exact absurd (List.mem_of_getElem? (by rw [List.getElem?_take_of_lt h]; exact h3)) h2
/-- the type of an object that begins a text, read off the text -/
theorem type_head {z d : Str} {n : Nat} (e : tl d = (tl z).take n) (h : isObj d = true) : (Txt.partition d colon).1 = cutS z none (some (Txt.find z colon)) := by
  rcases part_cases d 58 with ⟨_, p, _⟩ | ⟨i, f, hi, hn, p⟩
  · rw [isObj_none p] at h
    cases h
  · have p2 : Txt.partition d colon = (cutS d none (some (i : Int)), colon, cutS d (some ((i : Int) + 1)) none) := p
    rw [p2]
    show cutS d none (some (i : Int)) = _
    have hlt : i < n := by
      have h1 := (List.getElem?_eq_some_iff.mp hi).1
      rw [e, List.length_take] at h1
      omega
    have hz : (tl z)[i]? = some 58 := by
      rw [e, List.getElem?_take_of_lt hlt] at hi
      exact hi
    have hm : 58 ∉ (tl z).take i := by
      rw [e, List.take_take, Nat.min_eq_left (Nat.le_of_lt hlt)] at hn
      exact hn
    rcases part_cases z 58 with ⟨_, _, z2⟩ | ⟨j, f2, hj, hk, _⟩
    · exact absurd (List.mem_of_getElem? hz) z2
    · have ej := first_unique hz hm hj hk
      have f3 : Txt.find z colon = (j : Int) := f2
      rw [f3, ← ej]
      refine TL.ext_tl ((cut_take d i).trans (Eq.trans ?_ (cut_take z i).symm))
      rw [e, List.take_take, Nat.min_eq_left (Nat.le_of_lt hlt)]
theorem tok_back {z a : Str} {n : Nat} (h : splitTok z = some (a, n)) : tokS a n = z ∧ a.length ≤ z.length ∧ n ≤ 1000 := by
  rcases part_cases z 64 with ⟨_, p, _⟩ | ⟨i, f, hi, hn, p⟩
  · rw [splitTok_none p] at h
    cases h
  · have p2 : Txt.partition z atS = (cutS z none (some (i : Int)), atS, cutS z (some ((i : Int) + 1)) none) := p
    unfold splitTok at h
    rw [p2] at h
    have h2 : (match readRev (cutS z (some ((i : Int) + 1)) none) with
      | none => none
      | some n => if isIdent (cutS z none (some (i : Int))) = true then some (cutS z none (some (i : Int)), n) else none) = some (a, n) := h
    cases e : readRev (cutS z (some ((i : Int) + 1)) none) with
    | none =>
      rw [e] at h2
      cases h2
    | some m =>
      rw [e] at h2
      have h3 : (if isIdent (cutS z none (some (i : Int))) = true then some (cutS z none (some (i : Int)), m) else none) = some (a, n) := h2
      by_cases g : isIdent (cutS z none (some (i : Int))) = true
      · rw [if_pos g] at h3
        obtain ⟨e1, e2⟩ := Prod.mk.inj (Option.some.inj h3)
        obtain ⟨b1, b2⟩ := readRev_back e
        subst e2
        refine ⟨?_, by rw [← e1]; exact cutS_length .., b2⟩
        unfold tokS
        rw [← b1, ← e1]
        refine TL.ext_tl ?_
        rw [TL.tl_append, TL.tl_append]
        have t1 : TL.tl (cutS z none (some (i : Int))) = (tl z).take i := cut_take z i
        have t2 : TL.tl (cutS z (some ((i : Int) + 1)) none) = (tl z).drop (i + 1) := cut_drop z (i + 1)
        rw [t1, t2]
        have t3 : TL.tl atS = [64] := rfl
        rw [t3, List.append_assoc]
        have hl := (List.getElem?_eq_some_iff.mp hi).1
        have t4 : (tl z).drop i = 64 :: (tl z).drop (i + 1) := by
          rw [List.drop_eq_getElem_cons hl]
          congr 1
          exact (List.getElem?_eq_some_iff.mp hi).2
        show (tl z).take i ++ (64 :: (tl z).drop (i + 1)) = tl z
        rw [← t4, List.take_append_drop]
      · rw [if_neg g] at h3
        cases h3
def boolsD (bs : List Bool) : List PyData := bs.map PyData.bool
theorem dp_bools (K : PySem.W.Frag) (H : Hp) : ∀ bs : List Bool, DpAll K H (bs.map V.bl) (boolsD bs)
  | [] => .nil
  | b :: r => .cons (.bl b) (dp_bools K H r)
section
variable {P : Program} {w : World} {K : PySem.W.Frag} {mg : Str → Option Value} {base : Heap}
theorem ok_law (T : Top NN K mg base) {fd : FuncData} (F : FunD K dlaw.name dlaw.qual dlaw.params dlaw.body dlaw.scope [] [] (He.ga K "law") fd) : FnOk P w K mg base CX0 5 (He.ga K "law") fd ["script"] (spLaw K) := by
  refine okF F sclaw (fun vs H Q E h => ?_) (fun cdv A outer s H vs Q E hr h => ?_)
  · obtain ⟨a, ns, rfl, _⟩ := h
    rfl
  · obtain ⟨a, ns, rfl, hS, hn, hT, q⟩ := h
    have nd := sclaw.nd
    have ni := T.f "isinstance" (by decide +kernel)
    have nb := T.f "bool" (by decide +kernel)
    have GT := (ok_law_text (P := P) (w := w) T).mono (show 2 ≤ 4 by decide)
    have GO := (ok_law_is_object (P := P) (w := w) T).mono (show 3 ≤ 4 by decide)
    have GI := (ok_law_is_identifier (P := P) (w := w) T).mono (show 2 ≤ 4 by decide)
    have PI := (ok_is_identifier (P := P) (w := w) T).mono (show 2 ≤ 4 by decide)
    have PO := (ok_is_object (P := P) (w := w) T).mono (show 3 ≤ 4 by decide)
    have PR := ok_is_reference (P := P) (w := w) T
    have PS := (ok_split_reference (P := P) (w := w) T).mono (show 1 ≤ 4 by decide)
    have PT := (ok_type_of (P := P) (w := w) T).mono (show 1 ≤ 4 by decide)
    have PK := (ok_split_token (P := P) (w := w) T).mono (show 3 ≤ 4 by decide)
    have PF := (ok_token_of (P := P) (w := w) T).mono (show 1 ≤ 4 by decide)
    have GK := (ok_law_token (P := P) (w := w) T).mono (show 3 ≤ 4 by decide)
    have GS := (ok_law_same (P := P) (w := w) T 2).mono (show 2 ≤ 4 by decide)
    refine ⟨_, pss_cons (ps_set (i := 1) nd rfl (.inl rfl) (pe_callD GT hr (pa_cons (pv 0) pa_nil)))
      (pss_cons (ps_set (i := 2) nd rfl (.inl rfl) (pe_m1 PySem.F.slot_str_find PySem.F.type_str_find mt_find (pv 1) pe_str))
      (C8.pss_cut (ps_set (i := 3) nd rfl (.inl rfl) (pe_ifExp (pt_cmpR op_lt (pv 2) pe_int (nomark _)) (pe_callD GO hr (pa_cons (pv 1) pa_nil))
          (pe_and (pe_callD GO hr (pa_cons (pe_slice sl_str (pv 1) po_none (po_some (pv 2))) pa_nil)) (pe_one (pe_callD GI hr (pa_cons (pe_slice sl_str (pv 1) (po_some (pe_op op_add (pv 2) pe_int)) po_none) pa_nil))))))
      (pss_cons (ps_set (i := 4) nd rfl (.inl rfl) (pe_lst (pa_cons (pe_callD PI hr (pa_cons (pv 1) pa_nil)) (pa_cons (pe_callD PO hr (pa_cons (pv 1) pa_nil)) (pa_cons (pe_callD PR hr (pa_cons (pv 1) pa_nil)) pa_nil)))))
      (pss_cons (ps_for PassesOwn.never rfl (pi_list (pv 4)) (pg_name (i := 5) nd rfl (.inl rfl)) (pss_one (ps_if (pt_not (pt_val (pe_callB call_isi (by rfl) ni (by decide +kernel) (pa_cons (pv 5) (pa_cons (pe_bltn (v := .ty "bool") (by rfl) nb (by decide +kernel) rfl) pa_nil))))) (pss_one (ps_ret pe_bl)) pss_nil)))
      (pss_cons (ps_if (pt_cmpR (op_neD hr.units) (pv 4) (pe_lst (pa_cons (pe_callD GI hr (pa_cons (pv 1) pa_nil)) (pa_cons (pe_callD GO hr (pa_cons (pv 1) pa_nil)) (pa_cons (pv 3) pa_nil)))) (nomark _)) (pss_one (ps_ret pe_bl)) pss_nil)
      (C8.pss_cut (ps_if (pt_val (pv 3))
          (pss_cons (ps_set (i := 6) nd rfl (.inl rfl) (pe_ifExp (pt_cmpR op_lt (pv 2) pe_int (nomark _)) (pe_tup (pa_cons (pv 1) (pa_cons pe_str pa_nil)))
              (pe_tup (pa_cons (pe_slice sl_str (pv 1) po_none (po_some (pv 2))) (pa_cons (pe_slice sl_str (pv 1) (po_some (pe_op op_add (pv 2) pe_int)) po_none) pa_nil)))))
          (pss_one (ps_if (PW.pt (pw_or (pt_not (pt_val (pe_callD GS hr (pa_cons (pe_callD PS hr (pa_cons (pv 1) pa_nil)) (pa_cons (pv 6) pa_nil)))))
              (pw_or1 (pt_cmpR op_ne (pe_callD PT hr (pa_cons (pe_ix ix_tup (pv 6) pe_int (fun _ _ => rfl)) pa_nil)) (pe_slice sl_str (pv 1) po_none (po_some (pe_m1 PySem.F.slot_str_find PySem.F.type_str_find mt_find (pv 1) pe_str))) (nomark _)))))
            (pss_one (ps_ret pe_bl)) pss_nil))) pss_nil)
      (pss_cons (ps_set (i := 6) nd rfl (.inl rfl) (pe_callD GK hr (pa_cons (pv 1) pa_nil)))
      (pss_cons (ps_if (pt_not (pt_val (pe_callD GS hr (pa_cons (pe_callD PK hr (pa_cons (pv 1) pa_nil)) (pa_cons (pv 6) pa_nil))))) (pss_one (ps_ret pe_bl)) pss_nil)
      (pss_one (ps_ret (pe_or (pe_cmpR op_isN (pv 6) pe_non (nomark _)) (pe_one (pe_cmpR op_eq (pe_callD PF hr (pa_cons (pe_ix ix_tup (pv 6) pe_int (fun _ _ => rfl)) (pa_cons (pe_ix ix_tup (pv 6) pe_int (fun _ _ => rfl)) pa_nil))) (pv 1) (nomark _)))))))))))))), ?_⟩
    have line : (1000 : Nat) ≤ sizeLine := by decide
    -- text, at
    refine ⟨.ref a, rfl, a, ns, rfl, hS, hn, fun H1 z hz s1 => ?_⟩
    have hT1 := s1.tabs hT
    have hl : z.length ≤ sizeLine := by omega
    clear hS hT s1
    refine ⟨.str z, rfl, ⟨_, rfl⟩, z, hash, rfl, rfl, ?_⟩
    -- is_one
    refine ⟨fun σ' H' => (∃ u4 u5 u6, σ' = [some (.ref a), some (.str z), some (.int (Txt.find z hash)), some (.bl (isRef z)), u4, u5, u6]) ∧ Sm H1 H', ?_, fun σ' H' hM => ?_⟩
    · refine ⟨_, rfl, Txt.find z hash, 0, rfl, rfl, _, rfl, iteB (fun h => ?_) fun h => ?_⟩
      · have h1 : Txt.find z hash < 0 := of_decide_eq_true h
        rcases part_cases z 35 with ⟨f, p, _⟩ | ⟨i, f, _⟩
        · exact ⟨.str z, rfl, z, rfl, hl, hT1, fun H2 s2 => ⟨⟨none, none, none, by rw [isRef_none p]; rfl⟩, s2⟩⟩
        · have f2 : Txt.find z hash = (i : Int) := f
          omega
      · have h1 : ¬ Txt.find z hash < 0 := of_decide_eq_false h
        rcases part_cases z 35 with ⟨f, _⟩ | ⟨i, f, hi, hn2, p⟩
        · have f2 : Txt.find z hash = -1 := f
          omega
        · have f2 : Txt.find z hash = (i : Int) := f
          have er := isRef_some (z := z) p
          refine ⟨.str z, rfl, .int (i : Int), by rw [← f2]; rfl, i, rfl, z, rfl, hl, _, rfl, Nat.le_trans (cutS_length ..) hl, hT1, fun H2 s2 => ⟨_, rfl, iteB (fun g => ?_) fun g => ?_⟩⟩
          · refine ⟨.str z, rfl, .int (i : Int), by rw [← f2]; rfl, i, 1, rfl, rfl, (i : Int) + 1, rfl, z, rfl, hl, _, rfl, Nat.le_trans (cutS_length ..) hl, s2.tabs hT1, fun H3 s3 => ⟨⟨none, none, none, ?_⟩, s2.trans s3⟩⟩
            rw [er, g, Bool.true_and]
            rfl
          · refine ⟨⟨none, none, none, ?_⟩, s2⟩
            rw [er, g, Bool.false_and]
            rfl
    obtain ⟨⟨u4, u5, u6, rfl⟩, sm⟩ := hM
    -- told
    refine ⟨.str z, rfl, z, rfl, hl, sm.tabs hT1, fun Ha sa => ⟨.str z, rfl, z, rfl, hl, (sm.trans sa).tabs hT1, fun Hb sb => ⟨.str z, rfl, z, rfl, hl, ((sm.trans sa).trans sb).tabs hT1, fun Hc sc => ⟨by show 3 ≤ sizeLine; decide, fun o no => ?_⟩⟩⟩⟩
    have s4 : Sm H1 (upd Hc o (.lst ([isIdent z, isObj z, isRef z].map V.bl))) := (((sm.trans sa).trans sb).trans sc).put ((((sm.trans sa).trans sb).trans sc).free no)
    refine ⟨.ref o, rfl, o, rfl, ⟨_, .inl (.inl upd_same)⟩, for_list (xs := [isIdent z, isObj z, isRef z].map V.bl)
      (fun i σ H' => (∃ u5 u6, σ = [some (.ref a), some (.str z), some (.int (Txt.find z hash)), some (.bl (isRef z)), some (.ref o), u5, u6]) ∧ Sm H1 H' ∧ H' o = some (.lst ([isIdent z, isObj z, isRef z].map V.bl)))
      ⟨⟨_, _, rfl⟩, s4, upd_same⟩ (fun i σ H' _ hP => .inl (.inl hP.2.2)) (fun i x σ H' hx hP => ?_) fun σ H' hP => ?_⟩
    · obtain ⟨⟨u5, u6, rfl⟩, s5, e5⟩ := hP
      rw [List.getElem?_map] at hx
      obtain ⟨b, _, rfl⟩ := Option.map_eq_some_iff.mp hx
      exact ⟨.bl b, rfl, .bl b, .ty "bool", _, _, true, rfl, .ty _, .base (.bl b), kit_ty (by decide +kernel), true, rfl, iteF ⟨⟨_, _, rfl⟩, s5, e5⟩⟩
    obtain ⟨⟨u5', u6', rfl⟩, s5, e5⟩ := hP
    clear s4 sa sb sc sm no u4 u5 u6
    -- told != [..]
    refine ⟨.ref o, rfl, .str z, rfl, z, rfl, hl, s5.tabs hT1, fun Ha sa => ⟨.str z, rfl, z, rfl, hl, (s5.trans sa).tabs hT1, fun Hb sb => ⟨.bl (isRef z), rfl, by show 3 ≤ sizeLine; decide, fun o2 no2 => ?_⟩⟩⟩
    have s6 : Sm H' (upd Hb o2 (.lst ([isIdent z, isObj z, isRef z].map V.bl))) := (sa.trans sb).put ((sa.trans sb).free no2)
    refine ⟨.list (boolsD [isIdent z, isObj z, isRef z]), .list (boolsD [isIdent z, isObj z, isRef z]), .lst (.inl (.inl (s6.lst e5))) (dp_bools K _ [isIdent z, isObj z, isRef z]), .lst (.inl (.inl upd_same)) (dp_bools K _ [isIdent z, isObj z, isRef z]), by rfl, by rfl, _, rfl, ?_⟩
    rw [SeqAt.eqv_refl_plain _ (by rfl)]
    refine iteF ?_
    have s7 := s5.trans s6
    -- if is_one
    refine ⟨fun σ' H' => (∃ u4 u5 u6, σ' = [some (.ref a), some (.str z), some (.int (Txt.find z hash)), some (.bl (isRef z)), u4, u5, u6]) ∧ Sm H1 H', ?_, fun σ' H8 hM => ?_⟩
    · refine ⟨.bl (isRef z), rfl, isRef z, rfl, iteB (fun g => ?_) fun g => ⟨⟨_, _, _, rfl⟩, s7⟩⟩
      -- what both ways share: due is a tuple of two texts
      have same : ∀ (Hx : Hp) (d e : Str) (t : Addr) (n : Nat), Sm H1 Hx → Hx t = some (.tup [.str d, .str e]) → (Txt.partition z hash).1 = d → (Txt.partition z hash).2.2 = e → isObj d = true → tl d = (tl z).take n → d.length ≤ sizeLine →
          (tIfS (tOr (tNot (tB (tCall (spSame 2) [] E0 (tCons (tCall (spPair K NN.tf fun z => ((Txt.partition z hash).1, (Txt.partition z hash).2.2)) [] E0 (tCons (tVar 1) tNil)) (tCons (tVar 6) tNil)))))
            (tTest (tOp rNe (tCall (sp1 K NN.tf fun z => .str (Txt.partition z colon).1) [] E0 (tCons (tOp (rIxT K) (tVar 6) (tC (.int 0))) tNil))
              (tSl rSlS (tVar 1) tNoPart (tPart (tM1 (fun x xs H Q => ∃ a b, x = .str a ∧ xs = [.str b] ∧ Q (.int (Txt.find a b)) H) (tVar 1) (tC (.str colon)))))))) (tRet (tC (.bl false))) tNext)
            { nx := fun σ' H' => (∃ u4 u5 u6, σ' = [some (.ref a), some (.str z), some (.int (Txt.find z hash)), some (.bl (isRef z)), u4, u5, u6]) ∧ Sm H1 H', rt := Q }
            [some (.ref a), some (.str z), some (.int (Txt.find z hash)), some (.bl (isRef z)), some (.ref o), u5', some (.ref t)] Hx := fun Hx d e t n sx ht hd he ho hn2 hdl => by
        refine ⟨.str z, rfl, z, rfl, hl, sx.tabs hT1, fun H9 p s9 np ep => ⟨.ref t, rfl, .ref p, .ref t, rfl, ?_, true, rfl, iteF ?_⟩⟩
        · refine .inr ⟨p, t, _, _, rfl, rfl, ep, s9.tup ht, rfl, by show 2 ≤ 1000; decide, fun i u v hu hv => .inl ?_⟩
          rw [hd, he] at hu
          have huv : u = v := Option.some.inj (hu.symm.trans hv)
          refine ⟨huv, .inl ?_⟩
          match i, hv with
          | 0, hv => exact ⟨d, huv.trans (Option.some.inj hv).symm⟩
          | 1, hv => exact ⟨e, huv.trans (Option.some.inj hv).symm⟩
        · refine ⟨.ref t, rfl, t, _, 0, .str d, rfl, rfl, .inl (.inl (s9.tup ht)), atI_nat (j := 0) rfl, d, rfl, hdl, (sx.trans s9).tabs hT1, fun H10 s10 => ?_⟩
          refine ⟨.str z, rfl, .str z, rfl, ⟨_, rfl⟩, z, colon, rfl, rfl, _, rfl, z, rfl, hl, rfl, false, ?_, iteF ⟨⟨_, _, _, rfl⟩, (sx.trans s9).trans s10⟩⟩
          show V.bl (!decide (V.str (Txt.partition d colon).1 = V.str (cutS z none (some (Txt.find z colon))))) = V.bl false
          rw [type_head hn2 ho, decide_eq_true rfl]
          rfl
      refine ⟨_, rfl, Txt.find z hash, 0, rfl, rfl, _, rfl, iteB (fun h => ?_) fun h => ?_⟩
      · have h1 : Txt.find z hash < 0 := of_decide_eq_true h
        rcases part_cases z 35 with ⟨f, p, _⟩ | ⟨i, f, _⟩
        · have p2 : Txt.partition z hash = (z, Str.empty, Str.empty) := p
          rw [isRef_none p] at g
          refine ⟨.str z, rfl, by show 2 ≤ sizeLine; decide, fun t nt => ?_⟩
          exact same _ z Str.empty t (tl z).length (s7.put (s7.free nt)) upd_same (by rw [p2]) (by rw [p2]) g (List.take_length).symm hl
        · have f2 : Txt.find z hash = (i : Int) := f
          omega
      · have h1 : ¬ Txt.find z hash < 0 := of_decide_eq_false h
        rcases part_cases z 35 with ⟨f, _⟩ | ⟨i, f, hi, hn2, p⟩
        · have f2 : Txt.find z hash = -1 := f
          omega
        · have f2 : Txt.find z hash = (i : Int) := f
          have p2 : Txt.partition z hash = (cutS z none (some (i : Int)), hash, cutS z (some ((i : Int) + 1)) none) := p
          rw [isRef_some (z := z) p, Bool.and_eq_true] at g
          refine ⟨.str z, rfl, .int (i : Int), by rw [← f2]; rfl, i, rfl, z, rfl, hl, .str z, rfl, .int (i : Int), by rw [← f2]; rfl, i, 1, rfl, rfl, (i : Int) + 1, rfl, z, rfl, hl, by show 2 ≤ sizeLine; decide, fun t nt => ?_⟩
          exact same _ (cutS z none (some (i : Int))) (cutS z (some ((i : Int) + 1)) none) t i (s7.put (s7.free nt)) upd_same (by rw [p2]) (by rw [p2]) g.1 (cut_take z i) (Nat.le_trans (cutS_length ..) hl)
    obtain ⟨⟨u4, u5, u6, rfl⟩, s8⟩ := hM
    clear s7 s6 s5 e5 sa sb no2
    -- due = _law_token(text)
    refine ⟨.str z, rfl, z, rfl, hl, s8.tabs hT1, fun e H9 s9 => ?_, fun b n e H9 t s9 nt et => ?_⟩
    · have sx := s8.trans s9
      refine ⟨.str z, rfl, z, rfl, hl, sx.tabs hT1, fun _ H10 s10 => ?_, fun b n e2 _ _ _ _ _ => by rw [e] at e2; cases e2⟩
      refine ⟨.non, rfl, .non, .non, rfl, .inl ⟨rfl, .inr (.inr rfl)⟩, true, rfl, iteF ?_⟩
      exact ⟨.non, rfl, rfl, true, rfl, iteT (q _)⟩
    · have sx := s8.trans s9
      obtain ⟨k1, k2, k3⟩ := tok_back e
      refine ⟨.str z, rfl, z, rfl, hl, sx.tabs hT1, (fun e2 => by rw [e] at e2; cases e2), fun b' n' e2 H10 p s10 np ep => ?_⟩
      rw [e] at e2
      obtain ⟨rfl, rfl⟩ := Prod.mk.inj (Option.some.inj e2)
      refine ⟨.ref t, rfl, .ref p, .ref t, rfl, ?_, true, rfl, iteF ?_⟩
      · refine .inr ⟨p, t, _, _, rfl, rfl, ep, s10.tup et, rfl, by show 2 ≤ 1000; decide, fun i u v hu hv => .inl ?_⟩
        have huv : u = v := Option.some.inj (hu.symm.trans hv)
        refine ⟨huv, ?_⟩
        match i, hu with
        | 0, hu => exact .inl ⟨_, (Option.some.inj hu).symm⟩
        | 1, hu => exact .inr (.inl ⟨_, (Option.some.inj hu).symm⟩)
      · refine ⟨.ref t, rfl, rfl, false, rfl, iteF ?_⟩
        refine ⟨.ref t, rfl, t, _, 0, .str b, rfl, rfl, .inl (.inl (s10.tup et)), atI_nat (j := 0) rfl, .ref t, rfl, t, _, 1, .int (n : Nat), rfl, rfl, .inl (.inl (s10.tup et)), atI_nat (j := 1) rfl, ?_⟩
        refine ⟨b, n, rfl, by omega, by omega, .str z, rfl, rfl, toBl (decide_eq_true (by rw [k1])) (q _)⟩
end
end A0

set_option Elab.async false
set_option linter.all false
set_option maxRecDepth 100000
set_option maxHeartbeats 0
namespace A0
open PySem PySem.Spec PyProof.Rows L2 AS
abbrev R : PySem.W.OpenRow := PySem.W.OpenLaw.row PySem.Challenge.rw_authsync_k00_names_and_tokens
abbrev ex0 : PySem.W.Frag → Bool := fun _ => true
abbrev hk : PySem.W.Hook := He.hookX 4 NN.fa NN.fn [] NN.tf ex0
def ob (s : PySem.W.SharedT) : He.AlX := He.obsX 4 NN.fa NN.fn [] NN.tf ex0 (HandSHeadRun.getT s)
theorem ob_eq (s : PySem.W.SharedT) : ob s = hk.obs s.abs := He.obsX_eq (HandSHeadRun.getT_eq s)
def loose : List Str := ["_is_word", "is_identifier", "is_object", "is_reference", "type_of", "split_reference", "read_revision", "token_of", "split_token", "_law_cell", "_law_draws", "_law_same", "_law_word", "_law_text", "_law_is_run", "_law_is_identifier", "_law_is_object", "_law_token", "LETTERS", "DIGITS", "WORD_SIGNS", "WORD_LIMIT", "GREATEST_REVISION", "REVISION_DIGITS"]
theorem run (w : World) : HandSHeadRun.RunEq R (PySem.W.view R.prog [26]) hk ob 900 loose w := by
  intro os
  kernel_rfl
end A0

set_option Elab.async false
set_option linter.all false
set_option maxRecDepth 100000
set_option maxHeartbeats 0
open PySem PySem.W PySem.Calls PyProof.Rows
theorem PySem.Challenge.cw_authsync_k00_names_and_tokens_holds : PySem.Challenge.rw_authsync_k00_names_and_tokens.Holds := by
  w_on; o_law
  refine HandSHeadRun.head_any (r := A0.R) (q := view A0.R.prog [26]) (H := A0.hk) (ob := A0.ob) (M := 900) (loose := A0.loose) (d := HandSHeadRun.topDef A0.R.prog 26) (kwd := []) A0.ob_eq
    (by kernel_rfl) (fun s => by kernel_rfl) A0.run (by kernel_rfl) (by kernel_rfl) (by kernel_rfl) (by rfl) (by first | assumption | decide +kernel) (by decide +kernel) ⟨rfl, rfl, rfl, rfl, rfl, by decide +kernel⟩ ?hw ?hc
  case hw => w_witness2
  case hc =>
    refine LamX.walk_ofTsE (l := PySem.Challenge.rw_authsync_k00_names_and_tokens) (n := 63) (k := 5) (x := "script") (CX := fun _ => L2.CX0) rfl (by decide) (by kernel_rfl) ⟨rfl, by decide, by decide⟩ ?F (fun _ _ _ _ _ z => z)
    intro w mg fa h Y G hmg0
    obtain ⟨K, KX, c⟩ := Y
    have hmg : mg ("law" : PySem.Str) = some (.ref fa) := by
      have e : (HandSHeadRun.topDef A0.R.prog 26).name = ("law" : PySem.Str) := by kernel_rfl
      rw [← e]
      exact hmg0
    refine ⟨K, KX, AS.lawAt (N := A0.NN) (d := A0.dlaw) (sp := A0.spLaw K) KX G c hmg (by decide +kernel) 18 rfl rfl rfl rfl (fun _ _ _ _ _ _ us hl => match us, hl with | [_], _ => rfl) (fun H a ns hl _ hT hS => ⟨a, ns, rfl, hS, hl, hT, fun _ => rfl⟩) fun base fd T F => A0.ok_law T F⟩
