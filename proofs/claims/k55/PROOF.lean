import PyProof.Rows.All
import Wide.All
import OpenK.AllK
import Wide.FinOn
import HandS.AnyAll
import HandS.EndTab
import HandS.ForSpec
import HandS.ForMost
import HandS.Flow
import HandS.HeadWalk
import HandS.HeadHook4
import HandS.Head0
import HandS.Head1
import HandS.Head2
import HandS.HeadEnd
import HandS.IsInst
import HandS.FStr
import HandS.StrMore
import HandS.Wide
import HandS.Codes
import HandS.DeepEq
import HandS.Star
import HandS.Deep
import HandS.ExcInit
import HandS.ExcField
import HandS.TryOnly
import HandS.CallSlots
import KE.GoesEnumKw
import PySem.Challenge.RW_authsync_k55_texts_of_logs
import HandS.NoneIn
import KE.DataEq
set_option Elab.async false
set_option linter.all false
set_option maxRecDepth 100000
set_option maxHeartbeats 2000000
namespace AS
open PySem PySem.Spec PyProof.Rows L2 GxR

/-- an element of a generator expression over signs that may read the module's names -/
def EltM (X : Cx) (scope : Scope) (x : Str) (elt : Expr) (pb : Nat → Bool) : Prop :=
  ∀ (ce : Env) (B : Around) (F : Value → Shared → Prop) (c : Nat) (t : Tok) (u : Shared) (m : Str → Option Value),
    ce.scope = scope → ce.globals = mainGlobals → u.heap.Ns mainGlobals X.mg → u.heap.Ns ce.locals m →
    m x = some (.str ⟨#[c]⟩ t) →
    wpAny (model X.prog X.w) B (eval elt ce) (fun y v => y = .bool (pb c) ∧ Keeps u v) F u

section
variable {X : Cx} {pins : List (Addr × Obj)} {σ : L2.St} {H : Hp} {s : Shared}

/-- x in NAME, NAME a text of the module's top -/
theorem elt_in {scope : Scope} {x g k : Str} {tk : Tok} {p1 p2 p3 : Pos}
    (hk : scope.kind = .function) (hl : scope.names.lookup x = some .local)
    (hg : scope.names.lookup g = some .globalImplicit) (hm : X.mg g = some (.str k tk))
    (hd : (x == ("__debug__" : Str)) = false := by decide) (hd2 : (g == ("__debug__" : Str)) = false := by decide) :
    EltM X scope x (.Compare (.Name x p1) [.In] [.Name g p2] p3)
      (fun c => decide (c ∈ k.cps.toList)) := by
  intro ce B F c t u m hs hgl hM hn hx
  refine wpAny_Compare1 ?_
  refine wpAny_Name (wpAny_loadName_local (by rw [hs]; exact hk)
    (show ce.scope.names.lookup x = some .local by rw [hs]; exact hl) hn hx ?_) hd
  refine Calls.Name_function_global (by rw [hs]; exact hk)
    (show ce.scope.names.lookup g = some .globalImplicit by rw [hs]; exact hg)
    (Calls.loadGlobal_global (by rw [hgl]; exact hM) hm ?_) hd2
  exact PySem.P.in_str ⟨congrArg Value.bool (PySem.StrLaws.found_one k c), keeps_tok _ _⟩

/-- what the walk's state is behind the iterator's making and the code object's finding: the heap m3 -/
theorem gen_tail {c P : Addr} {elt : Expr} {x : Str} {scope : Scope} {pb : Nat → Bool} {R : Str → Hp → Prop}
    {W' : Value → Shared → Prop} {a : Str} {H1 : Hp} {s1 : Shared} {o : Obj} {St : Nat → Heap → Prop} {ps : Array Value}
    {k : Nat} (hr : Room k X.A) (tb : TabB X.base X.mg c P) (gs : GenS X.env scope x) (hel : EltM X scope x elt pb)
    (J : Inv X pins σ H1 s1) (hP : H1 P = some (.tbl ps)) (hR : R a H1)
    (hW : ∀ a H1 g s5, R a H1 → Ready X pins σ H1 P a pb g s5 → W' (.ref g) s5)
    (wk : ∀ A' : Around, A'.handled = none →
      Walks X.prog X.w A' s1.heap.objs.size [s1.heap.objs.size] [s1.heap.objs.size] a.cps.size (SignAt a) St)
    (hst : St 0 (s1.heap.push o))
    (code : Value) (m3 : Heap) (tk : Nat) (qs : Array Value) (ext : Heap.ExtBut P (s1.heap.push o) m3)
    (grow : (s1.heap.push o).objs.size ≤ m3.objs.size)
    (at3 : m3.get? P = some { cls := .none, data := .fields qs }) (more : ∃ z, qs = ps ++ z) (trip : TriplesOk qs.toList) :
    wpAny (model X.prog X.w) X.A (builtinsFor X.env.globals X.env.builtins) (fun bi s₄ =>
      ∃ J fp wr n₀ Pf S0 pz F, Value.ref s1.heap.objs.size = .ref J ∧
        (∀ A' : Around, A'.handled = none → Walks X.prog X.w A' J fp wr n₀ Pf S0) ∧ S0 0 s₄.heap ∧
        (∀ b ∈ fp, b < s₄.heap.objs.size) ∧ s₄.heap.NoLimit ∧ cStatics ∉ wr ∧
        (∀ rf : Heap, (∀ b o, s₄.heap.get? b = some o → rf.get? b = some o) →
          QuietGen X.prog X.w (genEnv scope (cloFrom X.env.cells scope.names []) s₄.heap.objs.size code bi X.env)
            x [] elt (List.range s₄.heap.objs.size) wr Pf pz F rf) ∧
        (∀ g h₅ t5 st, st.bare = true → s₄.heap.objs.size < g → h₅.objs.size = g + 1 →
          (∀ b o, s₄.heap.get? b = some o → h₅.get? b = some o) →
          WalksS X.prog X.w X.A.in4 g (g :: s₄.heap.objs.size :: List.range s₄.heap.objs.size)
            (s₄.heap.objs.size :: wr) (GenOnlyQ s₄.gens.size) (passing pz n₀ 0).length
            (fun j y => ∃ i, (passing pz n₀ 0)[j]? = some i ∧ F i y)
            (GenAt X.prog X.w X.A.in4 g s₄.gens.size s₄.heap.objs.size (List.range s₄.heap.objs.size) wr pz n₀ F) →
          GenAt X.prog X.w X.A.in4 g s₄.gens.size s₄.heap.objs.size (List.range s₄.heap.objs.size) wr pz n₀ F 0
            { s₄ with gens := s₄.gens.push st, toks := t5, heap := h₅ } →
          W' (.ref g) { s₄ with gens := s₄.gens.push st, toks := t5, heap := h₅ })) X.xe { s1 with heap := m3, toks := tk } := by
  have tabAt : s1.heap.get? P = some { cls := .none, data := .fields ps } := J.hok P _ hP
  have tabLt := Heap.lt_size tabAt
  have lim := J.nolimit.push o
  obtain ⟨_, limNs, _⟩ := J.nolimit
  have stNe : cStatics ≠ P := fun z => by
    obtain ⟨ob, _, _, e, d, _⟩ := limNs
    rw [z, tabAt] at e
    cases e
    cases d
  have stLt := limNs.lt
  have glob1 : s1.heap.Ns mainGlobals X.mg := J.mod.glob.keeps J.bk
  have glob3 : m3.Ns mainGlobals X.mg := (glob1.push o).extBut ext tb.gP
  have szP : (s1.heap.push o).objs.size = s1.heap.objs.size + 1 := Heap.size_push ..
  have kept : ∀ b v, b ≠ P → s1.heap.get? b = some v → m3.get? b = some v :=
    fun b v n e => ext b v n (Heap.get?_push_of_some _ e)
  obtain ⟨bm, bo, b1, b2, b3, b4, b5, b6, b7, b8⟩ := tb.bm
  refine wpAny_builtinsFor (m := X.mg) (by rw [J.ok.glob]; exact glob3) b1 b2 (kept _ _ b4 (J.bk _ _ b5)) b6 b7 b8 ?_
  have one : ∀ b : Addr, b ∈ [s1.heap.objs.size] → b = s1.heap.objs.size := fun b hb => List.mem_singleton.mp hb
  refine ⟨_, _, _, _, _, _, (fun _ => true), (fun i y => ∃ cc, a.cps[i]? = some cc ∧ y = .bool (pb cc)), rfl, wk, ?_, ?_,
    lim.extBut ext stNe, fun z => Nat.ne_of_lt stLt (one _ z), ?_, ?_⟩
  · refine (wk X.A hr.hd).frame _ _ _ hst fun b hb v e => ext b v (fun z => ?_) e
    rw [z] at hb
    exact Nat.ne_of_lt tabLt (one _ hb)
  · intro b hb
    rw [one b hb]
    show s1.heap.objs.size < m3.objs.size
    omega
  · intro rf hrf
    constructor
    · intro A' E' i v s₂ m₂ _ _ _ _ _
      simp only [List.forIn_nil]
      exact wpAny_pure ⟨rfl, keeps_refl _⟩
    · intro A' E' i v s₂ m₂ _ hv _ hn hm hk
      obtain ⟨cc, u, hcc, rfl⟩ := hv
      have g2 : s₂.heap.Ns mainGlobals X.mg := by
        have hlt : mainGlobals < s1.heap.objs.size := glob1.lt
        obtain ⟨og, es, ep, e, r⟩ := glob3
        refine ⟨og, es, ep, hk mainGlobals (List.mem_range.mpr (Heap.lt_size e)) (fun z => Nat.ne_of_lt hlt (one _ z)) og (hrf _ _ e), r⟩
      exact wpAny_mono (hel _ A' E' cc u s₂ m₂ rfl J.ok.glob g2 hn hm) (fun y s3 r => ⟨⟨cc, hcc, r.1⟩, r.2⟩) fun _ _ e => e
  · intro g h5 t5 st bare lt5 sz5 keep5 W5 at5
    have full : passing (fun _ => true) a.cps.size 0 = List.range a.cps.size := passing_true _
    rw [full, List.length_range] at W5
    refine hW a H1 g _ hR ⟨_, _, _, _, _, W5.in4_1, at5, ?_, ?_⟩
    · intro j y sj Qj Ej hy hQj
      obtain ⟨i, hij, cc, hcc, rfl⟩ := hy
      obtain ⟨hj, ej⟩ := List.getElem?_eq_some_iff.mp hij
      rw [List.getElem_range] at ej
      subst ej
      have e9 : a.cps.toList[j]? = some cc := Array.getElem?_toList.trans hcc
      have e8 : trF pb a.cps.toList j = pb cc := trF_some e9
      have hQ2 : Qj (trF pb a.cps.toList j) sj := hQj
      rw [e8] at hQ2
      exact wpAny_truthy_bool hQ2
    · intro s' mv
      obtain ⟨z, ez⟩ := more
      have nw : ∀ b v, s1.heap.get? b = some v → b ∉ m3.objs.size :: [s1.heap.objs.size] := fun b v e hb => by
        have lt := Heap.lt_size e
        rcases List.mem_cons.mp hb with q | q
        · rw [q] at lt
          have l2 : s1.heap.objs.size < m3.objs.size := by omega
          exact Nat.lt_asymm l2 lt
        · rw [one b q] at lt
          exact Nat.lt_irrefl _ lt
      have grown : s'.heap.get? P = some { cls := .none, data := .fields (ps ++ z) } := by
        rw [← ez]
        exact mv.heap P _ (nw P _ tabAt) (keep5 P _ at3)
      have K := inv_tab (more := z) (h' := s'.heap) (g' := s'.gens) (d' := s'.drawn) (t' := s'.toks) J hP
        (fun b v n e => mv.heap b v (nw b v e) (keep5 b v (kept b v n e))) grown (AllBare.movedS (J.bare.push bare) mv)
      rw [sh_eta s1 s' mv.os] at K
      exact ⟨_, ⟨⟨ps ++ z, upd_same, by rw [← ez]; exact trip⟩, fun b n => upd_ne n⟩, K⟩

theorem gen_strM {c P : Addr} {elt iter : Expr} {x : Str} {px gpos : Pos} {scope : Scope} {pb : Nat → Bool}
    {te : TE} {k : Nat} {W' : Value → Shared → Prop} {R : Str → Hp → Prop}
    (hr : Room k X.A) (tb : TabB X.base X.mg c P) (hc : X.env.code = .ref c) (gs : GenS X.env scope x)
    (hi : PE X iter te) (hel : EltM X scope x elt pb) (hs : ∀ v, genFold iter X.env v = pure v)
    (I : Inv X pins σ H s) (h : te σ H fun v H1 => ∃ a : Str, v = .str a ∧ TabG H1 P ∧ R a H1)
    (hW : ∀ a H1 g s5, R a H1 → Ready X pins σ H1 P a pb g s5 → W' (.ref g) s5) :
    wpAny (model X.prog X.w) X.A (eval (.GeneratorExp elt [⟨.Name x px, iter, [], 0⟩] scope gpos) X.env) W' X.xe s := by
  have dp := hr.dp
  refine wpAny_GeneratorExp_walksQ hr.hd gs.co (closure_ok gs.free) gs.cell gs.dot gs.loc gs.kind (by omega) ?_ hs
  refine thn (hi.run pins s σ H _ I h) fun xv s1 r => ?_
  obtain ⟨v, H1, J, rv, a, rfl, ⟨ps, hP, ht⟩, hR⟩ := r
  obtain ⟨t, rfl⟩ := (show ∃ t, xv = Value.str a t from rv)
  refine wpAny_pyIter_str fun o St wk hst => ⟨J.nolimit.push o, ?_⟩
  have tabP : (s1.heap.push o).get? P = some { cls := .none, data := .fields ps } := Heap.get?_push_of_some _ (J.hok P _ hP)
  have cd : PySem.W.CodeHd (s1.heap.push o) c P := tb.code.keeps fun b u e => Heap.get?_push_of_some _ (J.bk b u e)
  have go := @gen_tail X pins σ c P elt x scope pb R W' a H1 s1 o St ps k hr tb gs hel J hP hR hW wk hst
  cases hf : codeAmong gpos ps.toList with
  | some cv =>
    exact wpAny_genexprCode_hit hc (cd.code tabP ht) hf (go cv _ s1.toks ps (Heap.ExtBut.refl _ _) (Nat.le_refl _) tabP ⟨#[], by simp⟩ ht)
  | none =>
    refine wpAny_genexprCodeX hc (cd.code tabP ht) (cd.tab tabP) hf fun c' h' tk hx hge hlt hco' _ htab' _ => ?_
    obtain ⟨o1, vs, f1, tf, fl, tg, inF, tx, tt, op, _, _, _, _, _, _, _, _, _, htr, _⟩ := hco'
    exact go _ h' tk _ hx (Nat.le_trans hge (Nat.le_of_lt hlt)) htab'.2 ⟨_, rfl⟩ htr

/-- all(test for x in e), e a text, the test an EltM -/
theorem pe_allM {c P : Addr} {elt iter : Expr} {x : Str} {px p pos gpos : Pos} {scope : Scope} {pb : Nat → Bool} {te : TE} {k : Nat}
    (hr : Room k X.A) (hg : Gl X "all") (hm : X.mg "all" = none) (tb : TabB X.base X.mg c P) (hc : X.env.code = .ref c)
    (gs : GenS X.env scope x) (hi : PE X iter te) (hel : EltM X scope x elt pb) (hs : ∀ v, genFold iter X.env v = pure v)
    (hb : bootBuiltins "all" = some (.builtin "all") := by decide +kernel)
    (he : starEach [.GeneratorExp elt [⟨.Name x px, iter, [], 0⟩] scope gpos] X.env =
      (false, eval (.GeneratorExp elt [⟨.Name x px, iter, [], 0⟩] scope gpos) X.env) :: starEach [] X.env := by rfl) :
    PE X (.Call (.Name "all" p) [.GeneratorExp elt [⟨.Name x px, iter, [], 0⟩] scope gpos] [] pos) (tAllS P pb te) := by
  constructor
  intro pins s σ H Q I h
  refine wpAny_Call_Name_kw (ld_blt I hg hm hb (PyProof.Rows.callWith_builtin1 ?_ he (by rfl)))
  rw [he]
  show wpAny _ _ (spliced ((false, eval (.GeneratorExp elt [⟨.Name x px, iter, [], 0⟩] scope gpos) X.env) ::
    backTo pos (starEach [] X.env))) _ _ s
  refine Calls.spliced_cons (gen_strM (R := fun a H1 => ∀ H2, Tabbed P H1 H2 → Q (.bl (a.cps.toList.all pb)) H2)
    hr tb hc gs hi hel hs I h fun a H1 g s5 hR hG => Calls.spliced_nil ?_)
  obtain ⟨fp, wr, G, F, St, W, hst, htr, hI⟩ := hG
  refine call_all_walkS (W.self 0 _ _ _ hst ⟨g, fp, wr, G, _, F, St, _, rfl, W, hst, htr, fun s' mv => ?_⟩)
  obtain ⟨H2, hT, J⟩ := hI s' mv
  have q := hR H2 hT
  rw [← all_signs a pb] at q
  exact ⟨.bl _, H2, J, rfl, q⟩
end
end AS

set_option Elab.async false
set_option linter.all false
set_option maxRecDepth 100000
set_option maxHeartbeats 2000000
namespace AS
open PySem PySem.Spec PyProof.Rows L2

/-! ### the facts behind the top, by names -/
structure Names where
  glos : List Str
  frees : List Str
  txts : List (Str × Str)
  nums : List (Str × Int)
  fn : List He.DefD
  tf : List He.Defn
def Names.fa (N : Names) : List He.Fa := N.glos.map .glo ++ (N.frees.map .free ++ (N.txts.map (fun p => .str p.1 p.2) ++ N.nums.map fun p => .int p.1 p.2))
structure Top (N : Names) (K : PySem.W.Frag) (mg : Str → Option Value) (base : Heap) : Prop where
  d : He.SaysD N.fa N.fn K
  g : ∀ x ∈ N.glos, mg x = some (.ref (He.ga K x))
  f : ∀ x ∈ N.frees, mg x = none
  s : ∀ p ∈ N.txts, ∃ t, mg p.1 = some (.str p.2 t)
  i : ∀ p ∈ N.nums, ∃ t, mg p.1 = some (.int p.2 t)
  tb : ∀ p ∈ N.tf, GxR.TabB base mg (He.cT K p).1 (He.cT K p).2

theorem Top.mk' {N : Names} {K : PySem.W.Frag} {mg : Str → Option Value} {base h : Heap} (X : K.In h) (G : h.Ns mainGlobals mg) (c : He.SaysD N.fa N.fn K)
    (tb : ∀ p ∈ N.tf, GxR.TabB base mg (He.cT K p).1 (He.cT K p).2) : Top N K mg base where
  d := c
  tb := tb
  g := fun x hx => He.glo_ok X G (c.facts (f := .glo x) (List.mem_append_left _ (List.mem_map.mpr ⟨x, hx, rfl⟩)))
  f := fun x hx => He.free_ok X G (c.facts (f := .free x) (List.mem_append_right _ (List.mem_append_left _ (List.mem_map.mpr ⟨x, hx, rfl⟩))))
  s := fun p hp => He.str_ok X G (c.facts (f := .str p.1 p.2) (List.mem_append_right _ (List.mem_append_right _ (List.mem_append_left _ (List.mem_map.mpr ⟨p, hp, rfl⟩)))))
  i := fun p hp => He.int_ok X G (c.facts (f := .int p.1 p.2) (List.mem_append_right _ (List.mem_append_right _ (List.mem_append_right _ (List.mem_map.mpr ⟨p, hp, rfl⟩)))))

/-! ### a def that keeps a promise, and its call -/
structure DOk (P : Program) (w : World) (K : PySem.W.Frag) (mg : Str → Option Value) (base : Heap) (CX : CXT) (k : Nat) (x : Str) (ps : List Str) (sp : Sp) : Prop where
  ex : ∃ fd, FnOk P w K mg base CX k (He.ga K x) fd ps sp ∧ Binds K fd ps []
  kp : PySem.W.keepIn K (.ref (He.ga K x)) = true
  gl : mg x = some (.ref (He.ga K x))
section
variable {P : Program} {w : World} {K : PySem.W.Frag} {mg : Str → Option Value} {base : Heap} {N : Names}
theorem DOk.mono {CX : CXT} {j k : Nat} {x : Str} {ps : List Str} {sp : Sp} (G : DOk P w K mg base CX j x ps sp) (h : j ≤ k) : DOk P w K mg base CX k x ps sp := by
  obtain ⟨⟨fd, F, b⟩, kp, gl⟩ := G
  exact ⟨⟨fd, F.mono h, b⟩, kp, gl⟩
/-- THE RULE for a def of the list; it also tells which code object the frame runs -/
theorem Top.ok {CX : CXT} {d : He.DefD} {x : Str} {ps L : List Str} {k : Nat} {sp : Sp} (T : Top N K mg base) (i : Nat) (hi : N.fn[i]? = some d) (hat : d.at_ = (x, none)) (hdf : d.dfl = []) (hkw : d.kwd = []) (hx : x ∈ N.glos)
    (S : FnScope L ps d.scope)
    (hb : ∀ (kV doc pm : Value) (an : Option Addr) (cdv ct : Value) (us : List Value), us.length = ps.length → bindArgs (PySem.W.fnOf d.name d.qual d.params d.body d.scope .none kV doc pm an cdv ct) ⟨us, []⟩ = pure (ps.zip us))
    (len : ∀ vs H Q E, sp vs H Q E → vs.length = ps.length)
    (hbody : ∀ (cdv : Value) (A : Around) (outer : List Env) (s : Shared) (H : Hp) (vs : List V) (Q : VK) (E : XK), cdv = .ref (He.codeOf K (x, none)) → Room k (A.deeper (envOfC d.qual d.scope s.heap.objs.size (He.ga K x) cdv)) → sp vs H Q E →
      ∃ t, PSs (cxOf CX P w K mg base L d.qual d.scope (He.ga K x) cdv A outer s H E) d.body t ∧ t { nx := fun _ H' => Q .non H', rt := Q } (start L vs) H) :
    DOk P w K mg base CX (k + 1) x ps sp := by
  obtain ⟨fd, F⟩ := T.d.def_ i hi
  have e1 : d.dvs K = [] := by unfold He.DefD.dvs; rw [hdf]; rfl
  have e2 : d.kws K = [] := by unfold He.DefD.kws; rw [hkw]; rfl
  have e3 : He.fAd K d.at_ = He.ga K x := by rw [hat]; rfl
  rw [e1, e2, e3] at F
  refine ⟨⟨fd, ?_, F.bindsN hb⟩, F.kp, T.g x hx⟩
  obtain ⟨oc, od, dV, kV, doc, pm, an, cdv, ct, osl, rfl, lk, hcd, hD, _⟩ := F.ex
  obtain ⟨c, ec⟩ := He.codeIn_ref hcd
  have lk2 : K.lookup (He.fAd K (x, none)) = some ⟨oc, od, .func (PySem.W.fnOf d.name d.qual d.params d.body d.scope dV kV doc pm an cdv ct), osl⟩ := lk
  have ek : cdv = .ref (He.codeOf K (x, none)) := by
    rw [He.codeOf_eq lk2 (show (PySem.W.fnOf d.name d.qual d.params d.body d.scope dV kV doc pm an cdv ct).code = .ref c from ec), ec]
  exact fn_of lk hcd S len fun A outer s H vs Q E hr hsp => hbody cdv A outer s H vs Q E ek hr hsp
/-- .. for a def that lets nothing out -/
theorem Top.ok0 {d : He.DefD} {x : Str} {ps L : List Str} {k : Nat} {sp : Sp} (T : Top N K mg base) (i : Nat) (hi : N.fn[i]? = some d) (hat : d.at_ = (x, none)) (hdf : d.dfl = []) (hkw : d.kwd = []) (hx : x ∈ N.glos)
    (S : FnScope L ps d.scope)
    (hb : ∀ (kV doc pm : Value) (an : Option Addr) (cdv ct : Value) (us : List Value), us.length = ps.length → bindArgs (PySem.W.fnOf d.name d.qual d.params d.body d.scope .none kV doc pm an cdv ct) ⟨us, []⟩ = pure (ps.zip us))
    (len : ∀ vs H Q E, sp vs H Q E → vs.length = ps.length)
    (hbody : ∀ (cdv : Value) (A : Around) (outer : List Env) (s : Shared) (H : Hp) (vs : List V) (Q : VK) (E : XK), cdv = .ref (He.codeOf K (x, none)) → Room k (A.deeper (envOfC d.qual d.scope s.heap.objs.size (He.ga K x) cdv)) → sp vs H Q E →
      ∃ t, PSs (cxOf CX0 P w K mg base L d.qual d.scope (He.ga K x) cdv A outer s H E).nox d.body t ∧ t { nx := fun _ H' => Q .non H', rt := Q } (start L vs) H) :
    DOk P w K mg base CX0 (k + 1) x ps sp :=
  T.ok i hi hat hdf hkw hx S hb len fun cdv A outer s H vs Q E ec hr hsp => let ⟨t, h, q⟩ := hbody cdv A outer s H vs Q E ec hr hsp; ⟨t, h.nox, q⟩
end
section
variable {X : Cx} {CX : CXT} {k : Nat} {x : Str} {ps : List Str} {sp : Sp} {p pos : Pos} {e : Expr} {es : List Expr} {t : TA}
/-- f(e, ..) of a def that lets nothing out -/
theorem pe_callD (G : DOk X.prog X.w X.K X.mg X.base CX0 k x ps sp) (hr : Room k X.A) (ha : PA X (e :: es) t) (hg : Gl X x := by rfl) (hdb : (x == ("__debug__" : Str)) = false := by decide)
    (he : starEach (e :: es) X.env = (false, eval e X.env) :: starEach es X.env := by rfl) (hpl : (backTo pos (starEach es X.env)).any (·.1) = false := by rfl) : PE X (.Call (.Name x p) (e :: es) [] pos) (tCall sp [] E0 t) := by
  obtain ⟨fd, F, b⟩ := G.ex
  exact pe_call F hr hg G.gl G.kp b .nil pass0 ha hdb he hpl
end

/-- f(*xs) -/
def tStarCall (K : PySem.W.Frag) (sp : Sp) (te : TE) : TE := fun σ H Q => te σ H fun y H1 => ∃ a xs, y = V.ref a ∧ (SqT K H1 a xs ∨ SqL K H1 a xs) ∧ sp (xs ++ []) H1 Q E0
theorem pe_callStar {X : Cx} {k : Nat} {x : Str} {ps : List Str} {sp : Sp} {p pos ps2 : Pos} {e : Expr} {te : TE} {K : PySem.W.Frag} (G : DOk X.prog X.w X.K X.mg X.base CX0 k x ps sp) (hr : Room k X.A) (he : PE X e te) (hK : X.K = K := by rfl) (hg : Gl X x := by rfl)
    (hd : (x == ("__debug__" : Str)) = false := by decide) : PE X (.Call (.Name x p) [.Starred e ps2] [] pos) (tStarCall K sp te) := by
  subst hK
  obtain ⟨fd, F, b⟩ := G.ex
  exact StX.pe_callS1 (F.raw b .nil) hr G.kp hg G.gl pass0 he hd
section
variable {P : Program} {w : World} {K : PySem.W.Frag} {mg : Str → Option Value} {base : Heap} {N : Names}
/-- the law's own def, its function object given -/
theorem okF {d : He.DefD} {x : Str} {ps L : List Str} {k : Nat} {sp : Sp} {fd : FuncData} (F : FunD K d.name d.qual d.params d.body d.scope [] [] (He.ga K x) fd) (S : FnScope L ps d.scope)
    (len : ∀ vs H Q E, sp vs H Q E → vs.length = ps.length)
    (hbody : ∀ (cdv : Value) (A : Around) (outer : List Env) (s : Shared) (H : Hp) (vs : List V) (Q : VK) (E : XK), Room k (A.deeper (envOfC d.qual d.scope s.heap.objs.size (He.ga K x) cdv)) → sp vs H Q E →
      ∃ t, PSs (cxOf CX0 P w K mg base L d.qual d.scope (He.ga K x) cdv A outer s H E).nox d.body t ∧ t { nx := fun _ H' => Q .non H', rt := Q } (start L vs) H) :
    FnOk P w K mg base CX0 (k + 1) (He.ga K x) fd ps sp := by
  obtain ⟨oc, od, dV, kV, doc, pm, an, cdv, ct, osl, rfl, lk, hcd, hD, _⟩ := F.ex
  exact fn_of lk hcd S len fun A outer s H vs Q E hr hsp => let ⟨t, h, q⟩ := hbody cdv A outer s H vs Q E hr hsp; ⟨t, h.nox, q⟩

/-- the tables of the listed defs -/
def Tabs (K : PySem.W.Frag) (tf : List He.Defn) (H : Hp) : Prop := ∀ p ∈ tf, GxR.TabG H (He.cT K p).2

theorem lawAt {l : PySem.W.OpenLaw} {fa : Addr} {h : Heap} {ex : PySem.W.Frag → Bool} {k n : Nat} {sp : Sp} {d : He.DefD} (X : K.In h) (G : h.Ns mainGlobals mg) (c : He.SaysX N.fa N.fn [] N.tf ex w h K)
    (hfa : mg "law" = some (.ref fa)) (hl : ("law" : Str) ∈ N.glos) (i : Nat) (hi : N.fn[i]? = some d) (hat : d.at_ = (("law" : Str), none)) (hdf : d.dfl = []) (hkw : d.kwd = [])
    (hb : ∀ (kV doc pm : Value) (an : Option Addr) (cdv ct : Value) (us : List Value), us.length = [("script" : Str)].length → bindArgs (PySem.W.fnOf d.name d.qual d.params d.body d.scope .none kV doc pm an cdv ct) ⟨us, []⟩ = pure ([("script" : Str)].zip us))
    (hsp : ∀ (H : Hp) (a : Addr) (ns : List Int), ns.length ≤ n → (∀ z ∈ ns, Builtin.Int.intBits z ≤ 1048576) → Tabs K N.tf H → SqL K H a (ns.map V.int) → sp [.ref a] H (fun v _ => v = .bl true) fun _ _ _ => False)
    (hF : ∀ (base : Heap) (fd : FuncData), Top N K mg base → FunD K d.name d.qual d.params d.body d.scope [] [] (He.ga K "law") fd → FnOk l.prog w K mg base CX0 k (He.ga K "law") fd ["script"] sp) :
    LamX.LawAtS l w K CX0 k n "script" mg fa h := by
  obtain ⟨fd, F⟩ := c.t.d.def_ i hi
  have e1 : d.dvs K = [] := by unfold He.DefD.dvs; rw [hdf]; rfl
  have e2 : d.kws K = [] := by unfold He.DefD.kws; rw [hkw]; rfl
  have e3 : He.fAd K d.at_ = He.ga K "law" := by rw [hat]; rfl
  rw [e1, e2, e3] at F
  have eg : mg "law" = some (.ref (He.ga K "law")) := He.glo_ok X G (c.t.d.facts (f := .glo "law") (List.mem_append_left _ (List.mem_map.mpr ⟨_, hl, rfl⟩)))
  rw [hfa] at eg
  cases eg
  have mem : ∀ p, p ∈ N.tf.map (He.cT K) → ∃ q ∈ N.tf, He.cT K q = p := fun p hp => List.mem_map.mp hp
  refine ⟨fd, N.tf.map (He.cT K), sp, fun p hp => ?_, fun p hp => ?_, fun p hp => ?_, fun s u => FunD.bindsA (ps := [("script" : Str)]) F hb s [u] rfl, fun H a ns hl hbits hT hS => hsp H a ns hl hbits (fun q hq => ⟨_, hT _ (List.mem_map.mpr ⟨q, hq, rfl⟩), trivial⟩) hS, fun base X2 G2 hT => hF base fd (Top.mk' X2 G2 c.t.d fun q hq => have z := hT _ (List.mem_map.mpr ⟨q, hq, rfl⟩); ⟨z.code, z.bm, z.gP⟩) F⟩
  · obtain ⟨q, hq, rfl⟩ := mem p hp
    exact c.empty q hq
  · obtain ⟨q, hq, rfl⟩ := mem p hp
    exact c.out q hq
  · obtain ⟨q, hq, rfl⟩ := mem p hp
    exact PySem.W.codeHd_of_K X (c.hd q hq)
end
end AS

set_option Elab.async false
set_option linter.all false
set_option maxRecDepth 100000
set_option maxHeartbeats 2000000
namespace AS
open PySem PySem.Spec PyProof.Rows L2
/-- what a call leaves: all that stood, but that tables of code objects may have grown -/
structure Sm (H H' : Hp) : Prop where
  keep : ∀ b o, H b = some o → (∀ ps, o ≠ .tbl ps) → H' b = some o
  tab : ∀ b ps, H b = some (.tbl ps) → ∃ qs, H' b = some (.tbl qs) ∧ (TriplesOk ps.toList → TriplesOk qs.toList)
theorem Sm.refl (H : Hp) : Sm H H := ⟨fun _ _ h _ => h, fun _ ps h => ⟨ps, h, fun z => z⟩⟩
theorem Sm.trans {H H1 H2 : Hp} (a : Sm H H1) (b : Sm H1 H2) : Sm H H2 where
  keep := fun c o h n => b.keep c o (a.keep c o h n) n
  tab := fun c ps h => by
    obtain ⟨q1, h1, t1⟩ := a.tab c ps h
    obtain ⟨q2, h2, t2⟩ := b.tab c q1 h1
    exact ⟨q2, h2, fun z => t2 (t1 z)⟩
theorem Sm.free {H H' : Hp} (e : Sm H H') {l : Addr} (h : H' l = none) : H l = none := by
  cases q : H l with
  | none => rfl
  | some o =>
    cases o with
    | tbl ps =>
      obtain ⟨_, h1, _⟩ := e.tab l ps q
      rw [h] at h1
      cases h1
    | _ =>
      have h1 := e.keep l _ q (fun _ z => nomatch z)
      rw [h] at h1
      cases h1
/-- an object that the first heap does not know is laid or written -/
theorem Sm.put {H H' : Hp} (e : Sm H H') {l : Addr} {o : HO} (h : H l = none) : Sm H (upd H' l o) where
  keep := fun c u hc n => by
    rw [upd_ne (ne_of_none hc h)]
    exact e.keep c u hc n
  tab := fun c ps hc => by
    rw [upd_ne (ne_of_none hc h)]
    exact e.tab c ps hc
theorem Sm.new {H : Hp} {l : Addr} {o : HO} (h : H l = none) : Sm H (upd H l o) := (Sm.refl H).put h
theorem Sm.tabbed {H H' : Hp} {P : Addr} (g : GxR.TabG H P) (t : GxR.Tabbed P H H') : Sm H H' where
  keep := fun c u hc n => by
    by_cases h : c = P
    · obtain ⟨ps, hp, _⟩ := g
      rw [h, hp] at hc
      exact absurd (Option.some.inj hc).symm (n ps)
    · rw [t.2 c h]
      exact hc
  tab := fun c ps hc => by
    by_cases h : c = P
    · obtain ⟨qs, hq, z⟩ := t.1
      rw [h]
      exact ⟨qs, hq, fun _ => z⟩
    · rw [t.2 c h]
      exact ⟨ps, hc, fun z => z⟩
theorem Sm.same {H H' : Hp} (e : Same H H') : Sm H H' := ⟨fun b o h _ => e b o h, fun b ps h => ⟨ps, e b _ h, fun z => z⟩⟩
theorem Sm.seq {K : PySem.W.Frag} {H H' : Hp} {a : Addr} {xs : List V} (e : Sm H H') (h : SqL K H a xs) : SqL K H' a xs := by
  rcases h with (h | ⟨o, h⟩) | h
  · exact .inl (.inl (e.keep _ _ h fun _ z => nomatch z))
  · exact .inl (.inr ⟨o, e.keep _ _ h fun _ z => nomatch z⟩)
  · exact .inr h
theorem Sm.seqT {K : PySem.W.Frag} {H H' : Hp} {a : Addr} {xs : List V} (e : Sm H H') (h : SqT K H a xs) : SqT K H' a xs := by
  rcases h with (h | ⟨o, h⟩) | h
  · exact .inl (.inl (e.keep _ _ h fun _ z => nomatch z))
  · exact .inl (.inr ⟨o, e.keep _ _ h fun _ z => nomatch z⟩)
  · exact .inr h
theorem Sm.lst {H H' : Hp} (e : Sm H H') {a : Addr} {xs : List V} (h : H a = some (.lst xs)) : H' a = some (.lst xs) := e.keep _ _ h fun _ z => nomatch z
theorem Sm.tup {H H' : Hp} (e : Sm H H') {a : Addr} {xs : List V} (h : H a = some (.tup xs)) : H' a = some (.tup xs) := e.keep _ _ h fun _ z => nomatch z
theorem Sm.tabs {K : PySem.W.Frag} {tf : List He.Defn} {H H' : Hp} (e : Sm H H') (t : Tabs K tf H) : Tabs K tf H' := fun p hp => by
  obtain ⟨ps, h, z⟩ := t p hp
  obtain ⟨qs, h1, z1⟩ := e.tab _ ps h
  exact ⟨qs, h1, z1 z⟩

/-- a promise: one text, the answer a plain value, nothing changed -/
def sp1 (K : PySem.W.Frag) (tf : List He.Defn) (f : Str → V) : Sp := fun vs H Q _ => ∃ z : Str, vs = [.str z] ∧ z.length ≤ sizeLine ∧ Tabs K tf H ∧ ∀ H', Sm H H' → Q (f z) H'
theorem sp1_len {K : PySem.W.Frag} {tf : List He.Defn} {f : Str → V} {x : Str} : ∀ vs H Q E, sp1 K tf f vs H Q E → vs.length = [x].length := fun vs H Q E h => by
  obtain ⟨z, rfl, _⟩ := h
  rfl
theorem gs_mk {env : Env} {scope : Scope} {x : Str} (h1 : scope.kind = .function) (h2 : scope.isCoroutine = false) (h3 : ∀ y ∈ scope.names, y.2 ≠ .cell) (h4 : scope.names.lookup (".0" : Str) = some NameKind.local)
    (h5 : scope.names.lookup x = some .local) (h6 : ∀ y ∈ scope.names, y.2 ≠ .free) : GxR.GenS env scope x := ⟨h1, h2, h3, h4, h5, fun y hy e => absurd e (h6 y hy)⟩
end AS

set_option Elab.async false
set_option linter.all false
set_option maxRecDepth 100000
set_option maxHeartbeats 2000000
namespace AS
open PySem PySem.Spec PyProof.Rows L2
/-! ### facts of own error classes, as one Bool -/
def oexB (K : PySem.W.Frag) (C : Addr) : Bool := (match K.lookup C with
  | some ⟨.type t, _, .cls cd, sl⟩ => (match cd.mro, sl.toList with
    | .ref C' :: bm, [_, _, _, _, some (.builtin n), _] => decide (t = "type") && (decide (C' = C) && (decide (n = "ValueError.__new__") && (cd.hasDict && (!cd.hasDel && PySem.HandSPX.refsVE bm))))
    | _, _ => false)
  | _ => false) && (He.eqO (PySem.W.findIn K (.ref C) "__setattr__") (some (some (.builtin "object.__setattr__"))) && (decide (PySem.W.subIn K (.ref C) (.type "BaseException") = some true) && (decide (PySem.W.typeIn K (.ref C) = some (.type "type")) && PySem.W.keepIn K (.ref C))))
theorem oexB_ok {K : PySem.W.Frag} {C : Addr} (h : oexB K C = true) : OexC K C := by
  unfold oexB at h
  obtain ⟨h1, h⟩ := He.ba h
  obtain ⟨h2, h⟩ := He.ba h
  obtain ⟨h3, h⟩ := He.ba h
  obtain ⟨h4, h5⟩ := He.ba h
  refine ⟨?_, He.eqO_ok h2, of_decide_eq_true h3, of_decide_eq_true h4, h5⟩
  cases q : K.lookup C with
  | none =>
    rw [q] at h1
    cases h1
  | some o =>
    obtain ⟨oc, od, dt, osl⟩ := o
    rw [q] at h1
    cases oc with
    | type t =>
      cases dt with
      | cls cd =>
        obtain ⟨nm, bs, mro, ns, qn, hd, sn, sb, ab, col, del⟩ := cd
        cases mro with
        | nil => cases h1
        | cons m bm =>
          obtain ⟨l⟩ := osl
          cases m with
          | ref C' =>
            match l, h1 with
            | [k0, k1, k2, k3, some (.builtin n), k5], h1 =>
              obtain ⟨e1, h1⟩ := He.ba (show (decide (t = "type") && (decide (C' = C) && (decide (n = "ValueError.__new__") && (hd && (!del && PySem.HandSPX.refsVE bm))))) = true from h1)
              obtain ⟨e2, h1⟩ := He.ba h1
              obtain ⟨e3, h1⟩ := He.ba h1
              obtain ⟨e4, h1⟩ := He.ba h1
              obtain ⟨e5, e6⟩ := He.ba h1
              have f1 := of_decide_eq_true e1
              have f2 := of_decide_eq_true e2
              have f3 := of_decide_eq_true e3
              have f5 : del = false := by
                cases del with
                | false => rfl
                | true => cases e5
              have f4 : hd = true := e4
              subst f1 f2 f3 f5 f4
              exact ⟨_, _, _, _, bm, _, _, _, _, _, _, _, _, _, _, rfl, e6⟩
          | _ => cases h1
      | _ => cases h1
    | _ => cases dt <;> cases h1
/-- an own class whose __init__ is ValueError's -/
structure VeInit (K : PySem.W.Frag) (C : Addr) : Prop where
  ga : PySem.W.specialIn K (.ref C) "__getattribute__" = some (some (.builtin "type.__getattribute__"))
  rd : PySem.W.readsIn K C (.type "type") = true
  fd : PySem.W.findCls K (.ref C) (.type "type") "__init__" = some (.val (.builtin "ValueError.__init__"))
def isVal (x : Option PySem.W.CFound) (v : Value) : Bool := match x with
  | some (.val u) => decide (u = v)
  | _ => false
theorem isVal_ok {x : Option PySem.W.CFound} {v : Value} (h : isVal x v = true) : x = some (.val v) := by
  cases x with
  | none => cases h
  | some c =>
    cases c with
    | val u => rw [of_decide_eq_true (show decide (u = v) = true from h)]
    | _ => cases h
def veInitB (K : PySem.W.Frag) (C : Addr) : Bool := He.eqO (PySem.W.specialIn K (.ref C) "__getattribute__") (some (some (.builtin "type.__getattribute__"))) && (PySem.W.readsIn K C (.type "type") && isVal (PySem.W.findCls K (.ref C) (.type "type") "__init__") (.builtin "ValueError.__init__"))
theorem veInitB_ok {K : PySem.W.Frag} {C : Addr} (h : veInitB K C = true) : VeInit K C := by
  obtain ⟨h1, h⟩ := He.ba h
  obtain ⟨h2, h3⟩ := He.ba h
  exact ⟨He.eqO_ok h1, h2, isVal_ok h3⟩
section
variable {X : Cx} {e : Expr} {es : List Expr} {ta : TA} {p1 p2 pos : Pos} {x : Str} {C0 : Addr}
/-- Base.__init__(self, ..), Base an own class whose __init__ is ValueError's -/
theorem pe_clsinit {pl : Sem Bool} (hg : Gl X x) (hm : X.mg x = some (.ref C0)) (B : VeInit X.K C0) (ha : PA X (e :: es) ta)
    (hc : eval (.Call (.Attribute (.Name x p1) "__init__" p2) (e :: es) [] pos) X.env = (do
      let ov ← eval (.Name x p1) X.env
      standAt p2.atName
      let (f, first) ← holding [ov] (getMethod ov "__init__" pl)
      callWith pos f first (backTo pos (starEach (e :: es) X.env)) (backToKw pos (keywordEach [] X.env))) := by rfl)
    (hd : (x == ("__debug__" : Str)) = false := by decide)
    (he : starEach (e :: es) X.env = (false, eval e X.env) :: starEach es X.env := by rfl) (hpl : (backTo pos (starEach es X.env)).any (·.1) = false := by rfl) :
    PE X (.Call (.Attribute (.Name x p1) "__init__" p2) (e :: es) [] pos) (tVeI X.K ta) := by
  constructor
  intro pins s σ H Q I h
  refine PySem.W.methodCall_KW (ld_glob I hg hm ?_ hd) hc
  refine PySem.W.method_cls I.kIn B.ga (PySem.W.cls_value I.kIn B.rd B.fd (by decide +kernel) ?_)
  show wpAny _ _ (callWith pos (Value.builtin "ValueError.__init__") [] (backTo pos (starEach (e :: es) X.env)) []) _ _ _
  refine PyProof.Rows.callWith_method1 (thn (ha.run pos pins _ σ H _ (I.tok _) h) fun us s1 hq => ?_) he hpl
  obtain ⟨vs, H1, J, r1, a, C, ws, rfl, hl, T, ea, q⟩ := hq
  cases r1 with
  | @cons _ u0 _ ur ra rw' =>
    obtain rfl : u0 = Value.ref a := ra
    have hlen : ur.length ≤ sizeLine := by
      rw [← Paired.length rw', sizeLine_eq]
      omega
    exact oinit_ok T J ea hlen fun s' J' => ⟨.non, H1, J', rfl, q⟩
end

/-! ### an error class with two fields -/
structure ErrC (K : PySem.W.Frag) (mg : Str → Option Value) (C f1 f2 : Str) : Prop where
  gl : mg C = some (.ref (He.ga K C))
  ox : OexC K (He.ga K C)
  xf : XfC K (He.ga K C)
  no1 : PySem.W.findIn K (.ref (He.ga K C)) f1 = some none
  no2 : PySem.W.findIn K (.ref (He.ga K C)) f2 = some none
  iC : PySem.W.findIn K (.ref (He.ga K C)) "__init__" = some (some (.ref (He.ma K (He.ga K C) "__init__")))
  tI : PySem.W.typeIn K (.ref (He.ma K (He.ga K C) "__init__")) = some (.type "function")
  te : PySem.W.exmOne K (.ref (He.ga K C)) (.ref (He.ga K C)) = some true
def errB (K : PySem.W.Frag) (C f1 f2 : Str) : Bool := oexB K (He.ga K C) && (xfB K (He.ga K C) && (He.eqO (PySem.W.findIn K (.ref (He.ga K C)) f1) (some none) && (He.eqO (PySem.W.findIn K (.ref (He.ga K C)) f2) (some none) &&
  (He.eqO (PySem.W.findIn K (.ref (He.ga K C)) "__init__") (some (some (.ref (He.ma K (He.ga K C) "__init__")))) && (decide (PySem.W.typeIn K (.ref (He.ma K (He.ga K C) "__init__")) = some (.type "function")) && decide (PySem.W.exmOne K (.ref (He.ga K C)) (.ref (He.ga K C)) = some true))))))
theorem errB_ok {K : PySem.W.Frag} {mg : Str → Option Value} {C f1 f2 : Str} (g : mg C = some (.ref (He.ga K C))) (h : errB K C f1 f2 = true) : ErrC K mg C f1 f2 := by
  obtain ⟨h1, h⟩ := He.ba h
  obtain ⟨h2, h⟩ := He.ba h
  obtain ⟨h3, h⟩ := He.ba h
  obtain ⟨h4, h⟩ := He.ba h
  obtain ⟨h5, h⟩ := He.ba h
  obtain ⟨h6, h7⟩ := He.ba h
  exact ⟨g, oexB_ok h1, xfB_ok h2, He.eqO_ok h3, He.eqO_ok h4, He.eqO_ok h5, of_decide_eq_true h6, of_decide_eq_true h7⟩
/-- what __init__ leaves: the two fields -/
def spInit (K : PySem.W.Frag) (f1 f2 : Str) : Sp := fun vs H Q _ => ∃ (a C : Addr) (x y : V), vs = [.ref a, x, y] ∧
  ((∃ n : Int, x = .int n ∧ -1 ≤ n ∧ n ≤ 1000000) ∨ ∃ z : Str, x = .str z ∧ z.length ≤ 1000) ∧ ((∃ n : Int, y = .int n ∧ -1 ≤ n ∧ n ≤ 1000000) ∨ ∃ z : Str, y = .str z ∧ z.length ≤ 1000) ∧
  OexC K C ∧ PySem.W.findIn K (.ref C) f1 = some none ∧ PySem.W.findIn K (.ref C) f2 = some none ∧ H a = some (exo a C none) ∧
  ∀ d, H d = none → d ≠ a → Q .non (upd (upd (upd H d (exd d [(f1, x)])) a (exo a C (some d))) d (exd d [(f2, y), (f1, x)]))
/-- what stood stands, behind a raised error -/
theorem sm_exc {H1 H2 : Hp} {a d : Addr} {fs : List (Str × V)} (h : ∀ b, b ≠ a → b ≠ d → H2 b = H1 b) (ha : H1 a = none) (hd : H1 d = none) : Sm H1 (upd (del H2 a) d (.xd fs)) := by
  have at_ : ∀ b o, H1 b = some o → upd (del H2 a) d (.xd fs) b = some o := fun b o e => by
    have n1 : b ≠ a := ne_of_none e ha
    have n2 : b ≠ d := ne_of_none e hd
    rw [upd_ne n2, del_ne n1, h b n1 n2]
    exact e
  exact ⟨fun b o e _ => at_ b o e, fun b ps e => ⟨ps, at_ b _ e, fun z => z⟩⟩
/-- a field of an error: a number or a short text -/
def Fld (x : V) : Prop := (∃ n : Int, x = .int n ∧ -1 ≤ n ∧ n ≤ 1000000) ∨ ∃ z : Str, x = .str z ∧ z.length ≤ 1000
/-- how the making of such an error reads: what its raising asks -/
theorem mk_read {K : PySem.W.Frag} {mg : Str → Option Value} {c f1 f2 : Str} {W : Value → Option Addr → Hp → Prop} {H1 : Hp} {x y : V} (R : ErrC K mg c f1 f2) (hx : Fld x) (hy : Fld y)
    (q : ∀ d H', Sm H1 H' → H1 d = none → H' d = some (.xd [(f2, y), (f1, x)]) → W (.ref (He.ga K c)) (some d) H') :
    [x, y].length ≤ 1000 ∧ ∀ a, H1 a = none → spInit K f1 f2 (.ref a :: ([x, y] ++ [])) (upd H1 a (exo a (He.ga K c) none))
      (fun v H2 => v = .non ∧ ∃ (d : Addr) (fs : List (Str × V)), H2 a = some (exo a (He.ga K c) (some d)) ∧ H2 d = some (exd d fs) ∧ H1 d = none ∧ W (.ref (He.ga K c)) (some d) (upd (del H2 a) d (.xd fs))) (fun _ _ _ => False) := by
  refine ⟨by show 2 ≤ 1000; decide, fun a ha => ⟨a, He.ga K c, x, y, rfl, hx, hy, R.ox, R.no1, R.no2, upd_same, fun d hd hda => ?_⟩⟩
  have hd1 : H1 d = none := by
    rw [upd_ne hda] at hd
    exact hd
  refine ⟨rfl, d, [(f2, y), (f1, x)], ?_, upd_same, hd1, q d _ (sm_exc (fun b n1 n2 => ?_) ha hd1) hd1 upd_same⟩
  · rw [upd_ne (Ne.symm hda), upd_same]
  · rw [upd_ne n2, upd_ne n1, upd_ne n2, upd_ne n1]
section
variable {P : Program} {w : World} {K : PySem.W.Frag} {mg : Str → Option Value} {base : Heap} {N : Names}
/-- THE RULE for a method of the list -/
theorem Top.okM {CX : CXT} {d : He.DefD} {c m : Str} {ps L : List Str} {k : Nat} {sp : Sp} (T : Top N K mg base) (i : Nat) (hi : N.fn[i]? = some d) (hat : d.at_ = (c, some m)) (hdf : d.dfl = []) (hkw : d.kwd = []) (S : FnScope L ps d.scope)
    (hb : ∀ (kV doc pm : Value) (an : Option Addr) (cdv ct : Value) (us : List Value), us.length = ps.length → bindArgs (PySem.W.fnOf d.name d.qual d.params d.body d.scope .none kV doc pm an cdv ct) ⟨us, []⟩ = pure (ps.zip us))
    (len : ∀ vs H Q E, sp vs H Q E → vs.length = ps.length)
    (hbody : ∀ (cdv : Value) (A : Around) (outer : List Env) (s : Shared) (H : Hp) (vs : List V) (Q : VK) (E : XK), Room k (A.deeper (envOfC d.qual d.scope s.heap.objs.size (He.ma K (He.ga K c) m) cdv)) → sp vs H Q E →
      ∃ t, PSs (cxOf CX P w K mg base L d.qual d.scope (He.ma K (He.ga K c) m) cdv A outer s H E) d.body t ∧ t { nx := fun _ H' => Q .non H', rt := Q } (start L vs) H) :
    ∃ fd, FnOk P w K mg base CX (k + 1) (He.ma K (He.ga K c) m) fd ps sp ∧ Binds K fd ps [] := by
  obtain ⟨fd, F⟩ := T.d.def_ i hi
  have e1 : d.dvs K = [] := by unfold He.DefD.dvs; rw [hdf]; rfl
  have e2 : d.kws K = [] := by unfold He.DefD.kws; rw [hkw]; rfl
  have e3 : He.fAd K d.at_ = He.ma K (He.ga K c) m := by rw [hat]; rfl
  rw [e1, e2, e3] at F
  refine ⟨fd, ?_, F.bindsN hb⟩
  obtain ⟨oc, od, dV, kV, doc, pm, an, cdv, ct, osl, rfl, lk, hcd, hD, _⟩ := F.ex
  exact fn_of lk hcd S len fun A outer s H vs Q E hr hsp => hbody cdv A outer s H vs Q E hr hsp
end
theorem fmt_len {n : Int} (h0 : -1 ≤ n) (h1 : n ≤ 1000000) : (Str.ofString (toString n)).length ≤ 7 := by
  by_cases h : n = -1
  · subst h
    decide +kernel
  · exact PyProof.Rows.toString_length_le (by omega) (by decide) (by omega)
/-- {x}, x a field of an error -/
theorem fmt_fld {x : V} (hx : Fld x) {S : Str → Prop} (q : ∀ y : Str, y.length ≤ 1000 → S y) :
    (∃ y : Str, x = .str y ∧ y.length ≤ sizeLine ∧ S y) ∨ ∃ i : Int, x = .int i ∧ i.natAbs.log2 < 1920 ∧ S (toString i) := by
  have big : (1000 : Nat) ≤ sizeLine := by decide
  rcases hx with ⟨n, rfl, h0, h1⟩ | ⟨z, rfl, hz⟩
  · refine .inr ⟨n, rfl, ?_, q _ (Nat.le_trans (fmt_len h0 h1) (by decide))⟩
    by_cases h : n.natAbs = 0
    · rw [h]
      decide
    · have h2 : n.natAbs.log2 < 64 := (Nat.log2_lt h).mpr (by omega)
      omega
  · exact .inl ⟨z, rfl, Nat.le_trans hz big, q _ hz⟩
end AS

set_option Elab.async false
set_option linter.all false
set_option maxRecDepth 100000
set_option maxHeartbeats 2000000
namespace AS
open PySem PySem.Spec PyProof.Rows L2
/-! ### enumerate(list, start=k) -/
section
variable {M : Model} {A : Around} {E : Value → Shared → Prop} {s : Shared}
theorem cw_type {pos : Pos} {T : String} {as : List (Bool × Sem Value)} {ks : List (Option Str × Sem Value)} {Q : Value → Shared → Prop}
    (n1 : as.any (·.1) = false) (n2 : ks.any (·.1.isNone) = false)
    (h : wpAny M A (evalArgs (.type T) true as ks) (fun a u => wpAny M A (call (.type T) a.pos a.kw) Q E u) E s) :
    wpAny M A (callWith pos (.type T) [] as ks) Q E s := by
  unfold callWith
  refine wpAny_bind (wpAny_holding (wpAny_mono h (fun a u g => wpAny_bind (wpAny_standAt ?_)) fun _ _ z => z))
  simp only [n1, n2, Bool.or_false]
  exact wpAny_bind (wpAny_pure (wpAny_bind (wpAny_mono g (fun r v hr => wpAny_bind (wpAny_holding (wpAny_point (wpAny_pure hr)))) fun _ _ z => z)))
end
/-- the list at a as it stands at each turn, each item behind its number, from k on -/
def ItE (K : PySem.W.Frag) (k : Int) (a : Addr) : It :=
  ⟨fun i H => ∃ (xs : List V) (x : V), SqL K H a xs ∧ xs[i]? = some x,
   fun i H v H' => ∃ T x, v = .ref T ∧ H T = none ∧ H' = upd H T (.tup [.int (k + (i : Nat)), x]) ∧ ∀ xs, SqL K H a xs → xs[i]? = some x,
   fun i H => ∃ xs : List V, SqL K H a xs ∧ xs.length = i⟩
theorem turn_enumK {P : Program} {w : World} {K : PySem.W.Frag} {elts : List Expr} {kk : Nat} {tpos : Pos} (k : Int) (a e it : Addr) (nea : e ≠ a) (nia : a ≠ it) :
    Turn P w K (.Tuple elts kk tpos) (ItE K k a) [e, it] e (fun i h => (∃ old, IsEnum h e it (k + (i : Nat)) old) ∧ h.IsListIter it a i ∧ e ≠ it) where
  mem := by simp
  obj := fun i h st b hb => by
    obtain ⟨⟨old, he⟩, ⟨o, ho, hc, hd⟩, _⟩ := st
    rcases List.mem_cons.mp hb with z | z
    · rw [z]
      exact ⟨_, he, fun v q => nomatch q⟩
    · rw [List.mem_singleton.mp z]
      exact ⟨o, ho, fun v q => by rw [hd] at q; cases q⟩
  keep := fun i h h' st kp => by
    obtain ⟨⟨old, he⟩, hi, hne⟩ := st
    exact ⟨⟨old, kp e (by simp) _ he⟩, hi.at fun o q => kp it (by simp) o q, hne⟩
  item := by
    intro X hP hw hK hc i pins s σ H E I hf st hg
    subst hP hw hK
    obtain ⟨⟨old, he⟩, hit, hne⟩ := st
    obtain ⟨xs, x, hq, hx⟩ := hg
    obtain ⟨its, rv, p, hz⟩ := I.list hq
    obtain ⟨u, hu, ru⟩ := rv.get hx
    have hlt : i < its.toArray.size := by
      have q := (List.getElem?_eq_some_iff.mp hu).1
      simpa using q
    have eL : e < s.heap.objs.size := Heap.lt_size he
    have iL : it < s.heap.objs.size := by
      obtain ⟨_, q, _⟩ := hit
      exact Heap.lt_size q
    have DD := Draws.list (prog := X.prog) (w := X.w) (A := X.A.in1) (I.ok.hd hc) it a nia its.toArray
    refine wpAny_pyNext_enum_itemC DD he ⟨hit, p.isList⟩ hlt hne (by simp [hne, nea]) fun y h' tk hy ho hst hT hsz hk => ?_
    have ey : y = u := by
      have z : its[i]? = some y := by simpa using hy
      rw [hu] at z
      exact (Option.some.inj z).symm
    subst ey
    refine ⟨_, rfl, wpAny_letOwnedTupleGo_enum (s := { s with heap := h', toks := tk + 1 }) ho fun h2 he2 sb => ?_⟩
    have hT2 : h2.get? s.heap.objs.size = some { cls := .type "tuple", data := .seq #[.int (k + (i : Nat)) tk, y] } := (sb.2 _ (Nat.ne_of_gt eL)).trans hT
    have fresh := I.hok.fresh (Nat.le_refl s.heap.objs.size)
    have new : ObjOk X.prog X.w (upd H s.heap.objs.size (.tup [.int (k + (i : Nat)), x])) h2 s.heap.objs.size (.tup [.int (k + (i : Nat)), x]) :=
      ⟨by show 2 ≤ sizeLine; decide, [.int (k + (i : Nat)) tk, y], .cons ⟨_, rfl⟩ (.cons ru .nil), ⟨_, hT2, rfl, _, rfl⟩⟩
    have J : Inv X pins σ (upd H s.heap.objs.size (.tup [.int (k + (i : Nat)), x])) { s with heap := h2, toks := tk + 1 } :=
      I.turnedNew (ch := [e, it]) (fun b ob hb q => (sb.2 b (fun z => hb (by simp [z]))).trans (hk b ob (fun z => hb (by simp [z])) (fun z => hb (by simp [z])) q)) hf (Nat.le_refl _) new
    refine ⟨.ref s.heap.objs.size, _, J, rfl, ⟨_, x, rfl, fresh, rfl, fun ys hys => by rw [I.list_inj hys hq]; exact hx⟩, ⟨⟨y, ?_⟩, hst.1.at fun o q => (sb.2 it (Ne.symm hne)).trans q, hne⟩, fun b hb => ?_⟩
    · have e1 : k + ((i + 1 : Nat) : Int) = k + (i : Int) + 1 := by omega
      rw [e1]
      exact he2
    · have hb' : b < s.heap.objs.size := by
        rcases List.mem_cons.mp hb with z | z
        · rw [z]; exact eL
        · rw [List.mem_singleton.mp z]; exact iL
      rw [upd_ne (Nat.ne_of_lt hb')]
      exact (hf b hb).1
  done := by
    intro X hP hw hK hc i pins s σ H E I hf st hg
    subst hP hw hK
    obtain ⟨⟨old, he⟩, hit, hne⟩ := st
    obtain ⟨xs, hq, hx⟩ := hg
    obtain ⟨its, rv, p, hz⟩ := I.list hq
    obtain ⟨f0, f1, f2, f3, f4, f5⟩ := hf it (by simp)
    have hl := rv.length
    have DD := Draws.list (prog := X.prog) (w := X.w) (A := X.A.in1) (I.ok.hd hc) it a nia its.toArray
    have hn : its.toArray.size = i := by simp; omega
    have hit2 : s.heap.IsListIter it a its.toArray.size := by rw [hn]; exact hit
    exact wpAny_pyNext_enum_endD DD he ⟨hit2, p.isList⟩ fun h' eb => ⟨rfl, I.turned (t' := s.toks) (fun b o hb q => eb b o hb q) f0 f1 f3 f4 f5⟩
  self := fun A i s Q E st h => by
    obtain ⟨⟨_, he⟩, _⟩ := st
    exact wpAny_pyIter_enum he h
def iEnumK (K : PySem.W.Frag) (ta tk : TA) : TI := fun σ H R => ta σ H fun vs H1 => tk σ H1 fun zs H2 => ∃ a xs k, vs = [.ref a] ∧ zs = [.int k] ∧ -(2 ^ 63) ≤ k ∧ k < 2 ^ 63 ∧ SqL K H2 a xs ∧ R (ItE K k a) H2
/-- for i, x in enumerate(xs, start=k), xs a list -/
theorem pi_enumK {X : Cx} {e : Expr} {ta tk : TA} {p pos tpos : Pos} {elts : List Expr} {kk : Nat} {kws : List Keyword} (hg : Gl X "enumerate") (hm : X.mg "enumerate" = none) (ha : PA X [e] ta) (hkw : PK X kws tk)
    (hall : (backToKw pos (keywordEach kws X.env)).all (·.1.isSome) = true := by rfl) (hks : (backToKw pos (keywordEach kws X.env)).filterMap (·.1) = [("start" : Str)] := by rfl)
    (he : starEach [e] X.env = (false, eval e X.env) :: starEach [] X.env := by rfl)
    (hpl : (backTo pos (starEach [e] X.env)).any (·.1) = false := by rfl) (hno : (backToKw pos (keywordEach kws X.env)).any (·.1.isNone) = false := by rfl) :
    PI X (.Tuple elts kk tpos) (.Call (.Name "enumerate" p) [e] kws pos) (iEnumK X.K ta tk) := by
  constructor
  intro pins s σ H R I h
  refine wpAny_Call_Name_kw (ld_blt I hg hm boot_enumerate (cw_type hpl hno ?_))
  have run := ha.run pos pins s σ H _ I h
  rw [he] at run ⊢
  refine PyProof.Rows.evalArgs_kwB hall (thn run fun us s1 r => ?_)
  obtain ⟨vs, H1, J, rv, q1⟩ := r
  refine thn (hkw.run pos pins s1 σ H1 _ J q1) fun ws s2 r2 => ?_
  obtain ⟨zs, H2, L, rz, a, xs, k, rfl, rfl, h0, h1, hq, q⟩ := r2
  rw [hks]
  cases rv with
  | @cons _ ua _ ur ra rt =>
    cases rt
    obtain rfl : ua = Value.ref a := ra
    cases rz with
    | @cons _ uk _ ul rk rl =>
      cases rl
      obtain ⟨t, rfl⟩ := (show ∃ t, uk = Value.int k t from rk)
      obtain ⟨its, rv2, p', hz⟩ := L.list hq
      have p'' : s2.heap.IsList a its.toArray := p'.isList
      have old : ∀ b o, s2.heap.get? b = some o → b < s2.heap.objs.size := fun b o q => Heap.lt_size q
      have al : a < s2.heap.objs.size := by
        obtain ⟨o, ho, _⟩ := p''
        exact old a o ho
      show wpAny _ _ (call (.type "enumerate") [.ref a] [(("start" : Str), .int k t)]) _ _ _
      refine enum_begins_start (begins_list a its.toArray) p'' h0 h1 fun h' hE hit hsz kp => wpAny_pyIter_enum hE ?_
      have J2 : Inv X pins σ H2 { s2 with heap := h' } := L.kept (t' := s2.toks) kp
      refine ⟨s2.heap.objs.size + 1, [s2.heap.objs.size + 1, s2.heap.objs.size], _, _, H2, rfl, J2,
        turn_enumK k a (s2.heap.objs.size + 1) s2.heap.objs.size (fun z => by rw [← z] at al; exact absurd al (Nat.not_lt.mpr (Nat.le_succ _))) (Nat.ne_of_lt al), ⟨⟨.none, ?_⟩, ⟨_, hit, rfl, rfl⟩, Nat.succ_ne_self _⟩, fun b hb => ?_, q⟩
      · have z : k + ((0 : Nat) : Int) = k := by omega
        rw [z]
        exact hE
      · have ge : s2.heap.objs.size ≤ b := by
          rcases List.mem_cons.mp hb with z | z
          · rw [z]
            exact Nat.le_succ _
          · rw [List.mem_singleton.mp z]
            exact Nat.le_refl _
        exact L.fpOk ge (L.hok.fresh ge)
/-- the bookkeeping of such a loop -/
theorem for_enumK {K : PySem.W.Frag} {k : Int} {a : Addr} {xs : List V} {g : TG} {tb : TS} {D : Ends} {σ : L2.St} {H : Hp} (Pv : Nat → L2.St → Hp → Prop) (h0 : Pv 0 σ H) (hl : ∀ i σ H, i ≤ xs.length → Pv i σ H → SqL K H a xs)
    (hs : ∀ (i : Nat) x T σ H, xs[i]? = some x → Pv i σ H → H T = none → g (.ref T) σ (upd H T (.tup [.int (k + (i : Nat)), x])) fun σ2 H2 => tb { D with nx := Pv (i + 1), ct := Pv (i + 1), bk := D.nx } σ2 H2)
    (hd : ∀ σ H, Pv xs.length σ H → D.nx σ H) :
    ∃ W : Nat → Nat → L2.St → Hp → Prop, (∃ m, W 0 m σ H) ∧ ∀ i m σ H, W i m σ H →
      ((ItE K k a).stop i H ∧ D.nx σ H) ∨ ((ItE K k a).go i H ∧ ∃ N : L2.St → Hp → Prop, (∀ σ' H', N σ' H' → ∃ m', m' < m ∧ W (i + 1) m' σ' H') ∧ ∀ x H', (ItE K k a).yld i H x H' → g x σ H' fun σ2 H2 => tb { D with nx := N, ct := N, bk := D.nx } σ2 H2) := by
  refine ⟨fun i m σ H => m = xs.length - i ∧ i ≤ xs.length ∧ Pv i σ H, ⟨_, rfl, Nat.zero_le _, h0⟩, ?_⟩
  intro i m σ H hW
  obtain ⟨em, hi, hp⟩ := hW
  have q := hl i σ H hi hp
  by_cases hlt : i < xs.length
  · refine .inr ⟨⟨xs, xs[i], q, List.getElem?_eq_getElem hlt⟩, Pv (i + 1), fun σ' H' hp' => ⟨xs.length - (i + 1), by omega, rfl, hlt, hp'⟩, fun x H' y => ?_⟩
    obtain ⟨T, z, rfl, nT, rfl, f⟩ := y
    exact hs i z T σ H (f xs q) hp nT
  · have e : i = xs.length := by omega
    subst e
    exact .inl ⟨⟨xs, q, rfl⟩, hd σ H hp⟩
end AS

set_option Elab.async false
set_option linter.all false
set_option maxRecDepth 100000
set_option maxHeartbeats 2000000
namespace AS
open PySem PySem.Spec PyProof.Rows He
/-- what the names reach in n steps, and the table of the interpreter's own statics: reading an attribute of a class looks there -/
def asY (g : Addr → Option Obj) (n : Nat) : List Addr := asD g n ++ [cStatics]
def obsY (n : Nat) (fa : List Fa) (fn : List DefD) (ts : List Tab) (tf : List Defn) (ex : PySem.W.Frag → Bool) (g : Addr → Option Obj) : AlX := (obsT fa fn ts (frT g (asY g n)), ex (frT g (asY g n)) && tabsB g tf (frT g (asY g n)))
theorem saysY_of {n : Nat} {fa : List Fa} {fn : List DefD} {ts : List Tab} {tf : List Defn} {ex : PySem.W.Frag → Bool} {w : World} {h : Heap} (e : obsY n fa fn ts tf ex h.get? = valX fn ts w) : SaysX fa fn ts tf ex w h (frT h.get? (asY h.get? n)) := by
  have e1 : obsT fa fn ts (frT h.get? (asY h.get? n)) = valT fn ts w := congrArg (fun z : AlX => z.1) e
  have e2 : (ex (frT h.get? (asY h.get? n)) && tabsB h.get? tf (frT h.get? (asY h.get? n))) = true := congrArg (fun z : AlX => z.2) e
  obtain ⟨h1, h2⟩ := ba e2
  have key : ∀ p ∈ tf, PySem.W.codeHdIn (frT h.get? (asY h.get? n)) (cT (frT h.get? (asY h.get? n)) p).1 (cT (frT h.get? (asY h.get? n)) p).2 = true ∧ ∃ o, h.get? (cT (frT h.get? (asY h.get? n)) p).2 = some o ∧ emptyTab o = true := fun p hp => by
    obtain ⟨h3, h4⟩ := ba (List.all_eq_true.mp h2 p hp)
    refine ⟨h3, ?_⟩
    cases q : h.get? (cT (frT h.get? (asY h.get? n)) p).2 with
    | none =>
      rw [q] at h4
      cases h4
    | some o =>
      rw [q] at h4
      exact ⟨o, rfl, h4⟩
  exact ⟨e1, h1, fun p hp => (key p hp).1, fun p hp => by
    obtain ⟨_, o, q, z⟩ := key p hp
    exact frT_none q z, fun p hp => by
    obtain ⟨_, o, q, z⟩ := key p hp
    rw [q, emptyTab_eq z]⟩
def hookY (n : Nat) (fa : List Fa) (fn : List DefD) (ts : List Tab) (tf : List Defn) (ex : PySem.W.Frag → Bool) : PySem.W.Hook where
  α := AlX
  obs := fun s => obsY n fa fn ts tf ex s.heap.get?
  val := fun w => valX fn ts w
  says := fun w h => ∃ K : PySem.W.Frag, K.In h ∧ SaysX fa fn ts tf ex w h K
  of := fun _ _ e => ⟨_, frT_in, saysY_of e⟩
  keeps := fun _ _ _ ⟨K, hK, c⟩ k => ⟨K, PySem.W.Frag.In.keeps hK k, ⟨c.t, c.more, c.hd, c.out, fun p hp => k _ _ (c.empty p hp)⟩⟩
theorem obsY_eq {n : Nat} {fa : List Fa} {fn : List DefD} {ts : List Tab} {tf : List Defn} {ex : PySem.W.Frag → Bool} {g : Addr → Option Obj} {s : Shared} (h : ∀ a, g a = s.heap.get? a) : obsY n fa fn ts tf ex g = (hookY n fa fn ts tf ex).obs s := by
  have e : g = s.heap.get? := funext h
  rw [e] <;> rfl
end AS

set_option Elab.async false
set_option linter.all false
set_option maxRecDepth 100000
set_option maxHeartbeats 4000000
namespace A5
open PySem PySem.Spec PyProof.Rows L2 AS
def top (i : Nat) : Stmt := PySem.Challenge.pw_authsync_k55_texts_of_logs.main.body.getD i (.Pass ⟨0, 0, 0, 0⟩)
abbrev sBadFeed_init : Stmt := inClass (top 2) 0
def dBadFeed_init : He.DefD := ⟨("BadFeed", some "__init__"), "__init__", "BadFeed.__init__", defArgs sBadFeed_init, defBody sBadFeed_init, defScope sBadFeed_init, [], []⟩
theorem scBadFeed_init : FnScope ["self", "line", "what"] ["self", "line", "what"] (defScope sBadFeed_init) := ⟨rfl, rfl, rfl, by decide +kernel, rfl, by decide +kernel, by decide +kernel⟩
abbrev s_is_word : Stmt := top 10
def d_is_word : He.DefD := ⟨("_is_word", none), "_is_word", "_is_word", defArgs s_is_word, defBody s_is_word, defScope s_is_word, [], []⟩
theorem sc_is_word : FnScope ["text"] ["text"] (defScope s_is_word) := ⟨rfl, rfl, rfl, by decide +kernel, rfl, by decide +kernel, by decide +kernel⟩
abbrev sis_identifier : Stmt := top 11
def dis_identifier : He.DefD := ⟨("is_identifier", none), "is_identifier", "is_identifier", defArgs sis_identifier, defBody sis_identifier, defScope sis_identifier, [], []⟩
theorem scis_identifier : FnScope ["text"] ["text"] (defScope sis_identifier) := ⟨rfl, rfl, rfl, by decide +kernel, rfl, by decide +kernel, by decide +kernel⟩
abbrev sis_object : Stmt := top 12
def dis_object : He.DefD := ⟨("is_object", none), "is_object", "is_object", defArgs sis_object, defBody sis_object, defScope sis_object, [], []⟩
theorem scis_object : FnScope ["text", "kind", "_", "rest"] ["text"] (defScope sis_object) := ⟨rfl, rfl, rfl, by decide +kernel, rfl, by decide +kernel, by decide +kernel⟩
abbrev sis_grant : Stmt := top 13
def dis_grant : He.DefD := ⟨("is_grant", none), "is_grant", "is_grant", defArgs sis_grant, defBody sis_grant, defScope sis_grant, [], []⟩
theorem scis_grant : FnScope ["target", "name", "subject"] ["target", "name", "subject"] (defScope sis_grant) := ⟨rfl, rfl, rfl, by decide +kernel, rfl, by decide +kernel, by decide +kernel⟩
abbrev sread_revision : Stmt := top 14
def dread_revision : He.DefD := ⟨("read_revision", none), "read_revision", "read_revision", defArgs sread_revision, defBody sread_revision, defScope sread_revision, [], []⟩
theorem scread_revision : FnScope ["text", "revision"] ["text"] (defScope sread_revision) := ⟨rfl, rfl, rfl, by decide +kernel, rfl, by decide +kernel, by decide +kernel⟩
abbrev swrite_log : Stmt := top 17
def dwrite_log : He.DefD := ⟨("write_log", none), "write_log", "write_log", defArgs swrite_log, defBody swrite_log, defScope swrite_log, [], []⟩
theorem scwrite_log : FnScope ["log", "line"] ["log"] (defScope swrite_log) := ⟨rfl, rfl, rfl, by decide +kernel, rfl, by decide +kernel, by decide +kernel⟩
abbrev sread_log : Stmt := top 18
def dread_log : He.DefD := ⟨("read_log", none), "read_log", "read_log", defArgs sread_log, defBody sread_log, defScope sread_log, [], []⟩
theorem scread_log : FnScope ["text", "log", "number", "line", "words", "client", "target", "name", "subject", "answer", "after", "before"] ["text"] (defScope sread_log) := ⟨rfl, rfl, rfl, by decide +kernel, rfl, by decide +kernel, by decide +kernel⟩
abbrev s_line_text : Stmt := top 19
def d_line_text : He.DefD := ⟨("_line_text", none), "_line_text", "_line_text", defArgs s_line_text, defBody s_line_text, defScope s_line_text, [], []⟩
theorem sc_line_text : FnScope ["client", "target", "name", "subject", "allowed", "after", "before", "answer"] ["client", "target", "name", "subject", "allowed", "after", "before"] (defScope s_line_text) := ⟨rfl, rfl, rfl, by decide +kernel, rfl, by decide +kernel, by decide +kernel⟩
abbrev s_is_line : Stmt := top 20
def d_is_line : He.DefD := ⟨("_is_line", none), "_is_line", "_is_line", defArgs s_is_line, defBody s_is_line, defScope s_is_line, [], []⟩
theorem sc_is_line : FnScope ["words", "client", "target", "name", "subject", "answer", "after", "before"] ["words"] (defScope s_is_line) := ⟨rfl, rfl, rfl, by decide +kernel, rfl, by decide +kernel, by decide +kernel⟩
abbrev s_law_cell : Stmt := top 22
def d_law_cell : He.DefD := ⟨("_law_cell", none), "_law_cell", "_law_cell", defArgs s_law_cell, defBody s_law_cell, defScope s_law_cell, [], []⟩
theorem sc_law_cell : FnScope ["script", "k"] ["script", "k"] (defScope s_law_cell) := ⟨rfl, rfl, rfl, by decide +kernel, rfl, by decide +kernel, by decide +kernel⟩
abbrev s_law_draws : Stmt := top 23
def d_law_draws : He.DefD := ⟨("_law_draws", none), "_law_draws", "_law_draws", defArgs s_law_draws, defBody s_law_draws, defScope s_law_draws, [], []⟩
theorem sc_law_draws : FnScope ["cell", "count", "found", "is_wide", "k", "mixed"] ["cell", "count"] (defScope s_law_draws) := ⟨rfl, rfl, rfl, by decide +kernel, rfl, by decide +kernel, by decide +kernel⟩
abbrev s_law_same : Stmt := top 24
def d_law_same : He.DefD := ⟨("_law_same", none), "_law_same", "_law_same", defArgs s_law_same, defBody s_law_same, defScope s_law_same, [], []⟩
theorem sc_law_same : FnScope ["actual", "expected", "k"] ["actual", "expected"] (defScope s_law_same) := ⟨rfl, rfl, rfl, by decide +kernel, rfl, by decide +kernel, by decide +kernel⟩
abbrev s_law_line : Stmt := top 25
def d_law_line : He.DefD := ⟨("_law_line", none), "_law_line", "_law_line", defArgs s_law_line, defBody s_law_line, defScope s_law_line, [], []⟩
theorem sc_law_line : FnScope ["cell", "rare", "draws", "odd", "parts"] ["cell", "rare"] (defScope s_law_line) := ⟨rfl, rfl, rfl, by decide +kernel, rfl, by decide +kernel, by decide +kernel⟩
abbrev s_law_read : Stmt := top 26
def d_law_read : He.DefD := ⟨("_law_read", none), "_law_read", "_law_read", defArgs s_law_read, defBody s_law_read, defScope s_law_read, [], []⟩
theorem sc_law_read : FnScope ["line", "parts"] ["line"] (defScope s_law_read) := ⟨rfl, rfl, rfl, by decide +kernel, rfl, by decide +kernel, by decide +kernel⟩
abbrev s_law_told : Stmt := top 27
def d_law_told : He.DefD := ⟨("_law_told", none), "_law_told", "_law_told", defArgs s_law_told, defBody s_law_told, defScope s_law_told, [], []⟩
theorem sc_law_told : FnScope ["text", "e"] ["text"] (defScope s_law_told) := ⟨rfl, rfl, rfl, by decide +kernel, rfl, by decide +kernel, by decide +kernel⟩
abbrev slaw : Stmt := top 28
def dlaw : He.DefD := ⟨("law", none), "law", "law", defArgs slaw, defBody slaw, defScope slaw, [], []⟩
theorem sclaw : FnScope ["script", "rare", "k", "lines", "found", "due", "line", "text", "told"] ["script"] (defScope slaw) := ⟨rfl, rfl, rfl, by decide +kernel, rfl, by decide +kernel, by decide +kernel⟩
abbrev iBadFeed_init : Nat := 0
abbrev i_is_word : Nat := 1
abbrev iis_identifier : Nat := 2
abbrev iis_object : Nat := 3
abbrev iis_grant : Nat := 4
abbrev iread_revision : Nat := 5
abbrev iwrite_log : Nat := 6
abbrev iread_log : Nat := 7
abbrev i_line_text : Nat := 8
abbrev i_is_line : Nat := 9
abbrev i_law_cell : Nat := 10
abbrev i_law_draws : Nat := 11
abbrev i_law_same : Nat := 12
abbrev i_law_line : Nat := 13
abbrev i_law_read : Nat := 14
abbrev i_law_told : Nat := 15
abbrev ilaw : Nat := 16
def NN : Names := {
  glos := ["AuthError", "BadFeed", "_is_word", "is_identifier", "is_object", "is_grant", "read_revision", "write_log", "read_log", "_line_text", "_is_line", "_law_cell", "_law_draws", "_law_same", "_law_line", "_law_read", "_law_told", "law"],
  frees := ["ValueError", "all", "bool", "enumerate", "int", "isinstance", "len", "list", "range", "str", "tuple"],
  txts := [("LETTERS", "abcdefghijklmnopqrstuvwxyz"), ("DIGITS", "0123456789"), ("WORD_SIGNS", "abcdefghijklmnopqrstuvwxyz0123456789_")],
  nums := [("WORD_LIMIT", 20), ("GREATEST_REVISION", 1000), ("REVISION_DIGITS", 4), ("WORDS_OF_A_LINE", 7)],
  fn := [dBadFeed_init, d_is_word, dis_identifier, dis_object, dis_grant, dread_revision, dwrite_log, dread_log, d_line_text, d_is_line, d_law_cell, d_law_draws, d_law_same, d_law_line, d_law_read, d_law_told, dlaw],
  tf := [("_is_word", none), ("read_revision", none)] }
end A5

set_option Elab.async false
set_option linter.all false
set_option maxRecDepth 100000
set_option maxHeartbeats 4000000
namespace A5
open PySem PySem.Spec PyProof.Rows L2 AS
/-! ### the mathematics of names -/
theorem iteB {b : Bool} {A B : Prop} (h1 : b = true → A) (h2 : b = false → B) : if b = true then A else B := by
  cases b with
  | true => exact iteT (h1 rfl)
  | false => exact iteF (h2 rfl)
theorem toBl {Q : VK} {b b' : Bool} {H : Hp} (e : b = b') (h : Q (.bl b') H) : Q (.bl b) H := by
  rw [e]
  exact h
abbrev tl (x : Str) : List Nat := x.cps.toList
def lettersS : Str := "abcdefghijklmnopqrstuvwxyz"
def digitsS : Str := "0123456789"
def signsS : Str := "abcdefghijklmnopqrstuvwxyz0123456789_"
def isWord (z : Str) : Bool := decide (1 ≤ z.length) && (decide (z.length ≤ 20) && (tl z).all fun c => decide (c ∈ tl signsS))
def headIn (z a : Str) : Bool := match tl z with
  | c :: _ => decide (c ∈ tl a)
  | [] => false
def isIdent (z : Str) : Bool := isWord z && headIn z lettersS
section
variable {P : Program} {w : World} {K : PySem.W.Frag} {mg : Str → Option Value} {base : Heap}
abbrev D (P : Program) (w : World) (K : PySem.W.Frag) (mg : Str → Option Value) (base : Heap) (k : Nat) (x : Str) (ps : List Str) (sp : Sp) : Prop := DOk P w K mg base CX0 k x ps sp
theorem ok_is_word (T : Top NN K mg base) : D P w K mg base 1 "_is_word" ["text"] (sp1 K NN.tf fun z => .bl (isWord z)) := by
  refine T.ok0 (d := d_is_word) i_is_word rfl rfl rfl rfl (by decide +kernel) sc_is_word (fun _ _ _ _ _ _ us hl => match us, hl with | [_], _ => rfl) sp1_len (fun cdv A outer s H vs Q E ec hr h => ?_)
  obtain ⟨z, rfl, hz, hT, q⟩ := h
  obtain ⟨t1, m1⟩ := T.i ("WORD_LIMIT", 20) (by decide +kernel)
  obtain ⟨t2, m2⟩ := T.s ("WORD_SIGNS", signsS) (by decide +kernel)
  have nl := T.f "len" (by decide +kernel)
  have na := T.f "all" (by decide +kernel)
  refine ⟨_, pss_one (ps_ret (pe_and (pe_chain op_le op_le pe_int (pe_callB call_len_str (by rfl) nl PySem.boot_len (pa_cons (pv 0) pa_nil)) (pe_glob (v := .int 20) rfl m1 ⟨_, rfl⟩))
    (pe_one (pe_allM (P := (He.cT K ("_is_word", none)).2) hr rfl na (T.tb ("_is_word", none) (by decide +kernel)) ec
      (gs_mk rfl rfl (by decide +kernel) rfl rfl (by decide +kernel)) (pv 0) (elt_in rfl rfl rfl m2) (fun _ => rfl))))), ?_⟩
  refine ⟨.str z, rfl, z, rfl, hz, 1, z.length, rfl, rfl, decide (1 ≤ (z.length : Int)), rfl, ?_⟩
  have e1 : decide (1 ≤ (z.length : Int)) = decide (1 ≤ z.length) := decide_eq_decide.mpr (by omega)
  have e2 : decide ((z.length : Int) ≤ 20) = decide (z.length ≤ 20) := decide_eq_decide.mpr (by omega)
  have fin : ∀ b, isWord z = b → Q (.bl b) H := fun b e => by
    rw [← e]
    exact q H (Sm.refl H)
  refine iteB (fun h1 => ?_) fun h1 => ?_
  · rw [e1] at h1
    refine ⟨z.length, 20, rfl, rfl, decide ((z.length : Int) ≤ 20), rfl, iteB (fun h2 => ?_) fun h2 => ?_⟩
    · rw [e2] at h2
      refine ⟨.str z, rfl, z, rfl, hT _ (by decide +kernel), fun H2 tb => ?_⟩
      have e3 : isWord z = (tl z).all fun c => decide (c ∈ tl signsS) := by
        unfold isWord
        rw [h1, h2]
        rfl
      rw [show (z.cps.toList.all fun c => decide (c ∈ tl signsS)) = isWord z from e3.symm]
      exact q H2 (Sm.tabbed (hT _ (by decide +kernel)) tb)
    · rw [e2] at h2
      exact fin _ (by unfold isWord; rw [h2, Bool.false_and, Bool.and_false])
  · rw [e1] at h1
    exact ⟨false, rfl, iteF (fin _ (by unfold isWord; rw [h1]; rfl))⟩
theorem ok_is_identifier (T : Top NN K mg base) : D P w K mg base 2 "is_identifier" ["text"] (sp1 K NN.tf fun z => .bl (isIdent z)) := by
  refine T.ok0 (d := dis_identifier) iis_identifier rfl rfl rfl rfl (by decide +kernel) scis_identifier (fun _ _ _ _ _ _ us hl => match us, hl with | [_], _ => rfl) sp1_len (fun cdv A outer s H vs Q E ec hr h => ?_)
  obtain ⟨z, rfl, hz, hT, q⟩ := h
  obtain ⟨t2, m2⟩ := T.s ("LETTERS", lettersS) (by decide +kernel)
  have G := ok_is_word (P := P) (w := w) T
  refine ⟨_, pss_one (ps_ret (pe_and (pe_callD G hr (pa_cons (pv 0) pa_nil)) (pe_one (pe_cmpR op_in_sign (pe_ix ix_str (pv 0) pe_int (fun _ _ => rfl)) (pe_glob (v := .str lettersS) rfl m2 ⟨_, rfl⟩) rfl)))), ?_⟩
  refine ⟨.str z, rfl, z, rfl, hz, hT, fun H1 s1 => ⟨isWord z, rfl, iteB (fun h1 => ?_) fun h1 => ?_⟩⟩
  · have h2 := h1
    unfold isWord at h2
    simp only [Bool.and_eq_true, decide_eq_true_eq] at h2
    obtain ⟨h3, _⟩ := h2
    cases e : tl z with
    | nil =>
      have e2 : z.length = (tl z).length := by simp [Str.length]
      rw [e] at e2
      rw [e2] at h3
      exact absurd h3 (by decide)
    | cons c r =>
      refine ⟨.str z, rfl, z, 0, c, rfl, rfl, hz, atI_nat (j := 0) (by show (tl z)[0]? = _; rw [e]; rfl), c, lettersS, rfl, rfl, ?_⟩
      have e3 : isIdent z = decide (c ∈ tl lettersS) := by
        unfold isIdent headIn
        rw [h1, e]
        rfl
      rw [show decide (c ∈ lettersS.cps.toList) = isIdent z from e3.symm]
      exact q H1 s1
  · have e3 : isIdent z = false := by
      unfold isIdent
      rw [h1]
      rfl
    rw [← e3]
    exact q H1 s1
/-! ### partition -/
abbrev colon : Str := ":"
abbrev hash : Str := "#"
abbrev atS : Str := "@"
theorem part_len (z y : Str) : (Txt.partition z y).1.length ≤ z.length ∧ (Txt.partition z y).2.1.length ≤ z.length ∧ (Txt.partition z y).2.2.length ≤ z.length := fact_partition z y
def isObj (z : Str) : Bool := isIdent (Txt.partition z colon).1 && isWord (Txt.partition z colon).2.2
def isRef (z : Str) : Bool := isObj (Txt.partition z hash).1 && (decide ((Txt.partition z hash).2.1 = Str.empty) || isIdent (Txt.partition z hash).2.2)
theorem ok_is_object (T : Top NN K mg base) : D P w K mg base 3 "is_object" ["text"] (sp1 K NN.tf fun z => .bl (isObj z)) := by
  refine T.ok0 (d := dis_object) iis_object rfl rfl rfl rfl (by decide +kernel) scis_object (fun _ _ _ _ _ _ us hl => match us, hl with | [_], _ => rfl) sp1_len (fun cdv A outer s H vs Q E ec hr h => ?_)
  obtain ⟨z, rfl, hz, hT, q⟩ := h
  have G1 := ok_is_identifier (P := P) (w := w) T
  have G2 := (ok_is_word (P := P) (w := w) T).mono (show 1 ≤ 2 by decide)
  obtain ⟨l1, l2, l3⟩ := part_len z colon
  refine ⟨_, pss_cons (ps_asg (pe_partition (pv 0) pe_str) (pg_tup (by rfl) (pgs_cons (pg_name (i := 1) scis_object.nd rfl (.inl rfl)) (pgs_cons (pg_name (i := 2) scis_object.nd rfl (.inl rfl)) (pgs_cons (pg_name (i := 3) scis_object.nd rfl (.inl rfl)) pgs_nil)))))
    (pss_one (ps_ret (pe_and (pe_callD G1 hr (pa_cons (pv 1) pa_nil)) (pe_one (pe_callD G2 hr (pa_cons (pv 3) pa_nil)))))), ?_⟩
  refine ⟨.str z, rfl, ⟨_, rfl⟩, z, colon, rfl, rfl, by decide +kernel, hz, fun p np => ?_⟩
  refine ⟨p, _, rfl, .inl (.inl upd_same), rfl, _, _, rfl, _, _, rfl, _, _, rfl, rfl, ?_⟩
  have s0 := Sm.new (o := .tup [.str (Txt.partition z colon).1, .str (Txt.partition z colon).2.1, .str (Txt.partition z colon).2.2]) np
  refine ⟨.str (Txt.partition z colon).1, rfl, _, rfl, Nat.le_trans l1 hz, s0.tabs hT, fun H1 s1 => ⟨_, rfl, iteB (fun h1 => ?_) fun h1 => ?_⟩⟩
  · refine ⟨.str (Txt.partition z colon).2.2, rfl, _, rfl, Nat.le_trans l3 hz, (s0.trans s1).tabs hT, fun H2 s2 => ?_⟩
    have e : isWord (Txt.partition z colon).2.2 = isObj z := by
      unfold isObj
      rw [h1, Bool.true_and]
    exact toBl e (q H2 ((s0.trans s1).trans s2))
  · have e : isObj z = false := by
      unfold isObj
      rw [h1, Bool.false_and]
    rw [← e]
    exact q H1 (s0.trans s1)
/-- a promise: one text, a new pair of texts -/
def spPair (K : PySem.W.Frag) (tf : List He.Defn) (f : Str → Str × Str) : Sp := fun vs H Q _ => ∃ z : Str, vs = [.str z] ∧ z.length ≤ sizeLine ∧ Tabs K tf H ∧ ∀ H' p, Sm H H' → H p = none → H' p = some (.tup [.str (f z).1, .str (f z).2]) → Q (.ref p) H'
theorem spPair_len {K : PySem.W.Frag} {tf : List He.Defn} {f : Str → Str × Str} {x : Str} : ∀ vs H Q E, spPair K tf f vs H Q E → vs.length = [x].length := fun vs H Q E h => by
  obtain ⟨z, rfl, _⟩ := h
  rfl
end
end A5

set_option Elab.async false
set_option linter.all false
set_option maxRecDepth 100000
set_option maxHeartbeats 4000000
namespace A5
open PySem PySem.Spec PyProof.Rows L2 AS
/-! ### revisions and tokens -/
def allDig (z : Str) : Bool := (tl z).all fun c => decide (c ∈ tl digitsS)
def zeroHead (z : Str) : Bool := match tl z with
  | c :: _ => decide (c = 48)
  | [] => false
def zeroS : Str := "0"
def readRev (z : Str) : Option Nat :=
  if (decide (1 ≤ z.length) && decide (z.length ≤ 4) && allDig z) = true then
    if (zeroHead z && !decide (z = zeroS)) = true then none else
      if NumText.digitsVal (tl z) ≤ 1000 then some (NumText.digitsVal (tl z)) else none
  else none
def revV : Option Nat → V
  | some n => .int n
  | none => .non
def splitTok (z : Str) : Option (Str × Nat) := match readRev (Txt.partition z atS).2.2 with
  | none => none
  | some n => if isIdent (Txt.partition z atS).1 = true then some ((Txt.partition z atS).1, n) else none
def tokS (s : Str) (n : Int) : Str := s ++ atS ++ toString n
theorem digits_tl : tl digitsS = [48, 49, 50, 51, 52, 53, 54, 55, 56, 57] := by decide +kernel
theorem allDig_digits {z : Str} (h : allDig z = true) : NumText.AllDigits (tl z) := fun c hc => by
  have h1 := of_decide_eq_true (List.all_eq_true.mp h c hc)
  rw [digits_tl] at h1
  simp only [List.mem_cons, List.not_mem_nil, or_false] at h1
  omega
theorem log2_small {n : Nat} (h : n < 2 ^ 64) : n.log2 < 1920 := by
  by_cases h0 : n = 0
  · subst h0
    decide
  · have h1 : n.log2 < 64 := (Nat.log2_lt h0).mpr h
    omega
theorem toZ {Q : VK} {v v' : V} {H : Hp} (e : v = v') (h : Q v' H) : Q v H := by
  rw [e]
  exact h
theorem len_tl (z : Str) : z.length = (tl z).length := by simp [Str.length]
section
variable {P : Program} {w : World} {K : PySem.W.Frag} {mg : Str → Option Value} {base : Heap}
theorem ok_read_revision (T : Top NN K mg base) : D P w K mg base 1 "read_revision" ["text"] (sp1 K NN.tf fun z => revV (readRev z)) := by
  refine T.ok0 (d := dread_revision) iread_revision rfl rfl rfl rfl (by decide +kernel) scread_revision (fun _ _ _ _ _ _ us hl => match us, hl with | [_], _ => rfl) sp1_len (fun cdv A outer s H vs Q E ec hr h => ?_)
  obtain ⟨z, rfl, hz, hT, q⟩ := h
  obtain ⟨t1, m1⟩ := T.i ("REVISION_DIGITS", 4) (by decide +kernel)
  obtain ⟨t2, m2⟩ := T.s ("DIGITS", digitsS) (by decide +kernel)
  obtain ⟨t3, m3⟩ := T.i ("GREATEST_REVISION", 1000) (by decide +kernel)
  have nl := T.f "len" (by decide +kernel)
  have na := T.f "all" (by decide +kernel)
  have ni := T.f "int" (by decide +kernel)
  have mP : GxR.TabG H (He.cT K ("read_revision", none)).2 := hT _ (by decide +kernel)
  refine ⟨_, pss_cons (ps_if (PW.pt (pw_or (pt_not (pt_chain op_le op_le pe_int (pe_callB call_len_str (by rfl) nl PySem.boot_len (pa_cons (pv 0) pa_nil)) (pe_glob (v := .int 4) rfl m1 ⟨_, rfl⟩)))
      (pw_or1 (pt_not (pt_val (pe_allM (P := (He.cT K ("read_revision", none)).2) hr rfl na (T.tb ("read_revision", none) (by decide +kernel)) ec
        (gs_mk rfl rfl (by decide +kernel) rfl rfl (by decide +kernel)) (pv 0) (elt_in rfl rfl rfl m2) (fun _ => rfl))))))) (pss_one (ps_ret pe_non)) pss_nil)
    (pss_cons (ps_if (PW.pt (pw_and (pt_cmpR op_eq (pe_ix ix_str (pv 0) pe_int (fun _ _ => rfl)) pe_str (nomark _)) (pw_and1 (pt_cmpR op_ne (pv 0) pe_str (nomark _))))) (pss_one (ps_ret pe_non)) pss_nil)
    (pss_cons (ps_set (i := 1) scread_revision.nd rfl (.inl rfl) (pe_callTy call_int_str (by rfl) ni (by decide +kernel) (pa_cons (pv 0) pa_nil)))
    (pss_one (ps_ret (pe_ifExp (pt_cmpR op_le (pv 1) (pe_glob (v := .int 1000) rfl m3 ⟨_, rfl⟩) (nomark _)) (pv 1) pe_non))))), ?_⟩
  refine ⟨.str z, rfl, z, rfl, hz, 1, z.length, rfl, rfl, decide (1 ≤ (z.length : Int)), rfl, ?_⟩
  have e1 : decide (1 ≤ (z.length : Int)) = decide (1 ≤ z.length) := decide_eq_decide.mpr (by omega)
  have e2 : decide ((z.length : Int) ≤ 4) = decide (z.length ≤ 4) := decide_eq_decide.mpr (by omega)
  have bad : (decide (1 ≤ z.length) && decide (z.length ≤ 4) && allDig z) = false → readRev z = none := fun e => by
    unfold readRev
    rw [e]
    exact if_neg Bool.false_ne_true
  refine iteB (fun h1 => ?_) fun h1 => ?_
  · rw [e1] at h1
    refine ⟨z.length, 4, rfl, rfl, decide ((z.length : Int) ≤ 4), rfl, ?_⟩
    show if (!decide ((z.length : Int) ≤ 4)) = true then _ else _
    rw [e2]
    refine iteB (fun h2 => ?_) fun h2 => ?_
    · have h3 : decide (z.length ≤ 4) = false := by
        rw [Bool.not_eq_true'] at h2
        exact h2
      exact iteT (toZ (v' := revV (readRev z)) (by rw [bad (by rw [h3, Bool.and_false, Bool.false_and])]; rfl) (q H (Sm.refl H)))
    · have h3 : decide (z.length ≤ 4) = true := by
        rw [Bool.not_eq_false'] at h2
        exact h2
      refine ⟨.str z, rfl, z, rfl, mP, fun H2 tb => ⟨_, rfl, ?_⟩⟩
      have s1 : Sm H H2 := Sm.tabbed mP tb
      show if (!allDig z) = true then _ else _
      refine iteB (fun h4 => ?_) fun h4 => ?_
      · have h5 : allDig z = false := by
          rw [Bool.not_eq_true'] at h4
          exact h4
        exact toZ (v' := revV (readRev z)) (by rw [bad (by rw [h5, Bool.and_false])]; rfl) (q H2 s1)
      · have h5 : allDig z = true := by
          rw [Bool.not_eq_false'] at h4
          exact h4
        have good : (decide (1 ≤ z.length) && decide (z.length ≤ 4) && allDig z) = true := by
          rw [h1, h3, h5]
          rfl
        have h6 : 1 ≤ z.length := of_decide_eq_true h1
        have h7 : z.length ≤ 4 := of_decide_eq_true h3
        obtain ⟨c, r, ez⟩ : ∃ c r, tl z = c :: r := by
          cases e : tl z with
          | nil =>
            rw [len_tl, e] at h6
            exact absurd h6 (by decide)
          | cons c r => exact ⟨c, r, rfl⟩
        -- if text[0] == '0' and text != '0'
        refine ⟨.str z, rfl, z, 0, c, rfl, rfl, hz, atI_nat (j := 0) (by show (tl z)[0]? = _; rw [ez]; rfl), rfl, _, rfl, ?_⟩
        have ec0 : decide (V.str (⟨#[c]⟩ : Str) = V.str zeroS) = zeroHead z := by
          unfold zeroHead
          rw [ez]
          show decide (V.str (⟨#[c]⟩ : Str) = V.str zeroS) = decide (c = 48)
          refine decide_eq_decide.mpr ⟨fun e => ?_, fun e => by rw [e]; rfl⟩
          have e9 := congrArg (fun y : Str => y.cps.toList) (V.str.inj e)
          have e10 : [c] = [48] := e9
          exact List.head_eq_of_cons_eq e10
        have go : (zeroHead z && !decide (z = zeroS)) = true → readRev z = none := fun e => by
          unfold readRev
          rw [if_pos good, if_pos e]
        have rest : (zeroHead z && !decide (z = zeroS)) = false → readRev z = if NumText.digitsVal (tl z) ≤ 1000 then some (NumText.digitsVal (tl z)) else none := fun e => by
          unfold readRev
          rw [if_pos good, if_neg (by rw [e]; exact Bool.false_ne_true)]
        have tail : readRev z = (if NumText.digitsVal (tl z) ≤ 1000 then some (NumText.digitsVal (tl z)) else none) →
            (tSeq (tAsg (tCB (fun xs H Q => ∃ a n, xs = [.str a] ∧ PySem.intText? a = some n ∧ a.length ≤ 640 ∧ Q (.int n) H) (tCons (tVar 0) tNil)) (gName 1)) (tRet (tIf (tTest (tOp (rI0 fun i j => .bl (decide (i ≤ j))) (tVar 1) (tC (.int 1000)))) (tVar 1) (tC .non)))) { nx := fun _ H' => Q .non H', rt := Q } (start ["text", "revision"] [.str z]) H2 := fun e => by
          have hv := intText_digits (x := z) (allDig_digits h5) (by show tl z ≠ []; rw [ez]; simp) (by omega)
          refine ⟨.str z, rfl, z, _, rfl, hv, by omega, ?_⟩
          refine ⟨_, rfl, _, 1000, rfl, rfl, _, rfl, iteB (fun g => ?_) fun g => ?_⟩
          · have g1 := of_decide_eq_true g
            refine ⟨_, rfl, toZ (v' := revV (readRev z)) ?_ (q H2 s1)⟩
            rw [e, if_pos (by exact Int.ofNat_le.mp g1)]
            rfl
          · have g1 := of_decide_eq_false g
            refine toZ (v' := revV (readRev z)) ?_ (q H2 s1)
            rw [e, if_neg (by intro z2; exact g1 (Int.ofNat_le.mpr z2))]
            rfl
        show if decide (V.str (⟨#[c]⟩ : Str) = V.str zeroS) = true then _ else _
        rw [ec0]
        refine iteB (fun g => ?_) fun g => ?_
        · refine ⟨.str z, rfl, rfl, _, rfl, ?_⟩
          have ez0 : decide (V.str z = V.str zeroS) = decide (z = zeroS) := decide_eq_decide.mpr ⟨V.str.inj, fun e => by rw [e]⟩
          show if (!decide (V.str z = V.str zeroS)) = true then _ else _
          rw [ez0]
          refine iteB (fun g2 => ?_) fun g2 => ?_
          · exact toZ (v' := revV (readRev z)) (by rw [go (by rw [g, g2]; rfl)]; rfl) (q H2 s1)
          · exact tail (rest (by rw [g2, Bool.and_false]))
        · exact iteF (tail (rest (by rw [g, Bool.false_and])))
  · rw [e1] at h1
    exact ⟨false, rfl, iteT (iteT (toZ (v' := revV (readRev z)) (by rw [bad (by rw [h1]; rfl)]; rfl) (q H (Sm.refl H))))⟩
/-- a promise: a text and a number, their token -/
def spTok (K : PySem.W.Frag) (tf : List He.Defn) : Sp := fun vs H Q _ => ∃ (z : Str) (n : Nat), vs = [.str z, .int n] ∧ z.length ≤ 100000 ∧ n ≤ 1000000 ∧ Q (.str (tokS z n)) H
theorem num_len {n : Nat} (h : n ≤ 1000000) : (toString (n : Int) : Str).length ≤ 7 := by
  have z := PyProof.Rows.toString_length_le (v := (n : Int)) (by omega) (show 0 < 7 by decide) (by omega)
  exact z
end
end A5

set_option Elab.async false
set_option linter.all false
set_option maxRecDepth 100000
set_option maxHeartbeats 4000000
namespace A5
open PySem PySem.Spec PyProof.Rows L2 AS
section
variable {P : Program} {w : World} {K : PySem.W.Frag} {mg : Str → Option Value} {base : Heap}
/-- a promise: one text, None or a new pair of a text and a number -/
def spTokSplit (K : PySem.W.Frag) (tf : List He.Defn) : Sp := fun vs H Q _ => ∃ z : Str, vs = [.str z] ∧ z.length ≤ sizeLine ∧ Tabs K tf H ∧
  (splitTok z = none → ∀ H', Sm H H' → Q .non H') ∧ ∀ a n, splitTok z = some (a, n) → ∀ H' p, Sm H H' → H p = none → H' p = some (.tup [.str a, .int (n : Nat)]) → Q (.ref p) H'
/-! ### the law's cells and draws -/
def spCell (K : PySem.W.Frag) : Sp := fun vs H Q _ => ∃ (a : Addr) (ns : List Int) (k : Nat), vs = [.ref a, .int k] ∧ SqL K H a (ns.map V.int) ∧ ns.length ≤ 63 ∧ Q (.int (ns.getD k 0)) H
theorem ok_law_cell (T : Top NN K mg base) : D P w K mg base 1 "_law_cell" ["script", "k"] (spCell K) := by
  refine T.ok0 (d := d_law_cell) i_law_cell rfl rfl rfl rfl (by decide +kernel) sc_law_cell (fun _ _ _ _ _ _ us hl => match us, hl with | [_, _], _ => rfl) (fun vs H Q E h => ?_) (fun cdv A outer s H vs Q E ec hr h => ?_)
  · obtain ⟨a, ns, k, rfl, _⟩ := h
    rfl
  · obtain ⟨a, ns, k, rfl, hS, hl, q⟩ := h
    have nl := T.f "len" (by decide +kernel)
    refine ⟨_, pss_cons (ps_if (pt_cmpR op_lt (pv 1) (pe_callB call_len_seq (by rfl) nl PySem.boot_len (pa_cons (pv 0) pa_nil)) (nomark _)) (pss_one (ps_ret (pe_ix ix_list (pv 0) (pv 1) (fun _ _ => rfl)))) pss_nil)
      (pss_one (ps_ret pe_int)), ?_⟩
    refine ⟨_, rfl, .ref a, rfl, a, _, rfl, .inl hS, k, _, rfl, rfl, _, rfl, iteB (fun h => ?_) fun h => ?_⟩
    · have h1 : (k : Int) < ((ns.map V.int).length : Int) := of_decide_eq_true h
      rw [List.length_map] at h1
      have h2 : k < ns.length := by omega
      refine ⟨.ref a, rfl, .int k, rfl, a, _, k, .int (ns.getD k 0), rfl, rfl, hS, atI_nat (j := k) ?_, q⟩
      rw [List.getElem?_map, List.getElem?_eq_getElem h2, List.getD_eq_getElem?_getD, List.getElem?_eq_getElem h2]
      rfl
    · have h1 : ¬ (k : Int) < ((ns.map V.int).length : Int) := of_decide_eq_false h
      rw [List.length_map] at h1
      have h2 : ns.length ≤ k := by omega
      have e : ns.getD k 0 = 0 := by rw [List.getD_eq_getElem?_getD, List.getElem?_eq_none h2]; rfl
      rw [e] at q
      exact q
def mixed (c : Int) (k : Nat) : Int := (c * 48271 + (0 + (k : Int)) * 69621) % 2147483647
/-- a promise: a cell and a count; a new list of so many numbers from 0 on, below 1000003 -/
def Drawn3 (n : Nat) (ds : List Int) : Prop := ds.length = n ∧ ∀ d ∈ ds, 0 ≤ d ∧ d < 1000003
def spDraws : Sp := fun vs H Q _ => ∃ (c : Int) (n : Nat), vs = [.int c, .int n] ∧ n ≤ 100 ∧ ∀ H' p ds, Drawn3 n ds → Sm H H' → H p = none → H' p = some (.lst (ds.map V.int)) → Q (.ref p) H'
theorem ok_law_draws (T : Top NN K mg base) : D P w K mg base 1 "_law_draws" ["cell", "count"] spDraws := by
  refine T.ok0 (d := d_law_draws) i_law_draws rfl rfl rfl rfl (by decide +kernel) sc_law_draws (fun _ _ _ _ _ _ us hl => match us, hl with | [_, _], _ => rfl) (fun vs H Q E h => ?_) (fun cdv A outer s H vs Q E ec hr h => ?_)
  · obtain ⟨a, k, rfl, _⟩ := h
    rfl
  · obtain ⟨c, n, rfl, hn, q⟩ := h
    have nr := T.f "range" (by decide +kernel)
    have ni := T.f "int" (by decide +kernel)
    refine ⟨_, pss_cons (ps_set (i := 2) sc_law_draws.nd rfl (.inl rfl) (pe_lst pa_nil))
      (pss_cons (ps_set (i := 3) sc_law_draws.nd rfl (.inl rfl) (pe_cmpR op_ge (pv 0) (pe_op op_pow pe_int pe_int) (nomark _)))
      (pss_cons (ps_for PassesOwn.never rfl (pi_range1 rfl nr (pa_cons (pv 1) pa_nil)) (pg_name (i := 4) sc_law_draws.nd rfl (.inl rfl))
        (pss_one (ps_if (pt_val (pv 3))
          (pss_cons (ps_expr (pe_bm PySem.F.plainAttrs_list PySem.F.slot_list_append PySem.F.type_list_append mt_append (pv 2) (pa_cons (pe_op op_mod (pe_callTy call_int1 (by rfl) ni (by decide +kernel) (pa_cons (pv 0) pa_nil)) pe_int) pa_nil)))
            (pss_one (ps_set (i := 0) sc_law_draws.nd rfl (.inl rfl) (pe_op op_fdivN (pv 0) pe_int))))
          (pss_cons (ps_set (i := 5) sc_law_draws.nd rfl (.inl rfl) (pe_op op_mod (pe_callTy call_int1 (by rfl) ni (by decide +kernel) (pa_cons (pe_op op_add (pe_op op_mul (pv 0) pe_int) (pe_op op_mul (pv 4) pe_int)) pa_nil)) pe_int))
            (pss_one (ps_expr (pe_bm PySem.F.plainAttrs_list PySem.F.slot_list_append PySem.F.type_list_append mt_append (pv 2) (pa_cons (pe_op op_mod (pe_callTy call_int1 (by rfl) ni (by decide +kernel) (pa_cons (pe_op op_add (pe_op op_add (pe_op op_mul (pv 5) (pv 5)) (pe_op op_mul (pv 0) pe_int)) (pv 4)) pa_nil)) pe_int) pa_nil))))))))
      (pss_one (ps_ret (pv 2))))), ?_⟩
    refine ⟨Nat.zero_le _, fun o no => ?_⟩
    refine ⟨_, rfl, 10, 18, rfl, rfl, ⟨by decide, by decide, by decide⟩, c, _, rfl, rfl, ?_⟩
    refine ⟨_, rfl, n, rfl, by omega, by omega, for_range (n := (n : Int).toNat) (fun i σ H' => ∃ (c' : Int) (y4 y5 : Option V) (wd : Bool) (ds : List Int), σ = [some (.int c'), some (.int n), some (.ref o), some (.bl wd), y4, y5] ∧ Drawn3 i ds ∧ Sm H H' ∧ H' o = some (.lst (ds.map V.int)))
      ⟨c, none, none, _, [], rfl, ⟨rfl, fun d hd => nomatch hd⟩, Sm.new no, upd_same⟩ (fun i σ H' hi hP => ?_) fun σ H' hP => ?_⟩
    · obtain ⟨c', y4, y5, wd, ds, rfl, ⟨dl, db⟩, sm, eo⟩ := hP
      have hlt : (ds.map V.int).length < sizeLine := by
        rw [List.length_map, dl]
        exact small1000 (by omega)
      have ex : ∀ e : Int, (0 ≤ e ∧ e < 1000003) → Drawn3 (i + 1) (ds ++ [e]) := fun e he => ⟨by rw [List.length_append, dl]; rfl, fun d hd => by
        rcases List.mem_append.mp hd with h | h
        · exact db d h
        · rw [List.mem_singleton.mp h]
          exact he⟩
      have em : ∀ e : Int, (ds.map V.int) ++ [.int e] = (ds ++ [e]).map V.int := fun e => by rw [List.map_append]; rfl
      have rd : ∀ b : Int, 0 ≤ b % 1000003 ∧ b % 1000003 < 1000003 := fun b => ⟨Int.emod_nonneg b (by decide), Int.emod_lt_of_pos b (by decide)⟩
      refine ⟨_, rfl, wd, rfl, iteB (fun h => ?_) fun h => ?_⟩
      · refine ⟨.ref o, rfl, .inl ⟨rfl, _, .inl (.inl eo)⟩, .int c', rfl, .inl ⟨c', rfl, ?_⟩⟩
        refine ⟨c', 1009, rfl, rfl, by show (0 : Int) < 1009; decide, o, _, _, rfl, rfl, eo, hlt, ?_⟩
        refine ⟨.int c', rfl, c', 1009, rfl, rfl, ⟨by decide, by decide⟩, ?_⟩
        have r1 : 0 ≤ c' % 1009 ∧ c' % 1009 < 1000003 := ⟨Int.emod_nonneg c' (by decide), by have := Int.emod_lt_of_pos c' (show (0 : Int) < 1009 by decide); omega⟩
        refine ⟨_, _, _, _, ds ++ [c' % 1009], rfl, ex _ r1, sm.put no, ?_⟩
        rw [← em]
        exact upd_same
      · refine ⟨.int c', rfl, c', 48271, rfl, rfl, .inr ⟨by decide, by decide⟩, .int (0 + i), rfl, _, 69621, rfl, rfl, .inr ⟨by decide, by decide⟩, _, _, rfl, rfl, .inl ⟨_, rfl, _, 2147483647, rfl, rfl, by show (0 : Int) < 2147483647; decide, ?_⟩⟩
        have m1 : 0 ≤ mixed c' i := Int.emod_nonneg _ (by decide)
        have m2 : mixed c' i < 2147483647 := Int.emod_lt_of_pos _ (by decide)
        refine ⟨.ref o, rfl, .inl ⟨rfl, _, .inl (.inl eo)⟩, .int (mixed c' i), rfl, .int (mixed c' i), rfl, mixed c' i, mixed c' i, rfl, rfl, .inl ⟨by omega, by omega⟩, .int c', rfl, c', 31, rfl, rfl, .inr ⟨by decide, by decide⟩, _, _, rfl, rfl, .int (0 + i), rfl, _, _, rfl, rfl,
          .inl ⟨_, rfl, _, 1000003, rfl, rfl, by show (0 : Int) < 1000003; decide, o, _, _, rfl, rfl, eo, hlt, ?_⟩⟩
        refine ⟨_, _, _, _, ds ++ [(mixed c' i * mixed c' i + c' * 31 + (0 + (i : Int))) % 1000003], rfl, ex _ (rd _), sm.put no, ?_⟩
        rw [← em]
        exact upd_same
    · obtain ⟨c', y4, y5, wd, ds, rfl, hd, sm, eo⟩ := hP
      have e : (n : Int).toNat = n := by omega
      rw [e] at hd
      exact ⟨_, rfl, q H' o ds hd sm no eo⟩
end
end A5

set_option Elab.async false
set_option linter.all false
set_option maxRecDepth 100000
set_option maxHeartbeats 4000000
namespace A5
open PySem PySem.Spec PyProof.Rows L2 AS
/-! ### _law_same of equal data -/
def EqD (H : Hp) : Nat → V → V → Prop
  | 0, _, _ => False
  | d + 1, x, y => (x = y ∧ ((∃ z, x = .str z) ∨ (∃ i, x = .int i) ∨ x = .non ∨ ∃ b, x = .bl b)) ∨
      ∃ (a b : Addr) (xs ys : List V), x = .ref a ∧ y = .ref b ∧ H a = some (.tup xs) ∧ H b = some (.tup ys) ∧ xs.length = ys.length ∧ ys.length ≤ 1000 ∧ ∀ (i : Nat) (u v : V), xs[i]? = some u → ys[i]? = some v → EqD H d u v
def spSame (d : Nat) : Sp := fun vs H Q _ => ∃ x y, vs = [x, y] ∧ EqD H d x y ∧ Q (.bl true) H
section
variable {P : Program} {w : World} {K : PySem.W.Frag} {mg : Str → Option Value} {base : Heap}
theorem spSame_len {d : Nat} : ∀ vs H Q E, spSame d vs H Q E → vs.length = [("actual" : Str), "expected"].length := fun vs H Q E h => by
  obtain ⟨x, y, rfl, _⟩ := h
  rfl
theorem same0 (T : Top NN K mg base) : D P w K mg base 0 "_law_same" ["actual", "expected"] (spSame 0) := by
  have G : D P w K mg base 1 "_law_same" ["actual", "expected"] (spSame 0) := by
    refine T.ok0 (d := d_law_same) i_law_same rfl rfl rfl rfl (by decide +kernel) sc_law_same (fun _ _ _ _ _ _ us hl => match us, hl with | [_, _], _ => rfl) spSame_len (fun cdv A outer s H vs Q E ec hr h => ?_)
    obtain ⟨x, y, _, z, _⟩ := h
    exact z.elim
  obtain ⟨⟨fd, F, b⟩, kp, gl⟩ := G
  exact ⟨⟨fd, ⟨spSame_len, fun A outer s H args us vs Q E hr he hb hv hs => by
    obtain ⟨x, y, _, z, _⟩ := hs
    exact z.elim⟩, b⟩, kp, gl⟩
theorem ok_law_same (T : Top NN K mg base) : ∀ d, D P w K mg base d "_law_same" ["actual", "expected"] (spSame d)
  | 0 => same0 T
  | d + 1 => by
    have G := ok_law_same T d
    refine T.ok0 (d := d_law_same) i_law_same rfl rfl rfl rfl (by decide +kernel) sc_law_same (fun _ _ _ _ _ _ us hl => match us, hl with | [_, _], _ => rfl) spSame_len (fun cdv A outer s H vs Q E ec hr h => ?_)
    obtain ⟨x, y, rfl, he, q⟩ := h
    have ni := T.f "isinstance" (by decide +kernel)
    have nt := T.f "tuple" (by decide +kernel)
    have nb := T.f "bool" (by decide +kernel)
    have ns := T.f "str" (by decide +kernel)
    have nn := T.f "int" (by decide +kernel)
    have nl := T.f "len" (by decide +kernel)
    have nr := T.f "range" (by decide +kernel)
    refine ⟨_, pss_cons (ps_if (pt_val (pe_callB call_isi (by rfl) ni (by decide +kernel) (pa_cons (pv 1) (pa_cons (pe_bltn (v := .ty "tuple") (by rfl) nt (by decide +kernel) rfl) pa_nil))))
        (pss_cons (ps_if (PW.pt (pw_or (pt_not (pt_val (pe_callB call_isi (by rfl) ni (by decide +kernel) (pa_cons (pv 0) (pa_cons (pe_bltn (v := .ty "tuple") (by rfl) nt (by decide +kernel) rfl) pa_nil)))))
            (pw_or1 (pt_cmpR op_ne (pe_callB call_len_seq (by rfl) nl PySem.boot_len (pa_cons (pv 0) pa_nil)) (pe_callB call_len_seq (by rfl) nl PySem.boot_len (pa_cons (pv 1) pa_nil)) (nomark _))))) (pss_one (ps_ret pe_bl)) pss_nil)
        (pss_cons (ps_for PassesOwn.never rfl (pi_range1 rfl nr (pa_cons (pe_callB call_len_seq (by rfl) nl PySem.boot_len (pa_cons (pv 1) pa_nil)) pa_nil)) (pg_name (i := 2) sc_law_same.nd rfl (.inl rfl))
            (pss_one (ps_if (pt_not (pt_val (pe_callD G hr (pa_cons (pe_ix ix_tup (pv 0) (pv 2) (fun _ _ => rfl)) (pa_cons (pe_ix ix_tup (pv 1) (pv 2) (fun _ _ => rfl)) pa_nil))))) (pss_one (ps_ret pe_bl)) pss_nil)))
        (pss_one (ps_ret pe_bl)))) pss_nil)
      (pss_cons (ps_if (pt_cmpR op_isN (pv 1) pe_non (nomark _)) (pss_one (ps_ret (pe_cmpR op_isN (pv 0) pe_non (nomark _)))) pss_nil)
      (pss_cons (ps_if (pt_val (pe_callB call_isi (by rfl) ni (by decide +kernel) (pa_cons (pv 1) (pa_cons (pe_bltn (v := .ty "bool") (by rfl) nb (by decide +kernel) rfl) pa_nil))))
        (pss_one (ps_ret (pe_and (pe_callB call_isi (by rfl) ni (by decide +kernel) (pa_cons (pv 0) (pa_cons (pe_bltn (v := .ty "bool") (by rfl) nb (by decide +kernel) rfl) pa_nil))) (pe_one (pe_cmpR op_eq (pv 0) (pv 1) (nomark _)))))) pss_nil)
      (pss_cons (ps_if (pt_val (pe_callB call_isi (by rfl) ni (by decide +kernel) (pa_cons (pv 1) (pa_cons (pe_bltn (v := .ty "str") (by rfl) ns (by decide +kernel) rfl) pa_nil))))
        (pss_one (ps_ret (pe_and (pe_callB call_isi (by rfl) ni (by decide +kernel) (pa_cons (pv 0) (pa_cons (pe_bltn (v := .ty "str") (by rfl) ns (by decide +kernel) rfl) pa_nil))) (pe_one (pe_cmpR op_eq (pv 0) (pv 1) (nomark _)))))) pss_nil)
      (pss_one (ps_ret (pe_and (pe_callB call_isi (by rfl) ni (by decide +kernel) (pa_cons (pv 0) (pa_cons (pe_bltn (v := .ty "int") (by rfl) nn (by decide +kernel) rfl) pa_nil)))
        (pe_and (pe_not (pe_callB call_isi (by rfl) ni (by decide +kernel) (pa_cons (pv 0) (pa_cons (pe_bltn (v := .ty "bool") (by rfl) nb (by decide +kernel) rfl) pa_nil)))) (pe_one (pe_cmpR op_eq (pv 0) (pv 1) (nomark _)))))))))), ?_⟩
    rcases he with ⟨rfl, hs⟩ | ⟨a, b, xs, ys, rfl, rfl, ha, hb, hl, hy, hi⟩
    · rcases hs with ⟨z, rfl⟩ | ⟨i, rfl⟩ | rfl | ⟨b, rfl⟩
      · -- a text
        refine ⟨.str z, rfl, .str z, .ty "tuple", _, _, false, rfl, .ty _, .base (.str z), kit_ty (by decide +kernel), false, rfl, iteF ?_⟩
        refine ⟨.str z, rfl, rfl, false, rfl, iteF ?_⟩
        refine ⟨.str z, rfl, .str z, .ty "bool", _, _, false, rfl, .ty _, .base (.str z), kit_ty (by decide +kernel), false, rfl, iteF ?_⟩
        refine ⟨.str z, rfl, .str z, .ty "str", _, _, true, rfl, .ty _, .base (.str z), kit_ty (by decide +kernel), true, rfl, iteT ?_⟩
        refine ⟨.str z, rfl, .str z, .ty "str", _, _, true, rfl, .ty _, .base (.str z), kit_ty (by decide +kernel), true, rfl, iteT ?_⟩
        exact ⟨.str z, rfl, .str z, rfl, rfl, toBl (decide_eq_true rfl) q⟩
      · -- a number
        refine ⟨.int i, rfl, .int i, .ty "tuple", _, _, false, rfl, .ty _, .base (.int i), kit_ty (by decide +kernel), false, rfl, iteF ?_⟩
        refine ⟨.int i, rfl, rfl, false, rfl, iteF ?_⟩
        refine ⟨.int i, rfl, .int i, .ty "bool", _, _, false, rfl, .ty _, .base (.int i), kit_ty (by decide +kernel), false, rfl, iteF ?_⟩
        refine ⟨.int i, rfl, .int i, .ty "str", _, _, false, rfl, .ty _, .base (.int i), kit_ty (by decide +kernel), false, rfl, iteF ?_⟩
        refine ⟨.int i, rfl, .int i, .ty "int", _, _, true, rfl, .ty _, .base (.int i), kit_ty (by decide +kernel), true, rfl, iteT ?_⟩
        refine ⟨.int i, rfl, .int i, .ty "bool", _, _, false, rfl, .ty _, .base (.int i), kit_ty (by decide +kernel), false, rfl, true, rfl, iteT ?_⟩
        exact ⟨.int i, rfl, .int i, rfl, rfl, toBl (decide_eq_true rfl) q⟩
      · -- None
        refine ⟨.non, rfl, .non, .ty "tuple", _, _, false, rfl, .ty _, .base .non, kit_ty (by decide +kernel), false, rfl, iteF ?_⟩
        refine ⟨.non, rfl, rfl, true, rfl, iteT ?_⟩
        exact ⟨.non, rfl, rfl, toBl (decide_eq_true rfl) q⟩
      · -- True, False
        refine ⟨.bl b, rfl, .bl b, .ty "tuple", _, _, false, rfl, .ty _, .base (.bl b), kit_ty (by decide +kernel), false, rfl, iteF ?_⟩
        refine ⟨.bl b, rfl, rfl, false, rfl, iteF ?_⟩
        refine ⟨.bl b, rfl, .bl b, .ty "bool", _, _, true, rfl, .ty _, .base (.bl b), kit_ty (by decide +kernel), true, rfl, iteT ?_⟩
        refine ⟨.bl b, rfl, .bl b, .ty "bool", _, _, true, rfl, .ty _, .base (.bl b), kit_ty (by decide +kernel), true, rfl, iteT ?_⟩
        exact ⟨.bl b, rfl, .bl b, rfl, rfl, toBl (decide_eq_true rfl) q⟩
    · refine ⟨.ref b, rfl, .ref b, .ty "tuple", _, _, true, rfl, .ty _, .base (.tup hb), kit_ty (by decide +kernel), true, rfl, iteT ?_⟩
      refine ⟨.ref a, rfl, .ref a, .ty "tuple", _, _, true, rfl, .ty _, .base (.tup ha), kit_ty (by decide +kernel), true, rfl, iteF ?_⟩
      refine ⟨.ref a, rfl, a, xs, rfl, .inr (.inl (.inl ha)), .ref b, rfl, b, ys, rfl, .inr (.inl (.inl hb)), rfl, false, ?_, iteF ?_⟩
      · show V.bl (!decide (V.int (xs.length : Int) = V.int (ys.length : Int))) = V.bl false
        rw [hl, decide_eq_true rfl]
        rfl
      · refine ⟨.ref b, rfl, b, ys, rfl, .inr (.inl (.inl hb)), _, rfl, by omega, by omega, for_range (n := ((ys.length : Nat) : Int).toNat) (fun i σ H' => H' = H ∧ ∃ u, σ = [some (.ref a), some (.ref b), u]) ⟨rfl, none, rfl⟩ (fun i σ H' hlt hP => ?_) fun σ H' hP => ?_⟩
        · obtain ⟨rfl, u, rfl⟩ := hP
          have h1 : i < ys.length := by omega
          have h2 : i < xs.length := by omega
          have z : (0 : Int) + (i : Int) = (i : Int) := by omega
          refine ⟨.ref a, rfl, .int (0 + i), rfl, a, xs, _, xs[i], rfl, rfl, .inl (.inl ha), by rw [z]; exact atI_nat (List.getElem?_eq_getElem h2), ?_⟩
          refine ⟨.ref b, rfl, .int (0 + i), rfl, b, ys, _, ys[i], rfl, rfl, .inl (.inl hb), by rw [z]; exact atI_nat (List.getElem?_eq_getElem h1), ?_⟩
          exact ⟨xs[i], ys[i], rfl, hi i _ _ (List.getElem?_eq_getElem h2) (List.getElem?_eq_getElem h1), true, rfl, iteF ⟨rfl, _, rfl⟩⟩
        · obtain ⟨rfl, u, rfl⟩ := hP
          exact q
end
end A5

set_option Elab.async false
set_option linter.all false
set_option maxRecDepth 100000
set_option maxHeartbeats 4000000
namespace A5
open PySem PySem.Spec PyProof.Rows L2 AS
section
variable {P : Program} {w : World} {K : PySem.W.Frag} {mg : Str → Option Value} {base : Heap}
theorem ok_BadFeed_init (T : Top NN K mg base) (B : VeInit K (He.ga K "AuthError")) : ∃ fd, FnOk P w K mg base CX0 1 (He.ma K (He.ga K "BadFeed") "__init__") fd ["self", "line", "what"] (spInit K "line" "what") ∧ Binds K fd ["self", "line", "what"] [] := by
  have gA := T.g "AuthError" (by decide +kernel)
  refine T.okM (d := dBadFeed_init) iBadFeed_init rfl rfl rfl rfl scBadFeed_init (fun _ _ _ _ _ _ us hl => match us, hl with | [_, _, _], _ => rfl) (fun vs H Q E h => ?_) (fun cdv A outer s H vs Q E hr h => ?_)
  · obtain ⟨a, C, x, y, rfl, _⟩ := h
    rfl
  · obtain ⟨a, C, x, y, rfl, hx, hy, ox, n1, n2, ha, q⟩ := h
    refine ⟨_, PSs.nox (pss_cons (ps_expr (pe_clsinit rfl gA B (pa_cons (pv 0) (pa_cons (pe_joined (PJ.cons pe_str (PJ.cons (pe_fmt (pv 1)) (PJ.cons pe_str (PJ.cons (pe_fmt (pv 2)) PJ.nil))))) pa_nil))))
      (pss_cons (ps_ost (pv 0) (pv 1)) (pss_one (ps_ost (pv 0) (pv 2))))), ?_⟩
    have big : (10000 : Nat) ≤ sizeLine := by decide
    have la : ∀ (x y : Str), (x ++ y).length = x.length + y.length := fun x y => Str.length_append x y
    have ex : ∀ (u v : Str) (m n : Nat), u.length ≤ m → v.length ≤ n → (u ++ v).length ≤ m + n := fun u v m n h1 h2 => by
      rw [la]
      omega
    refine ⟨.ref a, rfl, _, rfl, by decide +kernel, x, rfl, ?_⟩
    dsimp only
    refine fmt_fld hx fun l hl => ?_
    have b1 : (Str.empty ++ "line " : Str).length ≤ 5 := by decide +kernel
    have b2 := ex _ l 5 1000 b1 hl
    have b3 := ex _ (": " : Str) _ 2 b2 (by decide +kernel)
    refine ⟨l, rfl, Nat.le_trans b2 (by omega), _, rfl, Nat.le_trans b3 (by omega), y, rfl, ?_⟩
    dsimp only
    refine fmt_fld hy fun t ht => ?_
    have b4 := ex _ t _ 1000 b3 ht
    refine ⟨t, rfl, Nat.le_trans b4 (by omega), a, C, _, rfl, by show 1 ≤ 1000; decide, ox, ha, ?_⟩
    -- self.line = line
    refine ⟨x, rfl, .ref a, rfl, a, C, rfl, ox, n1, .inl ⟨ha, fun d hd hda => ?_⟩⟩
    -- self.what = what
    refine ⟨y, rfl, .ref a, rfl, a, C, rfl, ox, n2, .inr ⟨d, [("line", x)], upd_same, by rw [upd_ne hda]; exact upd_same, by show 1 ≤ 900; decide, q d hd hda⟩⟩
end
end A5

set_option Elab.async false
set_option linter.all false
set_option maxRecDepth 100000
set_option maxHeartbeats 4000000
namespace A5
open PySem PySem.Spec PyProof.Rows L2 AS
theorem inV_str (a : Str) : ∀ l : List Str, inV (.str a) (l.map V.str) = decide (a ∈ l)
  | [] => rfl
  | b :: r => by
    have ih := inV_str a r
    unfold inV at ih ⊢
    rw [List.map_cons, List.any_cons, ih]
    have e : eqV (.str b) (.str a) = decide (a = b) := by
      show (b == a) = decide (a = b)
      rw [Bool.eq_iff_iff]
      exact ⟨fun h => decide_eq_true (eq_of_beq h).symm, fun h => by rw [of_decide_eq_true h]; exact beq_self_eq_true b⟩
    rw [e]
    by_cases h : a = b
    · subst h
      simp
    · simp [h]
theorem flat_strs : ∀ l : List Str, (l.map V.str).all flatV = true
  | [] => rfl
  | _ :: r => flat_strs r
def yesS : Str := "yes"
def noS : Str := "no"
def isGrant (t n s : Str) : Bool := isObj t && (isIdent n && isObj s)
def isLine : List Str → Bool
  | [c, t, n, s, a, af, be] => isIdent c && (isGrant t n s && (decide (a ∈ [yesS, noS]) && ((readRev af).isSome && (readRev be).isSome)))
  | _ => false
theorem isLine7 (c t n s a af be : Str) : isLine [c, t, n, s, a, af, be] = (isIdent c && (isGrant t n s && (decide (a ∈ [yesS, noS]) && ((readRev af).isSome && (readRev be).isSome)))) := rfl
def spGrant (K : PySem.W.Frag) (tf : List He.Defn) : Sp := fun vs H Q _ => ∃ t n s : Str, vs = [.str t, .str n, .str s] ∧ t.length ≤ sizeLine ∧ n.length ≤ sizeLine ∧ s.length ≤ sizeLine ∧ Tabs K tf H ∧ ∀ H', Sm H H' → Q (.bl (isGrant t n s)) H'
def spIsLine (K : PySem.W.Frag) (tf : List He.Defn) : Sp := fun vs H Q _ => ∃ (p : Addr) (ws : List Str), vs = [.ref p] ∧ SqL K H p (ws.map V.str) ∧ (∀ w ∈ ws, w.length ≤ sizeLine) ∧ Tabs K tf H ∧ ∀ H', Sm H H' → Q (.bl (isLine ws)) H'
section
variable {P : Program} {w : World} {K : PySem.W.Frag} {mg : Str → Option Value} {base : Heap}
theorem ok_is_grant (T : Top NN K mg base) : D P w K mg base 4 "is_grant" ["target", "name", "subject"] (spGrant K NN.tf) := by
  refine T.ok0 (d := dis_grant) iis_grant rfl rfl rfl rfl (by decide +kernel) scis_grant (fun _ _ _ _ _ _ us hl => match us, hl with | [_, _, _], _ => rfl) (fun vs H Q E h => ?_) (fun cdv A outer s H vs Q E ec hr h => ?_)
  · obtain ⟨t, n, z, rfl, _⟩ := h
    rfl
  · obtain ⟨t, n, z, rfl, ht, hn, hz, hT, q⟩ := h
    have G_is_object := ok_is_object (P := P) (w := w) T
    have G_is_identifier := (ok_is_identifier (P := P) (w := w) T).mono (show 2 ≤ 3 by decide)
    refine ⟨_, (pss_one (ps_ret (pe_and (pe_callD G_is_object hr (pa_cons (pv 0) pa_nil)) (pe_and (pe_callD G_is_identifier hr (pa_cons (pv 1) pa_nil)) (pe_one (pe_callD G_is_object hr (pa_cons (pv 2) pa_nil))))))), ?_⟩
    refine ⟨_, rfl, t, rfl, ht, hT, fun H1 s1 => ⟨_, rfl, iteB (fun h1 => ?_) fun h1 => ?_⟩⟩
    · refine ⟨_, rfl, n, rfl, hn, s1.tabs hT, fun H2 s2 => ⟨_, rfl, iteB (fun h2 => ?_) fun h2 => ?_⟩⟩
      · exact ⟨_, rfl, z, rfl, hz, (s1.trans s2).tabs hT, fun H3 s3 => toBl (by unfold isGrant; rw [h1, h2]; rfl) (q H3 ((s1.trans s2).trans s3))⟩
      · exact toBl (by unfold isGrant; rw [h1, h2]; rfl) (q H2 (s1.trans s2))
    · exact toBl (by unfold isGrant; rw [h1]; rfl) (q H1 s1)
theorem ok_is_line (T : Top NN K mg base) : D P w K mg base 5 "_is_line" ["words"] (spIsLine K NN.tf) := by
  refine T.ok0 (d := d_is_line) i_is_line rfl rfl rfl rfl (by decide +kernel) sc_is_line (fun _ _ _ _ _ _ us hl => match us, hl with | [_], _ => rfl) (fun vs H Q E h => ?_) (fun cdv A outer s H vs Q E ec hr h => ?_)
  · obtain ⟨p, ws, rfl, _⟩ := h
    rfl
  · obtain ⟨p, ws, rfl, hS, hw, hT, q⟩ := h
    have G_is_grant := ok_is_grant (P := P) (w := w) T
    have G_is_identifier := (ok_is_identifier (P := P) (w := w) T).mono (show 2 ≤ 4 by decide)
    have G_read_revision := (ok_read_revision (P := P) (w := w) T).mono (show 1 ≤ 4 by decide)
    have n_len := T.f "len" (by decide +kernel)
    obtain ⟨t_WORDS_OF_A_LINE, m_WORDS_OF_A_LINE⟩ := T.i ("WORDS_OF_A_LINE", 7) (by decide +kernel)
    refine ⟨_, (pss_cons (ps_if (pt_cmpR op_ne (pe_callB call_len_seq (by rfl) n_len PySem.boot_len (pa_cons (pv 0) pa_nil)) (pe_glob (v := .int 7) rfl m_WORDS_OF_A_LINE ⟨_, rfl⟩) (nomark _)) (pss_one (ps_ret pe_bl)) pss_nil)
      (pss_cons (ps_asg (pv 0) (pg_unl (by rfl) (pgs_cons (pg_name (i := 1) sc_is_line.nd rfl (.inl rfl)) (pgs_cons (pg_name (i := 2) sc_is_line.nd rfl (.inl rfl)) (pgs_cons (pg_name (i := 3) sc_is_line.nd rfl (.inl rfl)) (pgs_cons (pg_name (i := 4) sc_is_line.nd rfl (.inl rfl)) (pgs_cons (pg_name (i := 5) sc_is_line.nd rfl (.inl rfl)) (pgs_cons (pg_name (i := 6) sc_is_line.nd rfl (.inl rfl)) (pgs_cons (pg_name (i := 7) sc_is_line.nd rfl (.inl rfl)) pgs_nil)))))))))
      (pss_cons (ps_if (PW.pt (pw_or (pt_not (pt_val (pe_callD G_is_identifier hr (pa_cons (pv 1) pa_nil)))) (pw_or (pt_not (pt_val (pe_callD G_is_grant hr (pa_cons (pv 2) (pa_cons (pv 3) (pa_cons (pv 4) pa_nil)))))) (pw_or1 (pt_cmpR op_notIn_seq (pv 5) (pe_tup (pa_cons pe_str (pa_cons pe_str pa_nil))) rfl))))) (pss_one (ps_ret pe_bl)) pss_nil)
      (pss_one (ps_ret (pe_and (pe_cmpR op_notN (pe_callD G_read_revision hr (pa_cons (pv 6) pa_nil)) pe_non (nomark _)) (pe_one (pe_cmpR op_notN (pe_callD G_read_revision hr (pa_cons (pv 7) pa_nil)) pe_non (nomark _))))))))), ?_⟩
    refine ⟨_, rfl, p, _, rfl, .inl hS, rfl, _, rfl, ?_⟩
    show if (!decide (V.int ((ws.map V.str).length : Int) = V.int 7)) = true then _ else _
    refine iteB (fun h => ?_) fun h => ?_
    · have h7 : ws.length ≠ 7 := fun e => by
        rw [List.length_map, e] at h
        exact absurd h (by decide)
      refine toBl ?_ (q H (Sm.refl H))
      unfold isLine
      split
      · exact absurd rfl h7
      · rfl
    · have h7 : ws.length = 7 := by
        rw [Bool.not_eq_false', decide_eq_true_eq, List.length_map] at h
        have h2 : ((ws.length : Nat) : Int) = 7 := V.int.inj h
        omega
      obtain ⟨c, t, n, z, a, af, be, rfl⟩ : ∃ c t n z a af be, ws = [c, t, n, z, a, af, be] := by
        match ws, h7 with
        | [c, t, n, z, a, af, be], _ => exact ⟨c, t, n, z, a, af, be, rfl⟩
      have hl : ∀ x, x ∈ [c, t, n, z, a, af, be] → x.length ≤ sizeLine := hw
      refine ⟨_, rfl, p, _, rfl, hS, rfl, _, _, rfl, _, _, rfl, _, _, rfl, _, _, rfl, _, _, rfl, _, _, rfl, _, _, rfl, rfl, ?_⟩
      refine ⟨_, rfl, c, rfl, hl c (by simp), hT, fun H1 s1 => ⟨_, rfl, ?_⟩⟩
      show if (!isIdent c) = true then _ else _
      refine iteB (fun h1 => ?_) fun h1 => ?_
      · rw [Bool.not_eq_true'] at h1
        exact iteT (toBl (by rw [isLine7, h1]; rfl) (q H1 s1))
      · rw [Bool.not_eq_false'] at h1
        refine ⟨_, rfl, _, rfl, _, rfl, t, n, z, rfl, hl t (by simp), hl n (by simp), hl z (by simp), s1.tabs hT, fun H2 s2 => ⟨_, rfl, ?_⟩⟩
        have s02 := s1.trans s2
        show if (!isGrant t n z) = true then _ else _
        refine iteB (fun h2 => ?_) fun h2 => ?_
        · rw [Bool.not_eq_true'] at h2
          exact iteT (toBl (by rw [isLine7, h1, h2]; rfl) (q H2 s02))
        · rw [Bool.not_eq_false'] at h2
          refine ⟨_, rfl, by show 2 ≤ sizeLine; decide, fun r nr => ?_⟩
          have s03 : Sm H (upd H2 r (.tup ([yesS, noS].map V.str))) := s02.put (s02.free nr)
          refine ⟨r, [yesS, noS].map V.str, rfl, .inr (.inl (.inl upd_same)), rfl, flat_strs _, _, rfl, ?_⟩
          show if (!inV (.str a) ([yesS, noS].map V.str)) = true then _ else _
          rw [inV_str]
          refine iteB (fun h3 => ?_) fun h3 => ?_
          · rw [Bool.not_eq_true'] at h3
            exact toBl (by rw [isLine7, h1, h2, h3]; rfl) (q _ s03)
          · rw [Bool.not_eq_false'] at h3
            refine ⟨_, rfl, af, rfl, hl af (by simp), s03.tabs hT, fun H4 s4 => ⟨rfl, _, rfl, iteB (fun h4 => ?_) fun h4 => ?_⟩⟩
            · refine ⟨_, rfl, be, rfl, hl be (by simp), (s03.trans s4).tabs hT, fun H5 s5 => ⟨rfl, ?_⟩⟩
              refine toBl ?_ (q H5 ((s03.trans s4).trans s5))
              rw [isLine7, h1, h2, h3]
              cases e1 : readRev af with
              | none =>
                have h5 : (!decide (revV (readRev af) = V.non)) = true := h4
                rw [e1] at h5
                cases h5
              | some x =>
                show (!decide (revV (readRev be) = V.non)) = _
                cases readRev be <;> rfl
            · refine toBl ?_ (q H4 (s03.trans s4))
              rw [isLine7, h1, h2, h3]
              cases e1 : readRev af with
              | none => rfl
              | some x =>
                have h5 : (!decide (revV (readRev af) = V.non)) = false := h4
                rw [e1] at h5
                cases h5
end
end A5

set_option Elab.async false
set_option linter.all false
set_option maxRecDepth 100000
set_option maxHeartbeats 4000000
namespace A5
open PySem PySem.Spec PyProof.Rows L2 AS
def spS : Str := " "
def nlS : Str := "\n"
/-! ### the parts of a text -/
theorem spl_bound (S : List Nat) : ∀ (l : List Nat) (k : Nat) (acc : List Nat), (∀ p ∈ TL.spl S k acc l, p.length ≤ acc.length + l.length) ∧ (TL.spl S k acc l).length ≤ l.length + 1
  | [], k, acc => by
    rw [TL.spl_nil]
    exact ⟨fun p hp => by rw [List.mem_singleton.mp hp]; omega, by simp⟩
  | c :: r, 0, acc => by
    by_cases h : TL.pre S (c :: r) = true
    · rw [TL.spl_hit h]
      obtain ⟨h1, h2⟩ := spl_bound S r (S.length - 1) []
      refine ⟨fun p hp => ?_, by simp only [List.length_cons]; omega⟩
      rcases List.mem_cons.mp hp with e | e
      · rw [e]
        omega
      · have := h1 p e
        simp only [List.length_nil, List.length_cons] at this ⊢
        omega
    · rw [TL.spl_miss (by simpa using h)]
      obtain ⟨h1, h2⟩ := spl_bound S r 0 (acc ++ [c])
      refine ⟨fun p hp => ?_, by simp only [List.length_cons]; omega⟩
      have := h1 p hp
      simp only [List.length_append, List.length_singleton, List.length_cons, List.length_nil] at this ⊢
      omega
  | c :: r, k + 1, acc => by
    obtain ⟨h1, h2⟩ := spl_bound S r k acc
    have e : TL.spl S (k + 1) acc (c :: r) = TL.spl S k acc r := rfl
    rw [e]
    refine ⟨fun p hp => ?_, by simp only [List.length_cons]; omega⟩
    have := h1 p hp
    simp only [List.length_cons]
    omega
theorem split_bound {x y : Str} (hy : tl y ≠ []) (hk : y.cps.all (· < 256) = true) : (∀ p ∈ Txt.split x y, p.length ≤ x.length) ∧ (Txt.split x y).length ≤ x.length + 1 := by
  have e := TL.split_spl x y hy (TL.kind_ok hk)
  obtain ⟨h1, h2⟩ := spl_bound (tl y) (tl x) 0 []
  refine ⟨fun p hp => ?_, ?_⟩
  · have h3 := h1 (tl p) (by rw [← e]; exact List.mem_map.mpr ⟨p, hp, rfl⟩)
    rw [len_tl, len_tl]
    simpa using h3
  · have h4 := congrArg List.length e
    rw [List.length_map] at h4
    rw [h4, len_tl]
    exact h2
theorem split_sp (x : Str) : (∀ p ∈ Txt.split x spS, p.length ≤ x.length) ∧ (Txt.split x spS).length ≤ x.length + 1 := split_bound (by decide +kernel) (by decide +kernel)
theorem split_nl (x : Str) : (∀ p ∈ Txt.split x nlS, p.length ≤ x.length) ∧ (Txt.split x nlS).length ≤ x.length + 1 := split_bound (by decide +kernel) (by decide +kernel)
/-! ### rows of a log -/
structure Row where
  client : Str
  target : Str
  name : Str
  subject : Str
  allowed : Bool
  after : Nat
  before : Nat
def Row.v (r : Row) : List V := [.str r.client, .str r.target, .str r.name, .str r.subject, .bl r.allowed, .int r.after, .int r.before]
def ansS (b : Bool) : Str := if b = true then yesS else noS
def lineS (r : Row) : Str := Str.empty ++ r.client ++ spS ++ r.target ++ spS ++ r.name ++ spS ++ r.subject ++ spS ++ ansS r.allowed ++ spS ++ toString (r.after : Int) ++ spS ++ toString (r.before : Int)
def rowOf : List Str → Row
  | [c, t, n, s, a, af, be] => ⟨c, t, n, s, decide (a = yesS), (readRev af).getD 0, (readRev be).getD 0⟩
  | _ => ⟨Str.empty, Str.empty, Str.empty, Str.empty, false, 0, 0⟩
def Row.ok (r : Row) : Prop := r.client.length ≤ 1000 ∧ r.target.length ≤ 1000 ∧ r.name.length ≤ 1000 ∧ r.subject.length ≤ 1000 ∧ r.after ≤ 1000000 ∧ r.before ≤ 1000000
def spLineText : Sp := fun vs H Q _ => ∃ r : Row, vs = r.v ∧ r.ok ∧ Q (.str (lineS r)) H
theorem app_len {u v : Str} {m n : Nat} (h1 : u.length ≤ m) (h2 : v.length ≤ n) : (u ++ v).length ≤ m + n := by
  rw [Str.length_append]
  omega
theorem ans_len (b : Bool) : (ansS b).length ≤ 3 := by cases b <;> decide +kernel
theorem sp_len : spS.length ≤ 1 := by decide +kernel
theorem line_len {r : Row} (h : r.ok) : (lineS r).length ≤ 4023 := by
  obtain ⟨h1, h2, h3, h4, h5, h6⟩ := h
  have e0 : Str.empty.length ≤ 0 := Nat.le_refl _
  have b := app_len (app_len (app_len (app_len (app_len (app_len (app_len (app_len (app_len (app_len (app_len (app_len (app_len e0 h1) sp_len) h2) sp_len) h3) sp_len) h4) sp_len) (ans_len r.allowed)) sp_len) (num_len h5)) sp_len) (num_len h6)
  exact b
section
variable {P : Program} {w : World} {K : PySem.W.Frag} {mg : Str → Option Value} {base : Heap}
theorem ok_line_text (T : Top NN K mg base) : D P w K mg base 1 "_line_text" ["client", "target", "name", "subject", "allowed", "after", "before"] spLineText := by
  refine T.ok0 (d := d_line_text) i_line_text rfl rfl rfl rfl (by decide +kernel) sc_line_text (fun _ _ _ _ _ _ us hl => match us, hl with | [_, _, _, _, _, _, _], _ => rfl) (fun vs H Q E h => ?_) (fun cdv A outer s H vs Q E ec hr h => ?_)
  · obtain ⟨r, rfl, _⟩ := h
    rfl
  · obtain ⟨⟨c, t, n, z, al, af, be⟩, rfl, ⟨h1, h2, h3, h4, h5, h6⟩, q⟩ := h
    refine ⟨_, (pss_cons (ps_set (i := 7) sc_line_text.nd rfl (.inl rfl) (pe_ifExp (pt_val (pv 4)) pe_str pe_str))
      (pss_one (ps_ret (pe_joined (PJ.cons (pe_fmt (pv 0)) (PJ.cons pe_str (PJ.cons (pe_fmt (pv 1)) (PJ.cons pe_str (PJ.cons (pe_fmt (pv 2)) (PJ.cons pe_str (PJ.cons (pe_fmt (pv 3)) (PJ.cons pe_str (PJ.cons (pe_fmt (pv 7)) (PJ.cons pe_str (PJ.cons (pe_fmt (pv 5)) (PJ.cons pe_str (PJ.cons (pe_fmt (pv 6)) PJ.nil))))))))))))))))), ?_⟩
    have big : (10000 : Nat) ≤ sizeLine := by decide
    have e0 : Str.empty.length ≤ 0 := Nat.le_refl _
    have h1 : c.length ≤ 1000 := h1
    have h2 : t.length ≤ 1000 := h2
    have h3 : n.length ≤ 1000 := h3
    have h4 : z.length ≤ 1000 := h4
    have h5 : af ≤ 1000000 := h5
    have h6 : be ≤ 1000000 := h6
    refine ⟨.bl al, rfl, al, rfl, ?_⟩
    have go : ∀ a : Str, a = ansS al → tRet (fun σ H Q => tJs [tFmt (tVar 0), tC (.str spS), tFmt (tVar 1), tC (.str spS), tFmt (tVar 2), tC (.str spS), tFmt (tVar 3), tC (.str spS), tFmt (tVar 7), tC (.str spS), tFmt (tVar 5), tC (.str spS), tFmt (tVar 6)] Str.empty σ H fun out H1 => Q (.str out) H1)
        { nx := fun _ H' => Q .non H', rt := Q } [some (.str c), some (.str t), some (.str n), some (.str z), some (.bl al), some (.int af), some (.int be), some (.str a)] H := fun a ea => by
      have b0 := app_len e0 h1
      have b1 := app_len b0 sp_len
      have b2 := app_len b1 h2
      have b3 := app_len b2 sp_len
      have b4 := app_len b3 h3
      have b5 := app_len b4 sp_len
      have b6 := app_len b5 h4
      have b7 := app_len b6 sp_len
      have ha : a.length ≤ 3 := by rw [ea]; exact ans_len al
      have b8 := app_len b7 ha
      have b9 := app_len b8 sp_len
      have b10 := app_len b9 (num_len h5)
      have b11 := app_len b10 sp_len
      have b12 := app_len b11 (num_len h6)
      refine ⟨_, rfl, .inl ⟨c, rfl, by omega, c, rfl, Nat.le_trans b0 (by omega), spS, rfl, Nat.le_trans b1 (by omega), _, rfl, .inl ⟨t, rfl, by omega, t, rfl, Nat.le_trans b2 (by omega), spS, rfl, Nat.le_trans b3 (by omega),
        _, rfl, .inl ⟨n, rfl, by omega, n, rfl, Nat.le_trans b4 (by omega), spS, rfl, Nat.le_trans b5 (by omega), _, rfl, .inl ⟨z, rfl, by omega, z, rfl, Nat.le_trans b6 (by omega), spS, rfl, Nat.le_trans b7 (by omega),
        _, rfl, .inl ⟨a, rfl, by omega, a, rfl, Nat.le_trans b8 (by omega), spS, rfl, Nat.le_trans b9 (by omega), _, rfl, .inr ⟨af, rfl, log2_small (by omega), _, rfl, Nat.le_trans b10 (by omega), spS, rfl, Nat.le_trans b11 (by omega),
        _, rfl, .inr ⟨be, rfl, log2_small (by omega), _, rfl, Nat.le_trans b12 (by omega), ?_⟩⟩⟩⟩⟩⟩⟩⟩
      rw [ea]
      exact q
    exact iteB (fun h => go _ (by rw [h]; rfl)) fun h => go _ (by rw [h]; rfl)
end
end A5

set_option Elab.async false
set_option linter.all false
set_option maxRecDepth 100000
set_option maxHeartbeats 4000000
namespace A5
open PySem PySem.Spec PyProof.Rows L2 AS
/-- the tuples of the rows -/
def Rows (H : Hp) : List Addr → List Row → Prop
  | [], [] => True
  | a :: as, r :: rs => H a = some (.tup r.v) ∧ Rows H as rs
  | _, _ => False
theorem Rows.sm {H H' : Hp} (e : Sm H H') : ∀ {as : List Addr} {rs : List Row}, Rows H as rs → Rows H' as rs
  | [], [], _ => trivial
  | _ :: _, _ :: _, h => ⟨e.tup h.1, Rows.sm e h.2⟩
  | [], _ :: _, h => h.elim
  | _ :: _, [], h => h.elim
theorem Rows.len {H : Hp} : ∀ {as : List Addr} {rs : List Row}, Rows H as rs → as.length = rs.length
  | [], [], _ => rfl
  | _ :: _, _ :: _, h => congrArg Nat.succ (Rows.len h.2)
  | [], _ :: _, h => h.elim
  | _ :: _, [], h => h.elim
theorem Rows.get {H : Hp} : ∀ {as : List Addr} {rs : List Row} {i : Nat} {r : Row}, Rows H as rs → rs[i]? = some r → ∃ a, as[i]? = some a ∧ H a = some (.tup r.v)
  | a :: _, s :: _, 0, r, h, e => by
    have e2 : s = r := Option.some.inj e
    rw [← e2]
    exact ⟨a, rfl, h.1⟩
  | _ :: as, _ :: rs, i + 1, r, h, e => Rows.get (i := i) h.2 e
  | [], [], _, _, _, e => by cases e
  | [], _ :: _, _, _, h, _ => h.elim
  | _ :: _, [], _, _, h, _ => h.elim
theorem Rows.snoc {H : Hp} {a : Addr} {r : Row} (e : H a = some (.tup r.v)) : ∀ {as : List Addr} {rs : List Row}, Rows H as rs → Rows H (as ++ [a]) (rs ++ [r])
  | [], [], _ => ⟨e, trivial⟩
  | _ :: _, _ :: _, h => ⟨h.1, Rows.snoc e h.2⟩
  | [], _ :: _, h => h.elim
  | _ :: _, [], h => h.elim
def spWriteLog (K : PySem.W.Frag) : Sp := fun vs H Q _ => ∃ (p : Addr) (as : List Addr) (rs : List Row), vs = [.ref p] ∧ SqL K H p (as.map V.ref) ∧ Rows H as rs ∧ rs.length ≤ 1000 ∧ (∀ r ∈ rs, r.ok) ∧ ∀ H', Sm H H' → Q (.str (Txt.join nlS (rs.map lineS))) H'
theorem sum_le {n : Nat} : ∀ {l : List Nat}, (∀ x ∈ l, x ≤ n) → l.sum ≤ l.length * n
  | [], _ => by simp
  | x :: r, h => by
    rw [List.sum_cons, List.length_cons, Nat.succ_mul]
    have := sum_le (l := r) fun y hy => h y (List.mem_cons_of_mem _ hy)
    have := h x (List.mem_cons_self ..)
    omega
section
variable {P : Program} {w : World} {K : PySem.W.Frag} {mg : Str → Option Value} {base : Heap}
theorem ok_write_log (T : Top NN K mg base) : D P w K mg base 2 "write_log" ["log"] (spWriteLog K) := by
  refine T.ok0 (d := dwrite_log) iwrite_log rfl rfl rfl rfl (by decide +kernel) scwrite_log (fun _ _ _ _ _ _ us hl => match us, hl with | [_], _ => rfl) (fun vs H Q E h => ?_) (fun cdv A outer s H vs Q E ec hr h => ?_)
  · obtain ⟨p, as, rs, rfl, _⟩ := h
    rfl
  · obtain ⟨p, as, rs, rfl, hS, hR, hl, hok, q⟩ := h
    have G__line_text := ok_line_text (P := P) (w := w) T
    refine ⟨_, (pss_one (ps_ret (pe_join pe_str (pe_lc (own := [("line", 1)]) (g := gName 1) (tt := tYes) rfl scwrite_log.nd (pi_list (pv 0)) (blkOk_by (N := ["log", "line"]) (sc := defScope swrite_log) (by decide +kernel)) (fun _ _ _ _ _ => (pg_name (i := 1) scwrite_log.nd rfl (.inl rfl))) (fun _ _ _ _ _ => pts_nil) (fun _ _ _ _ _ => (pe_callStar (K := K) G__line_text hr (pv 1))))))), ?_⟩
    refine ⟨⟨_, rfl⟩, .ref p, rfl, p, rfl, ⟨_, hS⟩, fun D nD => ?_⟩
    have hal := hR.len
    refine lc_list (K := K) (a := p) (xs := as.map V.ref) (fun i H' => Sm H H' ∧ H' D = some (.lst (((rs.take i).map lineS).map V.str))) ⟨Sm.new nD, upd_same⟩ (fun i H' _ hP => hP.1.seq hS) (fun i x H' hx hP => ?_) fun H' hP => ?_
    · obtain ⟨sm, eD⟩ := hP
      rw [List.getElem?_map] at hx
      obtain ⟨a, ha, rfl⟩ := Option.map_eq_some_iff.mp hx
      have hi : i < rs.length := by
        have := (List.getElem?_eq_some_iff.mp ha).1
        omega
      obtain ⟨a2, ha2, hT⟩ := hR.get (List.getElem?_eq_getElem hi)
      rw [ha] at ha2
      cases ha2
      refine ⟨rfl, ?_⟩
      refine ⟨.ref a, rfl, a, rs[i].v, rfl, .inl (.inl (.inl (sm.tup hT))), rs[i], rfl, hok _ (List.getElem_mem hi), _, eD, ?_, sm.put nD, ?_⟩
      · rw [List.length_map, List.length_map, List.length_take]
        exact small1000 (Nat.le_trans (Nat.min_le_right _ _) hl)
      · rw [upd_same, List.take_add_one, List.getElem?_eq_getElem hi, List.map_append, List.map_append]
        rfl
    · obtain ⟨sm, eD⟩ := hP
      rw [List.length_map, hal, List.take_length] at eD
      refine ⟨nlS, D, rs.map lineS, rfl, rfl, .inl (.inl (.inl eD)), ?_, q H' sm⟩
      have h1 : ((rs.map lineS).map (·.length)).sum ≤ ((rs.map lineS).map (·.length)).length * 4023 := sum_le fun x hx => by
        obtain ⟨y, hy, rfl⟩ := List.mem_map.mp hx
        obtain ⟨r, hr2, rfl⟩ := List.mem_map.mp hy
        exact line_len (hok r hr2)
      rw [List.length_map, List.length_map] at h1
      rw [List.length_map]
      have h2 : nlS.length = 1 := by decide +kernel
      rw [h2]
      omega
end
end A5

set_option Elab.async false
set_option linter.all false
set_option maxRecDepth 100000
set_option maxHeartbeats 4000000
namespace A5
open PySem PySem.Spec PyProof.Rows L2 AS
def badS : Str := "line is not known"
def partsOf (l : Str) : List Str := Txt.split l spS
def linesOf (z : Str) : List Str := Txt.split z nlS
def good (l : Str) : Bool := isLine (partsOf l)
def rowL (l : Str) : Row := rowOf (partsOf l)
/-- the promise of read_log -/
def spReadLog (K : PySem.W.Frag) (tf : List He.Defn) : Sp := fun vs H Q E => ∃ z : Str, vs = [.str z] ∧ z.length ≤ 100000 ∧ Tabs K tf H ∧
  (z = Str.empty → ∀ H' p, Sm H H' → H p = none → H' p = some (.lst []) → Q (.ref p) H') ∧
  (z ≠ Str.empty → (∀ l ∈ linesOf z, good l = true) → ∀ H' p as, Sm H H' → H p = none → H' p = some (.lst (as.map V.ref)) → Rows H' as ((linesOf z).map rowL) → (∀ a ∈ as, H a = none) → Q (.ref p) H') ∧
  (z ≠ Str.empty → ∀ i l, (linesOf z)[i]? = some l → good l = false → (∀ j m, j < i → (linesOf z)[j]? = some m → good m = true) →
    ∀ d H', Sm H H' → H d = none → H' d = some (.xd [("what", .str badS), ("line", .int (1 + (i : Nat)))]) → E (.ref (He.ga K "BadFeed")) (some d) H')
theorem isLine_parts {ws : List Str} (h : isLine ws = true) : ∃ c t n s a af be x y, ws = [c, t, n, s, a, af, be] ∧ readRev af = some x ∧ readRev be = some y := by
  unfold isLine at h
  split at h
  · rename_i c t n s a af be
    simp only [Bool.and_eq_true, Option.isSome_iff_exists] at h
    obtain ⟨_, _, _, ⟨x, hx⟩, ⟨y, hy⟩⟩ := h
    exact ⟨c, t, n, s, a, af, be, x, y, rfl, hx, hy⟩
  · cases h
theorem readRev_int {z : Str} {n : Nat} (h : readRev z = some n) : PySem.intText? z = some (n : Int) ∧ z.length ≤ 4 := by
  unfold readRev at h
  by_cases g : (decide (1 ≤ z.length) && decide (z.length ≤ 4) && allDig z) = true
  · rw [if_pos g] at h
    by_cases g2 : (zeroHead z && !decide (z = zeroS)) = true
    · rw [if_pos g2] at h
      cases h
    · rw [if_neg g2] at h
      by_cases g3 : NumText.digitsVal (tl z) ≤ 1000
      · rw [if_pos g3] at h
        have e := Option.some.inj h
        rw [Bool.and_eq_true, Bool.and_eq_true, decide_eq_true_eq, decide_eq_true_eq] at g
        obtain ⟨⟨g4, g5⟩, g6⟩ := g
        have hv := intText_digits (x := z) (allDig_digits g6) (fun q => by
          have q2 : tl z = [] := q
          rw [len_tl, q2] at g4
          exact absurd g4 (by decide)) (by omega)
        refine ⟨?_, g5⟩
        rw [hv, ← e]
      · rw [if_neg g3] at h
        cases h
  · rw [if_neg g] at h
    cases h
section
variable {P : Program} {w : World} {K : PySem.W.Frag} {mg : Str → Option Value} {base : Heap}
theorem ok_read_log (T : Top NN K mg base) (B : VeInit K (He.ga K "AuthError")) (R_BadFeed : ErrC K mg "BadFeed" "line" "what") : DOk P w K mg base (CX P w) 6 "read_log" ["text"] (spReadLog K NN.tf) := by
  refine T.ok (d := dread_log) iread_log rfl rfl rfl rfl (by decide +kernel) scread_log (fun _ _ _ _ _ _ us hl => match us, hl with | [_], _ => rfl) (fun vs H Q E h => ?_) (fun cdv A outer s H vs Q E ec hr h => ?_)
  · obtain ⟨z, rfl, _⟩ := h
    rfl
  · obtain ⟨z, rfl, hz, hT, q1, q2, q3⟩ := h
    have G__is_line := ok_is_line (P := P) (w := w) T
    obtain ⟨fE, F_BadFeed, b_BadFeed⟩ := ok_BadFeed_init (P := P) (w := w) T B
    have n_enumerate := T.f "enumerate" (by decide +kernel)
    have n_int := T.f "int" (by decide +kernel)
    have hrE := hr.mono (show 2 ≤ 5 by decide)
    refine ⟨_, (pss_cons (ps_set (i := 1) scread_log.nd rfl (.inl rfl) (pe_lst pa_nil))
      (pss_cons (ps_if (pt_cmpR op_eq (pv 0) pe_str (nomark _)) (pss_one (ps_ret (pv 1))) pss_nil)
      (pss_cons (ps_for (passes_of rfl) rfl (pi_enumK rfl n_enumerate (pa_cons (pe_split (pv 0) pe_str) pa_nil) (pk_cons pe_int pk_nil)) (pg_tup (by rfl) (pgs_cons (pg_name (i := 2) scread_log.nd rfl (.inl rfl)) (pgs_cons (pg_name (i := 3) scread_log.nd rfl (.inl rfl)) pgs_nil))) (pss_cons (ps_set (i := 4) scread_log.nd rfl (.inl rfl) (pe_split (pv 3) pe_str))
      (pss_cons (ps_if (pt_not (pt_val (pe_callD G__is_line hr (pa_cons (pv 4) pa_nil)))) (pss_one (ps_raise rfl (takes_of rfl rfl rfl rfl) (pmk_oex R_BadFeed.ox R_BadFeed.iC R_BadFeed.tI F_BadFeed hrE b_BadFeed .nil pass0 rfl R_BadFeed.gl (pa_cons (pv 2) (pa_cons pe_str pa_nil))))) pss_nil)
      (pss_cons (ps_asg (pv 4) (pg_unl (by rfl) (pgs_cons (pg_name (i := 5) scread_log.nd rfl (.inl rfl)) (pgs_cons (pg_name (i := 6) scread_log.nd rfl (.inl rfl)) (pgs_cons (pg_name (i := 7) scread_log.nd rfl (.inl rfl)) (pgs_cons (pg_name (i := 8) scread_log.nd rfl (.inl rfl)) (pgs_cons (pg_name (i := 9) scread_log.nd rfl (.inl rfl)) (pgs_cons (pg_name (i := 10) scread_log.nd rfl (.inl rfl)) (pgs_cons (pg_name (i := 11) scread_log.nd rfl (.inl rfl)) pgs_nil)))))))))
      (pss_one (ps_expr (pe_bm PySem.F.plainAttrs_list PySem.F.slot_list_append PySem.F.type_list_append mt_append (pv 1) (pa_cons (pe_tup (pa_cons (pv 5) (pa_cons (pv 6) (pa_cons (pv 7) (pa_cons (pv 8) (pa_cons (pe_cmpR op_eq (pv 9) pe_str (nomark _)) (pa_cons (pe_callTy call_int_str (by rfl) n_int (by decide +kernel) (pa_cons (pv 10) pa_nil)) (pa_cons (pe_callTy call_int_str (by rfl) n_int (by decide +kernel) (pa_cons (pv 11) pa_nil)) pa_nil)))))))) pa_nil))))))))
      (pss_one (ps_ret (pv 1)))))), ?_⟩
    have big : (1000000 : Nat) ≤ sizeLine := by decide
    refine ⟨Nat.zero_le _, fun o no => ?_⟩
    refine ⟨_, rfl, rfl, _, rfl, iteB (fun h => ?_) fun h => ?_⟩
    · have e : z = Str.empty := V.str.inj (of_decide_eq_true h)
      exact ⟨_, rfl, q1 e _ o (Sm.new no) no upd_same⟩
    · have ne : z ≠ Str.empty := fun e => of_decide_eq_false h (by rw [e]; rfl)
      obtain ⟨sl, sn⟩ := split_nl z
      refine ⟨.str z, rfl, ⟨_, rfl⟩, z, nlS, rfl, rfl, by decide +kernel, by omega, fun p np => ?_⟩
      have s0 : Sm H (upd (upd H o (.lst [])) p (.lst ((linesOf z).map V.str))) := (Sm.new no).put ((Sm.new no).free np)
      have npH : H p = none := (Sm.new no).free np
      have npo : p ≠ o := fun e => by
        rw [e, upd_same] at np
        cases np
      refine ⟨p, (linesOf z).map V.str, 1, rfl, rfl, by decide, by decide, .inl (.inl upd_same), ?_⟩
      refine for_enumK (fun i σ H' => (∃ u2 u3 u4 u5 u6 u7 u8 u9 u10 u11, σ = [some (.str z), some (.ref o), u2, u3, u4, u5, u6, u7, u8, u9, u10, u11]) ∧ Sm H H' ∧ H' p = some (.lst ((linesOf z).map V.str)) ∧
          (∃ as : List Addr, H' o = some (.lst (as.map V.ref)) ∧ Rows H' as (((linesOf z).take i).map rowL) ∧ ∀ a ∈ as, H a = none) ∧ ∀ j m, j < i → (linesOf z)[j]? = some m → good m = true)
        ⟨⟨_, _, _, _, _, _, _, _, _, _, rfl⟩, s0, upd_same, ⟨[], by rw [upd_ne (Ne.symm npo)]; exact upd_same, trivial, fun a h => nomatch h⟩, fun j m hj => absurd hj (Nat.not_lt_zero j)⟩
        (fun i σ H' _ hP => .inl (.inl hP.2.2.1)) (fun i x T' σ H' hx hP nT => ?_) fun σ H' hP => ?_
      · obtain ⟨⟨u2, u3, u4, u5, u6, u7, u8, u9, u10, u11, rfl⟩, sm, ep, ⟨as, eo, hR, hn⟩, hg⟩ := hP
        rw [List.getElem?_map] at hx
        obtain ⟨l, hl, rfl⟩ := Option.map_eq_some_iff.mp hx
        have hi : i < (linesOf z).length := (List.getElem?_eq_some_iff.mp hl).1
        have il : i ≤ 100000 := by
          have : (linesOf z).length ≤ z.length + 1 := sn
          omega
        have ll : l.length ≤ z.length := sl l (List.mem_of_getElem? hl)
        obtain ⟨wl, wn⟩ := split_sp l
        refine ⟨T', _, rfl, .inl (.inl upd_same), rfl, _, _, rfl, _, _, rfl, rfl, ?_⟩
        refine ⟨.str l, rfl, ⟨_, rfl⟩, l, spS, rfl, rfl, by decide +kernel, by omega, fun r nr => ?_⟩
        have s1 : Sm H' (upd (upd H' T' (.tup [.int (1 + (i : Nat)), .str l])) r (.lst ((partsOf l).map V.str))) := (Sm.new nT).put ((Sm.new nT).free nr)
        refine ⟨.ref r, rfl, r, partsOf l, rfl, .inl (.inl upd_same), fun w hw => Nat.le_trans (wl w hw) (by omega), (sm.trans s1).tabs hT, fun H3 s3 => ⟨_, rfl, ?_⟩⟩
        have s13 := s1.trans s3
        show if (!good l) = true then _ else _
        refine iteB (fun g => ?_) fun g => ?_
        · rw [Bool.not_eq_true'] at g
          refine ⟨_, rfl, mk_read R_BadFeed (.inl ⟨_, rfl, by omega, by omega⟩) (.inr ⟨badS, rfl, by decide +kernel⟩) fun d H4 s4 nd ed => ?_⟩
          exact q3 ne i l hl g hg d H4 ((sm.trans s13).trans s4) ((sm.trans s13).free nd) ed
        · rw [Bool.not_eq_false'] at g
          obtain ⟨c, t, n, a, an, af, be, x, y, ew, hx1, hy1⟩ := isLine_parts (ws := partsOf l) g
          obtain ⟨ix, lx⟩ := readRev_int hx1
          obtain ⟨iy, ly⟩ := readRev_int hy1
          have er3 : H3 r = some (.lst ([c, t, n, a, an, af, be].map V.str)) := by
            rw [← ew]
            exact s3.lst upd_same
          refine ⟨.ref r, rfl, r, _, rfl, .inl (.inl er3), rfl, _, _, rfl, _, _, rfl, _, _, rfl, _, _, rfl, _, _, rfl, _, _, rfl, _, _, rfl, rfl, ?_⟩
          have eo3 := s13.lst eo
          refine ⟨.ref o, rfl, .inl ⟨rfl, _, .inl (.inl eo3)⟩, ?_⟩
          refine ⟨_, rfl, _, rfl, _, rfl, _, rfl, _, rfl, rfl, .str af, rfl, af, x, rfl, ix, by omega, .str be, rfl, be, y, rfl, iy, by omega, by show 7 ≤ sizeLine; decide, fun t' nt' => ?_⟩
          have er : rowL l = ⟨c, t, n, a, decide (an = yesS), x, y⟩ := by
            unfold rowL
            rw [ew]
            show (⟨c, t, n, a, decide (an = yesS), (readRev af).getD 0, (readRev be).getD 0⟩ : Row) = _
            rw [hx1, hy1]
            rfl
          have dec : V.bl (decide (V.str an = V.str yesS)) = V.bl (decide (an = yesS)) := by
            congr 1
            exact decide_eq_decide.mpr ⟨V.str.inj, fun e => by rw [e]⟩
          have s4 : Sm H' (upd H3 t' (.tup (rowL l).v)) := s13.put (s13.free nt')
          have ntH : H t' = none := (sm.trans s13).free nt'
          have nto : t' ≠ o := fun e => by
            rw [e, eo3] at nt'
            cases nt'
          have ev : ([.str c, .str t, .str n, .str a, .bl (decide (V.str an = V.str yesS)), .int (x : Nat), .int (y : Nat)] : List V) = (rowL l).v := by
            rw [er, dec]
            rfl
          have hlen : (as.map V.ref).length < sizeLine := by
            have h1 := hR.len
            rw [List.length_map, List.length_take] at h1
            rw [List.length_map]
            omega
          refine ⟨o, as.map V.ref, _, rfl, rfl, by rw [upd_ne (Ne.symm nto)]; exact eo3, hlen, ⟨_, _, _, _, _, _, _, _, _, _, rfl⟩, ?_, ?_, ⟨as ++ [t'], ?_, ?_, fun b hb => ?_⟩, fun j m hj hm => ?_⟩
          · exact ((sm.trans s13).put ntH).put no
          · rw [upd_ne npo]
            have e3 := s13.lst ep
            have npt : p ≠ t' := fun e => by
              rw [← e, e3] at nt'
              cases nt'
            rw [upd_ne npt]
            exact e3
          · rw [upd_same, List.map_append]
            rfl
          · have keepR : Rows (upd (upd H3 t' (.tup (rowL l).v)) o (.lst (as.map V.ref ++ [.ref t']))) as (((linesOf z).take i).map rowL) := by
              have k1 := Rows.sm s4 hR
              have go : ∀ {bs : List Addr} {rs : List Row} {G : Hp}, Rows G bs rs → (∃ xs, G o = some (.lst xs)) → Rows (upd G o (.lst (as.map V.ref ++ [.ref t']))) bs rs := by
                intro bs
                induction bs with
                | nil =>
                  intro rs G h _
                  cases rs with
                  | nil => trivial
                  | cons _ _ => exact h.elim
                | cons b bs ih =>
                  intro rs G h ho
                  cases rs with
                  | nil => exact h.elim
                  | cons r rs =>
                    obtain ⟨xs, ho⟩ := ho
                    refine ⟨?_, ih h.2 ⟨xs, ho⟩⟩
                    have nb : b ≠ o := fun e => by
                      have h1 := h.1
                      rw [e, ho] at h1
                      cases h1
                    rw [upd_ne nb]
                    exact h.1
              exact go k1 ⟨_, s4.lst eo⟩
            rw [List.take_add_one, hl, List.map_append]
            have hT2 : (upd (upd H3 t' (.tup (rowL l).v)) o (.lst (as.map V.ref ++ [.ref t']))) t' = some (.tup (rowL l).v) := by
              rw [upd_ne nto]
              exact upd_same
            have fin := Rows.snoc hT2 keepR
            rw [← ev] at fin
            exact fin
          · rcases List.mem_append.mp hb with h1 | h1
            · exact hn b h1
            · rw [List.mem_singleton.mp h1]
              exact ntH
          · by_cases hji : j = i
            · rw [hji, hl] at hm
              rw [← Option.some.inj hm]
              exact g
            · exact hg j m (by omega) hm
      · obtain ⟨⟨u2, u3, u4, u5, u6, u7, u8, u9, u10, u11, rfl⟩, sm, ep, ⟨as, eo, hR, hn⟩, hg⟩ := hP
        rw [List.length_map, List.take_length] at hR
        refine ⟨.ref o, rfl, q2 ne (fun l hl => ?_) H' o as sm no eo hR hn⟩
        obtain ⟨j, hj, e⟩ := List.getElem_of_mem hl
        exact hg j l (by rw [List.length_map]; exact hj) (by rw [List.getElem?_eq_getElem hj, e])
end
end A5

set_option Elab.async false
set_option linter.all false
set_option maxRecDepth 100000
set_option maxHeartbeats 4000000
namespace A5
open PySem PySem.Spec PyProof.Rows L2 AS
/-! ### the lines that the law draws -/
def set0 : List Str := ["x", "y", "1x"]
def set1 : List Str := ["d:a", "d:b", "da"]
def set2 : List Str := ["v", "w", "V"]
def set3 : List Str := ["u:a", "u:b", "u:"]
def set4 : List Str := ["yes", "no", "maybe"]
def set5 : List Str := ["0", "7", "1000", "07"]
def set6 : List Str := ["0", "12", "999", "1001"]
def sets : List (List Str) := [set0, set1, set2, set3, set4, set5, set6]
def bads : List Str := ["1x", "da", "V", "u:", "maybe", "07", "1001"]
def Clean (p : Str) : Prop := 32 ∉ tl p ∧ 10 ∉ tl p ∧ p.length ≤ 5
instance (p : Str) : Decidable (Clean p) := by unfold Clean; infer_instance
def In7 (ps : List Str) : Prop := ps.length = 7 ∧ ∀ (i : Nat) (p : Str) (S : List Str), ps[i]? = some p → sets[i]? = some S → p ∈ S
def PartsOk (ps : List Str) : Prop := (∀ p ∈ ps, Clean p) ∧ 0 < ps.length ∧ ps.length ≤ 8 ∧ (ps.length = 7 → In7 ps)
def LineOk (l : Str) : Prop := l = Str.empty ∨ ∃ ps, l = Txt.join spS ps ∧ PartsOk ps
theorem sets_clean : ∀ S ∈ sets, ∀ p ∈ S, Clean p := by decide +kernel
theorem in7_clean {ps : List Str} (h : In7 ps) : ∀ p ∈ ps, Clean p := fun p hp => by
  obtain ⟨i, hi, e⟩ := List.getElem_of_mem hp
  have h7 : i < sets.length := by
    have := h.1
    show i < 7
    omega
  exact sets_clean sets[i] (List.getElem_mem h7) p (h.2 i p sets[i] (by rw [List.getElem?_eq_getElem hi, e]) (List.getElem?_eq_getElem h7))
theorem in7_of {a b c d e f g : Str} (h0 : a ∈ set0) (h1 : b ∈ set1) (h2 : c ∈ set2) (h3 : d ∈ set3) (h4 : e ∈ set4) (h5 : f ∈ set5) (h6 : g ∈ set6) : In7 [a, b, c, d, e, f, g] :=
  ⟨rfl, fun i p S hp hS => by
    match i, hp, hS with
    | 0, hp, hS => rw [← Option.some.inj hp, ← Option.some.inj hS]; exact h0
    | 1, hp, hS => rw [← Option.some.inj hp, ← Option.some.inj hS]; exact h1
    | 2, hp, hS => rw [← Option.some.inj hp, ← Option.some.inj hS]; exact h2
    | 3, hp, hS => rw [← Option.some.inj hp, ← Option.some.inj hS]; exact h3
    | 4, hp, hS => rw [← Option.some.inj hp, ← Option.some.inj hS]; exact h4
    | 5, hp, hS => rw [← Option.some.inj hp, ← Option.some.inj hS]; exact h5
    | 6, hp, hS => rw [← Option.some.inj hp, ← Option.some.inj hS]; exact h6
    | n + 7, hp, _ => cases hp⟩
theorem in7_set {ps : List Str} (h : In7 ps) {k : Nat} (hk : k < bads.length) : In7 (ps.set k bads[k]) := by
  refine ⟨by rw [List.length_set]; exact h.1, fun i p S hp hS => ?_⟩
  by_cases e : k = i
  · subst e
    have h7 : k < ps.length := by
      have := h.1
      have h8 : k < 7 := hk
      omega
    rw [List.getElem?_set_self h7] at hp
    rw [← Option.some.inj hp]
    have key : ∀ k : Nat, (h : k < bads.length) → ∀ S, sets[k]? = some S → bads[k] ∈ S := by
      intro k h S hS
      have h8 : k < sets.length := h
      rw [List.getElem?_eq_getElem h8] at hS
      rw [← Option.some.inj hS]
      have all : ∀ k : Nat, (h : k < 7) → bads[k]'h ∈ sets[k]'h := by decide +kernel
      exact all k h
    exact key k hk S hS
  · rw [List.getElem?_set_ne e] at hp
    exact h.2 i p S hp hS
theorem in7_ok {ps : List Str} (h : In7 ps) : PartsOk ps := ⟨in7_clean h, by have := h.1; omega, by have := h.1; omega, fun _ => h⟩
theorem ok_snoc {ps : List Str} (h : In7 ps) : PartsOk (ps ++ [("x" : Str)]) := by
  refine ⟨fun p hp => ?_, by simp, by rw [List.length_append, h.1]; decide, fun e => ?_⟩
  · rcases List.mem_append.mp hp with h1 | h1
    · exact in7_clean h p h1
    · rw [List.mem_singleton.mp h1]
      decide +kernel
  · rw [List.length_append, h.1] at e
    exact absurd e (by decide)
theorem ok_take {ps : List Str} (h : In7 ps) : PartsOk (ps.take 6) := by
  have hl : (ps.take 6).length = 6 := by rw [List.length_take, h.1]; rfl
  refine ⟨fun p hp => in7_clean h p (List.mem_of_mem_take hp), by rw [hl]; decide, by rw [hl]; decide, fun e => ?_⟩
  rw [hl] at e
  exact absurd e (by decide)
theorem join_spS_len {ps : List Str} (h : PartsOk ps) : (ps.map (·.length)).sum + ps.length * spS.length ≤ 48 := by
  have h1 : (ps.map (·.length)).sum ≤ (ps.map (·.length)).length * 5 := sum_le fun x hx => by
    obtain ⟨y, hy, rfl⟩ := List.mem_map.mp hx
    exact (h.1 y hy).2.2
  rw [List.length_map] at h1
  have h2 : spS.length = 1 := by decide +kernel
  have h3 := h.2.2.1
  rw [h2]
  omega
/-! ### readings of drawn numbers -/
theorem mod_nat (d : Int) (n : Nat) (h : 0 < n) : ∃ m : Nat, d % (n : Int) = (m : Int) ∧ m < n := by
  have b1 : 0 ≤ d % (n : Int) := Int.emod_nonneg _ (by omega)
  have b2 : d % (n : Int) < n := Int.emod_lt_of_pos _ (by omega)
  exact ⟨(d % (n : Int)).toNat, by omega, by omega⟩
theorem at_int {ds : List Int} {k : Nat} (h : k < ds.length) : atI (ds.map V.int) (k : Int) = some (.int ds[k]) := atI_nat (by
  rw [List.getElem?_map, List.getElem?_eq_getElem h]
  rfl)
theorem at_str {ds : List Str} {k : Nat} (h : k < ds.length) : atI (ds.map V.str) (k : Int) = some (.str ds[k]) := atI_nat (by
  rw [List.getElem?_map, List.getElem?_eq_getElem h]
  rfl)
theorem draw_read {K : PySem.W.Frag} {H : Hp} {o : Addr} {ds : List Int} {k n i : Nat} {σ : L2.St} {R : VK} (e : σ[i]? = some (some (.ref o))) (hS : SqL K H o (ds.map V.int)) (hk : k < ds.length) (hn : 0 < n) (h : ∀ m : Nat, m < n → R (.int (m : Nat)) H) :
    tOp (rI (fun _ j => 0 < j) fun i j => .int (i % j)) (tCB (fun xs H Q => (∃ i, xs = [.int i] ∧ Q (.int i) H) ∨ ∃ k, xs = [.bl k] ∧ Q (.int (if k then 1 else 0)) H) (tCons (tOp (rIxL K) (tVar i) (tC (.int (k : Nat)))) tNil)) (tC (.int (n : Nat))) σ H R := by
  obtain ⟨m, em, hm⟩ := mod_nat ds[k] n hn
  refine ⟨.ref o, e, o, _, k, _, rfl, rfl, hS, at_int hk, .inl ⟨_, rfl, _, n, rfl, rfl, by show (0 : Int) < (n : Int); omega, ?_⟩⟩
  have q := h m hm
  rw [← em] at q
  exact q
/-- a sign of a written text -/
def sg (z : Str) (m : Nat) : Str := ⟨#[(tl z).getD m 0]⟩
theorem sign_read {z : Str} {m : Nat} {H : Hp} {R : VK} (h : m < (tl z).length) (hz : z.length ≤ sizeLine) (q : R (.str (sg z m)) H) : rIxS (.str z) (.int (m : Nat)) H R := by
  refine ⟨z, m, (tl z)[m], rfl, rfl, hz, atI_nat (List.getElem?_eq_getElem h), ?_⟩
  have e : sg z m = ⟨#[(tl z)[m]]⟩ := by
    unfold sg
    rw [List.getD_eq_getElem?_getD, List.getElem?_eq_getElem h]
    rfl
  rw [e] at q
  exact q
theorem draw_readV {K : PySem.W.Frag} {H : Hp} {o : Addr} {ds : List Int} {k n i j : Nat} {σ : L2.St} {R : VK} (e : σ[i]? = some (some (.ref o))) (e2 : σ[j]? = some (some (.int (n : Nat)))) (hS : SqL K H o (ds.map V.int)) (hk : k < ds.length) (hn : 0 < n) (h : ∀ m : Nat, m < n → R (.int (m : Nat)) H) :
    tOp (rI (fun _ j => 0 < j) fun i j => .int (i % j)) (tCB (fun xs H Q => (∃ i, xs = [.int i] ∧ Q (.int i) H) ∨ ∃ k, xs = [.bl k] ∧ Q (.int (if k then 1 else 0)) H) (tCons (tOp (rIxL K) (tVar i) (tC (.int (k : Nat)))) tNil)) (tVar j) σ H R := by
  obtain ⟨m, em, hm⟩ := mod_nat ds[k] n hn
  refine ⟨.ref o, e, o, _, k, _, rfl, rfl, hS, at_int hk, .inl ⟨_, rfl, _, e2, _, n, rfl, rfl, by show (0 : Int) < (n : Int); omega, ?_⟩⟩
  have q := h m hm
  rw [← em] at q
  exact q
theorem op_const {r : R2} {v : V} {tb : TE} {σ : L2.St} {H : Hp} {R : VK} (h : tb σ H fun y H2 => r v y H2 R) : tOp r (tC v) tb σ H R := h
theorem sign_draw {K : PySem.W.Frag} {H : Hp} {o : Addr} {ds : List Int} {k n i : Nat} {σ : L2.St} {R : VK} {z : Str} (e : σ[i]? = some (some (.ref o))) (hS : SqL K H o (ds.map V.int)) (hk : k < ds.length) (hn : 0 < n) (hz : n ≤ (tl z).length) (hl : z.length ≤ sizeLine) (h : ∀ m : Nat, m < n → R (.str (sg z m)) H) :
    tOp rIxS (tC (.str z)) (tOp (rI (fun _ j => 0 < j) fun i j => .int (i % j)) (tCB (fun xs H Q => (∃ i, xs = [.int i] ∧ Q (.int i) H) ∨ ∃ k, xs = [.bl k] ∧ Q (.int (if k then 1 else 0)) H) (tCons (tOp (rIxL K) (tVar i) (tC (.int (k : Nat)))) tNil)) (tC (.int (n : Nat)))) σ H R :=
  op_const (draw_read e hS hk hn fun m hm => sign_read (Nat.lt_of_lt_of_le hm hz) hl (h m hm))
theorem two_sg {a z : Str} {m : Nat} (h : a.length ≤ 100) : a.length + (sg z m).length ≤ sizeLine := by
  have big : (1000 : Nat) ≤ sizeLine := by decide
  have e : (sg z m).length = 1 := rfl
  omega
def ys4 : List Str := ["yes", "no"]
def ns5 : List Int := [0, 7, 1000]
def ns6 : List Int := [0, 12, 999]
theorem mem0 : ∀ m, m < 2 → sg "xy" m ∈ set0 := by decide +kernel
theorem mem1 : ∀ m, m < 2 → "d:" ++ sg "ab" m ∈ set1 := by decide +kernel
theorem mem2 : ∀ m, m < 2 → sg "vw" m ∈ set2 := by decide +kernel
theorem mem3 : ∀ m, m < 2 → "u:" ++ sg "ab" m ∈ set3 := by decide +kernel
theorem mem4 : ∀ m, (h : m < ys4.length) → ys4[m] ∈ set4 := by decide +kernel
theorem mem5 : ∀ m, (h : m < ns5.length) → (toString ns5[m] : Str) ∈ set5 := by decide +kernel
theorem mem6 : ∀ m, (h : m < ns6.length) → (toString ns6[m] : Str) ∈ set6 := by decide +kernel
theorem log5 : ∀ m, (h : m < ns5.length) → (ns5[m]).natAbs.log2 < 1920 := by decide
theorem log6 : ∀ m, (h : m < ns6.length) → (ns6[m]).natAbs.log2 < 1920 := by decide
def spLine : Sp := fun vs H Q _ => ∃ (c : Int) (r : Nat), vs = [.int c, .int (r : Nat)] ∧ 10 ≤ r ∧ ∀ H' l, LineOk l → Sm H H' → Q (.str l) H'
section
variable {P : Program} {w : World} {K : PySem.W.Frag} {mg : Str → Option Value} {base : Heap}
theorem ok_law_line (T : Top NN K mg base) : D P w K mg base 2 "_law_line" ["cell", "rare"] spLine := by
  refine T.ok0 (d := d_law_line) i_law_line rfl rfl rfl rfl (by decide +kernel) sc_law_line (fun _ _ _ _ _ _ us hl => match us, hl with | [_, _], _ => rfl) (fun vs H Q E h => ?_) (fun cdv A outer s H vs Q E ec hr h => ?_)
  · obtain ⟨c, r, rfl, _⟩ := h
    rfl
  · obtain ⟨c, r, rfl, hr10, q⟩ := h
    have G__law_draws := ok_law_draws (P := P) (w := w) T
    have n_int := T.f "int" (by decide +kernel)
    have n_str := T.f "str" (by decide +kernel)
    refine ⟨_, (pss_cons (ps_set (i := 2) sc_law_line.nd rfl (.inl rfl) (pe_callD G__law_draws hr (pa_cons (pv 0) (pa_cons pe_int pa_nil))))
      (pss_cons (ps_set (i := 3) sc_law_line.nd rfl (.inl rfl) (pe_op op_mod (pe_callTy call_int1 (by rfl) n_int (by decide +kernel) (pa_cons (pe_ix  ix_list (pv 2) pe_int (fun _ _ => rfl)) pa_nil)) (pv 1)))
      (pss_cons (ps_set (i := 4) sc_law_line.nd rfl (.inl rfl) (pe_lst (pa_cons (pe_ix ix_str pe_str (pe_op op_mod (pe_callTy call_int1 (by rfl) n_int (by decide +kernel) (pa_cons (pe_ix  ix_list (pv 2) pe_int (fun _ _ => rfl)) pa_nil)) pe_int) (fun _ _ => rfl)) (pa_cons (pe_op op_add_str pe_str (pe_ix ix_str pe_str (pe_op op_mod (pe_callTy call_int1 (by rfl) n_int (by decide +kernel) (pa_cons (pe_ix  ix_list (pv 2) pe_int (fun _ _ => rfl)) pa_nil)) pe_int) (fun _ _ => rfl))) (pa_cons (pe_ix ix_str pe_str (pe_op op_mod (pe_callTy call_int1 (by rfl) n_int (by decide +kernel) (pa_cons (pe_ix  ix_list (pv 2) pe_int (fun _ _ => rfl)) pa_nil)) pe_int) (fun _ _ => rfl)) (pa_cons (pe_op op_add_str pe_str (pe_ix ix_str pe_str (pe_op op_mod (pe_callTy call_int1 (by rfl) n_int (by decide +kernel) (pa_cons (pe_ix  ix_list (pv 2) pe_int (fun _ _ => rfl)) pa_nil)) pe_int) (fun _ _ => rfl))) pa_nil))))))
      (C8.pss_cut (ps_set (i := 4) sc_law_line.nd rfl (.inl rfl) (pe_op op_cat (pv 4) (pe_lst (pa_cons (pe_ix  ix_list (pe_lst (pa_cons pe_str (pa_cons pe_str pa_nil))) (pe_op op_mod (pe_callTy call_int1 (by rfl) n_int (by decide +kernel) (pa_cons (pe_ix  ix_list (pv 2) pe_int (fun _ _ => rfl)) pa_nil)) pe_int) (fun _ _ => rfl)) (pa_cons (pe_callTy call_str_int (by rfl) n_str (by decide +kernel) (pa_cons (pe_ix  ix_list (pe_lst (pa_cons pe_int (pa_cons pe_int (pa_cons pe_int pa_nil)))) (pe_op op_mod (pe_callTy call_int1 (by rfl) n_int (by decide +kernel) (pa_cons (pe_ix  ix_list (pv 2) pe_int (fun _ _ => rfl)) pa_nil)) pe_int) (fun _ _ => rfl)) pa_nil)) (pa_cons (pe_callTy call_str_int (by rfl) n_str (by decide +kernel) (pa_cons (pe_ix  ix_list (pe_lst (pa_cons pe_int (pa_cons pe_int (pa_cons pe_int pa_nil)))) (pe_op op_mod (pe_callTy call_int1 (by rfl) n_int (by decide +kernel) (pa_cons (pe_ix  ix_list (pv 2) pe_int (fun _ _ => rfl)) pa_nil)) pe_int) (fun _ _ => rfl)) pa_nil)) pa_nil))))))
      (C8.pss_cut (ps_if (pt_cmpR op_lt (pv 3) pe_int (nomark _)) (pss_one (ps_asg (pe_ix  ix_list (pe_lst (pa_cons pe_str (pa_cons pe_str (pa_cons pe_str (pa_cons pe_str (pa_cons pe_str (pa_cons pe_str (pa_cons pe_str pa_nil)))))))) (pv 3) (fun _ _ => rfl)) (pg_sub (pv 4) (pv 3) set_list))) pss_nil)
      (C8.pss_cut (ps_if (pt_cmpR op_eq (pv 3) pe_int (nomark _)) (pss_one (ps_set (i := 4) sc_law_line.nd rfl (.inl rfl) (pe_op op_cat (pv 4) (pe_lst (pa_cons pe_str pa_nil))))) pss_nil)
      (C8.pss_cut (ps_if (pt_cmpR op_eq (pv 3) pe_int (nomark _)) (pss_one (ps_set (i := 4) sc_law_line.nd rfl (.inl rfl) (pe_slice sl_list (pv 4) po_none (po_some pe_int)))) pss_nil)
      (pss_one (ps_ret (pe_ifExp (pt_cmpR op_ne (pv 3) pe_int (nomark _)) (pe_join pe_str (pv 4)) pe_str)))))))))), ?_⟩
    refine ⟨_, rfl, c, 9, rfl, by decide, fun H1 o ds dr s1 no eo => ?_⟩
    obtain ⟨dl, db⟩ := dr
    have oS : SqL K H1 o (ds.map V.int) := .inl (.inl eo)
    refine draw_readV (k := 8) (n := r) rfl rfl oS (by omega) (by omega) fun odd hodd => ?_
    refine sign_draw (k := 0) (n := 2) (z := "xy") rfl oS (by omega) (by decide) (by decide) (by decide +kernel) fun m0 h0 => ?_
    refine op_const (sign_draw (k := 1) (n := 2) (z := "ab") rfl oS (by omega) (by decide) (by decide) (by decide +kernel) fun m1 h1 => ⟨_, _, rfl, rfl, two_sg (by decide +kernel), ?_⟩)
    refine sign_draw (k := 2) (n := 2) (z := "vw") rfl oS (by omega) (by decide) (by decide) (by decide +kernel) fun m2 h2 => ?_
    refine op_const (sign_draw (k := 3) (n := 2) (z := "ab") rfl oS (by omega) (by decide) (by decide) (by decide +kernel) fun m3 h3 => ⟨_, _, rfl, rfl, two_sg (by decide +kernel), ?_⟩)
    refine ⟨by show 4 ≤ sizeLine; decide, fun p np => ?_⟩
    have s2 := Sm.new (H := H1) (o := .lst ([sg "xy" m0, "d:" ++ sg "ab" m1, sg "vw" m2, "u:" ++ sg "ab" m3].map V.str)) np
    refine ⟨fun σ' H' => ∃ (p' : Addr) (base : List Str), σ' = [some (.int c), some (.int (r : Nat)), some (.ref o), some (.int (odd : Nat)), some (.ref p')] ∧ Sm H H' ∧ H p' = none ∧ H' p' = some (.lst (base.map V.str)) ∧ In7 base, ?_, fun σ' H' hM => ?_⟩
    · refine ⟨.ref p, rfl, by show 2 ≤ sizeLine; decide, fun p1 np1 => ?_⟩
      have s3 := s2.trans (Sm.new (o := .lst (ys4.map V.str)) np1)
      refine draw_read (k := 4) (n := 2) rfl (s3.seq oS) (by omega) (by decide) fun m4 h4 => ?_
      refine ⟨p1, ys4.map V.str, m4, _, rfl, rfl, .inl (.inl upd_same), at_str (ds := ys4) h4, ?_⟩
      refine ⟨by show 3 ≤ sizeLine; decide, fun p2 np2 => ?_⟩
      have s4 := s3.trans (Sm.new (o := .lst (ns5.map V.int)) np2)
      refine draw_read (k := 5) (n := 3) rfl (s4.seq oS) (by omega) (by decide) fun m5 h5 => ?_
      refine ⟨p2, ns5.map V.int, m5, _, rfl, rfl, .inl (.inl upd_same), at_int (ds := ns5) h5, _, rfl, log5 m5 h5, ?_⟩
      refine ⟨by show 3 ≤ sizeLine; decide, fun p3 np3 => ?_⟩
      have s5 := s4.trans (Sm.new (o := .lst (ns6.map V.int)) np3)
      refine draw_read (k := 6) (n := 3) rfl (s5.seq oS) (by omega) (by decide) fun m6 h6 => ?_
      refine ⟨p3, ns6.map V.int, m6, _, rfl, rfl, .inl (.inl upd_same), at_int (ds := ns6) h6, _, rfl, log6 m6 h6, ?_⟩
      refine ⟨by show 3 ≤ sizeLine; decide, fun p4 np4 => ?_⟩
      have s6 := s5.trans (Sm.new (o := .lst ([ys4[m4], toString ns5[m5], toString ns6[m6]].map V.str)) np4)
      have e6 := ((Sm.new np1).trans ((Sm.new np2).trans ((Sm.new np3).trans (Sm.new (o := .lst ([ys4[m4], toString ns5[m5], toString ns6[m6]].map V.str)) np4)))).lst (upd_same (H := H1) (a := p) (o := .lst ([sg "xy" m0, "d:" ++ sg "ab" m1, sg "vw" m2, "u:" ++ sg "ab" m3].map V.str)))
      refine ⟨p, p4, _, _, rfl, rfl, e6, upd_same, by show 4 + 3 ≤ sizeLine; decide, fun p5 np5 => ?_⟩
      refine ⟨p5, [sg "xy" m0, "d:" ++ sg "ab" m1, sg "vw" m2, "u:" ++ sg "ab" m3, ys4[m4], toString ns5[m5], toString ns6[m6]], rfl, (s1.trans s6).put ((s1.trans s6).free np5), (s1.trans s6).free np5, upd_same, ?_⟩
      exact in7_of (mem0 m0 h0) (mem1 m1 h1) (mem2 m2 h2) (mem3 m3 h3) (mem4 m4 h4) (mem5 m5 h5) (mem6 m6 h6)
    · obtain ⟨p', base, rfl, sm, np', ep, h7⟩ := hM
      -- if odd < 7
      refine ⟨fun σ' H' => ∃ (p' : Addr) (base : List Str), σ' = [some (.int c), some (.int (r : Nat)), some (.ref o), some (.int (odd : Nat)), some (.ref p')] ∧ Sm H H' ∧ H p' = none ∧ H' p' = some (.lst (base.map V.str)) ∧ In7 base, ?_, fun σ' H' hM => ?_⟩
      · refine ⟨_, rfl, odd, 7, rfl, rfl, _, rfl, iteB (fun h => ?_) fun h => ⟨p', base, rfl, sm, np', ep, h7⟩⟩
        have h8 : odd < bads.length := by
          have h9 : (odd : Int) < 7 := of_decide_eq_true h
          show odd < 7
          omega
        refine ⟨by show 7 ≤ sizeLine; decide, fun t nt => ?_⟩
        refine ⟨_, rfl, t, bads.map V.str, odd, _, rfl, rfl, .inl (.inl upd_same), at_str h8, ?_⟩
        have s9 : Sm H' (upd H' t (.lst (bads.map V.str))) := Sm.new nt
        refine ⟨.ref p', rfl, .int (odd : Nat), rfl, p', base.map V.str, odd, odd, rfl, rfl, s9.lst ep, ?_, p', base.set odd bads[odd], rfl, (sm.trans s9).put np', np', ?_, in7_set h7 h8⟩
        · have hl : (base.map V.str).length = 7 := by rw [List.length_map]; exact h7.1
          have h10 : odd < 7 := h8
          unfold ixN
          rw [hl, if_pos (by omega), if_pos (by omega)]
          simp
        · rw [upd_same, List.map_set]
      · clear ep h7 np' sm
        obtain ⟨p', base, rfl, sm, np', ep, h7⟩ := hM
        -- if odd == 7
        refine ⟨fun σ' H' => ∃ (p' : Addr) (ps : List Str), σ' = [some (.int c), some (.int (r : Nat)), some (.ref o), some (.int (odd : Nat)), some (.ref p')] ∧ Sm H H' ∧ H' p' = some (.lst (ps.map V.str)) ∧ PartsOk ps ∧ (odd = 8 → In7 ps), ?_, fun σ' H' hM => ?_⟩
        · refine ⟨_, rfl, rfl, _, rfl, iteB (fun h => ?_) fun h => ⟨p', base, rfl, sm, ep, in7_ok h7, fun _ => h7⟩⟩
          have h8 : odd = 7 := by
            have h9 : (odd : Int) = 7 := V.int.inj (of_decide_eq_true h)
            omega
          refine ⟨_, rfl, by show 1 ≤ sizeLine; decide, fun t nt => ?_⟩
          have s9 : Sm H' (upd H' t (.lst ([("x" : Str)].map V.str))) := Sm.new nt
          refine ⟨p', t, _, _, rfl, rfl, s9.lst ep, upd_same, ?_, fun t2 nt2 => ?_⟩
          · rw [List.length_map, h7.1]
            show 7 + 1 ≤ sizeLine
            decide
          · refine ⟨t2, base ++ [("x" : Str)], rfl, (sm.trans s9).put ((sm.trans s9).free nt2), ?_, ok_snoc h7, fun e => by omega⟩
            rw [upd_same, List.map_append]
            rfl
        · clear ep h7 np' sm
          obtain ⟨p', ps, rfl, sm, ep, hps, h7⟩ := hM
          -- if odd == 8
          refine ⟨fun σ' H' => ∃ (p' : Addr) (ps : List Str), σ' = [some (.int c), some (.int (r : Nat)), some (.ref o), some (.int (odd : Nat)), some (.ref p')] ∧ Sm H H' ∧ H' p' = some (.lst (ps.map V.str)) ∧ PartsOk ps, ?_, fun σ' H' hM => ?_⟩
          · refine ⟨_, rfl, rfl, _, rfl, iteB (fun h => ?_) fun h => ⟨p', ps, rfl, sm, ep, hps⟩⟩
            have h8 : odd = 8 := by
              have h9 : (odd : Int) = 8 := V.int.inj (of_decide_eq_true h)
              omega
            refine ⟨.ref p', rfl, _, rfl, p', _, rfl, .inl (.inl ep), fun t nt => ?_⟩
            refine ⟨t, ps.take 6, rfl, sm.put (sm.free nt), ?_, ok_take (h7 h8)⟩
            rw [upd_same]
            congr 2
            have e7 := (h7 h8).1
            unfold cutV
            rw [HT.sIx_none, show HT.sIx (ps.map V.str).length (ps.map V.str).length (some 6) = min 6 (ps.map V.str).length from HT.sIx_nat _ _ 6, List.length_map, e7, List.drop_zero, List.map_take]
            rfl
          · clear ep hps h7 sm
            obtain ⟨p', ps, rfl, sm, ep, hps⟩ := hM
            refine ⟨_, rfl, rfl, _, rfl, ?_⟩
            show if (!decide (V.int (odd : Nat) = V.int 9)) = true then _ else _
            refine iteB (fun h => ?_) fun h => ?_
            · refine ⟨⟨_, rfl⟩, .ref p', rfl, spS, p', ps, rfl, rfl, .inl (.inl (.inl ep)), ?_, q H' _ (.inr ⟨ps, rfl, hps⟩) sm⟩
              have h9 := join_spS_len hps
              omega
            · exact q H' _ (.inl rfl) sm
end
end A5

set_option Elab.async false
set_option linter.all false
set_option maxRecDepth 100000
set_option maxHeartbeats 4000000
namespace A5
open PySem PySem.Spec PyProof.Rows L2 AS
theorem joinL_le (S : List Nat) : ∀ l : List (List Nat), (TL.joinL S l).length ≤ (l.map List.length).sum + l.length * S.length
  | [] => by simp [TL.joinL]
  | [p] => by
    show p.length ≤ _
    simp
  | p :: q :: r => by
    show (p ++ (S ++ TL.joinL S (q :: r))).length ≤ _
    have ih := joinL_le S (q :: r)
    rw [List.length_append, List.length_append, List.map_cons, List.sum_cons, List.length_cons, Nat.succ_mul]
    omega
theorem join_len_le (y : Str) (ys : List Str) : (Txt.join y ys).length ≤ (ys.map (·.length)).sum + ys.length * y.length := by
  rw [TL.len_tl, TL.join_eq, TL.tl_join]
  have h := joinL_le (TL.tl y) (ys.map TL.tl)
  rw [List.map_map, List.length_map] at h
  have e : List.length ∘ TL.tl = fun y : Str => y.length := by
    funext z
    exact (TL.len_tl z).symm
  rw [e, ← TL.len_tl y] at h
  exact h
/-! ### what the lines say -/
def gx (l : List Str) (p : Str) : Bool := decide (p ∈ l)
def g0 : List Str := ["x", "y"]
def g1 : List Str := ["d:a", "d:b"]
def g2 : List Str := ["v", "w"]
def g3 : List Str := ["u:a", "u:b"]
def g4 : List Str := ["yes", "no"]
theorem eq0 : ∀ p ∈ set0, isIdent p = decide (p ∈ g0) := by decide +kernel
theorem eq1 : ∀ p ∈ set1, isObj p = decide (p ∈ g1) := by decide +kernel
theorem eq2 : ∀ p ∈ set2, isIdent p = decide (p ∈ g2) := by decide +kernel
theorem eq3 : ∀ p ∈ set3, isObj p = decide (p ∈ g3) := by decide +kernel
theorem eq5 : ∀ p ∈ set5, (readRev p).isSome = !decide (p = "07") := by decide +kernel
theorem eq6 : ∀ p ∈ set6, (readRev p).isSome = !decide (p = "1001") := by decide +kernel
/-- the seven parts as the law looks at them -/
def isRow (c t n s a af be : Str) : Bool := decide (c ∈ g0) && (decide (t ∈ g1) && (decide (n ∈ g2) && (decide (s ∈ g3) && (decide (a ∈ g4) && (!decide (af = "07") && !decide (be = "1001"))))))
theorem in7_list {ps : List Str} (h : In7 ps) : ∃ c t n s a af be, ps = [c, t, n, s, a, af, be] ∧ c ∈ set0 ∧ t ∈ set1 ∧ n ∈ set2 ∧ s ∈ set3 ∧ a ∈ set4 ∧ af ∈ set5 ∧ be ∈ set6 := by
  obtain ⟨h7, hi⟩ := h
  match ps, h7, hi with
  | [c, t, n, s, a, af, be], _, hi => exact ⟨c, t, n, s, a, af, be, rfl, hi 0 c set0 rfl rfl, hi 1 t set1 rfl rfl, hi 2 n set2 rfl rfl, hi 3 s set3 rfl rfl, hi 4 a set4 rfl rfl, hi 5 af set5 rfl rfl, hi 6 be set6 rfl rfl⟩
theorem isLine_row {c t n s a af be : Str} (h0 : c ∈ set0) (h1 : t ∈ set1) (h2 : n ∈ set2) (h3 : s ∈ set3) (h5 : af ∈ set5) (h6 : be ∈ set6) : isLine [c, t, n, s, a, af, be] = isRow c t n s a af be := by
  rw [isLine7]
  unfold isGrant isRow
  rw [eq0 c h0, eq1 t h1, eq2 n h2, eq3 s h3, eq5 af h5, eq6 be h6]
  have e : decide (a ∈ [yesS, noS]) = decide (a ∈ g4) := rfl
  rw [e]
  simp only [Bool.and_assoc]
theorem parts_join {ps : List Str} (h : PartsOk ps) : partsOf (Txt.join spS ps) = ps := by
  have e : tl spS = 32 :: [] := by decide +kernel
  refine TL.split_join e (by decide +kernel) (fun q => ?_) fun p hp => (h.1 p hp).1
  have := h.2.1
  rw [q] at this
  exact absurd this (by decide)
theorem parts_empty : partsOf Str.empty = [Str.empty] := by decide +kernel
theorem isLine_len {ws : List Str} (h : ws.length ≠ 7) : isLine ws = false := by
  unfold isLine
  split
  · exact absurd rfl h
  · rfl
/-- the parts of a line, as the law sees them -/
theorem line_parts {l : Str} (h : LineOk l) : (∀ p ∈ partsOf l, p.length ≤ 5) ∧ (partsOf l).length ≤ 8 ∧ (partsOf l).length ≠ 0 ∧ ((partsOf l).length = 7 → In7 (partsOf l)) := by
  rcases h with rfl | ⟨ps, rfl, hp⟩
  · rw [parts_empty]
    exact ⟨fun p hp => by rw [List.mem_singleton.mp hp]; decide, by decide, by decide, fun e => absurd e (by decide)⟩
  · rw [parts_join hp]
    exact ⟨fun p h => (hp.1 p h).2.2, hp.2.2.1, by have := hp.2.1; omega, hp.2.2.2⟩
theorem line_len_le {l : Str} (h : LineOk l) : l.length ≤ 1000 := by
  rcases h with rfl | ⟨ps, rfl, hp⟩
  · decide
  · have b := join_spS_len hp
    have e := join_len_le spS ps
    omega
def spRead (K : PySem.W.Frag) : Sp := fun vs H Q _ => ∃ l : Str, vs = [.str l] ∧ LineOk l ∧ (good l = false → ∀ H', Sm H H' → Q .non H') ∧ (good l = true → ∀ H' p, Sm H H' → H p = none → H' p = some (.tup (rowL l).v) → Q (.ref p) H')
section
variable {P : Program} {w : World} {K : PySem.W.Frag} {mg : Str → Option Value} {base : Heap}
theorem notin_read {H : Hp} {p : Addr} {ws : List Str} {i : Nat} {w a b : Str} {σ : L2.St} {R : Bool → Hp → Prop} (e : σ[1]? = some (some (.ref p))) (hp : H p = some (.lst (ws.map V.str))) (hw : ws[i]? = some w) (h : ∀ H', Sm H H' → R (!decide (w ∈ [a, b])) H') :
    tTest (tOp (rIn K true) (tOp (rIxL K) (tVar 1) (tC (.int (i : Nat)))) (tTup (tCons (tC (.str a)) (tCons (tC (.str b)) tNil)))) σ H R := by
  refine ⟨.ref p, e, p, _, i, .str w, rfl, rfl, .inl (.inl hp), atI_nat (by rw [List.getElem?_map, hw]; rfl), by show 2 ≤ sizeLine; decide, fun t nt => ?_⟩
  refine ⟨t, [a, b].map V.str, rfl, .inr (.inl (.inl upd_same)), rfl, flat_strs _, _, rfl, ?_⟩
  have q := h _ (Sm.new (o := .tup ([a, b].map V.str)) nt)
  rw [← inV_str w [a, b]] at q
  exact q
theorem eq_read {H : Hp} {p : Addr} {ws : List Str} {i : Nat} {w a : Str} {σ : L2.St} {R : Bool → Hp → Prop} (e : σ[1]? = some (some (.ref p))) (hp : H p = some (.lst (ws.map V.str))) (hw : ws[i]? = some w) (h : R (decide (w = a)) H) :
    tTest (tOp rEq (tOp (rIxL K) (tVar 1) (tC (.int (i : Nat)))) (tC (.str a))) σ H R := by
  refine ⟨.ref p, e, p, _, i, .str w, rfl, rfl, .inl (.inl hp), atI_nat (by rw [List.getElem?_map, hw]; rfl), rfl, _, rfl, ?_⟩
  have e1 : decide (V.str w = V.str a) = decide (w = a) := decide_eq_decide.mpr ⟨V.str.inj, fun z => by rw [z]⟩
  rw [e1]
  exact h
theorem ok_law_read (T : Top NN K mg base) : D P w K mg base 1 "_law_read" ["line"] (spRead K) := by
  refine T.ok0 (d := d_law_read) i_law_read rfl rfl rfl rfl (by decide +kernel) sc_law_read (fun _ _ _ _ _ _ us hl => match us, hl with | [_], _ => rfl) (fun vs H Q E h => ?_) (fun cdv A outer s H vs Q E ec hr h => ?_)
  · obtain ⟨l, rfl, _⟩ := h
    rfl
  · obtain ⟨l, rfl, hl, q1, q2⟩ := h
    have n_int := T.f "int" (by decide +kernel)
    have n_len := T.f "len" (by decide +kernel)
    have n_tuple := T.f "tuple" (by decide +kernel)
    refine ⟨_, (pss_cons (ps_set (i := 1) sc_law_read.nd rfl (.inl rfl) (pe_split (pv 0) pe_str))
      (pss_cons (ps_if (PW.pt (pw_or (pt_cmpR op_ne (pe_callB call_len_seq (by rfl) n_len PySem.boot_len (pa_cons (pv 1) pa_nil)) pe_int (nomark _)) (pw_or (pt_cmpR op_notIn_seq (pe_ix  ix_list (pv 1) pe_int (fun _ _ => rfl)) (pe_tup (pa_cons pe_str (pa_cons pe_str pa_nil))) rfl) (pw_or (pt_cmpR op_notIn_seq (pe_ix  ix_list (pv 1) pe_int (fun _ _ => rfl)) (pe_tup (pa_cons pe_str (pa_cons pe_str pa_nil))) rfl) (pw_or1 (pt_cmpR op_notIn_seq (pe_ix  ix_list (pv 1) pe_int (fun _ _ => rfl)) (pe_tup (pa_cons pe_str (pa_cons pe_str pa_nil))) rfl)))))) (pss_one (ps_ret pe_non)) pss_nil)
      (pss_cons (ps_if (PW.pt (pw_or (pt_cmpR op_notIn_seq (pe_ix  ix_list (pv 1) pe_int (fun _ _ => rfl)) (pe_tup (pa_cons pe_str (pa_cons pe_str pa_nil))) rfl) (pw_or (pt_cmpR op_notIn_seq (pe_ix  ix_list (pv 1) pe_int (fun _ _ => rfl)) (pe_tup (pa_cons pe_str (pa_cons pe_str pa_nil))) rfl) (pw_or (pt_cmpR op_eq (pe_ix  ix_list (pv 1) pe_int (fun _ _ => rfl)) pe_str (nomark _)) (pw_or1 (pt_cmpR op_eq (pe_ix  ix_list (pv 1) pe_int (fun _ _ => rfl)) pe_str (nomark _))))))) (pss_one (ps_ret pe_non)) pss_nil)
      (pss_one (ps_ret (pe_op op_catT (pe_callTy call_tuple_of (by rfl) n_tuple (by decide +kernel) (pa_cons (pe_slice sl_list (pv 1) po_none (po_some pe_int)) pa_nil)) (pe_tup (pa_cons (pe_cmpR op_eq (pe_ix  ix_list (pv 1) pe_int (fun _ _ => rfl)) pe_str (nomark _)) (pa_cons (pe_callTy call_int_str (by rfl) n_int (by decide +kernel) (pa_cons (pe_ix  ix_list (pv 1) pe_int (fun _ _ => rfl)) pa_nil)) (pa_cons (pe_callTy call_int_str (by rfl) n_int (by decide +kernel) (pa_cons (pe_ix  ix_list (pv 1) pe_int (fun _ _ => rfl)) pa_nil)) pa_nil)))))))))), ?_⟩
    have big : (10000 : Nat) ≤ sizeLine := by decide
    have ll := line_len_le hl
    obtain ⟨pl, pn, _, p7⟩ := line_parts hl
    refine ⟨.str l, rfl, ⟨_, rfl⟩, l, spS, rfl, rfl, by decide +kernel, by omega, fun p np => ?_⟩
    have s0 : Sm H (upd H p (.lst ((partsOf l).map V.str))) := Sm.new np
    have e0 : (upd H p (.lst ((partsOf l).map V.str))) p = some (.lst ((partsOf l).map V.str)) := upd_same
    refine ⟨_, rfl, p, _, rfl, .inl (.inl (.inl upd_same)), rfl, _, rfl, ?_⟩
    show if (!decide (V.int (((partsOf l).map V.str).length : Int) = V.int 7)) = true then _ else _
    refine iteB (fun h => ?_) fun h => ?_
    · have h7 : (partsOf l).length ≠ 7 := fun e => by
        rw [List.length_map, e] at h
        exact absurd h (by decide)
      exact iteT (q1 (isLine_len h7) _ s0)
    · have h7 : (partsOf l).length = 7 := by
        rw [Bool.not_eq_false', decide_eq_true_eq, List.length_map] at h
        have h2 := V.int.inj h
        omega
      obtain ⟨c, t, n, s', a, af, be, ew, k0, k1, k2, k3, k4, k5, k6⟩ := in7_list (p7 h7)
      have eg : good l = isRow c t n s' a af be := by
        unfold good
        rw [ew]
        exact isLine_row k0 k1 k2 k3 k5 k6
      have W : ∀ i : Nat, (partsOf l)[i]? = ([c, t, n, s', a, af, be] : List Str)[i]? := fun i => by rw [ew]
      refine notin_read rfl e0 (w := c) (W 0) fun H2 s2 => iteB (fun b => ?_) fun b => ?_
      · exact iteT (q1 (by rw [eg]; unfold isRow; rw [show decide (c ∈ g0) = false from by rw [Bool.not_eq_true'] at b; exact b]; rfl) _ (s0.trans s2))
      have b0 : decide (c ∈ g0) = true := by rw [Bool.not_eq_false'] at b; exact b
      clear b
      refine notin_read rfl (s2.lst e0) (w := t) (W 1) fun H3 s3 => iteB (fun b => ?_) fun b => ?_
      · exact iteT (q1 (by rw [eg]; unfold isRow; rw [show decide (t ∈ g1) = false from by rw [Bool.not_eq_true'] at b; exact b, Bool.false_and, Bool.and_false]) _ (s0.trans (s2.trans s3)))
      have b1 : decide (t ∈ g1) = true := by rw [Bool.not_eq_false'] at b; exact b
      clear b
      have s23 := s2.trans s3
      refine notin_read rfl (s23.lst e0) (w := n) (W 2) fun H4 s4 => iteB (fun b => ?_) fun b => ?_
      · exact q1 (by rw [eg]; unfold isRow; rw [show decide (n ∈ g2) = false from by rw [Bool.not_eq_true'] at b; exact b]; simp only [Bool.false_and, Bool.and_false]) _ (s0.trans (s23.trans s4))
      have b2 : decide (n ∈ g2) = true := by rw [Bool.not_eq_false'] at b; exact b
      clear b
      have s24 := s23.trans s4
      refine notin_read rfl (s24.lst e0) (w := s') (W 3) fun H5 s5 => iteB (fun b => ?_) fun b => ?_
      · exact iteT (q1 (by rw [eg]; unfold isRow; rw [show decide (s' ∈ g3) = false from by rw [Bool.not_eq_true'] at b; exact b]; simp only [Bool.false_and, Bool.and_false]) _ (s0.trans (s24.trans s5)))
      have b3 : decide (s' ∈ g3) = true := by rw [Bool.not_eq_false'] at b; exact b
      clear b
      have s25 := s24.trans s5
      refine notin_read rfl (s25.lst e0) (w := a) (W 4) fun H6 s6 => iteB (fun b => ?_) fun b => ?_
      · exact iteT (q1 (by rw [eg]; unfold isRow; rw [show decide (a ∈ g4) = false from by rw [Bool.not_eq_true'] at b; exact b]; simp only [Bool.false_and, Bool.and_false]) _ (s0.trans (s25.trans s6)))
      have b4 : decide (a ∈ g4) = true := by rw [Bool.not_eq_false'] at b; exact b
      clear b
      have s26 := s25.trans s6
      refine eq_read rfl (s26.lst e0) (w := af) (W 5) (iteB (fun b => ?_) fun b => ?_)
      · exact iteT (q1 (by rw [eg]; unfold isRow; rw [b]; simp only [Bool.not_true, Bool.false_and, Bool.and_false]) _ (s0.trans s26))
      have b5 := b
      clear b
      refine eq_read rfl (s26.lst e0) (w := be) (W 6) (iteB (fun b => ?_) fun b => ?_)
      · exact q1 (by rw [eg]; unfold isRow; rw [b]; simp only [Bool.not_true, Bool.and_false]) _ (s0.trans s26)
      have gt : good l = true := by
        rw [eg]
        unfold isRow
        rw [b0, b1, b2, b3, b4, b5, b]
        rfl
      have gl : isLine (partsOf l) = true := gt
      obtain ⟨c', t', n', s'', a', af', be', x, y, ew2, hx1, hy1⟩ := isLine_parts gl
      rw [ew] at ew2
      simp only [List.cons.injEq, and_true] at ew2
      obtain ⟨rfl, rfl, rfl, rfl, rfl, rfl, rfl⟩ := ew2
      obtain ⟨ix, lx⟩ := readRev_int hx1
      obtain ⟨iy, ly⟩ := readRev_int hy1
      have e6 := s26.lst e0
      have at_ : ∀ (i : Nat) (w : Str), ([c, t, n, s', a, af, be] : List Str)[i]? = some w → atI ((partsOf l).map V.str) (i : Int) = some (.str w) := fun i w hw => atI_nat (by rw [List.getElem?_map, W i, hw]; rfl)
      -- tuple(parts[:4])
      refine ⟨.ref p, rfl, _, rfl, p, _, rfl, .inl (.inl e6), fun u nu => ?_⟩
      have s7 := Sm.new (H := H6) (o := .lst (cutV ((partsOf l).map V.str) none (some 4))) nu
      refine ⟨u, _, rfl, .inl ⟨.inl (.inl upd_same), fun u2 nu2 => ?_⟩⟩
      have s8 := s7.trans (Sm.new (o := .tup (cutV ((partsOf l).map V.str) none (some 4))) nu2)
      have e8 := s8.lst e6
      refine ⟨.ref p, rfl, p, _, 4, .str a, rfl, rfl, .inl (.inl e8), at_ 4 a rfl, rfl, .ref p, rfl, p, _, 5, .str af, rfl, rfl, .inl (.inl e8), at_ 5 af rfl, af, x, rfl, ix, by omega, .ref p, rfl, p, _, 6, .str be, rfl, rfl, .inl (.inl e8), at_ 6 be rfl, be, y, rfl, iy, by omega, by show 3 ≤ sizeLine; decide, fun u3 nu3 => ?_⟩
      have dec : V.bl (decide (V.str a = V.str yesS)) = V.bl (decide (a = yesS)) := by
        congr 1
        exact decide_eq_decide.mpr ⟨V.str.inj, fun e => by rw [e]⟩
      have cut : cutV ((partsOf l).map V.str) none (some 4) = [.str c, .str t, .str n, .str s'] := by rw [ew]; rfl
      have er : (rowL l).v = cutV ((partsOf l).map V.str) none (some 4) ++ [.bl (decide (V.str a = V.str yesS)), .int (x : Nat), .int (y : Nat)] := by
        rw [cut, dec]
        unfold rowL
        rw [ew]
        show [V.str c, .str t, .str n, .str s', .bl (decide (a = yesS)), .int ((readRev af).getD 0 : Nat), .int ((readRev be).getD 0 : Nat)] = _
        rw [hx1, hy1]
        rfl
      have s9 := Sm.new (H := upd (upd H6 u (.lst (cutV ((partsOf l).map V.str) none (some 4)))) u2 (.tup (cutV ((partsOf l).map V.str) none (some 4)))) (o := .tup [.bl (decide (V.str a = V.str yesS)), .int (x : Nat), .int (y : Nat)]) nu3
      refine ⟨u2, u3, _, _, rfl, rfl, .inl (.inl (s9.tup upd_same)), .inl (.inl upd_same), by rw [cut]; exact List.cons_ne_nil _ _, by rw [cut]; show 4 + 3 ≤ sizeLine; decide, (fun z => nomatch z), fun _ v nv => ?_⟩
      have sa := (s0.trans s26).trans (s8.trans s9)
      exact q2 gt _ v (sa.put (sa.free nv)) (sa.free nv) (by rw [er]; exact upd_same)
end
end A5

set_option Elab.async false
set_option linter.all false
set_option maxRecDepth 100000
set_option maxHeartbeats 4000000
namespace A5
open PySem PySem.Spec PyProof.Rows L2 AS
def spTold (K : PySem.W.Frag) (tf : List He.Defn) : Sp := fun vs H Q _ => ∃ z : Str, vs = [.str z] ∧ z.length ≤ 100000 ∧ Tabs K tf H ∧
  (z = Str.empty → ∀ H' p, Sm H H' → H' p = some (.lst []) → Q (.ref p) H') ∧
  (z ≠ Str.empty → (∀ l ∈ linesOf z, good l = true) → ∀ H' p as, Sm H H' → H' p = some (.lst (as.map V.ref)) → Rows H' as ((linesOf z).map rowL) → Q (.ref p) H') ∧
  (z ≠ Str.empty → ∀ i l, (linesOf z)[i]? = some l → good l = false → (∀ j m, j < i → (linesOf z)[j]? = some m → good m = true) →
    ∀ p H', Sm H H' → H' p = some (.tup [.int (1 + (i : Nat)), .str badS]) → Q (.ref p) H')
section
variable {P : Program} {w : World} {K : PySem.W.Frag} {mg : Str → Option Value} {base : Heap}
theorem ok_law_told (T : Top NN K mg base) (B : VeInit K (He.ga K "AuthError")) (R : ErrC K mg "BadFeed" "line" "what") : D P w K mg base 7 "_law_told" ["text"] (spTold K NN.tf) := by
  refine T.ok0 (d := d_law_told) i_law_told rfl rfl rfl rfl (by decide +kernel) sc_law_told (fun _ _ _ _ _ _ us hl => match us, hl with | [_], _ => rfl) (fun vs H Q E h => ?_) (fun cdv A outer s H vs Q E ec hr h => ?_)
  · obtain ⟨l, rfl, _⟩ := h
    rfl
  · obtain ⟨z, rfl, hz, hT, q1, q2, q3⟩ := h
    obtain ⟨⟨fd, F, b⟩, kp, gl⟩ := ok_read_log (P := P) (w := w) T B R
    refine ⟨_, PSs.nox (pss_one (ps_try_as (i := 1) (tb := fun W D σ H => tCallS (spReadLog K NN.tf) (WE W) (tCons (tVar 0) tNil) σ H D.rt) (ts := fun a cls d D σ H => tTup (tCons (tXf a cls d (He.ga K "BadFeed") "line" (tVar 1)) (tCons (tXf a cls d (He.ga K "BadFeed") "what" (tVar 1)) tNil)) σ H D.rt) (Wout := fun _ _ _ _ => False) rfl rfl sc_law_told.nd rfl rfl ⟨rfl, by decide, .inl R.gl⟩ takes0 ?_ ?_)), ?_⟩
    · exact fun W pn xe tk _ => pss_one (ps_ret (pe_callS F hr (by rfl) gl kp b (fun σ => passAt tk σ) (pa_cons (pv 0) pa_nil)))
    · exact fun a oe cls d pn hz hf => pss_one (ps_ret (pe_tup (pa_cons (pe_xf R.xf R.no1 hz hf (pv 1)) (pa_cons (pe_xf R.xf R.no2 hz hf (pv 1)) pa_nil))))
    refine ⟨_, rfl, z, rfl, hz, hT, fun e H' p sm _ ep => q1 e H' p sm ep, fun ne hg H' p as sm _ ep hR _ => q2 ne hg H' p as sm ep hR, fun ne i l hl hg hj d H' sm nd ed => ?_⟩
    refine ⟨true, R.te, fun _ a na => ?_, fun q => Bool.noConfusion q⟩
    refine ⟨_, rfl, rfl, rfl, d, _, _, rfl, ed, rfl, _, rfl, rfl, rfl, d, _, _, rfl, ed, rfl, by show 2 ≤ sizeLine; decide, fun p np => ?_⟩
    exact q3 ne i l hl hg hj p _ (sm.put (sm.free np)) upd_same
end
end A5

set_option Elab.async false
set_option linter.all false
set_option maxRecDepth 100000
set_option maxHeartbeats 4000000
namespace A5
open PySem PySem.Spec PyProof.Rows L2 AS
/-! ### numbers written and read back -/
theorem val_snoc (l : List Nat) (d : Nat) : NumText.digitsVal (l ++ [d]) = NumText.digitsVal l * 10 + (d - 48) := by
  unfold NumText.digitsVal
  rw [List.foldl_append]
  rfl
theorem num_back : ∀ (k : Nat) (l : List Nat), l.length = k → NumText.AllDigits l → l ≠ [] → (l.head? ≠ some 48 ∨ l = [48]) → TL.numL (NumText.digitsVal l) = l := by
  intro k
  induction k with
  | zero =>
    intro l hl _ hn _
    exact absurd (List.length_eq_zero_iff.mp hl) hn
  | succ k ih =>
    intro l hl hd hn hh
    have el : l.dropLast ++ [l.getLast hn] = l := List.dropLast_concat_getLast hn
    generalize ei : l.dropLast = i at el
    generalize l.getLast hn = d at el
    have dd : 48 ≤ d ∧ d ≤ 57 := hd d (by rw [← el]; exact List.mem_append_right _ (List.mem_singleton.mpr rfl))
    rw [← el, val_snoc]
    cases i with
    | nil =>
      show TL.numL (0 * 10 + (d - 48)) = [d]
      rw [show 0 * 10 + (d - 48) = d - 48 by omega, TL.numL_lt (by omega)]
      congr 1
      omega
    | cons c r =>
      have hk : (c :: r).length = k := by
        have h := congrArg List.length el
        rw [List.length_append] at h
        simp only [List.length_singleton] at h
        omega
      have h48 : c ≠ 48 := fun e => by
        rcases hh with h | h
        · rw [← el, e] at h
          exact h rfl
        · rw [← el] at h
          have h2 := congrArg List.length h
          simp at h2
      have back := ih (c :: r) hk (fun x hx => hd x (by rw [← el]; exact List.mem_append_left _ hx)) (by simp) (.inl (fun e => h48 (Option.some.inj e)))
      have pos : 1 ≤ NumText.digitsVal (c :: r) := by
        rcases Nat.eq_zero_or_pos (NumText.digitsVal (c :: r)) with h0 | h0
        · rw [h0] at back
          have b2 : [48] = c :: r := back
          exact absurd (List.head_eq_of_cons_eq b2).symm h48
        · exact h0
      rw [TL.numL_step (by omega)]
      have e1 : (NumText.digitsVal (c :: r) * 10 + (d - 48)) / 10 = NumText.digitsVal (c :: r) := by omega
      have e2 : 48 + (NumText.digitsVal (c :: r) * 10 + (d - 48)) % 10 = d := by omega
      rw [e1, e2, back]
theorem readRev_back {z : Str} {n : Nat} (h : readRev z = some n) : z = toString (n : Int) ∧ n ≤ 1000 := by
  unfold readRev at h
  by_cases g : (decide (1 ≤ z.length) && decide (z.length ≤ 4) && allDig z) = true
  · rw [if_pos g] at h
    by_cases g2 : (zeroHead z && !decide (z = zeroS)) = true
    · rw [if_pos g2] at h
      cases h
    · rw [if_neg g2] at h
      by_cases g3 : NumText.digitsVal (tl z) ≤ 1000
      · rw [if_pos g3] at h
        have e := Option.some.inj h
        rw [Bool.and_eq_true, Bool.and_eq_true] at g
        obtain ⟨⟨g4, g5⟩, g6⟩ := g
        have g7 := of_decide_eq_true g4
        have ne : tl z ≠ [] := fun q => by
          rw [len_tl, q] at g7
          exact absurd g7 (by decide)
        have hh : (tl z).head? ≠ some 48 ∨ tl z = [48] := by
          by_cases q : z = zeroS
          · right
            rw [q]
            rfl
          · left
            intro q2
            apply g2
            have q3 : zeroHead z = true := by
              unfold zeroHead
              cases e : tl z with
              | nil => exact absurd e ne
              | cons c r =>
                rw [e] at q2
                exact decide_eq_true (Option.some.inj q2)
            rw [q3, decide_eq_false q]
            rfl
        have back := num_back _ (tl z) rfl (allDig_digits g6) ne hh
        rw [e] at back
        refine ⟨TL.ext_tl ?_, by omega⟩
        have e9 : tl (toString (n : Int) : Str) = TL.numL n := TL.tl_num n
        exact back.symm.trans e9.symm
      · rw [if_neg g3] at h
        cases h
  · rw [if_neg g] at h
    cases h
/-! ### the lines of the law -/
theorem clean_nl {l : Str} (h : LineOk l) : 10 ∉ tl l := by
  rcases h with rfl | ⟨ps, rfl, hp⟩
  · intro q
    cases q
  · have e : tl (Txt.join spS ps) = TL.joinL (tl spS) (ps.map tl) := by
      rw [TL.join_eq]
      exact TL.tl_join spS ps
    rw [e]
    have key : ∀ qs : List (List Nat), (∀ q ∈ qs, 10 ∉ q) → 10 ∉ TL.joinL (tl spS) qs := by
      intro qs
      induction qs with
      | nil => intro _ h; cases h
      | cons q r ih =>
        intro hq
        cases r with
        | nil => exact hq q (List.mem_cons_self ..)
        | cons q2 r2 =>
          intro hm
          have hm2 : 10 ∈ q ++ (tl spS ++ TL.joinL (tl spS) (q2 :: r2)) := hm
          rcases List.mem_append.mp hm2 with h1 | h1
          · exact hq q (List.mem_cons_self ..) h1
          · rcases List.mem_append.mp h1 with h2 | h2
            · exact absurd h2 (by decide +kernel)
            · exact ih (fun x hx => hq x (List.mem_cons_of_mem _ hx)) h2
    refine key _ fun q hq => ?_
    obtain ⟨p, hp2, rfl⟩ := List.mem_map.mp hq
    exact (hp.1 p hp2).2.1
theorem lines_join {ls : List Str} (h : ∀ l ∈ ls, LineOk l) (ne : ls ≠ []) : linesOf (Txt.join nlS ls) = ls := by
  have e : tl nlS = 10 :: [] := by decide +kernel
  exact TL.split_join e (by decide +kernel) ne fun p hp => clean_nl (h p hp)
theorem text_len {ls : List Str} (h : ∀ l ∈ ls, LineOk l) (n : ls.length ≤ 25) : (ls.map (·.length)).sum + ls.length * nlS.length ≤ 100000 := by
  have h1 : (ls.map (·.length)).sum ≤ (ls.map (·.length)).length * 1000 := sum_le fun x hx => by
    obtain ⟨y, hy, rfl⟩ := List.mem_map.mp hx
    exact line_len_le (h y hy)
  rw [List.length_map] at h1
  have h2 : nlS.length = 1 := by decide +kernel
  rw [h2]
  omega
theorem isRow_yes {a : Str} (h : decide (a ∈ g4) = true) : ansS (decide (a = yesS)) = a := by
  rcases List.mem_cons.mp (of_decide_eq_true h) with e | e
  · have e2 : a = yesS := e
    rw [e2, decide_eq_true rfl]
    rfl
  · have e2 : a = noS := List.mem_singleton.mp e
    rw [e2]
    decide +kernel
theorem good_row {l : Str} (hl : LineOk l) (h : good l = true) : lineS (rowL l) = l ∧ (rowL l).ok := by
  have gl : isLine (partsOf l) = true := h
  obtain ⟨c, t, n, s, a, af, be, x, y, ew, hx, hy⟩ := isLine_parts gl
  obtain ⟨b1, b2⟩ := readRev_back hx
  obtain ⟨b3, b4⟩ := readRev_back hy
  have sh := (line_parts hl).1
  rw [ew] at sh
  have er : rowL l = ⟨c, t, n, s, decide (a = yesS), x, y⟩ := by
    unfold rowL
    rw [ew]
    show (⟨c, t, n, s, decide (a = yesS), (readRev af).getD 0, (readRev be).getD 0⟩ : Row) = _
    rw [hx, hy]
    rfl
  have ha : ansS (decide (a = yesS)) = a := by
    rw [ew, isLine7] at gl
    simp only [Bool.and_eq_true] at gl
    exact isRow_yes gl.2.2.1
  have el : l = Txt.join spS [c, t, n, s, a, af, be] := by
    rw [← ew]
    exact (TL.join_eq spS (partsOf l) ▸ (StrLaws.join_split l spS)).symm
  refine ⟨?_, ?_⟩
  · rw [er]
    unfold lineS
    show Str.empty ++ c ++ spS ++ t ++ spS ++ n ++ spS ++ s ++ spS ++ ansS (decide (a = yesS)) ++ spS ++ toString (x : Int) ++ spS ++ toString (y : Int) = l
    rw [ha, ← b1, ← b3]
    refine TL.ext_tl ?_
    rw [el, TL.join_eq, TL.tl_join]
    simp only [TL.tl_append, TL.joinL, List.map_cons, List.map_nil, List.append_assoc]
    rfl
  · rw [er]
    have i0 := sh c (by simp)
    have i1 := sh t (by simp)
    have i2 := sh n (by simp)
    have i3 := sh s (by simp)
    exact ⟨by show c.length ≤ 1000; omega, by show t.length ≤ 1000; omega, by show n.length ≤ 1000; omega, by show s.length ≤ 1000; omega, by show x ≤ 1000000; omega, by show y ≤ 1000000; omega⟩
end A5

set_option Elab.async false
set_option linter.all false
set_option maxRecDepth 100000
set_option maxHeartbeats 4000000
namespace A5
open PySem PySem.Spec PyProof.Rows L2 AS
/-- the law's promise -/
def spLaw (K : PySem.W.Frag) : Sp := fun vs H Q _ => ∃ (a : Addr) (ns : List Int), vs = [.ref a] ∧ SqL K H a (ns.map V.int) ∧ ns.length ≤ 63 ∧ Tabs K NN.tf H ∧ ∀ H', Q (.bl true) H'
theorem Rows.other {H : Hp} {o : Addr} {h : HO} : ∀ {bs : List Addr} {rs : List Row}, Rows H bs rs → (∃ xs, H o = some (.lst xs)) → Rows (upd H o h) bs rs
  | [], [], _, _ => trivial
  | b :: _, r :: _, hR, ho => by
    obtain ⟨xs, ho⟩ := ho
    refine ⟨?_, Rows.other hR.2 ⟨xs, ho⟩⟩
    have nb : b ≠ o := fun e => by
      have h1 := hR.1
      rw [e, ho] at h1
      cases h1
    rw [upd_ne nb]
    exact hR.1
  | [], _ :: _, hR, _ => hR.elim
  | _ :: _, [], hR, _ => hR.elim
theorem eq_row {H : Hp} {a b : Addr} {r : Row} (ha : H a = some (.tup r.v)) (hb : H b = some (.tup r.v)) : EqD H 2 (.ref a) (.ref b) := by
  refine .inr ⟨a, b, _, _, rfl, rfl, ha, hb, rfl, by show 7 ≤ 1000; decide, fun i u v hu hv => .inl ?_⟩
  have e : u = v := Option.some.inj (hu.symm.trans hv)
  refine ⟨e, ?_⟩
  match i, hu with
  | 0, hu => exact .inl ⟨_, (Option.some.inj hu).symm⟩
  | 1, hu => exact .inl ⟨_, (Option.some.inj hu).symm⟩
  | 2, hu => exact .inl ⟨_, (Option.some.inj hu).symm⟩
  | 3, hu => exact .inl ⟨_, (Option.some.inj hu).symm⟩
  | 4, hu => exact .inr (.inr (.inr ⟨_, (Option.some.inj hu).symm⟩))
  | 5, hu => exact .inr (.inl ⟨_, (Option.some.inj hu).symm⟩)
  | 6, hu => exact .inr (.inl ⟨_, (Option.some.inj hu).symm⟩)
  | n + 7, hu => cases hu
def rares : List Int := [10, 60, 400]
section
variable {P : Program} {w : World} {K : PySem.W.Frag} {mg : Str → Option Value} {base : Heap}
theorem ok_law (T : Top NN K mg base) (B : VeInit K (He.ga K "AuthError")) (R_BadFeed : ErrC K mg "BadFeed" "line" "what") {fd : FuncData} (F : FunD K dlaw.name dlaw.qual dlaw.params dlaw.body dlaw.scope [] [] (He.ga K "law") fd) : FnOk P w K mg base CX0 8 (He.ga K "law") fd ["script"] (spLaw K) := by
  refine okF F sclaw (fun vs H Q E h => ?_) (fun cdv A outer s H vs Q E hr h => ?_)
  · obtain ⟨a, ns, rfl, _⟩ := h
    rfl
  · obtain ⟨a, ns, rfl, hS, hn, hT, q⟩ := h
    have n_isinstance := T.f "isinstance" (by decide +kernel)
    have n_len := T.f "len" (by decide +kernel)
    have n_list := T.f "list" (by decide +kernel)
    have n_range := T.f "range" (by decide +kernel)
    have n_tuple := T.f "tuple" (by decide +kernel)
    have G__law_cell := (ok_law_cell (P := P) (w := w) T).mono (show 1 ≤ 7 by decide)
    have G__law_line := (ok_law_line (P := P) (w := w) T).mono (show 2 ≤ 7 by decide)
    have G__law_read := (ok_law_read (P := P) (w := w) T).mono (show 1 ≤ 7 by decide)
    have G__law_same2 := (ok_law_same (P := P) (w := w) T 2).mono (show 2 ≤ 7 by decide)
    have G__law_same := (ok_law_same (P := P) (w := w) T 3).mono (show 3 ≤ 7 by decide)
    have G__law_told := ok_law_told (P := P) (w := w) T B R_BadFeed
    have G_write_log := (ok_write_log (P := P) (w := w) T).mono (show 2 ≤ 7 by decide)
    refine ⟨_, (pss_cons (ps_set (i := 1) sclaw.nd rfl (.inr rfl) (pe_ix  ix_list (pe_lst (pa_cons pe_int (pa_cons pe_int (pa_cons pe_int pa_nil)))) (pe_op op_mod (pe_op op_fdivN (pe_callD G__law_cell hr (pa_cons (pv 0) (pa_cons pe_int pa_nil))) pe_int) pe_int) (fun _ _ => rfl)))
      (pss_cons (ps_setLc (i := 3) (own := [("k", 2)]) (g := gName 2) (tt := tYes) rfl sclaw.nd rfl rfl (sw_true rfl rfl rfl (by decide +kernel)) (pi_range1 rfl n_range (pa_cons (pe_op op_mod (pe_callD G__law_cell hr (pa_cons (pv 0) (pa_cons pe_int pa_nil))) pe_int) pa_nil)) (blkOk_by (N := ["script", "rare", "k", "lines", "found", "due", "line", "text", "told"]) (sc := defScope slaw) (by decide +kernel)) (fun _ _ _ _ _ => (pg_name (i := 2) sclaw.nd rfl (.inl rfl))) (fun _ _ _ _ _ => pts_nil) (fun _ _ _ _ _ => (pe_callD G__law_line hr (pa_cons (pe_callD G__law_cell hr (pa_cons (pv 0) (pa_cons (pe_op op_add pe_int (pv 2)) pa_nil))) (pa_cons (pv 1) pa_nil)))))
      (pss_cons (ps_set (i := 4) sclaw.nd rfl (.inl rfl) (pe_lst pa_nil))
      (pss_cons (ps_set (i := 5) sclaw.nd rfl (.inl rfl) pe_non)
      (pss_cons (ps_for PassesOwn.never rfl (pi_range1 rfl n_range (pa_cons (pe_callB call_len_seq (by rfl) n_len PySem.boot_len (pa_cons (pv 3) pa_nil)) pa_nil)) (pg_name (i := 2) sclaw.nd rfl (.inl rfl)) (pss_one (ps_if (pt_cmpR op_isN (pv 5) pe_non (nomark _)) (pss_cons (ps_set (i := 6) sclaw.nd rfl (.inl rfl) (pe_callD G__law_read hr (pa_cons (pe_ix  ix_list (pv 3) (pv 2) (fun _ _ => rfl)) pa_nil)))
      (pss_cons (ps_if (pt_cmpR op_isN (pv 6) pe_non (nomark _)) (pss_one (ps_set (i := 5) sclaw.nd rfl (.inl rfl) (pe_tup (pa_cons (pe_op op_add (pv 2) pe_int) (pa_cons pe_str pa_nil))))) pss_nil)
      (pss_one (ps_expr (pe_bm PySem.F.plainAttrs_list PySem.F.slot_list_append PySem.F.type_list_append mt_append (pv 4) (pa_cons (pv 6) pa_nil)))))) pss_nil)))
      (pss_cons (ps_set (i := 7) sclaw.nd rfl (.inl rfl) (pe_join pe_str (pv 3)))
      (pss_cons (ps_set (i := 8) sclaw.nd rfl (.inl rfl) (pe_callD G__law_told hr (pa_cons (pv 7) pa_nil)))
      (pss_cons (ps_if (pt_cmpR op_eq (pv 7) pe_str (nomark _)) (pss_one (ps_ret (pe_cmpR (op_eqD hr.units) (pv 8) (pe_lst pa_nil) (nomark _)))) pss_nil)
      (pss_cons (ps_if (pt_cmpR op_notN (pv 5) pe_non (nomark _)) (pss_one (ps_ret (pe_and (pe_callB call_isi (by rfl) n_isinstance (by decide +kernel) (pa_cons (pv 8) (pa_cons (pe_bltn (v := .ty "tuple") (by rfl) n_tuple (by decide +kernel) rfl) pa_nil))) (pe_one (pe_callD G__law_same2 hr (pa_cons (pv 8) (pa_cons (pv 5) pa_nil))))))) pss_nil)
      (pss_one (ps_ret (pe_and (pe_callB call_isi (by rfl) n_isinstance (by decide +kernel) (pa_cons (pv 8) (pa_cons (pe_bltn (v := .ty "list") (by rfl) n_list (by decide +kernel) rfl) pa_nil))) (pe_and (pe_callD G__law_same hr (pa_cons (pe_callTy call_tuple_of (by rfl) n_tuple (by decide +kernel) (pa_cons (pv 8) pa_nil)) (pa_cons (pe_callTy call_tuple_of (by rfl) n_tuple (by decide +kernel) (pa_cons (pv 4) pa_nil)) pa_nil))) (pe_one (pe_cmpR op_eq (pe_callD G_write_log hr (pa_cons (pv 8) pa_nil)) (pv 7) (nomark _)))))))))))))))), ?_⟩
    have big : (1000000 : Nat) ≤ sizeLine := by decide
    -- rare
    refine ⟨by show 3 ≤ sizeLine; decide, fun p0 np0 => ?_⟩
    have s0 : Sm H (upd H p0 (.lst (rares.map V.int))) := Sm.new np0
    obtain ⟨m0, em0, hm0⟩ := mod_nat ((ns.getD 0 0).fdiv 26) 3 (by decide)
    refine ⟨.ref a, rfl, a, ns, 0, rfl, s0.seq hS, hn, _, 26, rfl, rfl, ⟨by decide, by decide⟩, _, 3, rfl, rfl, by show (0 : Int) < 3; decide, p0, rares.map V.int, m0, .int rares[m0], rfl, congrArg V.int em0, .inl (.inl upd_same), at_int (ds := rares) hm0, ?_⟩
    have hr10 : ∃ r : Nat, rares[m0] = (r : Int) ∧ 10 ≤ r := by
      have key : ∀ m, (h : m < rares.length) → rares[m] = ((rares[m].toNat : Nat) : Int) ∧ 10 ≤ rares[m].toNat := by decide
      exact ⟨_, key m0 hm0⟩
    obtain ⟨r, er, r10⟩ := hr10
    rw [er]
    -- lines
    obtain ⟨n, en, hn26⟩ := mod_nat (ns.getD 0 0) 26 (by decide)
    refine ⟨.ref a, rfl, a, ns, 0, rfl, s0.seq hS, hn, _, 26, rfl, rfl, by show (0 : Int) < 26; decide, (n : Int), congrArg (fun z => [V.int z]) en, by omega, by omega, fun D nD => ?_⟩
    have s1 : Sm H (upd (upd H p0 (.lst (rares.map V.int))) D (.lst [])) := s0.put (s0.free nD)
    refine lc_range (n := ((n : Nat) : Int).toNat) (fun i H' => Sm H H' ∧ ∃ ls : List Str, ls.length = i ∧ (∀ l ∈ ls, LineOk l) ∧ H' D = some (.lst (ls.map V.str))) ⟨s1, [], rfl, (fun l h => nomatch h), upd_same⟩ (fun i H' hi hP => ?_) fun H' hP => ?_
    · obtain ⟨sm, ls, hl, hok, eD⟩ := hP
      refine ⟨rfl, ?_⟩
      refine ⟨.ref a, rfl, .int (0 + (i : Nat)), rfl, 1, _, rfl, rfl, a, ns, 1 + i, congrArg (fun z => [V.ref a, V.int z]) (by omega), sm.seq hS, hn, .int (r : Nat), rfl, _, r, rfl, r10, fun H2 l hl2 s2 => ?_⟩
      refine ⟨ls.map V.str, s2.lst eD, ?_, (sm.trans s2).put (s0.free nD), ls ++ [l], ?_, fun x hx => ?_, ?_⟩
      · rw [List.length_map, hl]
        omega
      · rw [List.length_append, hl]
        rfl
      · rcases List.mem_append.mp hx with h | h
        · exact hok x h
        · rw [List.mem_singleton.mp h]
          exact hl2
      · rw [upd_same, List.map_append]
        rfl
    obtain ⟨s2, ls, hl, hok, eD⟩ := hP
    have hl25 : ls.length ≤ 25 := by omega
    clear hl en hn26 s1 s0
    -- found, due
    refine ⟨Nat.zero_le _, fun o no => ?_⟩
    have s3 : Sm H (upd H' o (.lst [])) := s2.put (s2.free no)
    have nDo : D ≠ o := fun e => by
      rw [e, no] at eD
      cases eD
    refine ⟨.ref D, rfl, D, _, rfl, .inl (.inl (.inl (by rw [upd_ne nDo]; exact eD))), _, rfl, by omega, by rw [List.length_map]; omega, ?_⟩
    refine for_range (n := (((ls.map V.str).length : Nat) : Int).toNat) (fun i σ H2 => ∃ (u2 u6 : Option V) (d : V), σ = [some (.ref a), some (.int (r : Nat)), u2, some (.ref D), some (.ref o), some d, u6, none, none] ∧ Sm H H2 ∧ H2 D = some (.lst (ls.map V.str)) ∧
        ((d = .non ∧ (∀ k m, k < i → ls[k]? = some m → good m = true) ∧ ∃ as : List Addr, H2 o = some (.lst (as.map V.ref)) ∧ Rows H2 as ((ls.take i).map rowL)) ∨
          ∃ (p : Addr) (j : Nat) (l : Str), d = .ref p ∧ H2 p = some (.tup [.int (1 + (j : Nat)), .str badS]) ∧ ls[j]? = some l ∧ good l = false ∧ ∀ k m, k < j → ls[k]? = some m → good m = true))
      ⟨none, none, .non, rfl, s3, by rw [upd_ne nDo]; exact eD, .inl ⟨rfl, fun k m h => absurd h (Nat.not_lt_zero k), [], upd_same, trivial⟩⟩ (fun i σ H2 hi hP => ?_) fun σ H2 hP => ?_
    · obtain ⟨u2, u6, d, rfl, sm, eD2, hd⟩ := hP
      rcases hd with ⟨rfl, hg, as, eo, hR⟩ | ⟨p, j, l, rfl, hp⟩
      · have hil : i < ls.length := by
          have h1 : (((ls.map V.str).length : Nat) : Int).toNat = ls.length := by rw [List.length_map]; omega
          omega
        have el : ls[i]? = some ls[i] := List.getElem?_eq_getElem hil
        have z0 : (0 : Int) + (i : Int) = (i : Int) := by omega
        refine ⟨.non, rfl, rfl, true, rfl, iteT ?_⟩
        refine ⟨.ref D, rfl, .int (0 + (i : Nat)), rfl, D, _, _, .str ls[i], rfl, rfl, .inl (.inl eD2), by rw [z0]; exact at_str hil, ls[i], rfl, hok _ (List.getElem_mem hil), fun hb H3 s3' => ?_, fun hb H3 t s3' nt et => ?_⟩
        · refine ⟨.non, rfl, rfl, true, rfl, iteT ?_⟩
          refine ⟨.int (0 + (i : Nat)), rfl, _, 1, rfl, rfl, by show 2 ≤ sizeLine; decide, fun p np => ?_⟩
          have s4 := s3'.put (o := .tup [.int (0 + (i : Int) + 1), .str badS]) (s3'.free np)
          have npo : p ≠ o := fun e => by
            rw [e, s3'.lst eo] at np
            cases np
          have npD : p ≠ D := fun e => by
            rw [e, s3'.lst eD2] at np
            cases np
          refine ⟨.ref o, rfl, .inl ⟨rfl, _, .inl (.inl (s4.lst eo))⟩, .non, rfl, o, _, _, rfl, rfl, s4.lst eo, ?_, _, _, _, rfl, (sm.trans s4).put (s2.free no), ?_, .inr ⟨p, i, _, rfl, ?_, el, hb, hg⟩⟩
          · have h1 := hR.len
            rw [List.length_map, List.length_take] at h1
            rw [List.length_map]
            omega
          · rw [upd_ne nDo]
            exact s4.lst eD2
          · rw [upd_ne npo, upd_same]
            show some (HO.tup [V.int (0 + (i : Int) + 1), V.str badS]) = _
            rw [z0, Int.add_comm (i : Int) 1]
        · refine ⟨.ref t, rfl, rfl, false, rfl, iteF ?_⟩
          have nto : t ≠ o := fun e => by
            rw [e, eo] at nt
            cases nt
          have eo3 := s3'.lst eo
          refine ⟨.ref o, rfl, .inl ⟨rfl, _, .inl (.inl eo3)⟩, .ref t, rfl, o, _, _, rfl, rfl, eo3, ?_, _, _, _, rfl, (sm.trans s3').put (s2.free no), ?_, .inl ⟨rfl, fun k m hk hm => ?_, as ++ [t], ?_, ?_⟩⟩
          · have h1 := hR.len
            rw [List.length_map, List.length_take] at h1
            rw [List.length_map]
            omega
          · rw [upd_ne nDo]
            exact s3'.lst eD2
          · by_cases hki : k = i
            · rw [hki, el] at hm
              rw [← Option.some.inj hm]
              exact hb
            · exact hg k m (by omega) hm
          · rw [upd_same, List.map_append]
            rfl
          · rw [List.take_add_one, el, List.map_append]
            exact Rows.snoc (by rw [upd_ne nto]; exact et) ((hR.sm s3').other ⟨_, eo3⟩)
      · refine ⟨.ref p, rfl, rfl, false, rfl, iteF ?_⟩
        exact ⟨_, _, _, rfl, sm, eD2, .inr ⟨p, j, l, rfl, hp⟩⟩
    · obtain ⟨u2, u6, d, rfl, sm, eD2, hd⟩ := hP
      have en2 : (((ls.map V.str).length : Nat) : Int).toNat = ls.length := by rw [List.length_map]; omega
      have hz := text_len hok hl25
      have hzl : (Txt.join nlS ls).length ≤ 100000 := Nat.le_trans (join_len_le nlS ls) hz
      refine ⟨⟨_, rfl⟩, .ref D, rfl, nlS, D, ls, rfl, rfl, .inl (.inl (.inl eD2)), by omega, ?_⟩
      generalize ez : Txt.join nlS ls = z
      rw [ez] at hzl
      refine ⟨.str z, rfl, z, rfl, hzl, sm.tabs hT, fun e H3 p s4 ep => ?_, fun ne hg H3 p bs s4 ep hR2 => ?_, fun ne i l hli hb hj p H3 s4 ep => ?_⟩
      · -- no lines, or one empty line
        refine ⟨.str z, rfl, rfl, true, ?_, iteT ?_⟩
        · show V.bl (decide (V.str z = V.str Str.empty)) = V.bl true
          rw [e, decide_eq_true rfl]
        · refine ⟨.ref p, rfl, Nat.zero_le _, fun o2 no2 => ?_⟩
          have npo2 : p ≠ o2 := fun e => by
            rw [e, no2] at ep
            cases ep
          refine ⟨.list [], .list [], .lst (.inl (.inl (by rw [upd_ne npo2]; exact ep))) .nil, .lst (.inl (.inl upd_same)) .nil, by rfl, by rfl, toBl (SeqAt.eqv_refl_plain _ (by rfl)) (q _)⟩
      · -- all lines stand
        have lne : ls ≠ [] := fun e => ne (by rw [← ez, e]; rfl)
        have ell : linesOf z = ls := by rw [← ez]; exact lines_join hok lne
        rw [ell] at hg hR2
        rcases hd with ⟨rfl, _, as, eo, hR⟩ | ⟨p', j, l, rfl, ep', el', hb', _⟩
        · rw [en2, List.take_length] at hR
          refine ⟨.str z, rfl, rfl, false, ?_, iteF ?_⟩
          · show V.bl (decide (V.str z = V.str Str.empty)) = V.bl false
            rw [decide_eq_false fun e => ne (V.str.inj e)]
          refine ⟨.non, rfl, rfl, false, rfl, iteF ?_⟩
          refine ⟨.ref p, rfl, .ref p, .ty "list", _, _, true, rfl, .ty _, .base (.lst ep), kit_ty (by decide +kernel), true, rfl, iteT ?_⟩
          refine ⟨.ref p, rfl, p, _, rfl, .inl ⟨.inl (.inl ep), fun t1 nt1 => ?_⟩⟩
          have s5 : Sm H3 (upd H3 t1 (.tup (bs.map V.ref))) := Sm.new nt1
          have eo5 := (s4.trans s5).lst eo
          refine ⟨.ref o, rfl, o, _, rfl, .inl ⟨.inl (.inl eo5), fun t2 nt2 => ?_⟩⟩
          have s6 : Sm H3 (upd (upd H3 t1 (.tup (bs.map V.ref))) t2 (.tup (as.map V.ref))) := s5.put (s5.free nt2)
          have e1 : (upd (upd H3 t1 (.tup (bs.map V.ref))) t2 (.tup (as.map V.ref))) t1 = some (.tup (bs.map V.ref)) := by
            rw [upd_ne (fun e => by rw [← e, upd_same] at nt2; cases nt2), upd_same]
          have l1 := hR2.len
          have l2 := hR.len
          rw [List.length_map] at l1 l2
          have R1 := hR2.sm s6
          have R2 := hR.sm (s4.trans s6)
          refine ⟨.ref t1, .ref t2, rfl, ?_, true, rfl, iteT ?_⟩
          · refine .inr ⟨t1, t2, _, _, rfl, rfl, e1, upd_same, by rw [List.length_map, List.length_map, l1, l2], by rw [List.length_map]; omega, fun i u v hu hv => ?_⟩
            rw [List.getElem?_map] at hu hv
            obtain ⟨x, hx, rfl⟩ := Option.map_eq_some_iff.mp hu
            obtain ⟨y, hy, rfl⟩ := Option.map_eq_some_iff.mp hv
            have hi : i < (ls.map rowL).length := by
              have h1 := (List.getElem?_eq_some_iff.mp hx).1
              rw [List.length_map]
              omega
            obtain ⟨x2, hx2, tx⟩ := R1.get (List.getElem?_eq_getElem hi)
            obtain ⟨y2, hy2, ty⟩ := R2.get (List.getElem?_eq_getElem hi)
            rw [hx] at hx2
            rw [hy] at hy2
            cases hx2
            cases hy2
            exact eq_row tx ty
          · refine ⟨.ref p, rfl, p, bs, ls.map rowL, rfl, .inl (.inl (s6.lst ep)), R1, by rw [List.length_map]; omega, fun r hr => ?_, fun H4 s7 => ?_⟩
            · obtain ⟨l, hl, rfl⟩ := List.mem_map.mp hr
              exact (good_row (hok l hl) (hg l hl)).2
            · have back : (ls.map rowL).map lineS = ls := by
                rw [List.map_map]
                conv => rhs; rw [← List.map_id ls]
                exact List.map_congr_left fun l hl => (good_row (hok l hl) (hg l hl)).1
              rw [back, ez]
              exact ⟨.str z, rfl, rfl, toBl (decide_eq_true rfl) (q _)⟩
        · have hb2 := hg l (List.mem_of_getElem? el')
          rw [hb'] at hb2
          cases hb2
      · -- one does not
        have lne : ls ≠ [] := fun e => ne (by rw [← ez, e]; rfl)
        have ell : linesOf z = ls := by rw [← ez]; exact lines_join hok lne
        rw [ell] at hli hj
        rcases hd with ⟨rfl, hg, _⟩ | ⟨p', j, l', rfl, ep', el', hb', hj'⟩
        · have hi : i < ls.length := (List.getElem?_eq_some_iff.mp hli).1
          have hb2 := hg i l (by omega) hli
          rw [hb] at hb2
          cases hb2
        · have eij : i = j := by
            rcases Nat.lt_trichotomy i j with h | h | h
            · have hb2 := hj' i l h hli
              rw [hb] at hb2
              cases hb2
            · exact h
            · have hb2 := hj j l' h el'
              rw [hb'] at hb2
              cases hb2
          subst eij
          refine ⟨.str z, rfl, rfl, false, ?_, iteF ?_⟩
          · show V.bl (decide (V.str z = V.str Str.empty)) = V.bl false
            rw [decide_eq_false fun e => ne (V.str.inj e)]
          refine ⟨.ref p', rfl, rfl, true, rfl, iteT ?_⟩
          refine ⟨.ref p, rfl, .ref p, .ty "tuple", _, _, true, rfl, .ty _, .base (.tup ep), kit_ty (by decide +kernel), true, rfl, iteT ?_⟩
          refine ⟨.ref p, rfl, .ref p', rfl, .ref p, .ref p', rfl, .inr ⟨p, p', _, _, rfl, rfl, ep, s4.tup ep', rfl, by show 2 ≤ 1000; decide, fun k u v hu hv => .inl ?_⟩, q _⟩
          have e : u = v := Option.some.inj (hu.symm.trans hv)
          refine ⟨e, ?_⟩
          match k, hu with
          | 0, hu => exact .inr (.inl ⟨_, (Option.some.inj hu).symm⟩)
          | 1, hu => exact .inl ⟨_, (Option.some.inj hu).symm⟩
          | k + 2, hu => cases hu
end
end A5

set_option Elab.async false
set_option linter.all false
set_option maxRecDepth 100000
set_option maxHeartbeats 0
namespace A5
open PySem PySem.Spec PyProof.Rows L2 AS
abbrev R : PySem.W.OpenRow := PySem.W.OpenLaw.row PySem.Challenge.rw_authsync_k55_texts_of_logs
abbrev ex0 : PySem.W.Frag → Bool := fun K => veInitB K (He.ga K "AuthError") && errB K "BadFeed" "line" "what"
abbrev hk : PySem.W.Hook := AS.hookY 4 NN.fa NN.fn [] NN.tf ex0
def ob (s : PySem.W.SharedT) : He.AlX := AS.obsY 4 NN.fa NN.fn [] NN.tf ex0 (HandSHeadRun.getT s)
theorem ob_eq (s : PySem.W.SharedT) : ob s = hk.obs s.abs := AS.obsY_eq (HandSHeadRun.getT_eq s)
def loose : List Str := ["AuthError", "BadFeed", "_is_word", "is_identifier", "is_object", "is_grant", "read_revision", "write_log", "read_log", "_line_text", "_is_line", "_law_cell", "_law_draws", "_law_same", "_law_line", "_law_read", "_law_told", "LETTERS", "DIGITS", "WORD_SIGNS", "WORD_LIMIT", "GREATEST_REVISION", "REVISION_DIGITS", "WORDS_OF_A_LINE"]
theorem run (w : World) : HandSHeadRun.RunEq R (PySem.W.view R.prog [28]) hk ob 2500 loose w := by
  intro os
  kernel_rfl
end A5

set_option Elab.async false
set_option linter.all false
set_option maxRecDepth 100000
set_option maxHeartbeats 0
open PySem PySem.W PySem.Calls PyProof.Rows
theorem PySem.Challenge.cw_authsync_k55_texts_of_logs_holds : PySem.Challenge.rw_authsync_k55_texts_of_logs.Holds := by
  w_on; o_law
  refine HandSHeadRun.head_any (r := A5.R) (q := view A5.R.prog [28]) (H := A5.hk) (ob := A5.ob) (M := 2500) (loose := A5.loose) (d := HandSHeadRun.topDef A5.R.prog 28) (kwd := []) A5.ob_eq
    (by kernel_rfl) (fun s => by kernel_rfl) A5.run (by kernel_rfl) (by kernel_rfl) (by kernel_rfl) (by rfl) (by first | assumption | decide +kernel) (by decide +kernel) ⟨rfl, rfl, rfl, rfl, rfl, by decide +kernel⟩ ?hw ?hc
  case hw => w_witness2
  case hc =>
    refine LamX.walk_ofTsE (l := PySem.Challenge.rw_authsync_k55_texts_of_logs) (n := 63) (k := 8) (x := "script") (CX := fun _ => L2.CX0) rfl (by decide) (by kernel_rfl) ⟨rfl, by decide, by decide⟩ ?F (fun _ _ _ _ _ z => z)
    intro w mg fa h Y G hmg0
    obtain ⟨K, KX, c⟩ := Y
    have hmg : mg ("law" : PySem.Str) = some (.ref fa) := by
      have e : (HandSHeadRun.topDef A5.R.prog 28).name = ("law" : PySem.Str) := by kernel_rfl
      rw [← e]
      exact hmg0
    obtain ⟨m1, m2⟩ := He.ba c.more
    refine ⟨K, KX, AS.lawAt (N := A5.NN) (d := A5.dlaw) (sp := A5.spLaw K) KX G c hmg (by decide +kernel) 16 rfl rfl rfl rfl (fun _ _ _ _ _ _ us hl => match us, hl with | [_], _ => rfl) (fun H a ns hl _ hT hS => ⟨a, ns, rfl, hS, hl, hT, fun _ => rfl⟩) fun base fd T F => A5.ok_law T (AS.veInitB_ok m1) (AS.errB_ok (T.g "BadFeed" (by decide +kernel)) m2) F⟩
