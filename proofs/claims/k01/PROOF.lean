import PyProof.Rows.All
import Wide.All
import OpenK.AllK
import Wide.FinOn
import PyProof.EqAt
import PyProof.EqKinds
import PyProof.TupleCall
import PyProof.JoinWalk
import HandS.Base
import HandS.Call
import HandS.List
import HandS.Comp
import HandS.Text
import HandS.AnyAll
import PyProof.WalkInts
import HandS.ForMost
import HandS.EndTab
import HandS.EndOwn
import HandS.Codes
import HandS.IsInst
import PySem.Challenge.RW_traceclasses_k01_what_parts_words
set_option Elab.async false
set_option linter.all false
set_option maxRecDepth 100000
set_option maxHeartbeats 4000000
/-! Generator expressions over a text, with tests, that read names of the def around them. -/
namespace TcG
open PySem PySem.Spec PyProof.Rows L2

/-- the state in which a step of the generator runs keeps what stood when it was made, the code table aside -/
def Kept (P : Addr) (s1 s2 : Shared) : Prop := ∀ b o, b ≠ P → s1.heap.get? b = some o → s2.heap.get? b = some o

/-- the run of the tests of one clause -/
abbrev testsRun (ifs : List Expr) (cenv : Env) : Sem Bool :=
  forIn ifs true fun c r => if r = true then do let ok ← isTrue c cenv (eval c cenv); pure (ForInStep.yield ok) else pure (ForInStep.yield r)

/-- what the steps of a generator over the signs of a text do -/
structure Steps (X : Cx) (pins : List (Addr × Obj)) (σ : L2.St) (scope : Scope) (x : Str) (ifs : List Expr) (elt : Expr) (P : Addr) (a : Str) (pz : Nat → Bool) (F : Nat → Value → Prop) (s1 : Shared) : Prop where
  tests : ∀ (C : Addr) (code : Value) (bi : Addr) (A' : Around) E' (c : Nat) (t : Tok) (s2 : Shared) (m2 : Str → Option Value), A'.handled = none → c ∈ a.cps.toList → s2.heap.Ns C m2 → m2 x = some (.str ⟨#[c]⟩ t) → Kept P s1 s2 →
    wpAny (model X.prog X.w) A' (testsRun ifs (genEnv scope (cloFrom X.env.cells scope.names []) C code bi X.env)) (fun ok s3 => ok = pz c ∧ Keeps s2 s3) E' s2
  elt : ∀ (C : Addr) (code : Value) (bi : Addr) (A' : Around) E' (c : Nat) (t : Tok) (s2 : Shared) (m2 : Str → Option Value), A'.handled = none → c ∈ a.cps.toList → pz c = true → s2.heap.Ns C m2 → m2 x = some (.str ⟨#[c]⟩ t) → Kept P s1 s2 →
    wpAny (model X.prog X.w) A' (eval elt (genEnv scope (cloFrom X.env.cells scope.names []) C code bi X.env)) (fun y s3 => F c y ∧ Keeps s2 s3) E' s2

/-- the generator g, ready to be walked in s5: over the signs of a that pass -/
def ReadyT (X : Cx) (pins : List (Addr × Obj)) (σ : L2.St) (H1 : Hp) (P : Addr) (a : Str) (pz : Nat → Bool) (F : Nat → Value → Prop) (g : Addr) (s5 : Shared) : Prop :=
  ∃ (fp wr : List Addr) (G : Array GenState → Array GenState → Prop) (Fv : Nat → Value → Prop) (St : Nat → Shared → Prop),
    WalksS X.prog X.w X.A.in1.in1 g fp wr G (a.cps.toList.filter pz).length Fv St ∧ WalksS X.prog X.w X.A.in1 g fp wr G (a.cps.toList.filter pz).length Fv St ∧ St 0 s5 ∧ (∀ b ∈ fp, b < s5.heap.objs.size) ∧ g ∈ fp ∧
    (∀ i s9, St i s9 → s9.TypeIs (.ref g) "generator") ∧
    (∀ j v, Fv j v → ∃ c, (a.cps.toList.filter pz)[j]? = some c ∧ F c v) ∧
    ∀ s', Moved wr G s5 s' → ∃ H2, GxR.Tabbed P H1 H2 ∧ Inv X pins σ H2 s'

/-- the passing places of a list are the places of its filter -/
theorem passing_filter (pz : Nat → Bool) : ∀ (l : List Nat), ((List.range l.length).filter (fun i => (l[i]?.map pz).getD false)).map (fun i => l.getD i 0) = l.filter pz := by
  intro l
  have key : ∀ (r p : List Nat), ((List.range' p.length r.length).filter (fun i => ((p ++ r)[i]?.map pz).getD false)).map (fun i => (p ++ r).getD i 0) = r.filter pz := by
    intro r
    induction r with
    | nil => intro p; rfl
    | cons x r ih =>
      intro p
      have e0 : (p ++ x :: r)[p.length]? = some x := by simp
      have e1 : (p ++ x :: r).getD p.length 0 = x := by simp
      have ih2 := ih (p ++ [x])
      have ea : p ++ [x] ++ r = p ++ x :: r := by simp
      have el : (p ++ [x]).length = p.length + 1 := by simp
      rw [ea, el] at ih2
      rw [List.length_cons, List.range'_succ, List.filter_cons, List.filter_cons, e0]
      show List.map _ (if (pz x) = true then _ else _) = _
      by_cases h : pz x = true
      · rw [if_pos h, if_pos h, List.map_cons, e1, ih2]
      · rw [if_neg h, if_neg h, ih2]
  have := key l []
  rw [List.range_eq_range']
  simpa using this

theorem passing_of {pz : Nat → Bool} {l : List Nat} {j i : Nat} (h : (passing (fun i => (l[i]?.map pz).getD false) l.length 0)[j]? = some i) : ∃ c, l[i]? = some c ∧ (l.filter pz)[j]? = some c := by
  unfold passing at h
  rw [List.drop_zero] at h
  have hf := passing_filter pz l
  have hj : (l.filter pz)[j]? = some (l.getD i 0) := by
    rw [← hf, List.getElem?_map, h]
    rfl
  have hm : i ∈ List.range l.length := (List.mem_filter.mp (List.mem_of_getElem? h)).1
  have hi := List.mem_range.mp hm
  refine ⟨l[i], List.getElem?_eq_getElem hi, ?_⟩
  rw [hj]
  simp [List.getD, hi]
theorem passing_length (pz : Nat → Bool) (l : List Nat) : (passing (fun i => (l[i]?.map pz).getD false) l.length 0).length = (l.filter pz).length := by
  unfold passing
  rw [List.drop_zero, ← passing_filter pz l, List.length_map]

section
variable {X : Cx} {pins : List (Addr × Obj)} {σ : L2.St} {H : Hp} {s : Shared}

theorem gen_text {c P : Addr} {elt iter : Expr} {ifs : List Expr} {x : Str} {px gpos : Pos} {scope : Scope} {pz : Str → Nat → Bool} {F : Str → Nat → Value → Prop} {te : TE} {k : Nat} {Q' : Value → Shared → Prop} {R : Str → Hp → Prop}
    (room : Room k X.A) (TB : GxR.TabB X.base X.mg c P) (codeAt : X.env.code = .ref c) (S : GxR.GenS X.env scope x) (hi : PE X iter te)
    (plain : ∀ v, genFold iter X.env v = pure v) (I : Inv X pins σ H s) (h : te σ H fun v H1 => ∃ a : Str, v = .str a ∧ GxR.TabG H1 P ∧ R a H1)
    (hel : ∀ a H1 s1, Inv X pins σ H1 s1 → GxR.TabG H1 P → R a H1 → Steps X pins σ scope x ifs elt P a (pz a) (F a) s1)
    (goal : ∀ a H1 g s5, R a H1 → ReadyT X pins σ H1 P a (pz a) (F a) g s5 → Q' (.ref g) s5) :
    wpAny (model X.prog X.w) X.A (eval (.GeneratorExp elt [⟨.Name x px, iter, ifs, 0⟩] scope gpos) X.env) Q' X.xe s := by
  refine wpAny_GeneratorExp_walksQ room.hd S.co (closure_ok S.free) S.cell S.dot S.loc S.kind
    (by have := room.dp; omega) ?_ plain
  refine thn (hi.run pins s σ H _ I h) fun xv s1 ⟨v, H1, I1, r1, q1⟩ => ?_
  obtain ⟨a, rfl, ⟨ps, tabAt, tri⟩, q1⟩ := q1
  obtain ⟨tk0, rfl⟩ := _root_.id r1
  refine wpAny_pyIter_str fun o St W hst => ?_
  have hel := hel a H1 s1 I1 ⟨ps, tabAt, tri⟩ q1
  have tab1 : s1.heap.get? P = some { cls := .none, data := .fields ps } := I1.hok P _ tabAt
  have tabLt : P < s1.heap.objs.size := Heap.lt_size tab1
  have tab2 : (s1.heap.push o).get? P = some { cls := .none, data := .fields ps } := Heap.get?_push_of_some _ tab1
  have cd : PySem.W.CodeHd (s1.heap.push o) c P := TB.code.keeps fun b u e => Heap.get?_push_of_some _ (I1.bk b u e)
  have lim2 : (s1.heap.push o).NoLimit := I1.nolimit.push o
  have cont : ∀ (code : Value) (h3 : Heap) (tk : Nat) (ps' : Array Value), Heap.ExtBut P (s1.heap.push o) h3 → (s1.heap.push o).objs.size ≤ h3.objs.size → h3.get? P = some { cls := .none, data := .fields ps' } →
      (∃ more, ps' = ps ++ more) → TriplesOk ps'.toList →
      wpAny (model X.prog X.w) X.A (builtinsFor X.env.globals X.env.builtins) (fun bi s4 =>
        ∃ J fp wr n0 Pf St0 pz F, Value.ref s1.heap.objs.size = .ref J ∧ (∀ A' : Around, A'.handled = none → Walks X.prog X.w A' J fp wr n0 Pf St0) ∧ St0 0 s4.heap ∧ (∀ b ∈ fp, b < s4.heap.objs.size) ∧ s4.heap.NoLimit ∧ cStatics ∉ wr ∧
          (∀ href : Heap, (∀ b o, s4.heap.get? b = some o → href.get? b = some o) →
            QuietGen X.prog X.w (genEnv scope (cloFrom X.env.cells scope.names []) s4.heap.objs.size code bi X.env) x ifs elt (List.range s4.heap.objs.size) wr Pf pz F href) ∧
          (∀ a h5 tk gs, gs.bare = true → s4.heap.objs.size < a → h5.objs.size = a + 1 → (∀ b o, s4.heap.get? b = some o → h5.get? b = some o) →
            WalksS X.prog X.w X.A.in4 a (a :: s4.heap.objs.size :: List.range s4.heap.objs.size) (s4.heap.objs.size :: wr) (GenOnlyQ s4.gens.size) (passing pz n0 0).length
              (fun j y => ∃ i, (passing pz n0 0)[j]? = some i ∧ F i y) (GenAt X.prog X.w X.A.in4 a s4.gens.size s4.heap.objs.size (List.range s4.heap.objs.size) wr pz n0 F) →
            GenAt X.prog X.w X.A.in4 a s4.gens.size s4.heap.objs.size (List.range s4.heap.objs.size) wr pz n0 F 0 { s4 with gens := s4.gens.push gs, toks := tk, heap := h5 } →
            Q' (.ref a) { s4 with gens := s4.gens.push gs, toks := tk, heap := h5 })) X.xe { s1 with heap := h3, toks := tk } := by
    intro code h3 tk ps' ext size3 tab3 grown tri3
    obtain ⟨bm, ob, e1, e2, e3, e4, e5, e6, e7, e8⟩ := TB.bm
    have statP : cStatics ≠ P := fun e => by
      obtain ⟨_, stat, _⟩ := I1.nolimit
      obtain ⟨o', es, ep, ho, hd, _⟩ := stat
      rw [e, tab1] at ho
      cases ho
      cases hd
    have statLt : cStatics < s1.heap.objs.size := let ⟨_, stat, _⟩ := I1.nolimit; stat.lt
    have sz2 : (s1.heap.push o).objs.size = s1.heap.objs.size + 1 := Heap.size_push ..
    have keep3 : ∀ b u, b ≠ P → s1.heap.get? b = some u → h3.get? b = some u := fun b u hb e => ext b u hb (Heap.get?_push_of_some _ e)
    refine wpAny_builtinsFor (m := X.mg)
      (by rw [I1.ok.glob]; exact ((I1.mod.glob.keeps I1.bk).push o).extBut ext TB.gP)
      e1 e2 (keep3 _ _ e4 (I1.bk _ _ e5)) e6 e7 e8 ?_
    refine ⟨s1.heap.objs.size, [s1.heap.objs.size], [s1.heap.objs.size], a.cps.size, SignAt a, St, (fun i => (a.cps.toList[i]?.map (pz a)).getD false), (fun i y => ∃ cc, a.cps.toList[i]? = some cc ∧ F a cc y), rfl, W, ?_, ?_, lim2.extBut ext statP, ?_, ?_, ?_⟩
    · refine (W X.A room.hd).frame _ _ _ hst fun b hb u e => ext b u (fun z => ?_) e
      rcases List.mem_cons.mp hb with z2 | z2
      · exact Nat.ne_of_lt tabLt (z.symm.trans z2)
      · cases z2
    · intro b hb
      rcases List.mem_cons.mp hb with z | z
      · rw [z]
        show s1.heap.objs.size < h3.objs.size
        omega
      · cases z
    · intro z
      rcases List.mem_cons.mp z with z | z
      · exact Nat.ne_of_lt statLt z
      · cases z
    · intro href ahead
      have kept : ∀ s2 : Shared, (∀ b ∈ List.range h3.objs.size, b ∉ [s1.heap.objs.size] → ∀ o, href.get? b = some o → s2.heap.get? b = some o) → Kept P s1 s2 := fun s2 hk b u hb e => by
        have lt := Heap.lt_size e
        have lt3 : b < h3.objs.size := by
          have q : (s1.heap.push o).objs.size ≤ h3.objs.size := size3
          rw [sz2] at q
          exact Nat.lt_of_lt_of_le (Nat.lt_succ_of_lt lt) q
        refine hk b (List.mem_range.mpr lt3) (fun z => ?_) u (ahead b u (keep3 b u hb e))
        rcases List.mem_cons.mp z with z | z
        · exact Nat.ne_of_lt lt z
        · cases z
      refine ⟨fun A' E' i v s2 m2 hA hPv hn hm hk => ?_, fun A' E' i v s2 m2 hA hPv hp hn hm hk => ?_⟩
      · obtain ⟨cc, u, hcc, rfl⟩ := hPv
        have hcl : a.cps.toList[i]? = some cc := by rw [Array.getElem?_toList]; exact hcc
        refine wpAny_mono (hel.tests _ _ _ A' E' cc u s2 m2 hA (List.mem_of_getElem? hcl) hn hm (kept s2 hk)) (fun ok s3 r => ⟨?_, r.2⟩) fun _ _ e => e
        rw [r.1, hcl]
        rfl
      · obtain ⟨cc, u, hcc, rfl⟩ := hPv
        have hcl : a.cps.toList[i]? = some cc := by rw [Array.getElem?_toList]; exact hcc
        have hp2 : pz a cc = true := by
          rw [hcl] at hp
          exact hp
        exact wpAny_mono (hel.elt _ _ _ A' E' cc u s2 m2 hA (List.mem_of_getElem? hcl) hp2 hn hm (kept s2 hk)) (fun y s3 r => ⟨⟨cc, hcl, r.1⟩, r.2⟩) fun _ _ e => e
    · intro g h5 tk5 gs bare5 above5 size5 keep5 W5 at5
      have en : a.cps.size = a.cps.toList.length := by simp
      rw [en] at W5 at5
      rw [passing_length] at W5
      refine goal a H1 g _ q1 ⟨_, _, _, _, _, W5.in4_2, W5.in4_1, at5, ?_, List.mem_cons_self, fun i s9 h9 => ?_, ?_, fun s' hm => ?_⟩
      · intro b hb
        show b < h5.objs.size
        have e5 : h5.objs.size = g + 1 := size5
        have h8 : h3.objs.size < g := above5
        rw [e5]
        rcases List.mem_cons.mp hb with z | z
        · rw [z]
          exact Nat.lt_succ_self g
        · rcases List.mem_cons.mp z with z | z
          · rw [z]
            exact Nat.lt_succ_of_lt h8
          · exact Nat.lt_succ_of_lt (Nat.lt_trans (show b < h3.objs.size from List.mem_range.mp z) h8)
      · obtain ⟨isg, _⟩ := h9
        exact isg.typeIs
      · intro j v hv
        obtain ⟨i, hij, cc, hcc, hF⟩ := hv
        obtain ⟨c2, hc2, hj⟩ := passing_of hij
        rw [hcc] at hc2
        cases hc2
        exact ⟨cc, hj, hF⟩
      · obtain ⟨more, em⟩ := grown
        have nwr : ∀ b u, s1.heap.get? b = some u → b ∉ h3.objs.size :: [s1.heap.objs.size] := fun b u e hb => by
          have lt := Heap.lt_size e
          have q : s1.heap.objs.size < h3.objs.size := by
            have q0 : (s1.heap.push o).objs.size ≤ h3.objs.size := size3
            rw [sz2] at q0
            exact q0
          rcases List.mem_cons.mp hb with z | z
          · exact Nat.ne_of_lt (Nat.lt_trans lt q) z
          · rcases List.mem_cons.mp z with z | z
            · exact Nat.ne_of_lt lt z
            · cases z
        have J := GxR.inv_tab (more := more) (h' := s'.heap) (g' := s'.gens) (d' := s'.drawn) (t' := s'.toks) I1 tabAt
          (fun b u hb e => hm.heap b u (nwr b u e) (keep5 b u (keep3 b u hb e)))
          (by rw [← em]; exact hm.heap P _ (nwr P _ tab1) (keep5 P _ tab3)) (AllBare.movedS (I1.bare.push bare5) hm)
        rw [GxR.sh_eta s1 s' hm.os] at J
        exact ⟨upd H1 P (.tbl (ps ++ more)), ⟨⟨ps ++ more, upd_same, by rw [← em]; exact tri3⟩, fun b hb => upd_ne hb⟩, J⟩
  refine ⟨lim2, ?_⟩
  cases hf : codeAmong gpos ps.toList with
  | none =>
    refine wpAny_genexprCodeX codeAt (cd.code tab2 tri) (cd.tab tab2) hf fun c' h' tk ext ge lt code' _ tab' _ => ?_
    obtain ⟨o1, vs, f1, tf, fl, tg, inF, tx, tt, op, _, _, _, _, _, _, _, _, _, tri', _⟩ := code'
    exact cont _ h' tk _ ext (Nat.le_trans ge (Nat.le_of_lt lt)) tab'.2 ⟨_, rfl⟩ tri'
  | some cv =>
    refine wpAny_genexprCode_hit codeAt (cd.code tab2 tri) hf ?_
    exact cont cv (s1.heap.push o) s1.toks ps (Heap.ExtBut.refl _ _) (Nat.le_refl _) tab2 ⟨#[], by simp⟩ tri
end
end TcG
/-! ''.join(x for x in W if x in L): the signs of W that stand in L; L a name of the def around. -/
namespace TcG
open PySem PySem.Spec PyProof.Rows L2

theorem clo_look {cells : List (Str × Addr)} {names : List (Str × NameKind)} {y : Str} {c : Addr} (hf : (y, NameKind.free) ∈ names) (hc : cells.lookup y = some c) : (cloFrom cells names []).lookup y = some c := by
  have hm := cloFrom_has (cells := cells) (acc := []) hf
  rw [hc] at hm
  have hall : ∀ d, (y, d) ∈ cloFrom cells names [] → d = c := fun d hd => by
    rcases cloFrom_mem hd with z | ⟨_, z⟩
    · cases z
    · rw [z, hc]
      rfl
  cases e : (cloFrom cells names []).lookup y with
  | none =>
    exfalso
    have : ∀ (l : List (Str × Addr)), (y, c) ∈ l → l.lookup y ≠ none := by
      intro l
      induction l with
      | nil => intro h; cases h
      | cons p r ih =>
        intro h
        obtain ⟨n, d⟩ := p
        rw [List.lookup_cons]
        by_cases hn : (y == n) = true
        · rw [hn]
          intro z
          cases z
        · rw [Bool.not_eq_true] at hn
          rw [hn]
          refine ih ?_
          rcases List.mem_cons.mp h with h | h
          · cases h
            simp at hn
          · exact h
    exact this _ hm e
  | some d => rw [hall d (PySem.mem_of_lookup e)]

/-- the scope of a generator expression of one clause over the name x, in a def with these names -/
def genOk (outer : List (Str × NameKind)) (sc : Scope) (x : Str) : Bool :=
  decide (sc.kind = .function) && !sc.isCoroutine && sc.names.all (fun y => decide (y.2 ≠ .cell) && (decide (y.2 ≠ .free) || decide (outer.lookup y.1 = some .cell)))
    && decide (sc.names.lookup (".0" : Str) = some NameKind.local) && decide (sc.names.lookup x = some NameKind.local)
theorem gens_of {X : Cx} {sc : Scope} {x : Str} (ok : X.Ok) (h : genOk X.env.scope.names sc x = true) : GxR.GenS X.env sc x := by
  unfold genOk at h
  simp only [Bool.and_eq_true, List.all_eq_true, Bool.or_eq_true, decide_eq_true_eq, Bool.not_eq_true'] at h
  obtain ⟨⟨⟨⟨h1, h2⟩, h3⟩, h4⟩, h5⟩ := h
  refine ⟨h1, h2, fun y hy => (h3 y hy).1, h4, h5, fun y hy e => ?_⟩
  rcases (h3 y hy).2 with z | z
  · exact absurd e z
  · exact ok.has y.1 (.inl z)

section
variable {X : Cx} {pins : List (Addr × Obj)} {σ : L2.St} {H : Hp} {s : Shared}

/-- a name of the def around, read by a step of the generator -/
theorem ld_free {P : Addr} {scope : Scope} {y : Str} {iy : Nat} {v : V} {s1 s2 : Shared} {C : Addr} {code : Value} {bi : Addr} {A' : Around} {E' : Value → Shared → Prop} {py : Pos} {Q : Value → Shared → Prop} {ps : Array Value}
    (I1 : Inv X pins σ H s1) (tab : H P = some (.tbl ps)) (hN : X.N[iy]? = some y) (hv : σ[iy]? = some (some v)) (hk : X.env.kindOf y = some .cell) (kind : scope.kind = .function) (hl : scope.names.lookup y = some .free)
    (kept : Kept P s1 s2) (hd : (y == ("__debug__" : Str)) = false) (hcd : (y == ("__classdict__" : Str)) = false) (h : ∀ u, RelV v u → Q u s2) :
    wpAny (model X.prog X.w) A' (eval (.Name y py) (genEnv scope (cloFrom X.env.cells scope.names []) C code bi X.env)) Q E' s2 := by
  obtain ⟨m, _, look⟩ := I1.loc
  obtain ⟨u, ru, l⟩ := look iy y v hN hv (.inr (.inl hk))
  rcases l with ⟨z, _⟩ | ⟨_, c, hc, o, ho, hdat⟩
  · rw [hk] at z
    cases z
  · have tab1 : s1.heap.get? P = some { cls := .none, data := .fields ps } := I1.hok P _ tab
    have nP : c ≠ P := fun z => by
      rw [z, tab1] at ho
      cases ho
      cases hdat
    have cell2 : s2.heap.IsCell c (some u) := ⟨o, kept c o nP ho, hdat⟩
    exact wpAny_Name (wpAny_loadName_free kind hl (clo_look (PySem.mem_of_lookup hl) hc) cell2 (h u ru) hcd) hd

/-- the test «x in y» of a sign, y a text of the def around -/
theorem steps_in {P : Addr} {scope : Scope} {x y : Str} {iy : Nat} {L a : Str} {s1 : Shared} {ps : Array Value} {p1 p2 p3 p4 : Pos}
    (I1 : Inv X pins σ H s1) (tab : H P = some (.tbl ps)) (S : GxR.GenS X.env scope x) (hN : X.N[iy]? = some y) (hv : σ[iy]? = some (some (.str L))) (hk : X.env.kindOf y = some .cell) (hl : scope.names.lookup y = some .free)
    (hd : (y == ("__debug__" : Str)) = false) (hcd : (y == ("__classdict__" : Str)) = false) (hdx : (x == ("__debug__" : Str)) = false) :
    Steps X pins σ scope x [.Compare (.Name x p1) [.In] [.Name y p2] p3] (.Name x p4) P a (fun c => decide (c ∈ L.cps.toList)) (fun c v => ∃ t, v = .str ⟨#[c]⟩ t) s1 := by
  refine ⟨fun C code bi A' E' c t s2 m2 hA hc hn hm kept => ?_, fun C code bi A' E' c t s2 m2 hA hc hp hn hm kept => ?_⟩
  · unfold testsRun
    simp only [List.forIn_cons, List.forIn_nil, if_true]
    refine wpAny_bind (wpAny_bind (wpAny_isTrue_Compare1 ?_))
    refine wpAny_Name (wpAny_loadName_local (env := genEnv scope (cloFrom X.env.cells scope.names []) C code bi X.env) S.kind S.loc hn hm ?_) hdx
    refine ld_free I1 tab hN hv hk S.kind hl kept hd hcd fun u ru => ?_
    obtain ⟨t', rfl⟩ := (show ∃ t', u = Value.str L t' from ru)
    refine PyProof.Rows.in_str ?_
    refine wpAny_truthy_bool ?_
    refine wpAny_pure ?_
    show wpAny _ _ (pure _) _ _ _
    refine wpAny_pure ⟨PySem.StrLaws.found_one L c, GxR.keeps_refl _⟩
  · refine wpAny_Name (wpAny_loadName_local (env := genEnv scope (cloFrom X.env.cells scope.names []) C code bi X.env) S.kind S.loc hn hm ?_) hdx
    exact ⟨⟨t, rfl⟩, GxR.keeps_refl _⟩

/-- the reading: W, a text; L stands in the i-th slot -/
def tKept (P : Addr) (i : Nat) (te : TE) : TE := fun σ H Q => te σ H fun v H1 => ∃ a : Str, v = .str a ∧ GxR.TabG H1 P ∧ ∃ L : Str, σ[i]? = some (some (.str L)) ∧ a.cps.toList.length ≤ 1000 ∧
  ∀ H2, GxR.Tabbed P H1 H2 → Q (.str ⟨(a.cps.toList.filter fun c => decide (c ∈ L.cps.toList)).toArray⟩) H2

theorem joinOk_ones (l : List Nat) (h : l.length ≤ 1000) : JoinOk ⟨#[]⟩ (l.map fun c => (⟨#[c]⟩ : Str)) = true := by
  unfold JoinOk
  have key : ∀ (l : List Nat) (n : Nat), (l.map fun c => (⟨#[c]⟩ : Str)).foldl (fun a b => a + b.length + (⟨#[]⟩ : Str).length) n = n + l.length := by
    intro l
    induction l with
    | nil => intro n; rfl
    | cons x r ih =>
      intro n
      rw [List.map_cons, List.foldl_cons, ih, List.length_cons]
      show n + 1 + 0 + r.length = n + (r.length + 1)
      omega
  rw [List.foldl_toArray, key]
  have : PySem.Builtin.Str.tooLong (0 + l.length) = false := by
    unfold PySem.Builtin.Str.tooLong
    simp only [decide_eq_false_iff_not]
    have : sizeLine = 16777216 := rfl
    omega
  rw [this]
  rfl

theorem pe_kept {c P : Addr} {j : Nat} {iter : Expr} {x y : Str} {iy : Nat} {px p1 p2 p3 p4 p5 apos cpos gpos : Pos} {scope : Scope} {te : TE} {k : Nat}
    (room : Room k X.A) (TB : GxR.TabB X.base X.mg c P) (codeAt : X.env.code = .ref c) (gen : genOk X.env.scope.names scope x = true) (hi : PE X iter te)
    (hN : X.N[iy]? = some y) (hk : X.env.kindOf y = some .cell) (hl : scope.names.lookup y = some .free)
    (plain : ∀ v, genFold iter X.env v = pure v) (hd : (y == ("__debug__" : Str)) = false := by decide) (hcd : (y == ("__classdict__" : Str)) = false := by decide) (hdx : (x == ("__debug__" : Str)) = false := by decide)
    (base : attributeBase (.Constant (.str ⟨#[]⟩) j p5) "join" X.env (eval (.Constant (.str ⟨#[]⟩) j p5) X.env) = eval (.Constant (.str ⟨#[]⟩) j p5) X.env := by rfl)
    (few : ((backTo cpos (starEach [.GeneratorExp (.Name x p4) [⟨.Name x px, iter, [.Compare (.Name x p1) [.In] [.Name y p2] p3], 0⟩] scope gpos] X.env)).all (fun x => !x.1) && (backToKw cpos (keywordEach [] X.env)).all (fun x => x.1.isSome)
      && decide (([.GeneratorExp (.Name x p4) [⟨.Name x px, iter, [.Compare (.Name x p1) [.In] [.Name y p2] p3], 0⟩] scope gpos] : List Expr).length + ([] : List Keyword).length + (if ([] : List Keyword).isEmpty then 0 else 1) < 30)) = true := by rfl)
    (line : (apos.endLine == cpos.line) = true := by rfl)
    (each : starEach [.GeneratorExp (.Name x p4) [⟨.Name x px, iter, [.Compare (.Name x p1) [.In] [.Name y p2] p3], 0⟩] scope gpos] X.env
      = (false, eval (.GeneratorExp (.Name x p4) [⟨.Name x px, iter, [.Compare (.Name x p1) [.In] [.Name y p2] p3], 0⟩] scope gpos) X.env) :: starEach [] X.env := by rfl)
    (bare : (backTo cpos (starEach [] X.env)).any (·.1) = false := by rfl) :
    PE X (.Call (.Attribute (.Constant (.str ⟨#[]⟩) j p5) "join" apos) [.GeneratorExp (.Name x p4) [⟨.Name x px, iter, [.Compare (.Name x p1) [.In] [.Name y p2] p3], 0⟩] scope gpos] [] cpos) (tKept P iy te) := by
  refine ⟨fun pins s σ H Q I h => ?_⟩
  have S := gens_of I.ok gen
  refine wpAny_Call_method_late base few line rfl (Calls.Constant_str ?_)
  refine ⟨"str", _, PySem.F.plainAttrs_str, PySem.F.slot_str_join, PySem.F.type_str_join, typeIs_str _ _ _, (fun _ e => nomatch e), ?_⟩
  rw [each]
  refine Calls.callWith_builtin (by show (false || (backTo cpos (starEach [] X.env)).any (·.1)) = false; rw [bare] <;> rfl) (Calls.evalArgs_plain ?_)
  have I' := I.tok (s.toks + 1)
  refine Calls.spliced_cons (gen_text (pz := fun a c => match σ[iy]? with | some (some (.str L)) => decide (c ∈ L.cps.toList) | _ => false) (F := fun a c v => ∃ t, v = .str ⟨#[c]⟩ t)
    (R := fun a H1 => ∃ L : Str, σ[iy]? = some (some (.str L)) ∧ a.cps.toList.length ≤ 1000 ∧ ∀ H2, GxR.Tabbed P H1 H2 → Q (.str ⟨(a.cps.toList.filter fun c => decide (c ∈ L.cps.toList)).toArray⟩) H2)
    room TB codeAt S hi plain I' h (fun a H1 s1 I1 tb r => ?_) fun a H1 g s5 hR hG => ?_)
  · obtain ⟨ps, tab, _⟩ := tb
    obtain ⟨L, hv, _⟩ := r
    rw [hv]
    exact steps_in I1 tab S hN hv hk hl hd hcd hdx
  refine Calls.spliced_nil ?_
  obtain ⟨L, hv, small, q⟩ := hR
  rw [hv] at hG
  obtain ⟨fp, wr, G, F, St, W, _, hst, hfp, hg, hT, hstr, back⟩ := hG
  have hlen : (a.cps.toList.filter fun c => decide (c ∈ L.cps.toList)).length ≤ 1000 := Nat.le_trans (List.length_filter_le _ _) small
  refine PySem.SC.joinGen W hT hst hfp hg (fun i v hv => ?_) (fun s' l hm hio => ?_) (Nat.le_trans hlen (by decide))
  · obtain ⟨cc, _, t, e⟩ := hstr i v hv
    exact ⟨_, _, e⟩
  · have e : l.map (·.1) = (a.cps.toList.filter fun c => decide (c ∈ L.cps.toList)).map fun c => (⟨#[c]⟩ : Str) := by
      have n0 : l.length = (a.cps.toList.filter fun c => decide (c ∈ L.cps.toList)).length := by
        have e0 := hio.1
        rw [List.size_toArray] at e0
        unfold strValues at e0
        rw [List.length_map] at e0
        exact e0
      refine List.ext_getElem? fun j => ?_
      rw [List.getElem?_map, List.getElem?_map]
      cases hj : l[j]? with
      | none =>
        have h1 : (a.cps.toList.filter fun c => decide (c ∈ L.cps.toList))[j]? = none := by
          rw [List.getElem?_eq_none_iff] at hj ⊢
          omega
        rw [h1]
        rfl
      | some p =>
        have h2 : (strValues l).toArray[j]? = some (.str p.1 p.2) := by
          rw [List.getElem?_toArray]
          unfold strValues
          rw [List.getElem?_map, hj]
          rfl
        obtain ⟨cc, hc, t, ev⟩ := hstr j _ (hio.2 j _ h2)
        rw [hc]
        injection ev with ev1
        show some p.1 = some _
        rw [ev1]
    obtain ⟨H3, ht, J⟩ := back s' hm
    rw [e]
    refine ⟨joinOk_ones _ hlen, fun t' k' => ⟨.str _, H3, J.tok k', ⟨t', ?_⟩, q H3 ht⟩⟩
    have e2 := join_ones (a.cps.toList.filter fun c => decide (c ∈ L.cps.toList))
    unfold Txt.join
    rw [PySem.StrLaws.glued_eq_join, e2]
end
end TcG
/-! min, max of two texts; a text unpacked into names. -/
namespace TcG
open PySem PySem.Spec PyProof.Rows L2

/-- the text of these signs -/
def tx (l : List Nat) : Str := ⟨l.toArray⟩
theorem tx_list (l : List Nat) : (tx l).cps.toList = l := rfl
theorem tx_inj {a b : List Nat} (h : tx a = tx b) : a = b := by
  have := congrArg (fun s : Str => s.cps.toList) h
  exact this
theorem tx_of (s : Str) : s = tx s.cps.toList := by
  cases s
  rfl
theorem tx_eq {a b : List Nat} : decide (V.str (tx a) = V.str (tx b)) = decide (a = b) := by
  by_cases h : a = b
  · rw [h]
    simp
  · rw [decide_eq_false h]
    exact decide_eq_false fun z => h (tx_inj (V.str.inj z))
theorem tx_append (a b : List Nat) : tx a ++ tx b = tx (a ++ b) := by
  show Str.append _ _ = _
  unfold Str.append tx
  simp
theorem tx_length (l : List Nat) : (tx l).length = l.length := by
  show l.toArray.size = l.length
  simp

section
variable {prog : Program} {w : World} {A : Around} {E : Value → Shared → Prop} {s : Shared}

def two (p q : Str) (t u : Tok) : Array Value := #[.str p t, .str q u]

theorem cmp_two {op : CmpOp} {p q : Str} {t u : Tok} {r : Str → Str → Bool}
    (h : ∀ (x y : Str) (t u : Tok) (A' : Around) (s : Shared) (Q : Value → Shared → Prop) (E : Value → Shared → Prop), Q (.bool (r x y)) s → wpAny (model prog w) A' (richCompare op (.str x t) (.str y u)) Q E s) :
    CmpOf prog w A op (fun i v => (two p q t u)[i]? = some v) (fun i j => match i, j with | 1, 0 => r q p | 0, 1 => r p q | 0, 0 => r p p | _, _ => r q q) := by
  intro i j a b s Q E ha hb hQ
  match i, j with
  | 0, 0 => cases ha; cases hb; exact h _ _ _ _ _ _ _ _ hQ
  | 0, 1 => cases ha; cases hb; exact h _ _ _ _ _ _ _ _ hQ
  | 1, 0 => cases ha; cases hb; exact h _ _ _ _ _ _ _ _ hQ
  | 1, 1 => cases ha; cases hb; exact h _ _ _ _ _ _ _ _ hQ
  | i + 2, _ => simp [two] at ha
  | 0, j + 2 => simp [two] at hb
  | 1, j + 2 => simp [two] at hb

theorem min_two_texts {p q : Str} {t u : Tok} {Q : Value → Shared → Prop} (hh : A.handled = none)
    (h : ∀ h' tk t', (∀ c o, s.heap.get? c = some o → h'.get? c = some o) → Q (.str (if q.cps.toList < p.cps.toList then q else p) t') { s with heap := h', toks := tk }) :
    wpAny (model prog w) A (call (.builtin "min") [.str p t, .str q u]) Q E s := by
  have tupAt : (s.heap.push { cls := .type "tuple", data := .seq #[.str p t, .str q u] }).IsTuple s.heap.objs.size (two p q t u) := ⟨_, Heap.get?_push_size _ rfl, rfl, 0, by rfl⟩
  refine call_min_two (wpAny_pyIter_tuple tupAt ?_)
  have sz : (s.heap.push { cls := .type "tuple", data := .seq #[.str p t, .str q u] }).objs.size = s.heap.objs.size + 1 := Heap.size_push ..
  refine ⟨_, [_, s.heap.objs.size], [_], _, _, _, _, rfl,
    Walks.tuple (A := A.in1) hh _ s.heap.objs.size (by rw [sz]; exact Nat.ne_of_lt (Nat.lt_succ_self _)) (two p q t u),
    ⟨⟨_, Heap.get?_push_size _ rfl, rfl, rfl⟩, tupAt.push _⟩, fun c hc => ?_, (by decide : 0 < 2), cmp_two (r := fun x y => decide (x.cps.toList < y.cps.toList)) (fun x y t u A' s Q E hq => PyProof.Rows.lt_str hq), fun v h' tk hP hk => ?_⟩
  · show c < ((s.heap.push _).push _).objs.size
    rw [Heap.size_push, sz]
    rcases List.mem_cons.mp hc with z | z
    · rw [z, sz]
      exact Nat.lt_succ_self _
    · rcases List.mem_cons.mp z with z | z
      · rw [z]
        exact Nat.lt_succ_of_lt (Nat.lt_succ_self _)
      · cases z
  · have old : ∀ c o, s.heap.get? c = some o → h'.get? c = some o := fun c o e => by
      refine hk c o (fun hm => ?_) (Heap.get?_push_of_some _ (Heap.get?_push_of_some _ e))
      rcases List.mem_cons.mp hm with z | z
      · have lt := Heap.lt_size e
        rw [z, sz] at lt
        exact Nat.lt_irrefl _ (Nat.lt_of_succ_lt lt)
      · cases z
    by_cases hba : q.cps.toList < p.cps.toList
    · have e : v = .str q u := by
        have hP2 : (two p q t u)[argBest (fun i j => match i, j with | 1, 0 => decide (q.cps.toList < p.cps.toList) | 0, 1 => decide (p.cps.toList < q.cps.toList) | 0, 0 => decide (p.cps.toList < p.cps.toList) | _, _ => decide (q.cps.toList < q.cps.toList)) 1]? = some v := hP
        simp [argBest, hba, two] at hP2
        exact hP2.symm
      have := h h' tk u old
      rw [if_pos hba] at this
      rw [e]
      exact this
    · have e : v = .str p t := by
        have hP2 : (two p q t u)[argBest (fun i j => match i, j with | 1, 0 => decide (q.cps.toList < p.cps.toList) | 0, 1 => decide (p.cps.toList < q.cps.toList) | 0, 0 => decide (p.cps.toList < p.cps.toList) | _, _ => decide (q.cps.toList < q.cps.toList)) 1]? = some v := hP
        simp [argBest, hba, two] at hP2
        exact hP2.symm
      have := h h' tk t old
      rw [if_neg hba] at this
      rw [e]
      exact this

theorem max_two_texts {p q : Str} {t u : Tok} {Q : Value → Shared → Prop} (hh : A.handled = none)
    (h : ∀ h' tk t', (∀ c o, s.heap.get? c = some o → h'.get? c = some o) → Q (.str (if p.cps.toList < q.cps.toList then q else p) t') { s with heap := h', toks := tk }) :
    wpAny (model prog w) A (call (.builtin "max") [.str p t, .str q u]) Q E s := by
  have tupAt : (s.heap.push { cls := .type "tuple", data := .seq #[.str p t, .str q u] }).IsTuple s.heap.objs.size (two p q t u) := ⟨_, Heap.get?_push_size _ rfl, rfl, 0, by rfl⟩
  refine call_max_two (wpAny_pyIter_tuple tupAt ?_)
  have sz : (s.heap.push { cls := .type "tuple", data := .seq #[.str p t, .str q u] }).objs.size = s.heap.objs.size + 1 := Heap.size_push ..
  refine ⟨_, [_, s.heap.objs.size], [_], _, _, _, _, rfl,
    Walks.tuple (A := A.in1) hh _ s.heap.objs.size (by rw [sz]; exact Nat.ne_of_lt (Nat.lt_succ_self _)) (two p q t u),
    ⟨⟨_, Heap.get?_push_size _ rfl, rfl, rfl⟩, tupAt.push _⟩, fun c hc => ?_, (by decide : 0 < 2), cmp_two (r := fun x y => decide (y.cps.toList < x.cps.toList)) (fun x y t u A' s Q E hq => PySem.P.gt_str hq), fun v h' tk hP hk => ?_⟩
  · show c < ((s.heap.push _).push _).objs.size
    rw [Heap.size_push, sz]
    rcases List.mem_cons.mp hc with z | z
    · rw [z, sz]
      exact Nat.lt_succ_self _
    · rcases List.mem_cons.mp z with z | z
      · rw [z]
        exact Nat.lt_succ_of_lt (Nat.lt_succ_self _)
      · cases z
  · have old : ∀ c o, s.heap.get? c = some o → h'.get? c = some o := fun c o e => by
      refine hk c o (fun hm => ?_) (Heap.get?_push_of_some _ (Heap.get?_push_of_some _ e))
      rcases List.mem_cons.mp hm with z | z
      · have lt := Heap.lt_size e
        rw [z, sz] at lt
        exact Nat.lt_irrefl _ (Nat.lt_of_succ_lt lt)
      · cases z
    by_cases hba : p.cps.toList < q.cps.toList
    · have e : v = .str q u := by
        have hP2 : (two p q t u)[argBest (fun i j => match i, j with | 1, 0 => decide (p.cps.toList < q.cps.toList) | 0, 1 => decide (q.cps.toList < p.cps.toList) | 0, 0 => decide (p.cps.toList < p.cps.toList) | _, _ => decide (q.cps.toList < q.cps.toList)) 1]? = some v := hP
        simp [argBest, hba, two] at hP2
        exact hP2.symm
      have := h h' tk u old
      rw [if_pos hba] at this
      rw [e]
      exact this
    · have e : v = .str p t := by
        have hP2 : (two p q t u)[argBest (fun i j => match i, j with | 1, 0 => decide (p.cps.toList < q.cps.toList) | 0, 1 => decide (q.cps.toList < p.cps.toList) | 0, 0 => decide (p.cps.toList < p.cps.toList) | _, _ => decide (q.cps.toList < q.cps.toList)) 1]? = some v := hP
        simp [argBest, hba, two] at hP2
        exact hP2.symm
      have := h h' tk t old
      rw [if_neg hba] at this
      rw [e]
      exact this

/-- n items of a walk from i on -/
theorem draw_walk {I : Addr} {fp wr : List Addr} {N : Nat} {P : Nat → Value → Prop} {St : Nat → Heap → Prop} (W : Walks prog w A I fp wr N P St) : ∀ (n i : Nat) (s : Shared) (Q : List Value → Shared → Prop), St i s.heap → i + n ≤ N →
    (∀ vs h' tk, vs.length = n → (∀ j v, vs[j]? = some v → P (i + j) v) → St (i + n) h' → (∀ b o, b ∉ wr → s.heap.get? b = some o → h'.get? b = some o) → Q vs { s with heap := h', toks := tk }) → wpAny (model prog w) A (draw (.ref I) n) Q E s
  | 0, i, s, Q, st, _, hQ => by
    show wpAny _ _ (pure []) Q E s
    exact wpAny_pure (hQ [] s.heap s.toks rfl (fun j v hj => by simp at hj) st fun _ _ _ e => e)
  | n + 1, i, s, Q, st, hle, hQ => by
    show wpAny _ _ (pyNext (.ref I) >>= _) Q E s
    refine wpAny_bind (W.item i s _ _ (by omega) st fun v h1 tk1 hv st1 k1 => ?_)
    refine wpAny_bind (wpAny_holding (draw_walk W n (i + 1) _ _ st1 (by omega) fun vs h2 tk2 hl hvs st2 k2 => wpAny_pure ?_))
    refine hQ (v :: vs) h2 tk2 (by rw [List.length_cons, hl]) (fun j x hj => ?_) ?_ fun b o hb e => k2 b o hb (k1 b o hb e)
    · cases j with
      | zero =>
        cases hj
        exact hv
      | succ j =>
        have := hvs j x (by simpa using hj)
        rw [show i + (j + 1) = i + 1 + j by omega]
        exact this
    · rw [show i + (n + 1) = i + 1 + n by omega]
      exact st2

theorem items_text {x : Str} {t : Tok} {n : Nat} {Q : List Value → Shared → Prop} (hh : A.handled = none) (hn : n = x.cps.size)
    (hQ : ∀ vs h' tk, vs.length = n → (∀ (j : Nat) v, vs[j]? = some v → SignAt x j v) → (∀ b o, s.heap.get? b = some o → h'.get? b = some o) → Q vs { s with heap := h', toks := tk }) :
    wpAny (model prog w) A (unpackItems (.str x t) n none) Q E s := by
  unfold unpackItems
  refine wpAny_bind ?_
  · unfold notIterableAtAll
    refine wpAny_bind (wpAny_specialOf (typeIs_str s x t) PySem.F.slot_str_iter.lookup ?_)
    refine wpAny_pure ?_
    simp only [Bool.false_eq_true, if_false]
    refine wpAny_bind (wpAny_holding (wpAny_pyIter_str fun o St W hst => ?_))
    have W := W A hh
    refine wpAny_bind (wpAny_holding (draw_walk W n 0 _ _ hst (by omega) fun vs h1 tk1 hl hvs st1 k1 => ?_))
    rw [if_neg (by omega)]
    have st1 : St x.cps.size h1 := by
      rw [← hn]
      simpa using st1
    refine wpAny_bind (wpAny_holding (W.done _ _ _ st1 fun h2 tk2 k2 => ?_))
    simp only [Option.isSome_none, Bool.false_eq_true, if_false]
    refine wpAny_pure (hQ vs h2 tk2 hl (fun j v hj => by simpa using hvs j v hj) fun b o e => ?_)
    have nb : b ∉ [s.heap.objs.size] := fun z => by
      rcases List.mem_cons.mp z with z | z
      · exact Nat.ne_of_lt (Heap.lt_size e) z
      · cases z
    exact k2 b o nb (k1 b o nb (Heap.get?_push_of_some _ e))
end

section
variable {X : Cx} {pos : Pos}
theorem call_minT (hc : X.calm = true) : CallR X (.builtin "min") (fun xs H Q => ∃ p q : Str, xs = [.str p, .str q] ∧ Q (.str (if q.cps.toList < p.cps.toList then q else p)) H) := by
  intro pins s σ H xs us Q I r h
  obtain ⟨p, q, rfl, hq⟩ := h
  obtain ⟨u, w', rfl, ⟨t, rfl⟩, ⟨t', rfl⟩⟩ := vals2 r
  exact min_two_texts (I.ok.hd hc) fun h' tk t2 k => ⟨.str _, H, I.kept k, ⟨t2, rfl⟩, hq⟩
theorem call_maxT (hc : X.calm = true) : CallR X (.builtin "max") (fun xs H Q => ∃ p q : Str, xs = [.str p, .str q] ∧ Q (.str (if p.cps.toList < q.cps.toList then q else p)) H) := by
  intro pins s σ H xs us Q I r h
  obtain ⟨p, q, rfl, hq⟩ := h
  obtain ⟨u, w', rfl, ⟨t, rfl⟩, ⟨t', rfl⟩⟩ := vals2 r
  exact max_two_texts (I.ok.hd hc) fun h' tk t2 k => ⟨.str _, H, I.kept k, ⟨t2, rfl⟩, hq⟩

/-- (a, b, ..) = a text of as many signs -/
def gUnT (n : Nat) (t : TGs) : TG := fun v σ H Q => ∃ l : List Nat, v = .str (tx l) ∧ l.length = n ∧ t (l.map fun c => .str (tx [c])) σ H Q
theorem pg_unT {es : List Expr} {k : Nat} {t : TGs} {n : Nat} (hc : X.calm = true) (h : PGs X es t)
    (hn : (assignEach es X.env).length = n := by rfl) (hst : (assignEach es X.env).findIdx? (·.1) = none := by rfl) : PG X (.Tuple es k pos) (gUnT n t) := by
  refine ⟨fun pins s σ H v u Q I r hw => ?_⟩
  obtain ⟨l, rfl, hl, hw⟩ := hw
  obtain ⟨tk, rfl⟩ := (show ∃ tk, u = Value.str (tx l) tk from r)
  rw [PyProof.Rows.assign_Tuple]
  refine wpAny_bind (wpAny_standAt ?_)
  unfold unpack
  rw [hn, hst]
  have sz : (tx l).cps.size = l.length := tx_length l
  refine wpAny_bind (wpAny_holding (items_text (I.ok.hd hc) (by rw [sz, hl]) fun vs h' tk' hvl hvs kp => ?_))
  have I1 : Inv X pins σ H { s with heap := h', toks := tk' } := I.kept kp
  refine h.run pins _ σ H _ _ Q I1 ?_ hw
  have key : ∀ (l : List Nat) (vs : List Value), vs.length = l.length → (∀ (j : Nat) v, vs[j]? = some v → ∃ c u, l[j]? = some c ∧ v = .str ⟨#[c]⟩ u) → Vals (l.map fun c => .str (tx [c])) vs := by
    intro l
    induction l with
    | nil =>
      intro vs e _
      cases vs with
      | nil => exact .nil
      | cons _ _ => cases e
    | cons c r ih =>
      intro vs e h
      cases vs with
      | nil => cases e
      | cons v vs =>
        obtain ⟨c', u, e1, rfl⟩ := h 0 v rfl
        cases e1
        exact .cons ⟨u, rfl⟩ (ih vs (Nat.succ.inj e) fun j v hj => h (j + 1) v hj)
  refine key l vs (by rw [hvl, hl]) fun j v hj => ?_
  obtain ⟨c, u, e1, e2⟩ := hvs j v hj
  exact ⟨c, u, by simpa [tx] using e1, e2⟩
end
end TcG
/-! Defs whose code object is known; the end of a law in which several defs hold generator expressions. -/
namespace TcG
open PySem PySem.Spec PyProof.Rows L2

/-- a def of the text whose code object stands at c -/
structure FunC (K : PySem.W.Frag) (x qual : Str) (st : Stmt) (f : Addr) (fd : FuncData) (c : Addr) : Prop where
  ex : ∃ (oc : Value) (od : Option Addr) (kV doc pm : Value) (an : Option Addr) (ct : Value) (osl : Array (Option Value)),
    fd = PySem.W.fnOf x qual (defArgs st) (defBody st) (defScope st) .none kV doc pm an (.ref c) ct ∧ K.lookup f = some ⟨oc, od, .func fd, osl⟩ ∧ PySem.W.codeIn K (.ref c) qual = true
  kp : PySem.W.keepIn K (.ref f) = true
section
variable {P : Program} {w : World} {K : PySem.W.Frag} {mg : Str → Option Value} {base : Heap}
theorem FunC.fun {x qual : Str} {st : Stmt} {f : Addr} {fd : FuncData} {c : Addr} (F : FunC K x qual st f fd c) : Fun K x qual st f fd := by
  obtain ⟨oc, od, kV, doc, pm, an, ct, osl, h1, h2, h3⟩ := F.ex
  exact ⟨⟨oc, od, kV, doc, pm, an, .ref c, ct, osl, h1, h2, h3⟩, F.kp⟩
theorem FunC.ok {x qual : Str} {st : Stmt} {f : Addr} {fd : FuncData} {c : Addr} {N ps : List Str} {k : Nat} {sp : Sp} (F : FunC K x qual st f fd c) (S : FnScope N ps (defScope st)) (len : ∀ vs H Q E, sp vs H Q E → vs.length = ps.length)
    (body : ∀ (A : Around) (outer : List Env) (s : Shared) (H : Hp) (vs : List V) (Q : VK) (E : XK), Room k (A.deeper (envOfC qual (defScope st) s.heap.objs.size f (.ref c))) → sp vs H Q E →
      ∃ t, PSs (cxOf CX0 P w K mg base N qual (defScope st) f (.ref c) A outer s H E).nox (defBody st) t ∧ t { nx := fun _ H' => Q .non H', rt := Q } (start N vs) H) : FnOk P w K mg base CX0 (k + 1) f fd ps sp := by
  obtain ⟨oc, od, kV, doc, pm, an, ct, osl, rfl, lk, code⟩ := F.ex
  refine fn_of lk code S len fun A outer s H vs Q E hr h => ?_
  obtain ⟨t, ht, q⟩ := body A outer s H vs Q E hr h
  exact ⟨t, ht.nox, q⟩
theorem func_mk {x qual : Str} {st : Stmt} {f c : Addr} {oc : Value} {od an : Option Addr} {osl : Array (Option Value)} {kV doc pm ct : Value} (l : K.lookup f = some ⟨oc, od, .func (PySem.W.fnOf x qual (defArgs st) (defBody st) (defScope st) .none kV doc pm an (.ref c) ct), osl⟩)
    (i : PySem.W.codeIn K (.ref c) qual = true) (k : PySem.W.keepIn K (.ref f) = true) : FunC K x qual st f (PySem.W.fnOf x qual (defArgs st) (defBody st) (defScope st) .none kV doc pm an (.ref c) ct) c := ⟨⟨oc, od, kV, doc, pm, an, ct, osl, rfl, l, i⟩, k⟩
end

/-- what the end knows of a def of the view: its code object and the empty table -/
def TabOf (mg : Str → Option Value) (h : Heap) (x : Str) : Prop :=
  ∃ (f : Addr) (o : Obj) (fd : FuncData) (c P : Addr), mg x = some (.ref f) ∧ h.get? f = some o ∧ o.data = .func fd ∧ fd.code = .ref c ∧ PySem.W.CodeHd h c P ∧ h.get? P = some { cls := .none, data := .fields #[] }
open LamX in
theorem walk_ofMany {l : PySem.W.OpenLaw} {n k : Nat} {q : Program} {loose : List Str} {XP : (Str → Option Value) → Heap → Prop} {YP : World → Heap → Prop} {d : DefRec} {K : Params → PySem.W.Frag} {CX : World → CXT} {x : Str}
    (most : l.most = some n) (size : n ≤ sizeLine) (plain : d.params.defaults = []) (room : Room k callerA) (hY : ∀ (w : World) (h : Heap), YP w h → (K w.params).In h)
    (F : ∀ (w : World) (mg : Str → Option Value) (fa : Addr) (h : Heap), (K w.params).In h → h.Ns mainGlobals mg → mg d.name = some (.ref fa) → (∀ y : Str, ((recsOf q).any fun e => e.name == y) = true → TabOf mg h y) → LawAtS l w (K w.params) (CX w) k n x mg fa h)
    (hCX : ∀ (w : World) (H : Hp) (s : Shared) (e : Value) (s' : Shared), CX w [] H s (fun _ _ _ => False) e s' → False) :
    PySem.W.WalkO q loose XP YP l.row.toRowW d [] (fun f vs => PySem.call f vs) := by
  refine Att.attach_callB most plain fun w s0 s1 mg mb fa o pm cd doc a vs ns G Y ho hd hcd hmg hobj hints hlen hbits hg => ?_
  have KX := hY w _ Y
  have tabs : ∀ y : Str, ((recsOf q).any fun e => e.name == y) = true → TabOf mg s1.heap y := fun y hy => by
    obtain ⟨e, he, en⟩ := List.any_eq_true.mp hy
    have en : e.name = y := beq_iff_eq.mp en
    obtain ⟨f', o', fd', c', P', g1, g2, g3, g4, g5, g6⟩ := G.T.tab e he
    rw [en] at g1
    exact ⟨f', o', fd', c', P', g1, g2, g3, g4, PySem.W.CodeHd.of g5 g6, g6.2⟩
  obtain ⟨fd, cs, sp, hT, nT, C, hb, hsp, hF⟩ := F w mg fa _ KX G.T.g hmg tabs
  exact law_callTs KX G.T.g G.T.b G.T.builtins G.T.nolimit hg hT nT C G.T.bmain hobj hints (Nat.le_trans hlen size) room hF hb (fun H hH hS => hsp H a ns hlen hbits hH hS) fun H e s' => hCX w H s1 e s'

/-- the table of a def, by what the written part tells -/
theorem tab_at {K : PySem.W.Frag} {mg : Str → Option Value} {h : Heap} {x : Str} {f c P : Addr} {oc e : Value} {od dd : Option Addr} {fd : FuncData} {osl sl : Array (Option Value)} {vs : Array Value} (KX : K.In h) (T : TabOf mg h x)
    (m : mg x = some (.ref f)) (l : K.lookup f = some ⟨oc, od, .func fd, osl⟩) (hc : fd.code = .ref c) (lc : K.lookup c = some ⟨e, dd, .fields vs, sl⟩) (hP : vs[11]? = some (.ref P)) :
    PySem.W.CodeHd h c P ∧ h.get? P = some { cls := .none, data := .fields #[] } := by
  obtain ⟨f', o', fd', c', P', g1, g2, g3, g4, g5, g6⟩ := T
  rw [m] at g1
  cases g1
  rw [KX _ _ l] at g2
  cases g2
  cases g3
  rw [hc] at g4
  cases g4
  have g5' := g5
  obtain ⟨o2, vs2, file, tf, flags, tg, inF, text, tt, e1, e2, e3, e4, _⟩ := g5'
  rw [KX _ _ lc] at e1
  cases e1
  cases e3
  rw [hP] at e4
  cases e4
  exact ⟨g5, g6⟩
end TcG
/-! What a call leaves as it was. -/
namespace TcG
open PySem PySem.Spec PyProof.Rows L2

theorem same_new {H : Hp} {p : Addr} {o : HO} (h : H p = none) : Same H (upd H p o) := fun b x e => by
  rw [upd_ne (ne_of_none e h)]
  exact e

/-- all but what stands at S is as it was -/
def Mv (S : List Addr) (H H' : Hp) : Prop := ∀ a o, a ∉ S → H a = some o → H' a = some o
theorem Mv.refl (S : List Addr) (H : Hp) : Mv S H H := fun _ _ _ e => e
theorem Mv.trans {S : List Addr} {H H1 H2 : Hp} (a : Mv S H H1) (b : Mv S H1 H2) : Mv S H H2 := fun c o n e => b c o n (a c o n e)
theorem Mv.of_same {S : List Addr} {H H1 : Hp} (a : Same H H1) : Mv S H H1 := fun c o _ e => a c o e
theorem Mv.wide {S T : List Addr} {H H1 : Hp} (a : Mv S H H1) (h : ∀ x ∈ S, x ∈ T) : Mv T H H1 := fun c o n e => a c o (fun z => n (h c z)) e
theorem Mv.new {S : List Addr} {H : Hp} {p : Addr} {o : HO} (h : H p = none) : Mv S H (upd H p o) := .of_same (same_new h)
theorem Mv.put {H : Hp} {p : Addr} {o : HO} : Mv [p] H (upd H p o) := fun a u n e => by
  rw [upd_ne (fun z => n (by rw [z]; exact List.mem_cons_self))]
  exact e
theorem Mv.tabbed {P : Addr} {H H' : Hp} (h : GxR.Tabbed P H H') : Mv [P] H H' := fun a o n e => by
  rw [h.2 a fun z => n (by rw [z]; exact List.mem_cons_self)]
  exact e
/-- an object of another kind stands elsewhere -/
theorem Mv.seqT {K : PySem.W.Frag} {S : List Addr} {H H' : Hp} {a : Addr} {xs : List V} (m : Mv S H H') (h : SqT K H a xs) (n : ∀ p ∈ S, ∀ u, Rd H p u → ∀ ys, u ≠ .tup ys) : SqT K H' a xs := by
  rcases h with h | h
  · have nS : a ∉ S := fun z => n a z _ h _ rfl
    rcases h with h | ⟨o, h⟩
    · exact .inl (.inl (m a _ nS h))
    · exact .inl (.inr ⟨o, m a _ nS h⟩)
  · exact .inr h
theorem Mv.seqL {K : PySem.W.Frag} {S : List Addr} {H H' : Hp} {a : Addr} {xs : List V} (m : Mv S H H') (h : SqL K H a xs) (n : ∀ p ∈ S, ∀ u, Rd H p u → u ≠ .lst xs) : SqL K H' a xs := by
  rcases h with h | h
  · have nS : a ∉ S := fun z => n a z _ h rfl
    rcases h with h | ⟨o, h⟩
    · exact .inl (.inl (m a _ nS h))
    · exact .inl (.inr ⟨o, m a _ nS h⟩)
  · exact .inr h
theorem Same.seqT {K : PySem.W.Frag} {H H' : Hp} {a : Addr} {xs : List V} (m : Same H H') (h : SqT K H a xs) : SqT K H' a xs :=
  (Mv.of_same (S := []) m).seqT h fun p hp => nomatch hp
theorem rd_of {H : Hp} {p : Addr} {o u : HO} (h : H p = some o) (hf : ∀ q v, o ≠ .frz q v) (r : Rd H p u) : u = o := by
  rcases r with r | ⟨q, r⟩
  · rw [h] at r
    cases r
    rfl
  · rw [h] at r
    cases r
    exact absurd rfl (hf _ _)
theorem fmod_range {x m : Int} (h : 0 < m) : 0 ≤ x.fmod m ∧ x.fmod m < m := by
  rw [Int.fmod_eq_emod_of_nonneg x (by omega)]
  exact ⟨Int.emod_nonneg _ (by omega), Int.emod_lt_of_pos _ h⟩

/-- the box of numbers that the law draws from: its digits stand at dl -/
def Box (K : PySem.W.Frag) (b dl : Addr) (H : Hp) : Prop := ∃ (ds : List Int) (n : Int), H b = some (.lst [.ref dl, .int n]) ∧ 0 ≤ n ∧ SqL K H dl (ds.map V.int)
theorem box_list_ne {dl : Addr} {n : Int} (ds : List Int) : HO.lst [V.ref dl, .int n] ≠ .lst (ds.map V.int) := fun z => by
  cases ds with
  | nil => cases z
  | cons x r => cases z
/-- the table grows, the box stays -/
theorem Box.mvT {K : PySem.W.Frag} {b dl P : Addr} {H H' : Hp} (h : Box K b dl H) (m : Mv [P] H H') (t : GxR.TabG H P) : Box K b dl H' := by
  obtain ⟨ds, n, hb, hn, hd⟩ := h
  obtain ⟨ps, tab, _⟩ := t
  have rd : ∀ u, Rd H P u → u = .tbl ps := fun u r => rd_of tab (fun _ _ z => by cases z) r
  refine ⟨ds, n, m b _ (fun z => ?_) hb, hn, m.seqL hd fun p hp u r => ?_⟩
  · rw [List.mem_singleton.mp z, tab] at hb
    cases hb
  · rw [List.mem_singleton.mp hp] at r
    rw [rd u r]
    intro z
    cases z
theorem Box.same {K : PySem.W.Frag} {b dl : Addr} {H H' : Hp} (h : Box K b dl H) (m : Same H H') : Box K b dl H' := by
  obtain ⟨ds, n, hb, hn, hd⟩ := h
  exact ⟨ds, n, m _ _ hb, hn, m.seq hd⟩
/-- what was made behind the box is changed -/
theorem Box.put {K : PySem.W.Frag} {b dl p : Addr} {o : HO} {H0 H : Hp} (h0 : Box K b dl H0) (np : H0 p = none) (h : Box K b dl H) : Box K b dl (upd H p o) := by
  obtain ⟨ds0, n0, hb0, _, hd0⟩ := h0
  obtain ⟨ds, n, hb, hn, hd⟩ := h
  have bp : b ≠ p := ne_of_none hb0 np
  rcases hd0 with hd0 | hd0
  · have dp : dl ≠ p := by
      rcases hd0 with z | ⟨q, z⟩
      · exact ne_of_none z np
      · exact ne_of_none z np
    refine ⟨ds, n, by rw [upd_ne bp]; exact hb, hn, ?_⟩
    rcases hd with (z | ⟨q, z⟩) | z
    · exact .inl (.inl (by rw [upd_ne dp]; exact z))
    · exact .inl (.inr ⟨q, by rw [upd_ne dp]; exact z⟩)
    · exact .inr z
  · exact ⟨ds0, n, by rw [upd_ne bp]; exact hb, hn, .inr hd0⟩
theorem Box.tabG {b dl P : Addr} {H H' : Hp} {K : PySem.W.Frag} (h : Box K b dl H) (m : Mv [b] H H') (t : GxR.TabG H P) : GxR.TabG H' P := by
  obtain ⟨ds, n, hb, hn, hd⟩ := h
  obtain ⟨ps, tab, tri⟩ := t
  refine ⟨ps, m P _ (fun z => ?_) tab, tri⟩
  rw [List.mem_singleton.mp z, hb] at tab
  cases tab
theorem Box.seqT {K : PySem.W.Frag} {b dl a : Addr} {H H' : Hp} {xs : List V} (h : Box K b dl H) (m : Mv [b] H H') (t : SqT K H a xs) : SqT K H' a xs := by
  obtain ⟨ds, n, hb, hn, hd⟩ := h
  refine m.seqT t fun p hp u r => ?_
  rw [List.mem_singleton.mp hp] at r
  rw [rd_of hb (fun _ _ z => by cases z) r]
  intro ys z
  cases z
theorem tab_seqT {K : PySem.W.Frag} {P a : Addr} {H H' : Hp} {xs : List V} (h : GxR.TabG H P) (m : Mv [P] H H') (t : SqT K H a xs) : SqT K H' a xs := by
  obtain ⟨ps, tab, _⟩ := h
  refine m.seqT t fun p hp u r => ?_
  rw [List.mem_singleton.mp hp] at r
  rw [rd_of tab (fun _ _ z => by cases z) r]
  intro ys z
  cases z
end TcG
/-! Loops and comprehensions over the signs of a text; alphabets. -/
namespace TcG
open PySem PySem.Spec PyProof.Rows L2

theorem its_go {l : List Nat} {i : Nat} {H : Hp} : (Its (tx l)).go i H ↔ i < l.length := by
  show i < (tx l).cps.size ↔ _
  rw [show (tx l).cps.size = l.length from tx_length l]
theorem its_stop {l : List Nat} {i : Nat} {H : Hp} : (Its (tx l)).stop i H ↔ l.length ≤ i := by
  show (tx l).cps.size ≤ i ↔ _
  rw [show (tx l).cps.size = l.length from tx_length l]
theorem its_yld {l : List Nat} {i : Nat} {H H' : Hp} {v : V} (h : (Its (tx l)).yld i H v H') : H' = H ∧ ∃ c, l[i]? = some c ∧ v = .str (tx [c]) := by
  obtain ⟨e, c, h1, h2⟩ := h
  exact ⟨e, c, by simpa [tx] using h1, h2⟩

/-- for c in a text -/
theorem for_text {l : List Nat} {g : TG} {tb : TS} {D : Ends} {σ : L2.St} {H : Hp} (Pv : Nat → L2.St → Hp → Prop) (h0 : Pv 0 σ H)
    (turn : ∀ i c σ H, l[i]? = some c → Pv i σ H → g (.str (tx [c])) σ H fun σ2 H2 => tb { D with nx := Pv (i + 1), ct := Pv (i + 1), bk := D.nx } σ2 H2) (out : ∀ σ H, Pv l.length σ H → D.nx σ H) :
    ∃ W : Nat → Nat → L2.St → Hp → Prop, (∃ m, W 0 m σ H) ∧ ∀ i m σ H, W i m σ H →
      ((Its (tx l)).stop i H ∧ D.nx σ H) ∨ ((Its (tx l)).go i H ∧ ∃ N : L2.St → Hp → Prop, (∀ σ' H', N σ' H' → ∃ m', m' < m ∧ W (i + 1) m' σ' H') ∧ ∀ x H', (Its (tx l)).yld i H x H' → g x σ H' fun σ2 H2 => tb { D with nx := N, ct := N, bk := D.nx } σ2 H2) := by
  refine ⟨fun i m σ H => m = l.length - i ∧ i ≤ l.length ∧ Pv i σ H, ⟨l.length, by simp, Nat.zero_le _, h0⟩, ?_⟩
  rintro i m σ H ⟨rfl, hi, p⟩
  by_cases lt : i < l.length
  · refine .inr ⟨its_go.mpr lt, Pv (i + 1), fun σ' H' p' => ⟨l.length - (i + 1), by omega, rfl, lt, p'⟩, fun x H' y => ?_⟩
    obtain ⟨e, c, hc, rfl⟩ := its_yld y
    subst e
    exact turn i c σ _ hc p
  · have e : i = l.length := by omega
    subst e
    exact .inl ⟨its_stop.mpr (Nat.le_refl _), out σ H p⟩

/-- [.. for c in a text if ..] -/
theorem lc_text {l : List Nat} {g : TG} {tt : TT} {te : TE} {vs : List Nat} {σ : L2.St} {H1 : Hp} {D : Addr} {Qd : Hp → Prop} (Pv : Nat → Hp → Prop) (h0 : Pv 0 (upd H1 D (.lst [])))
    (turn : ∀ i c H, l[i]? = some c → Pv i H → g (.str (tx [c])) (wipe σ vs) H fun σ2 H2 => wipe σ2 vs = wipe σ vs ∧ tt σ2 H2 fun b H3 =>
      if b = true then te σ2 H3 fun y H4 => ∃ acc, H4 D = some (.lst acc) ∧ acc.length < sizeLine ∧ Pv (i + 1) (upd H4 D (.lst (acc ++ [y]))) else Pv (i + 1) H3) (out : ∀ H, Pv l.length H → Qd H) :
    ∃ W : Nat → Nat → Hp → Prop, (∃ m, W 0 m (upd H1 D (.lst []))) ∧ ∀ i m H, W i m H →
      ((Its (tx l)).stop i H ∧ Qd H) ∨ ((Its (tx l)).go i H ∧ ∃ Nx : Hp → Prop, (∀ H', Nx H' → ∃ m', m' < m ∧ W (i + 1) m' H') ∧ ∀ x H', (Its (tx l)).yld i H x H' → g x (wipe σ vs) H' fun σ2 H2 => wipe σ2 vs = wipe σ vs ∧ tt σ2 H2 fun b H3 =>
        if b = true then te σ2 H3 fun y H4 => ∃ acc, H4 D = some (.lst acc) ∧ acc.length < sizeLine ∧ Nx (upd H4 D (.lst (acc ++ [y]))) else Nx H3) := by
  refine ⟨fun i m H => m = l.length - i ∧ i ≤ l.length ∧ Pv i H, ⟨l.length, by simp, Nat.zero_le _, h0⟩, ?_⟩
  rintro i m H ⟨rfl, hi, p⟩
  by_cases lt : i < l.length
  · refine .inr ⟨its_go.mpr lt, Pv (i + 1), fun H' p' => ⟨l.length - (i + 1), by omega, rfl, lt, p'⟩, fun x H' y => ?_⟩
    obtain ⟨e, c, hc, rfl⟩ := its_yld y
    subst e
    exact turn i c _ hc p
  · have e : i = l.length := by omega
    subst e
    exact .inl ⟨its_stop.mpr (Nat.le_refl _), out H p⟩

/-- the second clause of a comprehension, over a text -/
theorem lc2_text {l : List Nat} {g1 : TG} {tt1 : TT} {te : TE} {vs1 : List Nat} {σ2 : L2.St} {D : Addr} {H4 : Hp} {Nx : Hp → Prop} (Pv : Nat → Hp → Prop) (h0 : Pv 0 H4)
    (turn : ∀ i c H, l[i]? = some c → Pv i H → g1 (.str (tx [c])) (wipe σ2 vs1) H fun σ3 H5 => wipe σ3 vs1 = wipe σ2 vs1 ∧ tt1 σ3 H5 fun b H6 =>
        if b = true then te σ3 H6 fun y H7 => ∃ acc, H7 D = some (.lst acc) ∧ acc.length < sizeLine ∧ Pv (i + 1) (upd H7 D (.lst (acc ++ [y]))) else Pv (i + 1) H6) (out : ∀ H, Pv l.length H → Nx H) :
    ∃ W1 : Nat → Nat → Hp → Prop, (∃ m, W1 0 m H4) ∧ ∀ j k H, W1 j k H →
      ((Its (tx l)).stop j H ∧ Nx H) ∨ ((Its (tx l)).go j H ∧ ∃ Nx1 : Hp → Prop, (∀ H', Nx1 H' → ∃ k', k' < k ∧ W1 (j + 1) k' H') ∧ ∀ x H', (Its (tx l)).yld j H x H' → g1 x (wipe σ2 vs1) H' fun σ3 H5 => wipe σ3 vs1 = wipe σ2 vs1 ∧ tt1 σ3 H5 fun b H6 =>
        if b = true then te σ3 H6 fun y H7 => ∃ acc, H7 D = some (.lst acc) ∧ acc.length < sizeLine ∧ Nx1 (upd H7 D (.lst (acc ++ [y]))) else Nx1 H6) := by
  refine ⟨fun i m H => m = l.length - i ∧ i ≤ l.length ∧ Pv i H, ⟨l.length, by simp, Nat.zero_le _, h0⟩, ?_⟩
  rintro i m H ⟨rfl, hi, p⟩
  by_cases lt : i < l.length
  · refine .inr ⟨its_go.mpr lt, Pv (i + 1), fun H' p' => ⟨l.length - (i + 1), by omega, rfl, lt, p'⟩, fun x H' y => ?_⟩
    obtain ⟨e, c, hc, rfl⟩ := its_yld y
    subst e
    exact turn i c _ hc p
  · have e : i = l.length := by omega
    subst e
    exact .inl ⟨its_stop.mpr (Nat.le_refl _), out H p⟩
/-- .. and the first one -/
theorem lc2_first {l : List Nat} {n : Nat} {R : L2.St → Hp → (Hp → Prop) → Prop} {vs : List Nat} {σ : L2.St} {H1 : Hp} {D : Addr} {Qd : Hp → Prop} (Pv : Nat → Hp → Prop) (h0 : Pv 0 (upd H1 D (.lst [])))
    (turn : ∀ i c H, l[i]? = some c → Pv i H → wipe ((wipe σ vs).set n (some (.str (tx [c])))) vs = wipe σ vs ∧ R ((wipe σ vs).set n (some (.str (tx [c])))) H (Pv (i + 1))) (out : ∀ H, Pv l.length H → Qd H) :
    ∃ W : Nat → Nat → Hp → Prop, (∃ m, W 0 m (upd H1 D (.lst []))) ∧ ∀ i m H, W i m H →
      ((Its (tx l)).stop i H ∧ Qd H) ∨ ((Its (tx l)).go i H ∧ ∃ Nx : Hp → Prop, (∀ H', Nx H' → ∃ m', m' < m ∧ W (i + 1) m' H') ∧ ∀ x H', (Its (tx l)).yld i H x H' → gName n x (wipe σ vs) H' fun σ2 H2 => wipe σ2 vs = wipe σ vs ∧ tYes σ2 H2 fun b H3 =>
        if b = true then R σ2 H3 Nx else Nx H3) := by
  refine ⟨fun i m H => m = l.length - i ∧ i ≤ l.length ∧ Pv i H, ⟨l.length, by simp, Nat.zero_le _, h0⟩, ?_⟩
  rintro i m H ⟨rfl, hi, p⟩
  by_cases lt : i < l.length
  · refine .inr ⟨its_go.mpr lt, Pv (i + 1), fun H' p' => ⟨l.length - (i + 1), by omega, rfl, lt, p'⟩, fun x H' y => ?_⟩
    obtain ⟨e, c, hc, rfl⟩ := its_yld y
    subst e
    exact turn i c _ hc p
  · have e : i = l.length := by omega
    subst e
    exact .inl ⟨its_stop.mpr (Nat.le_refl _), out H p⟩

theorem take_next {α : Type} {l : List α} {i : Nat} {x : α} (h : l[i]? = some x) : l.take (i + 1) = l.take i ++ [x] := by
  rw [List.take_add_one, h]
  rfl

/-! ### rows of texts, alphabets -/
def txs (ps : List (List Nat)) : List V := ps.map fun p => .str (tx p)
theorem txs_flat (ps : List (List Nat)) : (txs ps).all flatV = true := by
  unfold txs
  rw [List.all_map, List.all_eq_true]
  intro p _
  rfl
theorem inV_txs (p : List Nat) (ps : List (List Nat)) : inV (.str (tx p)) (txs ps) = decide (p ∈ ps) := by
  unfold inV txs
  rw [List.any_map]
  have key : ∀ q : List Nat, ((fun y => eqV y (.str (tx p))) ∘ fun q => V.str (tx q)) q = decide (q = p) := fun q => by
    show (tx q == tx p) = _
    by_cases h : q = p
    · rw [h]
      simp
    · rw [decide_eq_false h]
      exact beq_eq_false_iff_ne.mpr fun z => h (tx_inj z)
  rw [Bool.eq_iff_iff, List.any_eq_true, decide_eq_true_eq]
  constructor
  · intro ⟨q, hq, e⟩
    rw [key] at e
    rw [← of_decide_eq_true e]
    exact hq
  · intro h
    exact ⟨p, h, by rw [key]; exact decide_eq_true rfl⟩
/-- the alphabet at a: letters ls, pairs ps -/
def Alpha (K : PySem.W.Frag) (H : Hp) (a : Addr) (ls : List Nat) (ps : List (List Nat)) : Prop :=
  ∃ pt, SqT K H a [.str "alphabet", .str (tx ls), .ref pt] ∧ SqT K H pt (txs ps)
theorem Alpha.same {K : PySem.W.Frag} {H H' : Hp} {a : Addr} {ls : List Nat} {ps : List (List Nat)} (h : Alpha K H a ls ps) (m : Same H H') : Alpha K H' a ls ps := by
  obtain ⟨pt, h1, h2⟩ := h
  exact ⟨pt, Same.seqT m h1, Same.seqT m h2⟩
theorem Alpha.mvB {K : PySem.W.Frag} {H H' : Hp} {a b dl : Addr} {ls : List Nat} {ps : List (List Nat)} (h : Alpha K H a ls ps) (bx : Box K b dl H) (m : Mv [b] H H') : Alpha K H' a ls ps := by
  obtain ⟨pt, h1, h2⟩ := h
  exact ⟨pt, bx.seqT m h1, bx.seqT m h2⟩
theorem Alpha.mvT {K : PySem.W.Frag} {H H' : Hp} {a P : Addr} {ls : List Nat} {ps : List (List Nat)} (h : Alpha K H a ls ps) (t : GxR.TabG H P) (m : Mv [P] H H') : Alpha K H' a ls ps := by
  obtain ⟨pt, h1, h2⟩ := h
  exact ⟨pt, tab_seqT t m h1, tab_seqT t m h2⟩
/-- whether two letters are independent -/
def ind (ps : List (List Nat)) (x y : Nat) : Bool := decide ([min x y, max x y] ∈ ps)
theorem ind_comm (ps : List (List Nat)) (x y : Nat) : ind ps x y = ind ps y x := by
  unfold ind
  rw [Nat.min_comm, Nat.max_comm]
/-- pairs tell the lesser letter first -/
def Pairs (ls : List Nat) (ps : List (List Nat)) : Prop := ∀ p ∈ ps, ∃ x y, p = [x, y] ∧ x < y ∧ x ∈ ls ∧ y ∈ ls
theorem ind_self {ls : List Nat} {ps : List (List Nat)} (h : Pairs ls ps) (x : Nat) : ind ps x x = false := by
  unfold ind
  refine decide_eq_false fun z => ?_
  obtain ⟨a, b, e, lt, _⟩ := h _ z
  simp at e
  omega
theorem ind_either {ls : List Nat} {ps : List (List Nat)} (h : Pairs ls ps) (x y : Nat) : (decide ([x, y] ∈ ps) || decide ([y, x] ∈ ps)) = ind ps x y := by
  unfold ind
  rw [Bool.eq_iff_iff, Bool.or_eq_true, decide_eq_true_eq, decide_eq_true_eq, decide_eq_true_eq]
  constructor
  · rintro (z | z)
    · obtain ⟨a, b, e, lt, _⟩ := h _ z
      simp at e
      rw [Nat.min_eq_left (by omega), Nat.max_eq_right (by omega)]
      exact z
    · obtain ⟨a, b, e, lt, _⟩ := h _ z
      simp at e
      rw [Nat.min_eq_right (by omega), Nat.max_eq_left (by omega)]
      exact z
  · intro z
    by_cases le : x ≤ y
    · rw [Nat.min_eq_left le, Nat.max_eq_right le] at z
      exact .inl z
    · rw [Nat.min_eq_right (by omega), Nat.max_eq_left (by omega)] at z
      exact .inr z
theorem tx_lt (a b : Nat) : decide ((tx [a]).cps.toList < (tx [b]).cps.toList) = decide (a < b) := by
  show decide ([a] < [b]) = _
  by_cases h : a < b
  · rw [decide_eq_true h]
    exact decide_eq_true (List.Lex.rel h)
  · rw [decide_eq_false h]
    refine decide_eq_false fun z => h ?_
    cases z with
    | rel r => exact r
    | cons r => cases r
theorem min_tx (x y : Nat) : (if (tx [y]).cps.toList < (tx [x]).cps.toList then tx [y] else tx [x]) = tx [min x y] := by
  have e := tx_lt y x
  by_cases h : y < x
  · rw [decide_eq_true h] at e
    rw [if_pos (of_decide_eq_true e), Nat.min_eq_right (by omega)]
  · rw [decide_eq_false h] at e
    rw [if_neg (of_decide_eq_false e), Nat.min_eq_left (by omega)]
theorem max_tx (x y : Nat) : (if (tx [x]).cps.toList < (tx [y]).cps.toList then tx [y] else tx [x]) = tx [max x y] := by
  have e := tx_lt x y
  by_cases h : x < y
  · rw [decide_eq_true h] at e
    rw [if_pos (of_decide_eq_true e), Nat.max_eq_right (by omega)]
  · rw [decide_eq_false h] at e
    rw [if_neg (of_decide_eq_false e), Nat.max_eq_left (by omega)]
end TcG
/-! What parts two words, as a function; numbers of letters in texts. -/
namespace TcG
open PySem PySem.Spec PyProof.Rows L2

theorem count_tx (a : List Nat) (c : Nat) : Txt.count (tx a) (tx [c]) = (a.count c : Int) := by
  have h := count_is (tx a) c
  rw [countIn_signs_sum] at h
  rw [show (tx [c]) = (⟨#[c]⟩ : Str) from rfl, h, tx_list]
  clear h
  induction a with
  | nil => rfl
  | cons x r ih =>
    rw [List.map_cons, List.sum_cons, ih, List.count_cons]
    by_cases e : x = c
    · subst e
      simp
      omega
    · simp [e]

theorem find_at {α : Type} {l : List α} {p : α → Bool} {i : Nat} {x : α} (h : l[i]? = some x) (before : ∀ y ∈ l.take i, p y = false) (here : p x = true) : l.find? p = some x := by
  have e : l = l.take i ++ x :: l.drop (i + 1) := by
    have hi := (List.getElem?_eq_some_iff.mp h)
    obtain ⟨lt, hx⟩ := hi
    rw [← hx, ← List.drop_eq_getElem_cons lt, List.take_append_drop]
  rw [e, List.find?_append]
  have n : (l.take i).find? p = none := List.find?_eq_none.mpr fun y hy z => by
    rw [before y hy] at z
    cases z
  rw [n, List.find?_cons, here]
  rfl
theorem find_no {α : Type} {l : List α} {p : α → Bool} (h : ∀ y ∈ l, p y = false) : l.find? p = none := List.find?_eq_none.mpr fun y hy z => by
  rw [h y hy] at z
  cases z

inductive Paper where
  | count (x : Nat)
  | order (x y : Nat)
def keepM (l a : List Nat) : List Nat := a.filter fun c => decide (c ∈ l)
/-- the pairs of letters of ls, the lesser one first -/
def pairsWith (ls : List Nat) (x : Nat) : List (List Nat) := (ls.filter fun y => decide (x < y)).map fun y => [x, y]
def pairsOf (ls : List Nat) : List (List Nat) := ls.flatMap (pairsWith ls)
def parted (ps : List (List Nat)) (a b : List Nat) : List Nat → Bool
  | [x, y] => !ind ps x y && decide (keepM [x, y] a ≠ keepM [x, y] b)
  | _ => false
theorem parted_two (ps : List (List Nat)) (a b : List Nat) (x y : Nat) : parted ps a b [x, y] = (!ind ps x y && decide (keepM [x, y] a ≠ keepM [x, y] b)) := rfl
def orderOf : Option (List Nat) → Option Paper
  | some [x, y] => some (.order x y)
  | _ => none
def countsApart (a b : List Nat) (c : Nat) : Bool := decide (a.count c ≠ b.count c)
def partsM (ls : List Nat) (ps : List (List Nat)) (a b : List Nat) : Option Paper := match ls.find? (countsApart a b) with
  | some c => some (.count c)
  | none => orderOf ((pairsOf ls).find? (parted ps a b))
theorem partsM_count {ls : List Nat} {ps : List (List Nat)} {a b : List Nat} {c : Nat} (h : ls.find? (countsApart a b) = some c) : partsM ls ps a b = some (.count c) := by
  unfold partsM
  rw [h]
theorem partsM_order {ls : List Nat} {ps : List (List Nat)} {a b : List Nat} (h : ls.find? (countsApart a b) = none) : partsM ls ps a b = orderOf ((pairsOf ls).find? (parted ps a b)) := by
  unfold partsM
  rw [h]
theorem pairsOf_mem {ls p : List Nat} (h : p ∈ pairsOf ls) : ∃ x y, p = [x, y] ∧ x ∈ ls ∧ y ∈ ls ∧ x < y := by
  unfold pairsOf at h
  obtain ⟨x, hx, hp⟩ := List.mem_flatMap.mp h
  unfold pairsWith at hp
  obtain ⟨y, hy, e⟩ := List.mem_map.mp hp
  obtain ⟨h1, h2⟩ := List.mem_filter.mp hy
  exact ⟨x, y, e.symm, hx, h1, of_decide_eq_true h2⟩
/-- the paper as a value -/
def PaperV (H : Hp) (v : V) : Option Paper → Prop
  | none => v = .non
  | some (.count x) => ∃ p, v = .ref p ∧ H p = some (.tup [.str "count", .str (tx [x])])
  | some (.order x y) => ∃ p, v = .ref p ∧ H p = some (.tup [.str "order", .str (tx [x]), .str (tx [y])])
end TcG
/-! Slices of texts; exchanges of neighbours. -/
namespace TcG
open PySem PySem.Spec PyProof.Rows L2
theorem cut_to (l : List Nat) (k : Nat) : cutS (tx l) none (some (k : Int)) = tx (l.take k) := by
  unfold cutS
  rw [HT.sIx_none, HT.sIx_nat, tx_length]
  show (⟨((l.drop 0).take (min k l.length - 0)).toArray⟩ : Str) = tx (l.take k)
  rw [List.drop_zero, Nat.sub_zero]
  unfold tx
  by_cases h : k ≤ l.length
  · rw [Nat.min_eq_left h]
  · rw [Nat.min_eq_right (by omega), List.take_length, List.take_of_length_le (by omega)]
theorem cut_from (l : List Nat) (k : Nat) : cutS (tx l) (some (k : Int)) none = tx (l.drop k) := by
  unfold cutS
  rw [HT.sIx_none, HT.sIx_nat, tx_length]
  show (⟨((l.drop (min k l.length)).take (l.length - min k l.length)).toArray⟩ : Str) = tx (l.drop k)
  unfold tx
  by_cases h : k ≤ l.length
  · rw [Nat.min_eq_left h, List.take_of_length_le (by rw [List.length_drop]; omega)]
  · rw [Nat.min_eq_right (by omega), List.drop_length, List.drop_of_length_le (show l.length ≤ k by omega)]
    simp
/-- the signs at k and behind it have changed places -/
def swapAt (l : List Nat) (k : Nat) : List Nat := l.take k ++ (match l[k + 1]?, l[k]? with | some y, some x => [y, x] | _, _ => []) ++ l.drop (k + 2)
theorem swapAt_eq {l : List Nat} {k x y : Nat} (hx : l[k]? = some x) (hy : l[k + 1]? = some y) : swapAt l k = l.take k ++ [y] ++ [x] ++ l.drop (k + 2) := by
  unfold swapAt
  rw [hx, hy]
  simp
/-- one exchange of neighbouring independent letters -/
inductive Ex1 (ps : List (List Nat)) : List Nat → List Nat → Prop
  | mk (p q : List Nat) (x y : Nat) (h : ind ps x y = true) : Ex1 ps (p ++ x :: y :: q) (p ++ y :: x :: q)
/-- some exchanges, one behind the other -/
inductive Exs (ps : List (List Nat)) : List Nat → List Nat → Prop
  | refl (a : List Nat) : Exs ps a a
  | step {a b c : List Nat} (h : Exs ps a b) (e : Ex1 ps b c) : Exs ps a c
theorem Exs.one {ps : List (List Nat)} {a b : List Nat} (e : Ex1 ps a b) : Exs ps a b := .step (.refl a) e
theorem Exs.trans {ps : List (List Nat)} {a b c : List Nat} (h : Exs ps a b) (g : Exs ps b c) : Exs ps a c := by
  induction g with
  | refl => exact h
  | step _ e ih => exact .step ih e
theorem split_two {l : List Nat} {k x y : Nat} (hx : l[k]? = some x) (hy : l[k + 1]? = some y) : l = l.take k ++ x :: y :: l.drop (k + 2) := by
  obtain ⟨h1, e1⟩ := List.getElem?_eq_some_iff.mp hx
  obtain ⟨h2, e2⟩ := List.getElem?_eq_some_iff.mp hy
  have d1 : l.drop k = x :: l.drop (k + 1) := by rw [List.drop_eq_getElem_cons h1, e1]
  have d2 : l.drop (k + 1) = y :: l.drop (k + 2) := by rw [List.drop_eq_getElem_cons h2, e2]
  rw [← d2, ← d1, List.take_append_drop]
theorem swap_ex {ps : List (List Nat)} {l : List Nat} {k x y : Nat} (hx : l[k]? = some x) (hy : l[k + 1]? = some y) (h : ind ps x y = true) : Ex1 ps l (swapAt l k) := by
  have e := split_two hx hy
  rw [swapAt_eq hx hy]
  have s : l.take k ++ [y] ++ [x] ++ l.drop (k + 2) = l.take k ++ y :: x :: l.drop (k + 2) := by simp
  rw [s]
  have g := Ex1.mk (l.take k) (l.drop (k + 2)) x y h
  rw [← e] at g
  exact g
theorem Ex1.swap {ps : List (List Nat)} {a b : List Nat} (h : Ex1 ps a b) : ∃ k x y, a[k]? = some x ∧ a[k + 1]? = some y ∧ ind ps x y = true ∧ b = swapAt a k := by
  obtain ⟨p, q, x, y, hi⟩ := h
  have hx : (p ++ x :: y :: q)[p.length]? = some x := by simp
  have hy : (p ++ x :: y :: q)[p.length + 1]? = some y := by simp
  refine ⟨p.length, x, y, hx, hy, hi, ?_⟩
  rw [swapAt_eq hx hy]
  simp [List.drop_append]
theorem Ex1.perm {ps : List (List Nat)} {a b : List Nat} (h : Ex1 ps a b) : a.Perm b := by
  obtain ⟨p, q, x, y, _⟩ := h
  exact List.Perm.append_left p (List.Perm.swap y x q)
theorem Exs.perm {ps : List (List Nat)} {a b : List Nat} (h : Exs ps a b) : a.Perm b := by
  induction h with
  | refl => exact List.Perm.refl _
  | step _ e ih => exact ih.trans e.perm
end TcG
/-! The letters from a on, and drawn pairs of them. -/
namespace TcG
open PySem PySem.Spec PyProof.Rows L2
def alph (n : Nat) : List Nat := [97, 98, 99, 100, 101, 102].take n
theorem alph_len {n : Nat} (h : n ≤ 6) : (alph n).length = n := by
  unfold alph
  rw [List.length_take]
  exact Nat.min_eq_left h
theorem alph_at {n j : Nat} (h : n ≤ 6) (hj : j < n) : (alph n)[j]? = some (97 + j) := by
  have key : ∀ n ≤ 6, ∀ j < n, (alph n)[j]? = some (97 + j) := by decide
  exact key n h j hj
theorem alph_pairs {n j : Nat} (h : n ≤ 6) (hj : j < n) : pairsWith (alph n) (97 + j) = ((alph n).drop (j + 1)).map fun y => [97 + j, y] := by
  have key : ∀ n ≤ 6, ∀ j < n, pairsWith (alph n) (97 + j) = ((alph n).drop (j + 1)).map fun y => [97 + j, y] := by decide
  exact key n h j hj
theorem alph_nodup {n : Nat} (h : n ≤ 6) : (pairsOf (alph n)).Nodup := by
  have key : ∀ n ≤ 6, (pairsOf (alph n)).Nodup := by decide
  exact key n h
theorem alph_count {n : Nat} (h : n ≤ 6) : (pairsOf (alph n)).length ≤ 15 := by
  have key : ∀ n ≤ 6, (pairsOf (alph n)).length ≤ 15 := by decide
  exact key n h
theorem alph_rising {n : Nat} (h : n ≤ 6) : (alph n).Pairwise (· < ·) := by
  have key : ∀ n ≤ 6, (alph n).Pairwise (· < ·) := by decide
  exact key n h
theorem at_eq {α : Type} {xs : List α} {z : Int} {j : Nat} {v : α} (e : z = (j : Int)) (h : xs[j]? = some v) : atI xs z = some v := by
  rw [e]
  exact atI_nat h
/-- an alphabet that was drawn -/
structure Drawn (n : Nat) (ps : List (List Nat)) : Prop where
  big : n ≤ 6
  some : 1 ≤ n
  sub : ∀ p ∈ ps, p ∈ pairsOf (alph n)
  nodup : ps.Nodup
  sorted : sortedS (ps.map tx) = true
theorem Drawn.pairs {n : Nat} {ps : List (List Nat)} (d : Drawn n ps) : Pairs (alph n) ps := fun p hp => by
  obtain ⟨x, y, e, hx, hy, lt⟩ := pairsOf_mem (d.sub p hp)
  exact ⟨x, y, e, lt, hx, hy⟩
theorem map_tx_inj {a b : List (List Nat)} (h : a.map tx = b.map tx) : a = b := by
  have e : ∀ l : List (List Nat), (l.map tx).map (fun s => s.cps.toList) = l := fun l => by
    rw [List.map_map]
    exact List.map_id _
  rw [← e a, ← e b, h]
theorem txs_map (ps : List (List Nat)) : txs ps = (ps.map tx).map V.str := by
  unfold txs
  rw [List.map_map]
  rfl
/-- the texts of a row, back as rows of signs -/
theorem rows_of (ys : List Str) : ys = (ys.map fun s => s.cps.toList).map tx := by
  rw [List.map_map]
  exact (List.map_id _).symm
theorem drawn_of {n : Nat} {prs : List (List Nat)} {ys : List Str} (h : n ≤ 6) (h1 : 1 ≤ n) (sub : prs.Sublist (pairsOf (alph n))) (pm : ys.Perm (prs.map tx)) (so : sortedS ys = true) : ∃ ps, ys = ps.map tx ∧ Drawn n ps := by
  refine ⟨ys.map fun s => s.cps.toList, rows_of ys, h, h1, fun p hp => ?_, ?_, by rw [← rows_of]; exact so⟩
  · obtain ⟨s, hs, e⟩ := List.mem_map.mp hp
    obtain ⟨q, hq, eq⟩ := List.mem_map.mp (pm.mem_iff.mp hs)
    rw [← e, ← eq]
    exact sub.subset hq
  · have e : (prs.map tx).map (fun s => s.cps.toList) = prs := by
      rw [List.map_map]
      exact List.map_id _
    have pm2 := pm.map (fun s : Str => s.cps.toList)
    rw [e] at pm2
    exact pm2.nodup_iff.mpr ((alph_nodup h).sublist sub)
end TcG
/-! Values that the law calls the same. -/
namespace TcG
open PySem PySem.Spec PyProof.Rows L2
theorem tyx_tup {K : PySem.W.Frag} {H : Hp} {p : Addr} {xs : List V} (h : SqT K H p xs) : TyX K H (.ref p) (.type "tuple") := by
  rcases h with (h | ⟨o, h⟩) | ⟨o, its, n, hk, hc, _⟩
  · exact .base (.tup h)
  · exact .fTuple h
  · exact .kTuple hk hc
/-- the same up to n tuples deep -/
def SameR (K : PySem.W.Frag) (H : Hp) : Nat → V → V → Prop
  | 0, _, _ => False
  | n + 1, x, y => (x = y ∧ flatV x = true) ∨ ∃ p q xs ys, x = .ref p ∧ y = .ref q ∧ SqT K H p xs ∧ SqT K H q ys ∧ xs.length = ys.length ∧ xs.length ≤ 100 ∧ ∀ (i : Nat) a b, xs[i]? = some a → ys[i]? = some b → SameR K H n a b
end TcG
/-! Words that exchanges lead to, searched breadth first. -/
namespace TcG
open PySem PySem.Spec PyProof.Rows L2
theorem len_le_of_mem {α : Type} [DecidableEq α] : ∀ {F G : List α}, F.Nodup → (∀ x ∈ F, x ∈ G) → F.length ≤ G.length
  | [], _, _, _ => Nat.zero_le _
  | x :: r, G, nd, h => by
    have hx : x ∈ G := h x List.mem_cons_self
    obtain ⟨nx, nr⟩ := List.nodup_cons.mp nd
    have ih := len_le_of_mem (F := r) (G := G.erase x) nr fun y hy => (List.mem_erase_of_ne (show y ≠ x from fun e => nx (by rw [← e]; exact hy))).mpr (h y (List.mem_cons_of_mem _ hy))
    have hl := List.length_erase_of_mem hx
    have pos : 0 < G.length := List.length_pos_of_mem hx
    rw [List.length_cons]
    omega
/-- all words of n letters of ls -/
def wordsOf (ls : List Nat) : Nat → List (List Nat)
  | 0 => [[]]
  | n + 1 => ls.flatMap fun c => (wordsOf ls n).map (c :: ·)
theorem wordsOf_mem (ls : List Nat) : ∀ (f : List Nat), (∀ c ∈ f, c ∈ ls) → f ∈ wordsOf ls f.length
  | [], _ => List.mem_singleton.mpr rfl
  | c :: r, h => List.mem_flatMap.mpr ⟨c, h c List.mem_cons_self, List.mem_map.mpr ⟨r, wordsOf_mem ls r fun d hd => h d (List.mem_cons_of_mem _ hd), rfl⟩⟩
theorem flat_const {α β : Type} (k : Nat) (f : α → List β) (h : ∀ x, (f x).length = k) : ∀ l : List α, (l.flatMap f).length = l.length * k
  | [] => by simp
  | x :: r => by rw [List.flatMap_cons, List.length_append, h, flat_const k f h r, List.length_cons, Nat.succ_mul, Nat.add_comm]
theorem wordsOf_len (ls : List Nat) : ∀ n, (wordsOf ls n).length = ls.length ^ n
  | 0 => rfl
  | n + 1 => by
    show (ls.flatMap fun c => (wordsOf ls n).map (c :: ·)).length = _
    rw [flat_const (ls.length ^ n) _ (fun x => by rw [List.length_map, wordsOf_len ls n]), Nat.pow_succ, Nat.mul_comm]
/-- what is found so far -/
structure Grown (ps : List (List Nat)) (a : List Nat) (F : List (List Nat)) : Prop where
  nd : F.Nodup
  has : a ∈ F
  sound : ∀ f ∈ F, Exs ps a f
theorem Grown.bound {ps : List (List Nat)} {a ls : List Nat} {F : List (List Nat)} (g : Grown ps a F) (h : ∀ c ∈ a, c ∈ ls) (hl : ls.length ≤ 5) (ha : a.length ≤ 7) : F.length ≤ 78125 := by
  have h1 : F.length ≤ (wordsOf ls a.length).length := len_le_of_mem g.nd fun f hf => by
    have pm := (g.sound f hf).perm
    have := wordsOf_mem ls f fun c hc => h c (pm.mem_iff.mpr hc)
    rw [← pm.length_eq] at this
    exact this
  rw [wordsOf_len] at h1
  have h2 : ls.length ^ a.length ≤ 5 ^ a.length := Nat.pow_le_pow_left hl _
  have h3 : 5 ^ a.length ≤ 5 ^ 7 := Nat.pow_le_pow_right (by decide) ha
  exact Nat.le_trans h1 (Nat.le_trans h2 (Nat.le_trans h3 (by decide)))
def ClosedTo (ps : List (List Nat)) (F : List (List Nat)) (n : Nat) : Prop := ∀ i, i < n → ∀ f, F[i]? = some f → ∀ g, Ex1 ps f g → g ∈ F
theorem Grown.all {ps : List (List Nat)} {a : List Nat} {F : List (List Nat)} (g : Grown ps a F) (c : ClosedTo ps F F.length) (v : List Nat) : v ∈ F ↔ Exs ps a v := by
  refine ⟨g.sound v, fun h => ?_⟩
  induction h with
  | refl => exact g.has
  | step _ e ih =>
    obtain ⟨i, hi⟩ := List.mem_iff_getElem?.mp ih
    exact c i (List.getElem?_eq_some_iff.mp hi).1 _ hi _ e
theorem Grown.put {ps : List (List Nat)} {a f g : List Nat} {F : List (List Nat)} (h : Grown ps a F) (hf : f ∈ F) (e : Ex1 ps f g) (n : g ∉ F) : Grown ps a (F ++ [g]) where
  nd := List.nodup_append.mpr ⟨h.nd, by simp, fun x hx y hy => by
    rw [List.mem_singleton.mp hy]
    exact fun z => n (z ▸ hx)⟩
  has := List.mem_append_left _ h.has
  sound := fun x hx => by
    rcases List.mem_append.mp hx with hx | hx
    · exact h.sound x hx
    · rw [List.mem_singleton.mp hx]
      exact .step (h.sound f hf) e
theorem ClosedTo.put {ps : List (List Nat)} {F : List (List Nat)} {g : List Nat} {n : Nat} (h : ClosedTo ps F n) (hn : n ≤ F.length) : ClosedTo ps (F ++ [g]) n := fun i hi f hf x e => by
  rw [List.getElem?_append_left (by omega)] at hf
  exact List.mem_append_left _ (h i hi f hf x e)
/-- the known words as a dict's pairs -/
def knownOf (F : List (List Nat)) : List (Key × V) := F.map fun f => (Sum.inr (tx f), .bl true)
theorem known_find (F : List (List Nat)) (g : List Nat) : (valV (knownOf F) (Sum.inr (tx g))).isSome = decide (g ∈ F) := by
  induction F with
  | nil => rfl
  | cons f r ih =>
    show (valV ((Sum.inr (tx f), V.bl true) :: knownOf r) (Sum.inr (tx g))).isSome = _
    by_cases e : f = g
    · rw [valV_pos (by rw [e])]
      simp [e]
    · rw [valV_neg (fun z => e (tx_inj (Sum.inr.inj z))), ih]
      have : g ≠ f := fun z => e z.symm
      simp [this]
theorem known_put {F : List (List Nat)} {g : List Nat} (h : g ∉ F) : putK (knownOf F) (Sum.inr (tx g)) (.bl true) = knownOf (F ++ [g]) := by
  unfold putK
  have : ((knownOf F).any fun kv => decide (kv.1 = Sum.inr (tx g))) = false := by
    rw [List.any_eq_false]
    intro kv hk z
    obtain ⟨f, hf, e⟩ := List.mem_map.mp hk
    rw [← e] at z
    exact h (tx_inj (Sum.inr.inj (of_decide_eq_true z)) ▸ hf)
  rw [this, if_neg Bool.false_ne_true]
  unfold knownOf
  rw [List.map_append]
  rfl
end TcG
/-! Words are alike exactly if nothing parts them. -/
namespace TcG
open PySem PySem.Spec PyProof.Rows L2
variable {ps : List (List Nat)} {ls : List Nat}
theorem Ex1.pre {a b : List Nat} (r : List Nat) (h : Ex1 ps a b) : Ex1 ps (r ++ a) (r ++ b) := by
  obtain ⟨p, q, x, y, hi⟩ := h
  have := Ex1.mk (r ++ p) q x y hi
  rw [List.append_assoc, List.append_assoc] at this
  exact this
theorem Ex1.post {a b : List Nat} (r : List Nat) (h : Ex1 ps a b) : Ex1 ps (a ++ r) (b ++ r) := by
  obtain ⟨p, q, x, y, hi⟩ := h
  have := Ex1.mk p (q ++ r) x y hi
  simpa using this
theorem Exs.pre {a b : List Nat} (r : List Nat) (h : Exs ps a b) : Exs ps (r ++ a) (r ++ b) := by
  induction h with
  | refl => exact .refl _
  | step _ e ih => exact .step ih (e.pre r)
theorem Exs.post {a b : List Nat} (r : List Nat) (h : Exs ps a b) : Exs ps (a ++ r) (b ++ r) := by
  induction h with
  | refl => exact .refl _
  | step _ e ih => exact .step ih (e.post r)
theorem Ex1.symm {a b : List Nat} (h : Ex1 ps a b) : Ex1 ps b a := by
  obtain ⟨p, q, x, y, hi⟩ := h
  exact .mk p q y x (by rw [ind_comm]; exact hi)
theorem Exs.symm {a b : List Nat} (h : Exs ps a b) : Exs ps b a := by
  induction h with
  | refl => exact .refl _
  | step _ e ih => exact (Exs.one e.symm).trans ih
/-- a letter passes letters that are independent of it -/
theorem bubble (x : Nat) (q : List Nat) : ∀ p : List Nat, (∀ y ∈ p, ind ps y x = true) → Exs ps (p ++ x :: q) (x :: (p ++ q))
  | [], _ => .refl _
  | y :: p, h => by
    have ih := bubble x q p fun z hz => h z (List.mem_cons_of_mem _ hz)
    have h1 : Exs ps (y :: (p ++ x :: q)) (y :: x :: (p ++ q)) := ih.pre [y]
    exact .step h1 (Ex1.mk [] (p ++ q) y x (h y List.mem_cons_self))

theorem keepM_append (l a b : List Nat) : keepM l (a ++ b) = keepM l a ++ keepM l b := by
  unfold keepM
  rw [List.filter_append]
theorem keepM_cons_in {l : List Nat} {c : Nat} (h : c ∈ l) (a : List Nat) : keepM l (c :: a) = c :: keepM l a := by
  unfold keepM
  rw [List.filter_cons, if_pos (decide_eq_true h)]
theorem keepM_cons_out {l : List Nat} {c : Nat} (h : c ∉ l) (a : List Nat) : keepM l (c :: a) = keepM l a := by
  unfold keepM
  rw [List.filter_cons, if_neg (by rw [decide_eq_false h]; exact Bool.false_ne_true)]
theorem keepM_none {l a : List Nat} (h : ∀ c ∈ a, c ∉ l) : keepM l a = [] := by
  unfold keepM
  rw [List.filter_eq_nil_iff]
  intro c hc z
  exact h c hc (of_decide_eq_true z)
theorem keepM_swap (u v : Nat) (a : List Nat) : keepM [u, v] a = keepM [v, u] a := by
  unfold keepM
  refine List.filter_congr fun c _ => ?_
  rw [Bool.eq_iff_iff, decide_eq_true_eq, decide_eq_true_eq]
  simp only [List.mem_cons, List.not_mem_nil, or_false]
  exact Or.comm

/-- the words of all dependent letters are the same in both -/
def KeepsM (ls : List Nat) (ps : List (List Nat)) (a b : List Nat) : Prop := ∀ u v, u ∈ ls → v ∈ ls → u ≠ v → ind ps u v = false → keepM [u, v] a = keepM [u, v] b

theorem split_first {x : Nat} : ∀ {a : List Nat}, x ∈ a → ∃ p q, a = p ++ x :: q ∧ x ∉ p
  | [], h => nomatch h
  | c :: r, h => by
    by_cases e : c = x
    · exact ⟨[], r, by rw [e]; rfl, by simp⟩
    · have hr : x ∈ r := by
        rcases List.mem_cons.mp h with z | z
        · exact absurd z.symm e
        · exact z
      obtain ⟨p, q, e1, e2⟩ := split_first hr
      refine ⟨c :: p, q, by rw [e1]; rfl, fun z => ?_⟩
      rcases List.mem_cons.mp z with z | z
      · exact e z.symm
      · exact e2 z

theorem alike_of_keeps : ∀ (b a : List Nat), (∀ c ∈ a, c ∈ ls) → (∀ c ∈ b, c ∈ ls) → a.Perm b → KeepsM ls ps a b → Exs ps a b
  | [], a, _, _, pm, _ => by
    rw [pm.eq_nil]
    exact .refl _
  | x :: b, a, ia, ib, pm, kp => by
    have hx : x ∈ a := pm.mem_iff.mpr List.mem_cons_self
    obtain ⟨p, q, rfl, nx⟩ := split_first hx
    have xl : x ∈ ls := ib x List.mem_cons_self
    have free : ∀ y ∈ p, ind ps y x = true := fun y hy => by
      cases e : ind ps y x with
      | true => rfl
      | false =>
        exfalso
        have ne : y ≠ x := fun z => nx (z ▸ hy)
        have k := kp y x (ia y (List.mem_append_left _ hy)) xl ne e
        rw [keepM_append, keepM_cons_in (by simp) b] at k
        -- the first of both letters in p is y
        have hk : ∀ c ∈ keepM [y, x] p, c = y := fun c hc => by
          obtain ⟨h1, h2⟩ := List.mem_filter.mp hc
          have h2 := of_decide_eq_true h2
          rcases List.mem_cons.mp h2 with z | z
          · exact z
          · rw [List.mem_singleton.mp z] at h1
            exact absurd h1 nx
        have hy2 : y ∈ keepM [y, x] p := List.mem_filter.mpr ⟨hy, decide_eq_true List.mem_cons_self⟩
        cases ek : keepM [y, x] p with
        | nil =>
          rw [ek] at hy2
          cases hy2
        | cons c r =>
          rw [ek] at k hk
          have := hk c List.mem_cons_self
          rw [List.cons_append] at k
          have k1 := (List.cons.inj k).1
          exact ne (this ▸ k1)
    have go : Exs ps (p ++ x :: q) (x :: (p ++ q)) := bubble x q p free
    have pm2 : (p ++ q).Perm b := by
      have h1 : (x :: (p ++ q)).Perm (x :: b) := go.perm.symm.trans pm
      exact h1.cons_inv
    have kp2 : KeepsM ls ps (p ++ q) b := fun u v hu hv ne hi => by
      have k := kp u v hu hv ne hi
      by_cases hm : x ∈ [u, v]
      · have none : keepM [u, v] p = [] := keepM_none fun c hc z => by
          have f := free c hc
          have cx : c ≠ x := fun z => nx (z ▸ hc)
          have : ind ps c x = false := by
            rcases List.mem_cons.mp hm with m | m
            · rcases List.mem_cons.mp z with z | z
              · exact absurd (z.trans m.symm) cx
              · rw [List.mem_singleton.mp z, m, ind_comm]
                exact hi
            · have m := List.mem_singleton.mp m
              rcases List.mem_cons.mp z with z | z
              · rw [z, m]
                exact hi
              · exact absurd ((List.mem_singleton.mp z).trans m.symm) cx
          rw [f] at this
          cases this
        rw [keepM_append, none, keepM_cons_in hm, keepM_cons_in hm] at k
        rw [keepM_append, none]
        exact (List.cons.inj k).2
      · rw [keepM_append, keepM_cons_out hm, keepM_cons_out hm] at k
        rw [keepM_append]
        exact k
    have ih := alike_of_keeps b (p ++ q) (fun c hc => ia c (by
      rcases List.mem_append.mp hc with h | h
      · exact List.mem_append_left _ h
      · exact List.mem_append_right _ (List.mem_cons_of_mem _ h))) (fun c hc => ib c (List.mem_cons_of_mem _ hc)) pm2 kp2
    exact go.trans (ih.pre [x])

theorem Ex1.keeps (pr : Pairs ls ps) {a b : List Nat} (h : Ex1 ps a b) {u v : Nat} (hi : ind ps u v = false) : keepM [u, v] a = keepM [u, v] b := by
  obtain ⟨p, q, x, y, hxy⟩ := h
  rw [keepM_append, keepM_append]
  congr 1
  by_cases hx : x ∈ [u, v]
  · by_cases hy : y ∈ [u, v]
    · exfalso
      have ne : x ≠ y := fun z => by
        rw [z, ind_self pr] at hxy
        cases hxy
      simp only [List.mem_cons, List.not_mem_nil, or_false] at hx hy
      rcases hx with hx | hx <;> rcases hy with hy | hy
      · exact ne (hx.trans hy.symm)
      · rw [hx, hy, hi] at hxy
        cases hxy
      · rw [hx, hy, ind_comm, hi] at hxy
        cases hxy
      · exact ne (hx.trans hy.symm)
    · rw [keepM_cons_in hx, keepM_cons_out hy, keepM_cons_out hy, keepM_cons_in hx]
  · rw [keepM_cons_out hx]
    by_cases hy : y ∈ [u, v]
    · rw [keepM_cons_in hy, keepM_cons_in hy, keepM_cons_out hx]
    · rw [keepM_cons_out hy, keepM_cons_out hy, keepM_cons_out hx]
theorem Exs.keeps (pr : Pairs ls ps) {a b : List Nat} (h : Exs ps a b) {u v : Nat} (hi : ind ps u v = false) : keepM [u, v] a = keepM [u, v] b := by
  induction h with
  | refl => rfl
  | step _ e ih => exact ih.trans (e.keeps pr hi)

theorem orderOf_none {o : Option (List Nat)} (h : ∀ p, o = some p → ∃ x y, p = [x, y]) (e : orderOf o = none) : o = none := by
  cases o with
  | none => rfl
  | some p =>
    obtain ⟨x, y, rfl⟩ := h p rfl
    cases e
theorem mem_pairsOf {x y : Nat} (hx : x ∈ ls) (hy : y ∈ ls) (lt : x < y) : [x, y] ∈ pairsOf ls :=
  List.mem_flatMap.mpr ⟨x, hx, List.mem_map.mpr ⟨y, List.mem_filter.mpr ⟨hy, decide_eq_true lt⟩, rfl⟩⟩
/-- THE PROMISE [e2]: nothing parts two words exactly if they are alike -/
theorem partsM_none (pr : Pairs ls ps) {a b : List Nat} (ia : ∀ c ∈ a, c ∈ ls) (ib : ∀ c ∈ b, c ∈ ls) : partsM ls ps a b = none ↔ Exs ps a b := by
  constructor
  · intro h
    have h1 : ls.find? (countsApart a b) = none := by
      cases e : ls.find? (countsApart a b) with
      | none => rfl
      | some c =>
        rw [partsM_count e] at h
        cases h
    rw [partsM_order h1] at h
    have h2 : (pairsOf ls).find? (parted ps a b) = none := orderOf_none (fun p hp => by
      obtain ⟨x, y, e, _⟩ := pairsOf_mem (List.mem_of_find?_eq_some hp)
      exact ⟨x, y, e⟩) h
    have pm : a.Perm b := List.perm_iff_count.mpr fun c => by
      by_cases hc : c ∈ ls
      · have := List.find?_eq_none.mp h1 c hc
        unfold countsApart at this
        simpa using this
      · rw [List.count_eq_zero_of_not_mem fun z => hc (ia c z), List.count_eq_zero_of_not_mem fun z => hc (ib c z)]
    refine alike_of_keeps b a ia ib pm fun u v hu hv ne hi => ?_
    have key : ∀ x y, x ∈ ls → y ∈ ls → x < y → ind ps x y = false → keepM [x, y] a = keepM [x, y] b := fun x y hx hy lt hi => by
      have := List.find?_eq_none.mp h2 [x, y] (mem_pairsOf hx hy lt)
      rw [parted_two, hi] at this
      simpa using this
    by_cases lt : u < v
    · exact key u v hu hv lt hi
    · rw [keepM_swap u v a, keepM_swap u v b]
      exact key v u hv hu (by omega) (by rw [ind_comm]; exact hi)
  · intro h
    have h1 : ls.find? (countsApart a b) = none := find_no fun c _ => decide_eq_false fun z => z (h.perm.count_eq c)
    rw [partsM_order h1]
    have h2 : (pairsOf ls).find? (parted ps a b) = none := find_no fun d hd => by
      obtain ⟨x, y, rfl, _⟩ := pairsOf_mem hd
      rw [parted_two]
      cases e : ind ps x y with
      | true => rfl
      | false =>
        rw [h.keeps pr e]
        simp
    rw [h2]
    rfl
end TcG
/-! The text of the law by its places. -/
namespace Tc
open PySem PySem.Spec PyProof.Rows L2 TcG
def topS (i : Nat) : Stmt := PySem.Challenge.pw_traceclasses_k01_what_parts_words.main.body.getD i (.Pass ⟨0, 0, 0, 0⟩)
-- topS 0: (PySem.Stmt.Assign
abbrev s_letter_pairs : Stmt := topS 1
theorem sc_letter_pairs : FnScope ["letters"] ["letters"] (defScope s_letter_pairs) :=
  ⟨rfl, rfl, rfl, by decide +kernel, rfl, by decide +kernel, by decide +kernel⟩
-- letter_pairs: 0 letters [letters is a cell]
abbrev s_independent : Stmt := topS 2
theorem sc_independent : FnScope ["alphabet", "x", "y"] ["alphabet", "x", "y"] (defScope s_independent) :=
  ⟨rfl, rfl, rfl, by decide +kernel, rfl, by decide +kernel, by decide +kernel⟩
-- independent: 0 alphabet, 1 x, 2 y
abbrev s_taken_out : Stmt := topS 3
theorem sc_taken_out : FnScope ["word", "letters"] ["word", "letters"] (defScope s_taken_out) :=
  ⟨rfl, rfl, rfl, by decide +kernel, rfl, by decide +kernel, by decide +kernel⟩
-- taken_out: 0 word, 1 letters [letters is a cell]
-- topS 4: (PySem.Stmt.Assign
abbrev s_parts : Stmt := topS 5
theorem sc_parts : FnScope ["alphabet", "word", "other", "letters", "letter", "pair", "low", "high"] ["alphabet", "word", "other"] (defScope s_parts) :=
  ⟨rfl, rfl, rfl, by decide +kernel, rfl, by decide +kernel, by decide +kernel⟩
-- parts: 0 alphabet, 1 word, 2 other, 3 letters, 4 letter, 5 pair, 6 low, 7 high
-- topS 6: (PySem.Stmt.Assign
abbrev s_law_cell : Stmt := topS 7
theorem sc_law_cell : FnScope ["script", "k"] ["script", "k"] (defScope s_law_cell) :=
  ⟨rfl, rfl, rfl, by decide +kernel, rfl, by decide +kernel, by decide +kernel⟩
-- law_cell: 0 script, 1 k
abbrev s_law_digits : Stmt := topS 8
theorem sc_law_digits : FnScope ["script", "first", "last", "digits", "k", "cell", "turn", "seed"] ["script", "first", "last"] (defScope s_law_digits) :=
  ⟨rfl, rfl, rfl, by decide +kernel, rfl, by decide +kernel, by decide +kernel⟩
-- law_digits: 0 script, 1 first, 2 last, 3 digits, 4 k, 5 cell, 6 turn, 7 seed
abbrev s_law_box : Stmt := topS 9
theorem sc_law_box : FnScope ["script", "first", "last"] ["script", "first", "last"] (defScope s_law_box) :=
  ⟨rfl, rfl, rfl, by decide +kernel, rfl, by decide +kernel, by decide +kernel⟩
-- law_box: 0 script, 1 first, 2 last
abbrev s_law_draw : Stmt := topS 10
theorem sc_law_draw : FnScope ["box", "many", "at"] ["box", "many"] (defScope s_law_draw) :=
  ⟨rfl, rfl, rfl, by decide +kernel, rfl, by decide +kernel, by decide +kernel⟩
-- law_draw: 0 box, 1 many, 2 at
abbrev s_law_alphabet : Stmt := topS 11
theorem sc_law_alphabet : FnScope ["box", "most", "letters", "pairs", "j", "k"] ["box", "most"] (defScope s_law_alphabet) :=
  ⟨rfl, rfl, rfl, by decide +kernel, rfl, by decide +kernel, by decide +kernel⟩
-- law_alphabet: 0 box, 1 most, 2 letters, 3 pairs, 4 j, 5 k
abbrev s_law_word : Stmt := topS 12
theorem sc_law_word : FnScope ["box", "alphabet", "most", "word", "k"] ["box", "alphabet", "most"] (defScope s_law_word) :=
  ⟨rfl, rfl, rfl, by decide +kernel, rfl, by decide +kernel, by decide +kernel⟩
-- law_word: 0 box, 1 alphabet, 2 most, 3 word, 4 k
abbrev s_law_free : Stmt := topS 13
theorem sc_law_free : FnScope ["alphabet", "x", "y"] ["alphabet", "x", "y"] (defScope s_law_free) :=
  ⟨rfl, rfl, rfl, by decide +kernel, rfl, by decide +kernel, by decide +kernel⟩
-- law_free: 0 alphabet, 1 x, 2 y
abbrev s_law_mixed : Stmt := topS 14
theorem sc_law_mixed : FnScope ["box", "alphabet", "word", "turn", "k"] ["box", "alphabet", "word"] (defScope s_law_mixed) :=
  ⟨rfl, rfl, rfl, by decide +kernel, rfl, by decide +kernel, by decide +kernel⟩
-- law_mixed: 0 box, 1 alphabet, 2 word, 3 turn, 4 k
abbrev s_law_same : Stmt := topS 15
theorem sc_law_same : FnScope ["actual", "expected", "k"] ["actual", "expected"] (defScope s_law_same) :=
  ⟨rfl, rfl, rfl, by decide +kernel, rfl, by decide +kernel, by decide +kernel⟩
-- law_same: 0 actual, 1 expected, 2 k
abbrev s_law_only : Stmt := topS 16
theorem sc_law_only : FnScope ["word", "letters", "kept", "x"] ["word", "letters"] (defScope s_law_only) :=
  ⟨rfl, rfl, rfl, by decide +kernel, rfl, by decide +kernel, by decide +kernel⟩
-- law_only: 0 word, 1 letters, 2 kept, 3 x
abbrev s_law_parts : Stmt := topS 17
theorem sc_law_parts : FnScope ["alphabet", "word", "other", "x", "y"] ["alphabet", "word", "other"] (defScope s_law_parts) :=
  ⟨rfl, rfl, rfl, by decide +kernel, rfl, by decide +kernel, by decide +kernel⟩
-- law_parts: 0 alphabet, 1 word, 2 other, 3 x, 4 y [x is a cell]
abbrev s_law_class : Stmt := topS 18
theorem sc_law_class : FnScope ["alphabet", "word", "found", "at", "known", "here", "k", "there"] ["alphabet", "word"] (defScope s_law_class) :=
  ⟨rfl, rfl, rfl, by decide +kernel, rfl, by decide +kernel, by decide +kernel⟩
-- law_class: 0 alphabet, 1 word, 2 found, 3 at, 4 known, 5 here, 6 k, 7 there
abbrev s_law : Stmt := topS 19
theorem sc_law : FnScope ["script", "box", "turn", "alphabet", "word", "other", "kind", "k", "found"] ["script"] (defScope s_law) :=
  ⟨rfl, rfl, rfl, by decide +kernel, rfl, by decide +kernel, by decide +kernel⟩
-- law: 0 script, 1 box, 2 turn, 3 alphabet, 4 word, 5 other, 6 kind, 7 k, 8 found
end Tc
/-! The law's own numbers: cells, digits, the box, draws. -/
namespace Tc
open PySem PySem.Spec PyProof.Rows L2 TcG
section
variable {P : Program} {w : World} {K : PySem.W.Frag} {mg : Str → Option Value} {base : Heap}

/-! _law_cell -/
def sp_cell (K : PySem.W.Frag) : Sp := fun vs H Q _ => ∃ (a : Addr) (ns : List Int) (k : Int), vs = [.ref a, .int k] ∧ SqL K H a (ns.map V.int) ∧ 0 ≤ k ∧ ∀ z : Int, Q (.int z) H
theorem ok_cell {f : Addr} {fd : FuncData} {k : Nat} (F : Fun K "_law_cell" "_law_cell" s_law_cell f fd) (ml : mg "len" = none) : FnOk P w K mg base CX0 (k + 1) f fd ["script", "k"] (sp_cell K) := by
  refine F.ok sc_law_cell (fun vs H Q E h => ?_) (fun cdv A outer s H vs Q E hr h => ?_)
  · obtain ⟨a, ns, k, rfl, _⟩ := h
    rfl
  · obtain ⟨a, ns, k, rfl, hS, hk, q⟩ := h
    refine ⟨_, pss_cons (ps_if (pt_cmpR op_lt (pv 1) (pe_callB call_len_seq (by rfl) ml PySem.boot_len (pa_cons (pv 0) pa_nil)) (nomark _))
        (pss_one (ps_ret (pe_ix ix_list (pv 0) (pv 1) (fun _ _ => rfl)))) pss_nil)
      (pss_one (ps_ret pe_int)), ?_⟩
    refine ⟨.int k, rfl, .ref a, rfl, a, _, rfl, .inl hS, _, _, rfl, rfl, _, rfl, ite2 (fun e => ?_) (fun e => ?_)⟩
    · have e0 : k < ((ns.map V.int).length : Int) := of_decide_eq_true e
      rw [List.length_map] at e0
      obtain ⟨j, rfl⟩ : ∃ j : Nat, k = (j : Int) := ⟨k.toNat, by omega⟩
      have hj : j < ns.length := by omega
      refine ⟨.ref a, rfl, .int j, rfl, a, _, _, .int ns[j], rfl, rfl, hS, atI_nat ?_, q _⟩
      rw [List.getElem?_map, List.getElem?_eq_getElem hj]
      rfl
    · exact q _

/-! _law_digits -/
def sp_digits (K : PySem.W.Frag) : Sp := fun vs H Q _ => ∃ (a : Addr) (ns : List Int), vs = [.ref a, .int 0, .int 63] ∧ SqL K H a (ns.map V.int) ∧
  ∀ (p : Addr) (ds : List Int) (H' : Hp), Same H H' → H p = none → H' p = some (.lst (ds.map V.int)) → Q (.ref p) H'
theorem ok_digits {f fC : Addr} {fd fdC : FuncData} (F : Fun K "_law_digits" "_law_digits" s_law_digits f fd) (FC : Fun K "_law_cell" "_law_cell" s_law_cell fC fdC) (gC : mg "_law_cell" = some (.ref fC))
    (ml : mg "len" = none) (mr : mg "range" = none) (mi : mg "int" = none) : FnOk P w K mg base CX0 2 f fd ["script", "first", "last"] (sp_digits K) := by
  have GC : FnOk P w K mg base CX0 1 fC fdC ["script", "k"] (sp_cell K) := ok_cell FC ml
  have bC : Binds K fdC ["script", "k"] [] := FC.binds fun _ _ _ _ _ _ us hl => match us, hl with | [_, _], _ => rfl
  refine F.ok sc_law_digits (fun vs H Q E h => ?_) (fun cdv A outer s H vs Q E hr h => ?_)
  · obtain ⟨a, ns, rfl, _⟩ := h
    rfl
  · obtain ⟨a, ns, rfl, hS, q⟩ := h
    have nd := sc_law_digits.nd
    refine ⟨_, pss_cons (ps_set (i := 3) nd rfl (.inl rfl) (pe_lst pa_nil))
      (pss_cons (ps_for PassesOwn.never rfl (pi_range2 (by rfl) mr (pa_cons (pv 1) (pa_cons (pv 2) pa_nil))) (pg_name (i := 4) nd rfl (.inl rfl))
        (pss_cons (ps_set (i := 5) nd rfl (.inl rfl) (pe_call GC hr (by rfl) gC FC.kp bC .nil pass0 (pa_cons (pv 0) (pa_cons (pv 4) pa_nil))))
        (C8.pss_cut (ps_if (pt_cmpR op_lt (pv 5) pe_int (nomark _))
            (pss_one (ps_set (i := 5) nd rfl (.inl rfl) (pe_op op_sub pe_int (pe_op op_mul pe_int (pv 5))))) pss_nil)
        (pss_one (ps_if (pt_cmpR op_ge (pv 5) (pe_op op_pow pe_int pe_int) (nomark _))
            (pss_one (ps_for PassesOwn.never rfl (pi_range1 (by rfl) mr (pa_cons pe_int pa_nil)) (pg_name (i := 6) nd rfl (.inl rfl))
              (pss_one (ps_if (pt_cmpR op_gt (pv 5) pe_int (nomark _))
                (pss_cons (ps_expr (pe_bm PySem.F.plainAttrs_list PySem.F.slot_list_append PySem.F.type_list_append mt_append (pv 3)
                    (pa_cons (pe_op op_modN (pe_callTy call_int1 (by rfl) mi (by decide +kernel) (pa_cons (pv 5) pa_nil)) pe_int) pa_nil)))
                  (pss_one (ps_set (i := 5) nd rfl (.inl rfl) (pe_op op_fdiv (pv 5) pe_int)))) pss_nil))))
            (pss_cons (ps_set (i := 7) nd rfl (.inl rfl) (pe_op op_modN (pe_callTy call_int1 (by rfl) mi (by decide +kernel)
                (pa_cons (pe_op op_add (pe_op op_add (pe_op op_mul (pv 5) pe_int) (pe_op op_mul (pv 4) pe_int)) pe_int) pa_nil)) pe_int))
              (pss_one (ps_for PassesOwn.never rfl (pi_range1 (by rfl) mr (pa_cons pe_int pa_nil)) (pg_name (i := 6) nd rfl (.inl rfl))
                (pss_cons (ps_set (i := 7) nd rfl (.inl rfl) (pe_op op_modN (pe_callTy call_int1 (by rfl) mi (by decide +kernel)
                    (pa_cons (pe_op op_add (pe_op op_add (pe_op op_mul (pv 7) pe_int) (pe_op op_mul pe_int (pv 6))) pe_int) pa_nil)) pe_int))
                  (pss_one (ps_expr (pe_bm PySem.F.plainAttrs_list PySem.F.slot_list_append PySem.F.type_list_append mt_append (pv 3)
                    (pa_cons (pe_op op_modN (pe_callTy call_int1 (by rfl) mi (by decide +kernel) (pa_cons (pe_op op_fdiv (pv 7) pe_int) pa_nil)) pe_int) pa_nil)))))))))))))
      (pss_one (ps_ret (pv 3)))), ?_⟩
    refine ⟨Nat.zero_le _, fun p np => ?_⟩
    -- the turns: at most 60 digits each
    refine ⟨.int 0, rfl, .int 63, rfl, 0, 63, rfl, ⟨by decide, by decide, by decide, by decide⟩, for_range (lo := 0) (n := 63)
      (fun i σ H' => ∃ ds y4 y5 y6 y7, σ = [some (.ref a), some (.int 0), some (.int 63), some (.ref p), y4, y5, y6, y7] ∧ Same H H' ∧ H' p = some (.lst (List.map V.int ds)) ∧ ds.length ≤ 60 * i)
      ⟨[], none, none, none, none, rfl, same_new np, upd_same, Nat.le_refl _⟩ (fun i σ H1 hi hW => ?_) (fun σ H1 hW => ?_)⟩
    · obtain ⟨ds, y4, y5, y6, y7, rfl, sm, hp, hl⟩ := hW
      refine ⟨.ref a, rfl, .int (0 + (i : Int)), rfl, a, ns, 0 + (i : Int), rfl, sm.seq hS, by omega, fun z => ?_⟩
      -- the number, no more below 0
      refine ⟨fun σ' H' => ∃ z' : Int, σ' = [some (.ref a), some (.int 0), some (.int 63), some (.ref p), some (.int (0 + (i : Int))), some (.int z'), y6, y7] ∧ H' = H1,
        ⟨.int z, rfl, z, 0, rfl, rfl, _, rfl, ite2 (fun _ => ⟨.int z, rfl, 2, z, rfl, rfl, .inl ⟨by decide, by decide⟩, 1, _, rfl, rfl, _, rfl, rfl⟩) (fun _ => ⟨z, rfl, rfl⟩)⟩, ?_⟩
      rintro σ' H' ⟨z, rfl, rfl⟩
      refine ⟨.int z, rfl, 10, 18, rfl, rfl, ⟨by decide, by decide, by decide⟩, z, _, rfl, rfl, _, rfl, ite2 (fun _ => ?_) (fun _ => ?_)⟩
      · -- a great number: its digits
        refine ⟨60, rfl, by decide, by decide, for_range (lo := 0) (n := 60)
          (fun j σ H2 => ∃ ds z y6, σ = [some (.ref a), some (.int 0), some (.int 63), some (.ref p), some (.int (0 + (i : Int))), some (.int z), y6, y7] ∧ Same H H2 ∧ H2 p = some (.lst (List.map V.int ds)) ∧ ds.length ≤ 60 * i + j)
          ⟨ds, z, y6, rfl, sm, hp, hl⟩ (fun j σ H2 hj hV => ?_) (fun σ H2 hV => ?_)⟩
        · obtain ⟨ds, z, y6, rfl, sm, hp, hl⟩ := hV
          refine ⟨.int z, rfl, z, 0, rfl, rfl, _, rfl, ite2 (fun _ => ?_) (fun _ => ?_)⟩
          · refine ⟨.ref p, rfl, .inl ⟨rfl, _, SqL.of hp⟩, .int z, rfl, .inl ⟨z, rfl, z, 1000, rfl, rfl, (by decide : (1000 : Int) ≠ 0), p, _, _, rfl, rfl, hp, ?_, ?_⟩⟩
            · rw [List.length_map]
              exact Nat.lt_of_le_of_lt (show ds.length ≤ 10000 by omega) (by decide)
            · refine ⟨.int z, rfl, z, 1000, rfl, rfl, ⟨by decide, by decide⟩, ds ++ [z.fmod 1000], z / 1000, some (.int (0 + (j : Int))), rfl, fun b o e => ?_, ?_, ?_⟩
              · rw [upd_ne (ne_of_none e np)]
                exact sm b o e
              · rw [upd_same, List.map_append]
                rfl
              · rw [List.length_append, List.length_singleton]
                omega
          · exact ⟨ds, z, some (.int (0 + (j : Int))), rfl, sm, hp, by omega⟩
        · obtain ⟨ds, z, y6, rfl, sm, hp, hl⟩ := hV
          exact ⟨ds, _, _, _, _, rfl, sm, hp, by omega⟩
      · -- another one: drawn on from it
        refine ⟨.int z, rfl, z, 48271, rfl, rfl, .inr ⟨by decide, by decide⟩, .int (0 + (i : Int)), rfl, 0 + (i : Int), 69621, rfl, rfl, .inr ⟨by decide, by decide⟩, _, _, rfl, rfl, _, 11, rfl, rfl, .inl ⟨_, rfl, ?_⟩⟩
        refine ⟨_, 2147483647, rfl, rfl, (by decide : (2147483647 : Int) ≠ 0), 12, rfl, by decide, by decide, for_range (lo := 0) (n := 12)
          (fun j σ H2 => ∃ (ds : List Int) (z x : Int) (y6 : Option V), σ = [some (.ref a), some (.int 0), some (.int 63), some (.ref p), some (.int (0 + (i : Int))), some (.int z), y6, some (.int x)] ∧ Same H H2 ∧ H2 p = some (.lst (List.map V.int ds)) ∧ ds.length ≤ 60 * i + j)
          ⟨ds, z, _, y6, rfl, sm, hp, hl⟩ (fun j σ H2 hj hV => ?_) (fun σ H2 hV => ?_)⟩
        · obtain ⟨ds, z, x, y6, rfl, sm, hp, hl⟩ := hV
          refine ⟨.int x, rfl, x, 16807, rfl, rfl, .inr ⟨by decide, by decide⟩, .int (0 + (j : Int)), rfl, 7, _, rfl, rfl, .inl ⟨by decide, by decide⟩, _, _, rfl, rfl, _, 1, rfl, rfl, .inl ⟨_, rfl, _, 2147483647, rfl, rfl, (by decide : (2147483647 : Int) ≠ 0), ?_⟩⟩
          refine ⟨.ref p, rfl, .inl ⟨rfl, _, SqL.of hp⟩, .int _, rfl, _, 997, rfl, rfl, ⟨by decide, by decide⟩, .inl ⟨_, rfl, _, 1000, rfl, rfl, (by decide : (1000 : Int) ≠ 0), p, _, _, rfl, rfl, hp, ?_, ?_⟩⟩
          · rw [List.length_map]
            exact Nat.lt_of_le_of_lt (show ds.length ≤ 10000 by omega) (by decide)
          · refine ⟨ds ++ [((x * 16807 + 7 * (0 + (j : Int)) + 1).fmod 2147483647 / 997).fmod 1000], z, _, some (.int (0 + (j : Int))), rfl, fun b o e => ?_, ?_, ?_⟩
            · rw [upd_ne (ne_of_none e np)]
              exact sm b o e
            · rw [upd_same, List.map_append]
              rfl
            · rw [List.length_append, List.length_singleton]
              omega
        · obtain ⟨ds, z, x, y6, rfl, sm, hp, hl⟩ := hV
          exact ⟨ds, _, _, _, _, rfl, sm, hp, by omega⟩
    · obtain ⟨ds, y4, y5, y6, y7, rfl, sm, hp, hl⟩ := hW
      exact ⟨.ref p, rfl, q p ds H1 sm np hp⟩

/-! _law_box -/
def sp_box (K : PySem.W.Frag) : Sp := fun vs H Q _ => ∃ (a : Addr) (ns : List Int), vs = [.ref a, .int 0, .int 63] ∧ SqL K H a (ns.map V.int) ∧
  ∀ (b dl : Addr) (H' : Hp), Same H H' → H b = none → Box K b dl H' → Q (.ref b) H'
theorem ok_box {f fC fD : Addr} {fd fdC fdD : FuncData} (F : Fun K "_law_box" "_law_box" s_law_box f fd) (FC : Fun K "_law_cell" "_law_cell" s_law_cell fC fdC) (gC : mg "_law_cell" = some (.ref fC))
    (FD : Fun K "_law_digits" "_law_digits" s_law_digits fD fdD) (gD : mg "_law_digits" = some (.ref fD))
    (ml : mg "len" = none) (mr : mg "range" = none) (mi : mg "int" = none) : FnOk P w K mg base CX0 3 f fd ["script", "first", "last"] (sp_box K) := by
  have GD : FnOk P w K mg base CX0 2 fD fdD ["script", "first", "last"] (sp_digits K) := ok_digits FD FC gC ml mr mi
  have bD : Binds K fdD ["script", "first", "last"] [] := FD.binds fun _ _ _ _ _ _ us hl => match us, hl with | [_, _, _], _ => rfl
  refine F.ok sc_law_box (fun vs H Q E h => ?_) (fun cdv A outer s H vs Q E hr h => ?_)
  · obtain ⟨a, ns, rfl, _⟩ := h
    rfl
  · obtain ⟨a, ns, rfl, hS, q⟩ := h
    refine ⟨_, pss_one (ps_ret (pe_lst (pa_cons (pe_call GD hr (by rfl) gD FD.kp bD .nil pass0 (pa_cons (pv 0) (pa_cons (pv 1) (pa_cons (pv 2) pa_nil)))) (pa_cons pe_int pa_nil)))), ?_⟩
    refine ⟨.ref a, rfl, .int 0, rfl, .int 63, rfl, a, ns, rfl, hS, fun p ds H1 sm np hp => ⟨by show 2 ≤ sizeLine; decide, fun b nb => ?_⟩⟩
    exact q b p _ (sm.trans (same_new nb)) (sm.free nb) ⟨ds, 0, upd_same, Int.le_refl _, (same_new nb).seq (SqL.of hp)⟩

/-! _law_draw -/
def sp_draw (K : PySem.W.Frag) : Sp := fun vs H Q _ => ∃ (b dl : Addr) (m : Int), vs = [.ref b, .int m] ∧ Box K b dl H ∧ 0 < m ∧
  ∀ (r : Int) (H' : Hp), 0 ≤ r → r < m → Mv [b] H H' → Box K b dl H' → Q (.int r) H'
theorem ok_draw {f : Addr} {fd : FuncData} {k : Nat} (F : Fun K "_law_draw" "_law_draw" s_law_draw f fd) (ml : mg "len" = none) (mi : mg "int" = none) : FnOk P w K mg base CX0 (k + 1) f fd ["box", "many"] (sp_draw K) := by
  refine F.ok sc_law_draw (fun vs H Q E h => ?_) (fun cdv A outer s H vs Q E hr h => ?_)
  · obtain ⟨b, dl, m, rfl, _⟩ := h
    rfl
  · obtain ⟨b, dl, m, rfl, ⟨ds, n, hb, hn, hd⟩, hm, q⟩ := h
    have nd := sc_law_draw.nd
    refine ⟨_, pss_cons (ps_set (i := 2) nd rfl (.inl rfl) (pe_ix ix_list (pv 0) pe_int (fun _ _ => rfl)))
      (pss_cons (ps_asg (pe_op op_add (pv 2) pe_int) (pg_sub (pv 0) pe_int set_list))
      (pss_cons (ps_if (pt_cmpR op_lt (pv 2) (pe_callB call_len_seq (by rfl) ml PySem.boot_len (pa_cons (pe_ix ix_list (pv 0) pe_int (fun _ _ => rfl)) pa_nil)) (nomark _))
        (pss_one (ps_ret (pe_op op_modN (pe_callTy call_int1 (by rfl) mi (by decide +kernel) (pa_cons (pe_ix ix_list (pe_ix ix_list (pv 0) pe_int (fun _ _ => rfl)) (pv 2) (fun _ _ => rfl)) pa_nil)) (pv 1)))) pss_nil)
      (pss_one (ps_ret pe_int)))), ?_⟩
    -- at = box[1]; box[1] = at + 1
    refine ⟨.ref b, rfl, b, _, 1, .int n, rfl, rfl, SqL.of hb, atI_nat (j := 1) rfl, ?_⟩
    refine ⟨.int n, rfl, n, 1, rfl, rfl, .ref b, rfl, b, _, 1, 1, rfl, rfl, hb, rfl, ?_⟩
    have h1 : (upd H b (.lst [.ref dl, .int (n + 1)])) b = some (.lst [.ref dl, .int (n + 1)]) := upd_same
    have m1 : Mv [b] H (upd H b (.lst [.ref dl, .int (n + 1)])) := Mv.put
    have hd1 : SqL K (upd H b (.lst [.ref dl, .int (n + 1)])) dl (ds.map V.int) := m1.seqL hd fun p hp u r => by
      rw [List.mem_singleton.mp hp] at r
      rw [rd_of hb (fun _ _ z => by cases z) r]
      exact box_list_ne ds
    have box1 : Box K b dl (upd H b (.lst [.ref dl, .int (n + 1)])) := ⟨ds, n + 1, h1, by omega, hd1⟩
    -- if at < len(box[0])
    refine ⟨.int n, rfl, .ref b, rfl, b, _, 0, .ref dl, rfl, rfl, SqL.of h1, atI_nat (j := 0) rfl, dl, _, rfl, .inl hd1, n, _, rfl, rfl, _, rfl, ite2 (fun e => ?_) (fun e => ?_)⟩
    · have e0 : n < ((ds.map V.int).length : Int) := of_decide_eq_true e
      rw [List.length_map] at e0
      obtain ⟨j, rfl⟩ : ∃ j : Nat, n = (j : Int) := ⟨n.toNat, by omega⟩
      have hj : j < ds.length := by omega
      have g : (ds.map V.int)[j]? = some (.int ds[j]) := by
        rw [List.getElem?_map, List.getElem?_eq_getElem hj]
        rfl
      have rg := fmod_range (x := ds[j]) hm
      exact ⟨.ref b, rfl, b, _, 0, .ref dl, rfl, rfl, SqL.of h1, atI_nat (j := 0) rfl, .int j, rfl, dl, _, j, .int ds[j], rfl, rfl, hd1, atI_nat g, .inl ⟨_, rfl, .int m, rfl, _, m, rfl, rfl, by omega, q _ _ rg.1 rg.2 m1 box1⟩⟩
    · exact q 0 _ (Int.le_refl _) hm m1 box1
end
end Tc
/-! Independent letters, what is taken out of a word, pairs of letters. -/
namespace Tc
open PySem PySem.Spec PyProof.Rows L2 TcG
section
variable {P : Program} {w : World} {K : PySem.W.Frag} {mg : Str → Option Value} {base : Heap}

theorem small_line {n : Nat} (h : n ≤ 100000) : n ≤ sizeLine := Nat.le_trans h (by decide)

/-! independent -/
def sp_independent (K : PySem.W.Frag) : Sp := fun vs H Q _ => ∃ (a : Addr) (x y : Nat) (ls : List Nat) (ps : List (List Nat)), vs = [.ref a, .str (tx [x]), .str (tx [y])] ∧ Alpha K H a ls ps ∧ Q (.bl (ind ps x y)) H
theorem ok_independent {f : Addr} {fd : FuncData} {k : Nat} (F : Fun K "independent" "independent" s_independent f fd) (mn : mg "min" = none) (mx : mg "max" = none) : FnOk P w K mg base CX0 (k + 1) f fd ["alphabet", "x", "y"] (sp_independent K) := by
  refine F.ok sc_independent (fun vs H Q E h => ?_) (fun cdv A outer s H vs Q E hr h => ?_)
  · obtain ⟨a, x, y, ls, ps, rfl, _⟩ := h
    rfl
  · obtain ⟨a, x, y, ls, ps, rfl, ⟨pt, h1, h2⟩, q⟩ := h
    refine ⟨_, pss_one (ps_ret (pe_cmpR op_in_seq (pe_op op_add_str
        (pe_callB (call_minT rfl) (by rfl) mn (by decide +kernel) (pa_cons (pv 1) (pa_cons (pv 2) pa_nil)))
        (pe_callB (call_maxT rfl) (by rfl) mx (by decide +kernel) (pa_cons (pv 1) (pa_cons (pv 2) pa_nil))))
      (pe_ix ix_tup (pv 0) pe_int (fun _ _ => rfl)) (by rfl))), ?_⟩
    refine ⟨.str (tx [x]), rfl, .str (tx [y]), rfl, _, _, rfl, .str (tx [x]), rfl, .str (tx [y]), rfl, _, _, rfl, ?_⟩
    rw [min_tx, max_tx]
    refine ⟨_, _, rfl, rfl, by show (1 + 1 : Nat) ≤ sizeLine; decide, .ref a, rfl, a, _, 2, .ref pt, rfl, rfl, h1, atI_nat (j := 2) rfl, pt, _, rfl, .inr h2, rfl, txs_flat ps, ?_⟩
    rw [tx_append, inV_txs]
    exact q

/-! taken_out -/
def sp_taken (Pt : Addr) : Sp := fun vs H Q _ => ∃ (a l : List Nat), vs = [.str (tx a), .str (tx l)] ∧ a.length ≤ 1000 ∧ GxR.TabG H Pt ∧ ∀ H', GxR.Tabbed Pt H H' → Q (.str (tx (a.filter fun c => decide (c ∈ l)))) H'
theorem ok_taken {f c Pt : Addr} {fd : FuncData} {k : Nat} (F : FunC K "taken_out" "taken_out" s_taken_out f fd c) (TB : GxR.TabB base mg c Pt) : FnOk P w K mg base CX0 (k + 1) f fd ["word", "letters"] (sp_taken Pt) := by
  refine F.ok sc_taken_out (fun vs H Q E h => ?_) (fun A outer s H vs Q E hr h => ?_)
  · obtain ⟨a, l, rfl, _⟩ := h
    rfl
  · obtain ⟨a, l, rfl, small, tab, q⟩ := h
    refine ⟨_, pss_one (ps_ret (pe_kept hr TB rfl (by show genOk (defScope s_taken_out).names _ _ = true; decide +kernel) (pv 0) (iy := 1) rfl (by rfl) (by rfl) (fun _ => rfl))), ?_⟩
    exact ⟨.str (tx a), rfl, tx a, rfl, tab, tx l, rfl, small, q⟩

/-! _law_free -/
def sp_free (K : PySem.W.Frag) : Sp := fun vs H Q _ => ∃ (a : Addr) (x y : Nat) (ls : List Nat) (ps : List (List Nat)), vs = [.ref a, .str (tx [x]), .str (tx [y])] ∧ Alpha K H a ls ps ∧ Pairs ls ps ∧ Q (.bl (ind ps x y)) H
theorem ok_free {f : Addr} {fd : FuncData} {k : Nat} (F : Fun K "_law_free" "_law_free" s_law_free f fd) : FnOk P w K mg base CX0 (k + 1) f fd ["alphabet", "x", "y"] (sp_free K) := by
  refine F.ok sc_law_free (fun vs H Q E h => ?_) (fun cdv A outer s H vs Q E hr h => ?_)
  · obtain ⟨a, x, y, ls, ps, rfl, _⟩ := h
    rfl
  · obtain ⟨a, x, y, ls, ps, rfl, ⟨pt, h1, h2⟩, pr, q⟩ := h
    refine ⟨_, pss_one (ps_ret (pe_or (pe_cmpR op_in_seq (pe_op op_add_str (pv 1) (pv 2)) (pe_ix ix_tup (pv 0) pe_int (fun _ _ => rfl)) (by rfl))
      (pe_one (pe_cmpR op_in_seq (pe_op op_add_str (pv 2) (pv 1)) (pe_ix ix_tup (pv 0) pe_int (fun _ _ => rfl)) (by rfl))))), ?_⟩
    rw [← ind_either pr] at q
    refine ⟨.str (tx [x]), rfl, .str (tx [y]), rfl, _, _, rfl, rfl, by show (1 + 1 : Nat) ≤ sizeLine; decide, .ref a, rfl, a, _, 2, .ref pt, rfl, rfl, h1, atI_nat (j := 2) rfl, pt, _, rfl, .inr h2, rfl, txs_flat ps, _, rfl, ?_⟩
    rw [tx_append]
    have e1 : inV (.str (tx ([x] ++ [y]))) (txs ps) = decide ([x, y] ∈ ps) := inV_txs _ _
    have e2 : inV (.str (tx ([y] ++ [x]))) (txs ps) = decide ([y, x] ∈ ps) := inV_txs _ _
    show if inV (.str (tx ([x] ++ [y]))) (txs ps) = true then _ else _
    rw [e1]
    by_cases h : [x, y] ∈ ps
    · rw [decide_eq_true h] at q ⊢
      exact q
    · rw [decide_eq_false h] at q ⊢
      refine iteF ⟨.str (tx [y]), rfl, .str (tx [x]), rfl, _, _, rfl, rfl, by show (1 + 1 : Nat) ≤ sizeLine; decide, .ref a, rfl, a, _, 2, .ref pt, rfl, rfl, h1, atI_nat (j := 2) rfl, pt, _, rfl, .inr h2, rfl, txs_flat ps, ?_⟩
      rw [tx_append]
      show Q (.bl (inV (.str (tx ([y] ++ [x]))) (txs ps))) H
      rw [e2]
      exact q

/-! _law_only -/
def sp_only (K : PySem.W.Frag) : Sp := fun vs H Q _ => ∃ (a l : List Nat) (p : Addr), vs = [.str (tx a), .ref p] ∧ SqL K H p (l.map fun c => .str (tx [c])) ∧ a.length ≤ 1000 ∧ Q (.str (tx (a.filter fun c => decide (c ∈ l)))) H
theorem ok_only {f : Addr} {fd : FuncData} {k : Nat} (F : Fun K "_law_only" "_law_only" s_law_only f fd) : FnOk P w K mg base CX0 (k + 1) f fd ["word", "letters"] (sp_only K) := by
  refine F.ok sc_law_only (fun vs H Q E h => ?_) (fun cdv A outer s H vs Q E hr h => ?_)
  · obtain ⟨a, l, p, rfl, _⟩ := h
    rfl
  · obtain ⟨a, l, p, rfl, hS, small, q⟩ := h
    have nd := sc_law_only.nd
    refine ⟨_, pss_cons (ps_set (i := 2) nd rfl (.inl rfl) pe_str)
      (pss_cons (ps_for PassesOwn.never rfl (pi_str (pv 0)) (pg_name (i := 3) nd rfl (.inl rfl))
        (pss_one (ps_if (pt_cmpR op_in_seq (pv 3) (pv 1) (by rfl)) (pss_one (ps_set (i := 2) nd rfl (.inl rfl) (pe_op op_add_str (pv 2) (pv 3)))) pss_nil)))
      (pss_one (ps_ret (pv 2)))), ?_⟩
    refine ⟨.str (tx a), rfl, tx a, rfl, for_text (fun i σ H' => ∃ y3, σ = [some (.str (tx a)), some (.ref p), some (.str (tx ((a.take i).filter fun c => decide (c ∈ l)))), y3] ∧ H' = H) ⟨none, rfl, rfl⟩ (fun i c σ H1 hc hW => ?_) (fun σ H1 hW => ?_)⟩
    · obtain ⟨y3, rfl, rfl⟩ := hW
      have e : (l.map fun c => V.str (tx [c])) = txs (l.map fun c => [c]) := by
        unfold txs
        rw [List.map_map]
        rfl
      rw [e] at hS
      have mem : inV (.str (tx [c])) (txs (l.map fun c => [c])) = decide (c ∈ l) := by
        rw [inV_txs, Bool.eq_iff_iff, decide_eq_true_eq, decide_eq_true_eq, List.mem_map]
        constructor
        · rintro ⟨d, hd, e⟩
          cases e
          exact hd
        · intro h
          exact ⟨c, h, rfl⟩
      refine ⟨.str (tx [c]), rfl, .ref p, rfl, p, _, rfl, .inl hS, rfl, txs_flat _, _, rfl, ?_⟩
      show if inV (.str (tx [c])) (txs (l.map fun c => [c])) = true then _ else _
      rw [mem]
      by_cases h : c ∈ l
      · rw [decide_eq_true h]
        refine iteT ⟨.str _, rfl, .str _, rfl, _, _, rfl, rfl, ?_, some (.str (tx [c])), ?_, rfl⟩
        · rw [tx_length, tx_length]
          have := List.length_filter_le (fun c => decide (c ∈ l)) (a.take i)
          have h2 : (a.take i).length ≤ 1000 := by
            rw [List.length_take]
            omega
          exact small_line (by simp; omega)
        · rw [take_next hc, List.filter_append, List.filter_cons, if_pos (decide_eq_true h), tx_append]
          rfl
      · rw [decide_eq_false h]
        refine iteF ⟨some (.str (tx [c])), ?_, rfl⟩
        rw [take_next hc, List.filter_append, List.filter_cons, if_neg (by rw [decide_eq_false h]; exact Bool.false_ne_true), List.filter_nil, List.append_nil]
        rfl
    · obtain ⟨y3, rfl, rfl⟩ := hW
      rw [List.take_length]
      exact ⟨_, rfl, q⟩
end
end Tc
/-! The pairs of letters. -/
namespace Tc
open PySem PySem.Spec PyProof.Rows L2 TcG
theorem scx_letter_pairs : FnScope ["letters", "low", "high"] ["letters"] (defScope s_letter_pairs) :=
  ⟨rfl, rfl, rfl, by decide +kernel, rfl, by decide +kernel, by decide +kernel⟩
theorem pairsWith_len (ls : List Nat) (x : Nat) : (pairsWith ls x).length ≤ ls.length := by
  unfold pairsWith
  rw [List.length_map]
  exact List.length_filter_le _ _
theorem flat_len (ls : List Nat) : ∀ l : List Nat, (l.flatMap (pairsWith ls)).length ≤ l.length * ls.length
  | [] => by simp
  | x :: r => by
    rw [List.flatMap_cons, List.length_append, List.length_cons]
    have h1 := pairsWith_len ls x
    have h2 := flat_len ls r
    rw [Nat.succ_mul]
    omega
section
variable {P : Program} {w : World} {K : PySem.W.Frag} {mg : Str → Option Value} {base : Heap}
def sp_letter_pairs : Sp := fun vs H Q _ => ∃ ls : List Nat, vs = [.str (tx ls)] ∧ ls.length ≤ 100 ∧ ∀ (p : Addr) (H' : Hp), Same H H' → H p = none → H' p = some (.lst (txs (pairsOf ls))) → Q (.ref p) H'
theorem ok_letter_pairs {f : Addr} {fd : FuncData} {k : Nat} (F : Fun K "letter_pairs" "letter_pairs" s_letter_pairs f fd) : FnOk P w K mg base CX0 (k + 1) f fd ["letters"] sp_letter_pairs := by
  refine F.ok scx_letter_pairs (fun vs H Q E h => ?_) (fun cdv A outer s H vs Q E hr h => ?_)
  · obtain ⟨ls, rfl, _⟩ := h
    rfl
  · obtain ⟨ls, rfl, small, q⟩ := h
    have nd := scx_letter_pairs.nd
    refine ⟨_, pss_one (ps_ret (pe_lc2 (own := [("low", 1), ("high", 2)]) (vs1 := [2]) (g := gName 1) (g1 := gName 2) (tt := tYes) rfl nd (pi_str (pv 0))
      (blkOk_by (own := [("low", 1), ("high", 2)]) (N := ["letters", "low", "high"]) (sc := defScope s_letter_pairs) (by decide +kernel)) (by decide)
      (fun _ _ _ _ _ => pg_name (i := 1) nd rfl (Or.inl rfl)) (fun _ _ _ _ _ => pts_nil) (fun _ _ _ _ _ => pi_str (pv 0)) (fun _ _ _ _ _ => pg_name (i := 2) nd rfl (Or.inl rfl))
      (fun _ _ _ _ _ => pts_one (pt_cmpR op_lt_str (pv 1) (pv 2) (nomark _))) (fun _ _ _ _ _ => pe_op op_add_str (pv 1) (pv 2)))), ?_⟩
    refine ⟨.str (tx ls), rfl, tx ls, rfl, fun D nD => lc2_first (fun i H' => Same H H' ∧ H' D = some (.lst (txs ((ls.take i).flatMap (pairsWith ls))))) ⟨same_new nD, upd_same⟩ (fun i c H1 hc hW => ?_) (fun H1 hW => ?_)⟩
    · obtain ⟨sm, hD⟩ := hW
      refine ⟨rfl, ?_⟩
      refine ⟨.str (tx ls), rfl, tx ls, rfl, lc2_text (fun j H' => Same H H' ∧ H' D = some (.lst (txs ((ls.take i).flatMap (pairsWith ls) ++ ((ls.take j).filter fun y => decide (c < y)).map fun y => [c, y])))) ⟨sm, by simpa using hD⟩ (fun j d H2 hd hV => ?_) (fun H2 hV => ?_)⟩
      · obtain ⟨sm, hD⟩ := hV
        refine ⟨rfl, .str (tx [c]), rfl, .str (tx [d]), rfl, _, _, rfl, rfl, _, rfl, ?_⟩
        rw [tx_lt, take_next hd, List.filter_append]
        by_cases lt : c < d
        · rw [decide_eq_true lt]
          refine iteT ⟨.str (tx [c]), rfl, .str (tx [d]), rfl, _, _, rfl, rfl, by show (1 + 1 : Nat) ≤ sizeLine; decide, _, hD, ?_, ?_, ?_⟩
          · unfold txs
            rw [List.length_map, List.length_append, List.length_map]
            have h1 := flat_len ls (ls.take i)
            have h2 := List.length_filter_le (fun y => decide (c < y)) (ls.take j)
            have h3 : (ls.take i).length ≤ 100 := by rw [List.length_take]; omega
            have h4 : (ls.take j).length ≤ 100 := by rw [List.length_take]; omega
            have h5 : (ls.take i).length * ls.length ≤ 100 * 100 := Nat.mul_le_mul h3 small
            refine Nat.lt_of_le_of_lt (show _ ≤ 20000 by omega) (by decide)
          · intro b o e
            rw [upd_ne (ne_of_none e nD)]
            exact sm b o e
          · rw [upd_same, List.filter_cons, if_pos (decide_eq_true lt), tx_append]
            unfold txs
            simp
        · rw [decide_eq_false lt]
          refine iteF ⟨sm, ?_⟩
          rw [List.filter_cons, if_neg (by rw [decide_eq_false lt]; exact Bool.false_ne_true), List.filter_nil, List.append_nil]
          exact hD
      · obtain ⟨sm, hD⟩ := hV
        refine ⟨sm, ?_⟩
        rw [take_next hc, List.flatMap_append, hD, List.take_length]
        unfold pairsWith
        simp
    · obtain ⟨sm, hD⟩ := hW
      refine q D H1 sm nD ?_
      rw [hD, List.take_length]
      rfl
end
end Tc
/-! parts. -/
namespace Tc
open PySem PySem.Spec PyProof.Rows L2 TcG
section
variable {P : Program} {w : World} {K : PySem.W.Frag} {mg : Str → Option Value} {base : Heap}
def sp_parts (K : PySem.W.Frag) (Pt : Addr) : Sp := fun vs H Q _ => ∃ (al : Addr) (a b ls : List Nat) (ps : List (List Nat)), vs = [.ref al, .str (tx a), .str (tx b)] ∧ Alpha K H al ls ps ∧ GxR.TabG H Pt ∧ ls.length ≤ 100 ∧ a.length ≤ 1000 ∧ b.length ≤ 1000 ∧
  ∀ (v : V) (H' : Hp), Mv [Pt] H H' → GxR.TabG H' Pt → PaperV H' v (partsM ls ps a b) → Q v H'
theorem ok_parts {f fL fI fT cT Pt : Addr} {fd fdL fdI fdT : FuncData} (F : Fun K "parts" "parts" s_parts f fd) (FL : Fun K "letter_pairs" "letter_pairs" s_letter_pairs fL fdL) (gL : mg "letter_pairs" = some (.ref fL))
    (FI : Fun K "independent" "independent" s_independent fI fdI) (gI : mg "independent" = some (.ref fI)) (FT : FunC K "taken_out" "taken_out" s_taken_out fT fdT cT) (gT : mg "taken_out" = some (.ref fT)) (TB : GxR.TabB base mg cT Pt)
    (mn : mg "min" = none) (mx : mg "max" = none) : FnOk P w K mg base CX0 2 f fd ["alphabet", "word", "other"] (sp_parts K Pt) := by
  have GL : FnOk P w K mg base CX0 1 fL fdL ["letters"] sp_letter_pairs := ok_letter_pairs FL
  have bL : Binds K fdL ["letters"] [] := FL.binds fun _ _ _ _ _ _ us hl => match us, hl with | [_], _ => rfl
  have GI : FnOk P w K mg base CX0 1 fI fdI ["alphabet", "x", "y"] (sp_independent K) := ok_independent FI mn mx
  have bI : Binds K fdI ["alphabet", "x", "y"] [] := FI.binds fun _ _ _ _ _ _ us hl => match us, hl with | [_, _, _], _ => rfl
  have GT : FnOk P w K mg base CX0 1 fT fdT ["word", "letters"] (sp_taken Pt) := ok_taken FT TB
  have bT : Binds K fdT ["word", "letters"] [] := FT.fun.binds fun _ _ _ _ _ _ us hl => match us, hl with | [_, _], _ => rfl
  refine F.ok sc_parts (fun vs H Q E h => ?_) (fun cdv A outer s H vs Q E hr h => ?_)
  · obtain ⟨al, a, b, ls, ps, rfl, _⟩ := h
    rfl
  · obtain ⟨al, a, b, ls, ps, rfl, hA, tab, sl, sa, sb, q⟩ := h
    have nd := sc_parts.nd
    refine ⟨_, pss_cons (ps_set (i := 3) nd rfl (.inl rfl) (pe_ix ix_tup (pv 0) pe_int (fun _ _ => rfl)))
      (pss_cons (ps_for PassesOwn.never rfl (pi_str (pv 3)) (pg_name (i := 4) nd rfl (.inl rfl))
        (pss_one (ps_if (pt_cmpR op_ne (pe_m1 PySem.F.slot_str_count PySem.F.type_str_count mt_count (pv 1) (pv 4)) (pe_m1 PySem.F.slot_str_count PySem.F.type_str_count mt_count (pv 2) (pv 4)) (nomark _))
          (pss_one (ps_ret (pe_tup (pa_cons pe_str (pa_cons (pv 4) pa_nil))))) pss_nil)))
      (pss_cons (ps_for PassesOwn.never rfl (pi_list (pe_call GL hr (by rfl) gL FL.kp bL .nil pass0 (pa_cons (pv 3) pa_nil))) (pg_name (i := 5) nd rfl (.inl rfl))
        (pss_cons (ps_asg (pv 5) (pg_unT rfl (pgs_cons (pg_name (i := 6) nd rfl (.inl rfl)) (pgs_cons (pg_name (i := 7) nd rfl (.inl rfl)) pgs_nil))))
        (pss_one (ps_if (PW.pt (pw_and (pt_not (pt_val (pe_call GI hr (by rfl) gI FI.kp bI .nil pass0 (pa_cons (pv 0) (pa_cons (pv 6) (pa_cons (pv 7) pa_nil))))))
            (pw_and1 (pt_cmpR op_ne (pe_call GT hr (by rfl) gT FT.kp bT .nil pass0 (pa_cons (pv 1) (pa_cons (pv 5) pa_nil))) (pe_call GT hr (by rfl) gT FT.kp bT .nil pass0 (pa_cons (pv 2) (pa_cons (pv 5) pa_nil))) (nomark _)))))
          (pss_one (ps_ret (pe_tup (pa_cons pe_str (pa_cons (pv 6) (pa_cons (pv 7) pa_nil)))))) pss_nil))))
      (pss_one (ps_ret pe_non)))), ?_⟩
    have hA0 := hA
    obtain ⟨pt, h1, h2⟩ := hA0
    refine ⟨.ref al, rfl, al, _, 1, .str (tx ls), rfl, rfl, h1, atI_nat (j := 1) rfl, ?_⟩
    -- the numbers of each letter
    refine ⟨.str (tx ls), rfl, tx ls, rfl, for_text (fun i σ H' => ∃ y4, σ = [some (.ref al), some (.str (tx a)), some (.str (tx b)), some (.str (tx ls)), y4, none, none, none] ∧ H' = H ∧ ∀ c ∈ ls.take i, countsApart a b c = false)
      ⟨none, rfl, rfl, fun c hc => by simp at hc⟩ (fun i c σ H1 hc hW => ?_) (fun σ H1 hW => ?_)⟩
    · obtain ⟨y4, rfl, rfl, before⟩ := hW
      refine ⟨.str (tx a), rfl, ⟨_, rfl⟩, .str (tx [c]), rfl, tx a, tx [c], rfl, rfl, .str (tx b), rfl, ⟨_, rfl⟩, .str (tx [c]), rfl, tx b, tx [c], rfl, rfl, rfl, _, rfl, ?_⟩
      rw [count_tx, count_tx]
      by_cases e : a.count c = b.count c
      · rw [e, decide_eq_true rfl]
        refine iteF ⟨some (.str (tx [c])), rfl, rfl, fun d hd => ?_⟩
        rw [take_next hc] at hd
        rcases List.mem_append.mp hd with hd | hd
        · exact before d hd
        · rw [List.mem_singleton.mp hd]
          unfold countsApart
          rw [e]
          exact decide_eq_false fun z => z rfl
      · rw [decide_eq_false (show ¬ (V.int (a.count c : Int) = V.int (b.count c : Int)) from fun z => e (by injection z with z; omega))]
        refine iteT ⟨.str (tx [c]), rfl, by show 2 ≤ sizeLine; decide, fun p np => ?_⟩
        have found : ls.find? (countsApart a b) = some c := find_at hc before (decide_eq_true e)
        refine q _ _ (Mv.new np) ?_ ?_
        · obtain ⟨rows, t1, t2⟩ := tab
          exact ⟨rows, by rw [upd_ne (ne_of_none t1 np)]; exact t1, t2⟩
        · rw [partsM_count found]
          exact ⟨p, rfl, upd_same⟩
    · obtain ⟨y4, rfl, rfl, before⟩ := hW
      rw [List.take_length] at before
      have none1 : ls.find? (countsApart a b) = none := find_no before
      rw [partsM_order none1] at q
      refine ⟨.str (tx ls), rfl, ls, rfl, sl, fun p H2 sm np hp => ?_⟩
      have tab2 : GxR.TabG H2 Pt := let ⟨rows, t1, t2⟩ := tab; ⟨rows, sm _ _ t1, t2⟩
      have pP : p ∉ [Pt] := fun z => by
        obtain ⟨rows, t1, _⟩ := tab2
        rw [List.mem_singleton.mp z, t1] at hp
        cases hp
      refine ⟨p, rfl, ⟨_, SqL.of hp⟩, for_list (xs := txs (pairsOf ls)) (fun i σ H' => ∃ y5 y6 y7, σ = [some (.ref al), some (.str (tx a)), some (.str (tx b)), some (.str (tx ls)), y4, y5, y6, y7] ∧ Mv [Pt] H2 H' ∧ GxR.TabG H' Pt ∧ ∀ d ∈ (pairsOf ls).take i, parted ps a b d = false)
        ⟨none, none, none, rfl, Mv.refl _ _, tab2, fun d hd => by simp at hd⟩ (fun i σ H3 _ hW => ?_) (fun i x σ H3 hx hW => ?_) (fun σ H3 hW => ?_)⟩
      · obtain ⟨y5, y6, y7, rfl, mv, tb, _⟩ := hW
        exact SqL.of (mv p _ pP hp)
      · obtain ⟨y5, y6, y7, rfl, mv, tb, before2⟩ := hW
        obtain ⟨d, hd, rfl⟩ : ∃ d, (pairsOf ls)[i]? = some d ∧ x = .str (tx d) := by
          unfold txs at hx
          rw [List.getElem?_map] at hx
          cases e : (pairsOf ls)[i]? with
          | none =>
            rw [e] at hx
            cases hx
          | some d =>
            rw [e] at hx
            cases hx
            exact ⟨d, rfl, rfl⟩
        obtain ⟨u, v, rfl, _, _, lt⟩ := pairsOf_mem (List.mem_of_getElem? hd)
        have hA3 : Alpha K H3 al ls ps := (hA.same sm).mvT tab2 mv
        refine ⟨.str (tx [u, v]), rfl, [u, v], rfl, rfl, .str (tx [u]), _, rfl, .str (tx [v]), _, rfl, rfl, ?_⟩
        refine ⟨.ref al, rfl, .str (tx [u]), rfl, .str (tx [v]), rfl, al, u, v, ls, ps, rfl, hA3, _, rfl, ?_⟩
        have stay : ∀ H4, Mv [Pt] H3 H4 → GxR.TabG H4 Pt → parted ps a b [u, v] = false → ∃ y5 y6 y7, [some (V.ref al), some (.str (tx a)), some (.str (tx b)), some (.str (tx ls)), y4, some (.str (tx [u, v])), some (.str (tx [u])), some (.str (tx [v]))] = [some (.ref al), some (.str (tx a)), some (.str (tx b)), some (.str (tx ls)), y4, y5, y6, y7] ∧ Mv [Pt] H2 H4 ∧ GxR.TabG H4 Pt ∧ ∀ d ∈ (pairsOf ls).take (i + 1), parted ps a b d = false := fun H4 m4 t4 no => by
          refine ⟨_, _, _, rfl, mv.trans m4, t4, fun d' hd' => ?_⟩
          rw [take_next hd] at hd'
          rcases List.mem_append.mp hd' with hd' | hd'
          · exact before2 d' hd'
          · rw [List.mem_singleton.mp hd']
            exact no
        by_cases free : ind ps u v = true
        · rw [free]
          refine iteF (iteF (stay H3 (Mv.refl _ _) tb ?_))
          rw [parted_two, free]
          rfl
        · rw [Bool.not_eq_true] at free
          rw [free]
          refine iteT ⟨.str (tx a), rfl, .str (tx [u, v]), rfl, a, [u, v], rfl, sa, tb, fun H4 tb4 => ?_⟩
          refine ⟨.str (tx b), rfl, .str (tx [u, v]), rfl, b, [u, v], rfl, sb, tb4.1, fun H5 tb5 => ⟨rfl, _, rfl, ?_⟩⟩
          have m5 : Mv [Pt] H3 H5 := (Mv.tabbed tb4).trans (Mv.tabbed tb5)
          rw [tx_eq]
          by_cases e : keepM [u, v] a = keepM [u, v] b
          · rw [show (decide ((a.filter fun c => decide (c ∈ [u, v])) = (b.filter fun c => decide (c ∈ [u, v])))) = true from decide_eq_true e]
            refine iteF (stay H5 m5 tb5.1 ?_)
            rw [parted_two, free]
            exact decide_eq_false fun z => z e
          · rw [show (decide ((a.filter fun c => decide (c ∈ [u, v])) = (b.filter fun c => decide (c ∈ [u, v])))) = false from decide_eq_false e]
            refine iteT ⟨.str (tx [u]), rfl, .str (tx [v]), rfl, by show 3 ≤ sizeLine; decide, fun r nr => ?_⟩
            have found : (pairsOf ls).find? (parted ps a b) = some [u, v] := find_at hd before2 (by
              rw [parted_two, free]
              exact decide_eq_true e)
            rw [found] at q
            refine q _ _ (((Mv.of_same sm).trans mv).trans (m5.trans (Mv.new nr))) ?_ ⟨r, rfl, upd_same⟩
            obtain ⟨rows, t1, t2⟩ := tb5.1
            exact ⟨rows, by rw [upd_ne (ne_of_none t1 nr)]; exact t1, t2⟩
      · obtain ⟨y5, y6, y7, rfl, mv, tb, before2⟩ := hW
        have len : (txs (pairsOf ls)).length = (pairsOf ls).length := by
          unfold txs
          rw [List.length_map]
        rw [len, List.take_length] at before2
        have none2 : (pairsOf ls).find? (parted ps a b) = none := find_no before2
        rw [none2] at q
        exact q _ _ ((Mv.of_same sm).trans mv) tb rfl
end
end Tc
/-! Drawn alphabets and words. -/
namespace Tc
open PySem PySem.Spec PyProof.Rows L2 TcG
section
variable {P : Program} {w : World} {K : PySem.W.Frag} {mg : Str → Option Value} {base : Heap}

theorem ne_lst {H : Hp} {p q : Addr} {o : HO} {xs : List V} (hp : H p = some (.lst xs)) (hq : H q = some o) (h : ∀ ys, o = .lst ys → ys ≠ xs) : p ≠ q := fun e => by
  rw [e, hq] at hp
  cases hp
  exact h _ rfl rfl

/-! _law_alphabet -/
def sp_alphabet (K : PySem.W.Frag) : Sp := fun vs H Q _ => ∃ (b dl : Addr) (m : Int), vs = [.ref b, .int m] ∧ Box K b dl H ∧ 1 ≤ m ∧ m ≤ 6 ∧
  ∀ (a : Addr) (n : Nat) (ps : List (List Nat)) (H' : Hp), (n : Int) ≤ m → Drawn n ps → Mv [b] H H' → Box K b dl H' → Alpha K H' a (alph n) ps → Q (.ref a) H'
theorem ok_alphabet {f fD : Addr} {fd fdD : FuncData} (F : Fun K "_law_alphabet" "_law_alphabet" s_law_alphabet f fd) (FD : Fun K "_law_draw" "_law_draw" s_law_draw fD fdD) (gD : mg "_law_draw" = some (.ref fD))
    (ml : mg "len" = none) (mi : mg "int" = none) (mr : mg "range" = none) (ms : mg "sorted" = none) (mt : mg "tuple" = none) : FnOk P w K mg base CX0 2 f fd ["box", "most"] (sp_alphabet K) := by
  have GD : FnOk P w K mg base CX0 1 fD fdD ["box", "many"] (sp_draw K) := ok_draw FD ml mi
  have bD : Binds K fdD ["box", "many"] [] := FD.binds fun _ _ _ _ _ _ us hl => match us, hl with | [_, _], _ => rfl
  refine F.ok sc_law_alphabet (fun vs H Q E h => ?_) (fun cdv A outer s H vs Q E hr h => ?_)
  · obtain ⟨b, dl, m, rfl, _⟩ := h
    rfl
  · obtain ⟨b, dl, m, rfl, hB, m1, m6, q⟩ := h
    have nd := sc_law_alphabet.nd
    refine ⟨_, pss_cons (ps_set (i := 2) nd rfl (.inl rfl) (pe_slice sl_str pe_str po_none (po_some (pe_op op_add pe_int (pe_call GD hr (by rfl) gD FD.kp bD .nil pass0 (pa_cons (pv 0) (pa_cons (pv 1) pa_nil)))))))
      (pss_cons (ps_set (i := 3) nd rfl (.inl rfl) (pe_lst pa_nil))
      (pss_cons (ps_for PassesOwn.never rfl (pi_range1 (by rfl) mr (pa_cons (pe_callB call_len_str (by rfl) ml PySem.boot_len (pa_cons (pv 2) pa_nil)) pa_nil)) (pg_name (i := 4) nd rfl (.inl rfl))
        (pss_one (ps_for PassesOwn.never rfl (pi_range2 (by rfl) mr (pa_cons (pe_op op_add (pv 4) pe_int) (pa_cons (pe_callB call_len_str (by rfl) ml PySem.boot_len (pa_cons (pv 2) pa_nil)) pa_nil))) (pg_name (i := 5) nd rfl (.inl rfl))
          (pss_one (ps_if (pt_cmpR op_lt (pe_call GD hr (by rfl) gD FD.kp bD .nil pass0 (pa_cons (pv 0) (pa_cons pe_int pa_nil))) pe_int (nomark _))
            (pss_one (ps_expr (pe_bm PySem.F.plainAttrs_list PySem.F.slot_list_append PySem.F.type_list_append mt_append (pv 3)
              (pa_cons (pe_op op_add_str (pe_ix ix_str (pv 2) (pv 4) (fun _ _ => rfl)) (pe_ix ix_str (pv 2) (pv 5) (fun _ _ => rfl))) pa_nil)))) pss_nil)))))
      (pss_one (ps_ret (pe_tup (pa_cons pe_str (pa_cons (pv 2) (pa_cons (pe_callTy call_tuple_of (by rfl) mt (by decide +kernel)
        (pa_cons (pe_callB cr_sortedS (by rfl) ms (by decide +kernel) (pa_cons (pv 3) pa_nil)) pa_nil)) pa_nil)))))))), ?_⟩
    -- letters = 'abcdef'[:1 + r]
    refine ⟨.ref b, rfl, .int m, rfl, b, dl, m, rfl, hB, by omega, fun r H1 r0 rm mv1 hB1 => ⟨1, r, rfl, rfl, 1 + r, rfl, ?_⟩⟩
    obtain ⟨n, en⟩ : ∃ n : Nat, 1 + r = (n : Int) := ⟨(1 + r).toNat, by omega⟩
    have n1 : 1 ≤ n := by omega
    have n6 : n ≤ 6 := by omega
    have nm : (n : Int) ≤ m := by omega
    refine ⟨tx [97, 98, 99, 100, 101, 102], rfl, by show (6 : Nat) ≤ sizeLine; decide, ?_⟩
    rw [en, cut_to]
    -- pairs = []
    refine ⟨Nat.zero_le _, fun p np => ?_⟩
    have len : (tx (alph n)).length = n := by rw [tx_length, alph_len n6]
    have zl : (tx (alph n)).length ≤ sizeLine := by
      rw [len]
      exact small_line (by omega)
    have hp1 : (upd H1 p (.lst [])) p = some (.lst (txs [])) := upd_same
    -- all pairs of places
    refine ⟨.str (tx (alph n)), rfl, tx (alph n), rfl, zl, ((tx (alph n)).length : Int), rfl, by rw [len]; omega, by rw [len]; omega, ?_⟩
    have e1 : (((tx (alph n)).length : Int)).toNat = n := by rw [len]; omega
    rw [e1]
    have step : ∀ i, i < n → (alph n)[i]? = some (97 + i) := fun i hi => alph_at n6 hi
    refine for_range (lo := 0) (n := n) (fun i σ H' => ∃ prs y4 y5, σ = [some (.ref b), some (.int m), some (.str (tx (alph n))), some (.ref p), y4, y5] ∧ Mv [b] H H' ∧ Box K b dl H' ∧ H' p = some (.lst (txs prs)) ∧ prs.Sublist (((alph n).take i).flatMap (pairsWith (alph n))))
      ⟨[], none, none, rfl, mv1.trans (Mv.new np), hB1.same (same_new np), hp1, List.Sublist.refl _⟩ (fun i σ H2 hi hW => ?_) (fun σ H2 hW => ?_)
    · obtain ⟨prs, y4, y5, rfl, mv2, hB2, hp2, sub⟩ := hW
      refine ⟨.int (0 + (i : Int)), rfl, _, 1, rfl, rfl, .str (tx (alph n)), rfl, tx (alph n), rfl, zl, 0 + (i : Int) + 1, ((tx (alph n)).length : Int), rfl, by rw [len]; omega, ?_⟩
      have e2 : (((tx (alph n)).length : Int) - (0 + (i : Int) + 1)).toNat = n - (i + 1) := by rw [len]; omega
      rw [e2]
      refine for_range (lo := 0 + (i : Int) + 1) (n := n - (i + 1)) (fun t σ H' => ∃ prs y5, σ = [some (.ref b), some (.int m), some (.str (tx (alph n))), some (.ref p), some (.int (0 + (i : Int))), y5] ∧ Mv [b] H H' ∧ Box K b dl H' ∧ H' p = some (.lst (txs prs)) ∧
          prs.Sublist (((alph n).take i).flatMap (pairsWith (alph n)) ++ (((alph n).drop (i + 1)).take t).map fun y => [97 + i, y]))
        ⟨prs, y5, rfl, mv2, hB2, hp2, by simpa using sub⟩ (fun t σ H3 ht hV => ?_) (fun σ H3 hV => ?_)
      · obtain ⟨prs, y5, rfl, mv3, hB3, hp3, sub⟩ := hV
        have hd : ((alph n).drop (i + 1))[t]? = some (97 + (i + 1 + t)) := by
          rw [List.getElem?_drop]
          exact step _ (by omega)
        have nx : (((alph n).drop (i + 1)).take (t + 1)).map (fun y => [97 + i, y]) = (((alph n).drop (i + 1)).take t).map (fun y => [97 + i, y]) ++ [[97 + i, 97 + (i + 1 + t)]] := by
          rw [take_next hd, List.map_append]
          rfl
        refine ⟨.ref b, rfl, b, dl, 5, rfl, hB3, by decide, fun r H4 r0 r5 mv4 hB4 => ⟨r, 2, rfl, rfl, _, rfl, ?_⟩⟩
        have hpb : p ≠ b := by
          obtain ⟨ds, nn, hb, _⟩ := hB3
          refine ne_lst hp3 hb fun ys e z => ?_
          cases e
          unfold txs at z
          cases prs with
          | nil => cases z
          | cons x l => cases z
        have hp4 : H4 p = some (.lst (txs prs)) := mv4 p _ (fun z => hpb (List.mem_singleton.mp z)) hp3
        refine ite2 (fun _ => ?_) (fun _ => ?_)
        · refine ⟨.ref p, rfl, .inl ⟨rfl, _, SqL.of hp4⟩, .str (tx (alph n)), rfl, .int (0 + (i : Int)), rfl, tx (alph n), 0 + (i : Int), 97 + i, rfl, rfl, zl, at_eq (z := 0 + (i : Int)) (j := i) (by omega) (step i hi), ?_⟩
          refine ⟨.str (tx (alph n)), rfl, .int (0 + (i : Int) + 1 + (t : Int)), rfl, tx (alph n), 0 + (i : Int) + 1 + (t : Int), 97 + (i + 1 + t), rfl, rfl, zl, at_eq (z := 0 + (i : Int) + 1 + (t : Int)) (j := i + 1 + t) (by omega) (step (i + 1 + t) (by omega)), ?_⟩
          refine ⟨_, _, rfl, rfl, by show (1 + 1 : Nat) ≤ sizeLine; decide, p, _, _, rfl, rfl, hp4, ?_, ?_⟩
          · unfold txs
            rw [List.length_map]
            have h1 := sub.length_le
            rw [List.length_append, List.length_map, List.length_take] at h1
            have h2 := flat_len (alph n) ((alph n).take i)
            rw [alph_len n6, List.length_take, alph_len n6] at h2
            have h3 : min i n * n ≤ 6 * 6 := Nat.mul_le_mul (by omega) n6
            refine Nat.lt_of_le_of_lt (show prs.length ≤ 100 by omega) (by decide)
          · have e3 : (⟨#[97 + i]⟩ : Str) ++ ⟨#[97 + (i + 1 + t)]⟩ = tx [97 + i, 97 + (i + 1 + t)] := tx_append [97 + i] [97 + (i + 1 + t)]
            rw [e3]
            refine ⟨prs ++ [[97 + i, 97 + (i + 1 + t)]], some (.int (0 + (i : Int) + 1 + (t : Int))), rfl, fun a o na e => ?_, ?_, ?_, ?_⟩
            · have e5 := (mv3.trans mv4) a o na e
              have nap : a ≠ p := fun z => by
                rw [z] at e
                have := mv1 p _ (fun y => hpb (List.mem_singleton.mp y)) e
                rw [np] at this
                cases this
              rw [upd_ne nap]
              exact e5
            · exact hB1.put np hB4
            · rw [upd_same]
              unfold txs
              rw [List.map_append]
              rfl
            · rw [nx, ← List.append_assoc]
              exact List.Sublist.append sub (List.Sublist.refl _)
        · refine ⟨prs, some (.int (0 + (i : Int) + 1 + (t : Int))), rfl, mv3.trans mv4, hB4, hp4, ?_⟩
          rw [nx, ← List.append_assoc]
          exact List.Sublist.trans sub (List.sublist_append_left _ _)
      · obtain ⟨prs, y5, rfl, mv3, hB3, hp3, sub⟩ := hV
        refine ⟨prs, _, _, rfl, mv3, hB3, hp3, ?_⟩
        rw [take_next (step i hi), List.flatMap_append]
        have e4 : ((alph n).drop (i + 1)).take (n - (i + 1)) = (alph n).drop (i + 1) := List.take_of_length_le (by rw [List.length_drop, alph_len n6]; exact Nat.le_refl _)
        rw [e4, ← alph_pairs n6 hi] at sub
        simpa using sub
    · obtain ⟨prs, y4, y5, rfl, mv2, hB2, hp2, sub⟩ := hW
      have e5 : (alph n).take n = alph n := List.take_of_length_le (by rw [alph_len n6]; exact Nat.le_refl _)
      rw [e5] at sub
      rw [txs_map] at hp2
      refine ⟨.str (tx (alph n)), rfl, .ref p, rfl, p, prs.map tx, rfl, SqL.of hp2, ?_, fun ys c pm so nc => ?_⟩
      · rw [List.length_map]
        have h1 := sub.length_le
        have h2 := alph_count n6
        exact Nat.lt_of_le_of_lt (Nat.le_trans h1 h2) (by decide)
      · obtain ⟨ps, rfl, dr⟩ := drawn_of n6 n1 sub pm so
        refine ⟨c, _, rfl, .inl ⟨SqL.of upd_same, fun t nt => ⟨by show 3 ≤ sizeLine; decide, fun a na => ?_⟩⟩⟩
        have sm : Same H2 (upd (upd (upd H2 c (.lst ((ps.map tx).map V.str))) t (.tup ((ps.map tx).map V.str))) a (.tup [.str "alphabet", .str (tx (alph n)), .ref t])) := (same_new nc).trans ((same_new nt).trans (same_new na))
        refine q a n ps _ nm dr (mv2.trans (Mv.of_same sm)) (hB2.same sm) ⟨t, SqT.of upd_same, SqT.of ?_⟩
        rw [upd_ne (fun z => by rw [← z, upd_same] at na; cases na), upd_same, txs_map]
end
end Tc
/-! Drawn words, words in another order. -/
namespace Tc
open PySem PySem.Spec PyProof.Rows L2 TcG
section
variable {P : Program} {w : World} {K : PySem.W.Frag} {mg : Str → Option Value} {base : Heap}

/-! _law_word -/
def sp_word (K : PySem.W.Frag) : Sp := fun vs H Q _ => ∃ (b dl al : Addr) (m : Int) (ls : List Nat) (ps : List (List Nat)), vs = [.ref b, .ref al, .int m] ∧ Box K b dl H ∧ Alpha K H al ls ps ∧ 0 < ls.length ∧ ls.length ≤ 100 ∧ 0 ≤ m ∧ m ≤ 100 ∧
  ∀ (a : List Nat) (H' : Hp), (a.length : Int) ≤ m → (∀ c ∈ a, c ∈ ls) → Mv [b] H H' → Box K b dl H' → Q (.str (tx a)) H'
theorem ok_word {f fD : Addr} {fd fdD : FuncData} (F : Fun K "_law_word" "_law_word" s_law_word f fd) (FD : Fun K "_law_draw" "_law_draw" s_law_draw fD fdD) (gD : mg "_law_draw" = some (.ref fD))
    (ml : mg "len" = none) (mi : mg "int" = none) (mr : mg "range" = none) : FnOk P w K mg base CX0 2 f fd ["box", "alphabet", "most"] (sp_word K) := by
  have GD : FnOk P w K mg base CX0 1 fD fdD ["box", "many"] (sp_draw K) := ok_draw FD ml mi
  have bD : Binds K fdD ["box", "many"] [] := FD.binds fun _ _ _ _ _ _ us hl => match us, hl with | [_, _], _ => rfl
  refine F.ok sc_law_word (fun vs H Q E h => ?_) (fun cdv A outer s H vs Q E hr h => ?_)
  · obtain ⟨b, dl, al, m, ls, ps, rfl, _⟩ := h
    rfl
  · obtain ⟨b, dl, al, m, ls, ps, rfl, hB, hA, l0, l100, m0, m100, q⟩ := h
    have nd := sc_law_word.nd
    refine ⟨_, pss_cons (ps_set (i := 3) nd rfl (.inl rfl) pe_str)
      (pss_cons (ps_for PassesOwn.never rfl (pi_range1 (by rfl) mr (pa_cons (pe_call GD hr (by rfl) gD FD.kp bD .nil pass0 (pa_cons (pv 0) (pa_cons (pe_op op_add (pv 2) pe_int) pa_nil))) pa_nil)) (pg_name (i := 4) nd rfl (.inl rfl))
        (pss_one (ps_set (i := 3) nd rfl (.inl rfl) (pe_op op_add_str (pv 3) (pe_ix ix_str (pe_ix ix_tup (pv 1) pe_int (fun _ _ => rfl))
          (pe_call GD hr (by rfl) gD FD.kp bD .nil pass0 (pa_cons (pv 0) (pa_cons (pe_callB call_len_str (by rfl) ml PySem.boot_len (pa_cons (pe_ix ix_tup (pv 1) pe_int (fun _ _ => rfl)) pa_nil)) pa_nil))) (fun _ _ => rfl))))))
      (pss_one (ps_ret (pv 3)))), ?_⟩
    refine ⟨.ref b, rfl, .int m, rfl, m, 1, rfl, rfl, b, dl, m + 1, rfl, hB, by omega, fun r H1 r0 rm mv1 hB1 => ⟨r, rfl, by omega, by omega, ?_⟩⟩
    have len : (tx ls).length = ls.length := tx_length ls
    have zl : (tx ls).length ≤ sizeLine := by
      rw [len]
      exact small_line (by omega)
    refine for_range (lo := 0) (n := r.toNat) (fun i σ H' => ∃ a y4, σ = [some (.ref b), some (.ref al), some (.int m), some (.str (tx a)), y4] ∧ a.length = i ∧ (∀ c ∈ a, c ∈ ls) ∧ Mv [b] H H' ∧ Box K b dl H')
      ⟨[], none, rfl, rfl, fun c hc => (nomatch hc), mv1, hB1⟩ (fun i σ H2 hi hW => ?_) (fun σ H2 hW => ?_)
    · obtain ⟨a, y4, rfl, la, ia, mv2, hB2⟩ := hW
      obtain ⟨pt, h1, h2⟩ := hA.mvB hB mv2
      refine ⟨.str (tx a), rfl, .ref al, rfl, al, _, 1, .str (tx ls), rfl, rfl, h1, atI_nat (j := 1) rfl, ?_⟩
      refine ⟨.ref b, rfl, .ref al, rfl, al, _, 1, .str (tx ls), rfl, rfl, h1, atI_nat (j := 1) rfl, tx ls, rfl, zl, b, dl, ((tx ls).length : Int), rfl, hB2, by rw [len]; omega, fun k H3 k0 kl mv3 hB3 => ?_⟩
      rw [len] at kl
      obtain ⟨j, rfl⟩ : ∃ j : Nat, k = (j : Int) := ⟨k.toNat, by omega⟩
      have hj : j < ls.length := by omega
      refine ⟨tx ls, (j : Int), ls[j], rfl, rfl, zl, atI_nat (List.getElem?_eq_getElem hj), tx a, tx [ls[j]], rfl, rfl, ?_, ?_⟩
      · rw [tx_length, tx_length, la]
        exact small_line (by simp; omega)
      · rw [tx_append]
        refine ⟨a ++ [ls[j]], some (.int (0 + (i : Int))), rfl, by rw [List.length_append, la]; rfl, fun c hc => ?_, mv2.trans mv3, hB3⟩
        rcases List.mem_append.mp hc with hc | hc
        · exact ia c hc
        · rw [List.mem_singleton.mp hc]
          exact List.getElem_mem hj
    · obtain ⟨a, y4, rfl, la, ia, mv2, hB2⟩ := hW
      exact ⟨_, rfl, q a H2 (by omega) ia mv2 hB2⟩

/-! _law_mixed -/
def sp_mixed (K : PySem.W.Frag) : Sp := fun vs H Q _ => ∃ (b dl al : Addr) (a ls : List Nat) (ps : List (List Nat)), vs = [.ref b, .ref al, .str (tx a)] ∧ Box K b dl H ∧ Alpha K H al ls ps ∧ Pairs ls ps ∧ a.length ≤ 100 ∧
  ∀ (a' : List Nat) (H' : Hp), Exs ps a a' → Mv [b] H H' → Box K b dl H' → Q (.str (tx a')) H'
theorem ok_mixed {f fD fF : Addr} {fd fdD fdF : FuncData} (F : Fun K "_law_mixed" "_law_mixed" s_law_mixed f fd) (FD : Fun K "_law_draw" "_law_draw" s_law_draw fD fdD) (gD : mg "_law_draw" = some (.ref fD))
    (FF : Fun K "_law_free" "_law_free" s_law_free fF fdF) (gF : mg "_law_free" = some (.ref fF)) (ml : mg "len" = none) (mi : mg "int" = none) (mr : mg "range" = none) : FnOk P w K mg base CX0 2 f fd ["box", "alphabet", "word"] (sp_mixed K) := by
  have GD : FnOk P w K mg base CX0 1 fD fdD ["box", "many"] (sp_draw K) := ok_draw FD ml mi
  have bD : Binds K fdD ["box", "many"] [] := FD.binds fun _ _ _ _ _ _ us hl => match us, hl with | [_, _], _ => rfl
  have GF : FnOk P w K mg base CX0 1 fF fdF ["alphabet", "x", "y"] (sp_free K) := ok_free FF
  have bF : Binds K fdF ["alphabet", "x", "y"] [] := FF.binds fun _ _ _ _ _ _ us hl => match us, hl with | [_, _, _], _ => rfl
  refine F.ok sc_law_mixed (fun vs H Q E h => ?_) (fun cdv A outer s H vs Q E hr h => ?_)
  · obtain ⟨b, dl, al, a, ls, ps, rfl, _⟩ := h
    rfl
  · obtain ⟨b, dl, al, a, ls, ps, rfl, hB, hA, pr, la, q⟩ := h
    have nd := sc_law_mixed.nd
    refine ⟨_, pss_cons (ps_for PassesOwn.never rfl (pi_range1 (by rfl) mr (pa_cons (pe_op op_mul pe_int (pe_callB call_len_str (by rfl) ml PySem.boot_len (pa_cons (pv 2) pa_nil))) pa_nil)) (pg_name (i := 3) nd rfl (.inl rfl))
        (pss_cons (ps_set (i := 4) nd rfl (.inl rfl) (pe_call GD hr (by rfl) gD FD.kp bD .nil pass0 (pa_cons (pv 0) (pa_cons (pe_callB call_len_str (by rfl) ml PySem.boot_len (pa_cons (pv 2) pa_nil)) pa_nil))))
        (pss_one (ps_if (PW.pt (pw_and (pt_cmpR op_lt (pe_op op_add (pv 4) pe_int) (pe_callB call_len_str (by rfl) ml PySem.boot_len (pa_cons (pv 2) pa_nil)) (nomark _))
            (pw_and1 (pt_val (pe_call GF hr (by rfl) gF FF.kp bF .nil pass0 (pa_cons (pv 1) (pa_cons (pe_ix ix_str (pv 2) (pv 4) (fun _ _ => rfl)) (pa_cons (pe_ix ix_str (pv 2) (pe_op op_add (pv 4) pe_int) (fun _ _ => rfl)) pa_nil))))))))
          (pss_one (ps_set (i := 2) nd rfl (.inl rfl) (pe_op op_add_str (pe_op op_add_str (pe_op op_add_str (pe_slice sl_str (pv 2) po_none (po_some (pv 4))) (pe_ix ix_str (pv 2) (pe_op op_add (pv 4) pe_int) (fun _ _ => rfl)))
            (pe_ix ix_str (pv 2) (pv 4) (fun _ _ => rfl))) (pe_slice sl_str (pv 2) (po_some (pe_op op_add (pv 4) pe_int)) po_none)))) pss_nil))))
      (pss_one (ps_ret (pv 2))), ?_⟩
    have zl : ∀ a' : List Nat, a'.length = a.length → (tx a').length ≤ sizeLine := fun a' e => by
      rw [tx_length, e]
      exact small_line (by omega)
    refine ⟨.str (tx a), rfl, tx a, rfl, zl a rfl, 2, ((tx a).length : Int), rfl, rfl, .inl ⟨by decide, by decide⟩, 2 * ((tx a).length : Int), rfl, ?_⟩
    rw [tx_length]
    refine ⟨by omega, by omega, for_range (lo := 0) (n := (2 * (a.length : Int)).toNat) (fun i σ H' => ∃ a' y3 y4, σ = [some (.ref b), some (.ref al), some (.str (tx a')), y3, y4] ∧ Exs ps a a' ∧ Mv [b] H H' ∧ Box K b dl H')
      ⟨a, none, none, rfl, .refl a, Mv.refl _ _, hB⟩ (fun i σ H2 hi hW => ?_) (fun σ H2 hW => ?_)⟩
    · obtain ⟨a', y3, y4, rfl, ex, mv2, hB2⟩ := hW
      have la' : a'.length = a.length := ex.perm.length_eq.symm
      refine ⟨.ref b, rfl, .str (tx a'), rfl, tx a', rfl, zl a' la', b, dl, ((tx a').length : Int), rfl, hB2, by rw [tx_length]; omega, fun k H3 k0 kl mv3 hB3 => ?_⟩
      rw [tx_length] at kl
      obtain ⟨j, rfl⟩ : ∃ j : Nat, k = (j : Int) := ⟨k.toNat, by omega⟩
      refine ⟨.int j, rfl, (j : Int), 1, rfl, rfl, .str (tx a'), rfl, tx a', rfl, zl a' la', (j : Int) + 1, ((tx a').length : Int), rfl, rfl, _, rfl, ?_⟩
      rw [tx_length]
      by_cases lt : (j : Int) + 1 < (a'.length : Int)
      · rw [decide_eq_true lt]
        have h1 : j < a'.length := by omega
        have h2 : j + 1 < a'.length := by omega
        have g1 : a'[j]? = some a'[j] := List.getElem?_eq_getElem h1
        have g2 : a'[j + 1]? = some a'[j + 1] := List.getElem?_eq_getElem h2
        have g3 : atI (tx a').cps.toList ((j : Int) + 1) = some a'[j + 1] := at_eq (by omega) g2
        have hA3 : Alpha K H3 al ls ps := hA.mvB hB (mv2.trans mv3)
        refine iteT ⟨.ref al, rfl, .str (tx a'), rfl, .int j, rfl, tx a', (j : Int), a'[j], rfl, rfl, zl a' la', atI_nat g1, .str (tx a'), rfl, .int j, rfl, (j : Int), 1, rfl, rfl, tx a', (j : Int) + 1, a'[j + 1], rfl, rfl, zl a' la', g3, al, a'[j], a'[j + 1], ls, ps, rfl, hA3, pr, _, rfl, ?_⟩
        by_cases fr : ind ps a'[j] a'[j + 1] = true
        · rw [fr]
          have sw := swapAt_eq g1 g2
          have e1 := swap_ex g1 g2 fr
          refine iteT ⟨.str (tx a'), rfl, .int j, rfl, (j : Int), rfl, tx a', rfl, zl a' la', .str (tx a'), rfl, .int j, rfl, (j : Int), 1, rfl, rfl, tx a', (j : Int) + 1, a'[j + 1], rfl, rfl, zl a' la', g3, ?_⟩
          rw [cut_to]
          have t1 : (tx (a'.take j)).length ≤ 100 := by
            rw [tx_length, List.length_take]
            omega
          refine ⟨tx (a'.take j), tx [a'[j + 1]], rfl, rfl, small_line (by rw [tx_length [_]]; simp; omega), .str (tx a'), rfl, .int j, rfl, tx a', (j : Int), a'[j], rfl, rfl, zl a' la', atI_nat g1, ?_⟩
          rw [tx_append]
          refine ⟨tx (a'.take j ++ [a'[j + 1]]), tx [a'[j]], rfl, rfl, small_line (by rw [tx_length, tx_length] at *; simp at *; omega), .str (tx a'), rfl, .int j, rfl, (j : Int), 2, rfl, rfl, ((j + 2 : Nat) : Int), rfl, tx a', rfl, zl a' la', ?_⟩
          rw [tx_append, cut_from]
          have t2 : (a'.drop (j + 2)).length ≤ 100 := by
            rw [List.length_drop]
            omega
          refine ⟨tx (a'.take j ++ [a'[j + 1]] ++ [a'[j]]), tx (a'.drop (j + 2)), rfl, rfl, small_line (by rw [tx_length, tx_length] at *; simp at *; omega), ?_⟩
          rw [tx_append, ← sw]
          exact ⟨swapAt a' j, some (.int (0 + (i : Int))), some (.int j), rfl, .step ex e1, mv2.trans mv3, hB3⟩
        · rw [Bool.not_eq_true] at fr
          rw [fr]
          exact iteF ⟨a', some (.int (0 + (i : Int))), some (.int j), rfl, ex, mv2.trans mv3, hB3⟩
      · rw [decide_eq_false lt]
        exact iteF (iteF ⟨a', some (.int (0 + (i : Int))), some (.int j), rfl, ex, mv2.trans mv3, hB3⟩)
    · obtain ⟨a', y3, y4, rfl, ex, mv2, hB2⟩ := hW
      exact ⟨_, rfl, q a' H2 ex mv2 hB2⟩
end
end Tc
/-! _law_same. -/
namespace Tc
open PySem PySem.Spec PyProof.Rows L2 TcG
section
variable {P : Program} {w : World} {K : PySem.W.Frag} {mg : Str → Option Value} {base : Heap}

theorem kitF {a b : String} (h : kitB a b = some false := by decide +kernel) : PySem.W.kitOne K (.type a) (.type b) = some false := kit_ty h
theorem kitT {a b : String} (h : kitB a b = some true := by decide +kernel) : PySem.W.kitOne K (.type a) (.type b) = some true := kit_ty h

/-- isinstance(x, T), T a built-in type that is named -/
theorem pe_isi {X : Cx} {T : String} {i : Nat} {x n : Str} {p1 p2 p3 p4 : Pos} (mi : X.mg "isinstance" = none) (gi : Gl X "isinstance") (gT : Gl X n) (mT : X.mg n = none) (bT : bootBuiltins n = some (.type T)) (hv : PE X (.Name x p1) (tVar i))
    (hn : n ≠ "__name__" := by decide) (hd : (n == ("__debug__" : Str)) = false := by decide)
    (he : starEach [.Name x p1, .Name n p2] X.env = (false, eval (.Name x p1) X.env) :: starEach [.Name n p2] X.env := by rfl) (hpl : (backTo p4 (starEach [.Name n p2] X.env)).any (·.1) = false := by rfl)
    (he2 : starEach [.Name n p2] X.env = (false, eval (.Name n p2) X.env) :: starEach [] X.env := by rfl) :
    PE X (.Call (.Name "isinstance" p3) [.Name x p1, .Name n p2] [] p4) (tCB (rIsi X.K) (tCons (tVar i) (tCons (tC (.ty T)) tNil))) :=
  pe_callB call_isi gi mi (by decide +kernel) (pa_cons hv (pa_cons (pe_bltn gT mT bT rfl hn hd) pa_nil)) (by decide) (by decide) he hpl

def sp_same (K : PySem.W.Frag) (n : Nat) : Sp := fun vs H Q _ => ∃ x y : V, vs = [x, y] ∧ SameR K H n x y ∧ Q (.bl true) H
structure SameM (mg : Str → Option Value) : Prop where
  isi : mg "isinstance" = none
  tup : mg "tuple" = none
  bool : mg "bool" = none
  int : mg "int" = none
  str : mg "str" = none
  len : mg "len" = none
  range : mg "range" = none
theorem ok_same {f : Addr} {fd : FuncData} (F : Fun K "_law_same" "_law_same" s_law_same f fd) (gS : mg "_law_same" = some (.ref f)) (M : SameM mg) : ∀ n, FnOk P w K mg base CX0 n f fd ["actual", "expected"] (sp_same K n)
  | 0 => ⟨fun vs H Q E h => by obtain ⟨x, y, _, z, _⟩ := h; exact z.elim, fun A outer s H args us vs Q E hr e0 hb r h => by obtain ⟨x, y, _, z, _⟩ := h; exact z.elim⟩
  | n + 1 => by
    have GS : FnOk P w K mg base CX0 n f fd ["actual", "expected"] (sp_same K n) := ok_same F gS M n
    have bS : Binds K fd ["actual", "expected"] [] := F.binds fun _ _ _ _ _ _ us hl => match us, hl with | [_, _], _ => rfl
    refine F.ok sc_law_same (fun vs H Q E h => ?_) (fun cdv A outer s H vs Q E hr h => ?_)
    · obtain ⟨x, y, rfl, _⟩ := h
      rfl
    · obtain ⟨x, y, rfl, hs, q⟩ := h
      have nd := sc_law_same.nd
      refine ⟨_, pss_cons (ps_if (pt_val (pe_isi (T := "tuple") M.isi (by rfl) (by rfl) M.tup (by decide +kernel) (pv 1)))
          (pss_cons (ps_if (PW.pt (pw_or (pt_not (pt_val (pe_isi (T := "tuple") M.isi (by rfl) (by rfl) M.tup (by decide +kernel) (pv 0))))
              (pw_or1 (pt_cmpR op_ne (pe_callB call_len_seq (by rfl) M.len PySem.boot_len (pa_cons (pv 0) pa_nil)) (pe_callB call_len_seq (by rfl) M.len PySem.boot_len (pa_cons (pv 1) pa_nil)) (nomark _)))))
            (pss_one (ps_ret pe_bl)) pss_nil)
          (pss_cons (ps_for PassesOwn.never rfl (pi_range1 (by rfl) M.range (pa_cons (pe_callB call_len_seq (by rfl) M.len PySem.boot_len (pa_cons (pv 1) pa_nil)) pa_nil)) (pg_name (i := 2) nd rfl (.inl rfl))
            (pss_one (ps_if (pt_not (pt_val (pe_call GS hr (by rfl) gS F.kp bS .nil pass0 (pa_cons (pe_ix ix_tup (pv 0) (pv 2) (fun _ _ => rfl)) (pa_cons (pe_ix ix_tup (pv 1) (pv 2) (fun _ _ => rfl)) pa_nil))))) (pss_one (ps_ret pe_bl)) pss_nil)))
          (pss_one (ps_ret pe_bl)))) pss_nil)
        (pss_cons (ps_if (pt_cmpR op_isN (pv 1) pe_non (nomark _)) (pss_one (ps_ret (pe_cmpR op_isN (pv 0) pe_non (nomark _)))) pss_nil)
        (pss_cons (ps_if (pt_val (pe_isi (T := "bool") M.isi (by rfl) (by rfl) M.bool (by decide +kernel) (pv 1))) (pss_one (ps_ret (pe_and (pe_isi (T := "bool") M.isi (by rfl) (by rfl) M.bool (by decide +kernel) (pv 0)) (pe_one (pe_cmpR op_eq (pv 0) (pv 1) (nomark _)))))) pss_nil)
        (pss_cons (ps_if (pt_val (pe_isi (T := "int") M.isi (by rfl) (by rfl) M.int (by decide +kernel) (pv 1))) (pss_one (ps_ret (pe_and (pe_isi (T := "int") M.isi (by rfl) (by rfl) M.int (by decide +kernel) (pv 0))
            (pe_and (pe_not (pe_isi (T := "bool") M.isi (by rfl) (by rfl) M.bool (by decide +kernel) (pv 0))) (pe_one (pe_cmpR op_eq (pv 0) (pv 1) (nomark _))))))) pss_nil)
        (pss_one (ps_ret (pe_and (pe_isi (T := "str") M.isi (by rfl) (by rfl) M.str (by decide +kernel) (pv 0)) (pe_one (pe_cmpR op_eq (pv 0) (pv 1) (nomark _))))))))), ?_⟩
      rcases hs with ⟨rfl, fl⟩ | ⟨a, b, xs, ys, rfl, rfl, hx, hy, el, small, all⟩
      · cases x with
        | non =>
          exact ⟨.non, rfl, .non, .ty "tuple", .type "NoneType", _, false, rfl, .ty _, .base .non, kitF, false, rfl, iteF ⟨.non, rfl, rfl, true, rfl, iteT ⟨.non, rfl, rfl, q⟩⟩⟩
        | bl b =>
          refine ⟨.bl b, rfl, .bl b, .ty "tuple", .type "bool", _, false, rfl, .ty _, .base (.bl b), kitF, false, rfl, iteF ⟨.bl b, rfl, rfl, false, rfl, iteF ⟨.bl b, rfl, .bl b, .ty "bool", .type "bool", _, true, rfl, .ty _, .base (.bl b), kitT, true, rfl, iteT
            ⟨.bl b, rfl, .bl b, .ty "bool", .type "bool", _, true, rfl, .ty _, .base (.bl b), kitT, true, rfl, iteT ⟨.bl b, rfl, .bl b, rfl, rfl, ?_⟩⟩⟩⟩⟩
          rw [decide_eq_true rfl]
          exact q
        | int i =>
          refine ⟨.int i, rfl, .int i, .ty "tuple", .type "int", _, false, rfl, .ty _, .base (.int i), kitF, false, rfl, iteF ⟨.int i, rfl, rfl, false, rfl, iteF ⟨.int i, rfl, .int i, .ty "bool", .type "int", _, false, rfl, .ty _, .base (.int i), kitF, false, rfl, iteF
            ⟨.int i, rfl, .int i, .ty "int", .type "int", _, true, rfl, .ty _, .base (.int i), kitT, true, rfl, iteT ⟨.int i, rfl, .int i, .ty "int", .type "int", _, true, rfl, .ty _, .base (.int i), kitT, true, rfl, iteT
              ⟨.int i, rfl, .int i, .ty "bool", .type "int", _, false, rfl, .ty _, .base (.int i), kitF, false, rfl, true, rfl, iteT ⟨.int i, rfl, .int i, rfl, rfl, ?_⟩⟩⟩⟩⟩⟩⟩
          rw [decide_eq_true rfl]
          exact q
        | str z =>
          refine ⟨.str z, rfl, .str z, .ty "tuple", .type "str", _, false, rfl, .ty _, .base (.str z), kitF, false, rfl, iteF ⟨.str z, rfl, rfl, false, rfl, iteF ⟨.str z, rfl, .str z, .ty "bool", .type "str", _, false, rfl, .ty _, .base (.str z), kitF, false, rfl, iteF
            ⟨.str z, rfl, .str z, .ty "int", .type "str", _, false, rfl, .ty _, .base (.str z), kitF, false, rfl, iteF ⟨.str z, rfl, .str z, .ty "str", .type "str", _, true, rfl, .ty _, .base (.str z), kitT, true, rfl, iteT ⟨.str z, rfl, .str z, rfl, rfl, ?_⟩⟩⟩⟩⟩⟩
          rw [decide_eq_true rfl]
          exact q
        | _ => cases fl
      · refine ⟨.ref b, rfl, .ref b, .ty "tuple", .type "tuple", _, true, rfl, .ty _, tyx_tup hy, kitT, true, rfl, iteT ?_⟩
        refine ⟨.ref a, rfl, .ref a, .ty "tuple", .type "tuple", _, true, rfl, .ty _, tyx_tup hx, kitT, true, rfl, iteF ?_⟩
        refine ⟨.ref a, rfl, a, xs, rfl, .inr hx, .ref b, rfl, b, ys, rfl, .inr hy, rfl, _, rfl, ?_⟩
        rw [el, decide_eq_true rfl]
        refine iteF ⟨.ref b, rfl, b, ys, rfl, .inr hy, (ys.length : Int), rfl, by omega, by omega, ?_⟩
        refine for_range (lo := 0) (n := ((ys.length : Int)).toNat) (fun i σ H' => ∃ y2, σ = [some (.ref a), some (.ref b), y2] ∧ H' = H) ⟨none, rfl, rfl⟩ (fun i σ H1 hi hW => ?_) (fun σ H1 hW => ?_)
        · obtain ⟨y2, rfl, rfl⟩ := hW
          have hi2 : i < ys.length := by omega
          have hi1 : i < xs.length := by omega
          refine ⟨.ref a, rfl, .int (0 + (i : Int)), rfl, a, xs, 0 + (i : Int), xs[i], rfl, rfl, hx, at_eq (by omega) (List.getElem?_eq_getElem hi1), .ref b, rfl, .int (0 + (i : Int)), rfl, b, ys, 0 + (i : Int), ys[i], rfl, rfl, hy, at_eq (by omega) (List.getElem?_eq_getElem hi2), ?_⟩
          exact ⟨xs[i], ys[i], rfl, all i _ _ (List.getElem?_eq_getElem hi1) (List.getElem?_eq_getElem hi2), true, rfl, iteF ⟨some (.int (0 + (i : Int))), rfl, rfl⟩⟩
        · obtain ⟨y2, rfl, rfl⟩ := hW
          exact q
end
end Tc
/-! _law_parts. -/
namespace Tc
open PySem PySem.Spec PyProof.Rows L2 TcG
theorem find_split {α : Type} {l p q : List α} {f : α → Bool} {z : α} (e : l = p ++ z :: q) (before : ∀ y ∈ p, f y = false) (here : f z = true) : l.find? f = some z := by
  rw [e, List.find?_append]
  have n : p.find? f = none := List.find?_eq_none.mpr fun y hy x => by
    rw [before y hy] at x
    cases x
  rw [n, List.find?_cons, here]
  rfl
theorem list_split {α : Type} {l : List α} {i : Nat} {x : α} (h : l[i]? = some x) : l = l.take i ++ x :: l.drop (i + 1) := by
  obtain ⟨lt, hx⟩ := List.getElem?_eq_some_iff.mp h
  rw [← hx, ← List.drop_eq_getElem_cons lt, List.take_append_drop]
/-- where the pair x, y stands among the pairs -/
theorem pairs_split {ls : List Nat} {i j x y : Nat} (hx : ls[i]? = some x) (hy : ls[j]? = some y) (lt : x < y) :
    ∃ q, pairsOf ls = ((ls.take i).flatMap (pairsWith ls) ++ ((ls.take j).filter fun z => decide (x < z)).map fun z => [x, z]) ++ [x, y] :: q := by
  have e1 := list_split hx
  have e2 := list_split hy
  have w : pairsWith ls x = (((ls.take j).filter fun z => decide (x < z)).map fun z => [x, z]) ++ [x, y] :: ((ls.drop (j + 1)).filter fun z => decide (x < z)).map fun z => [x, z] := by
    unfold pairsWith
    conv => lhs; rw [e2]
    rw [List.filter_append, List.filter_cons, if_pos (decide_eq_true lt), List.map_append, List.map_cons]
  refine ⟨(((ls.drop (j + 1)).filter fun z => decide (x < z)).map fun z => [x, z]) ++ (ls.drop (i + 1)).flatMap (pairsWith ls), ?_⟩
  unfold TcG.pairsOf
  conv => lhs; arg 2; rw [e1]
  rw [List.flatMap_append, List.flatMap_cons, w]
  simp
section
variable {P : Program} {w : World} {K : PySem.W.Frag} {mg : Str → Option Value} {base : Heap}
def sp_law_parts (K : PySem.W.Frag) : Sp := fun vs H Q _ => ∃ (al : Addr) (a b ls : List Nat) (ps : List (List Nat)), vs = [.ref al, .str (tx a), .str (tx b)] ∧ Alpha K H al ls ps ∧ Pairs ls ps ∧ ls.length ≤ 100 ∧ a.length ≤ 1000 ∧ b.length ≤ 1000 ∧
  ∀ (v : V) (H' : Hp), Same H H' → PaperV H' v (partsM ls ps a b) → Q v H'
theorem count_filter (a : List Nat) (c : Nat) : (a.filter fun y => decide (y = c)).length = a.count c := by
  rw [List.count_eq_length_filter]
  congr 1
theorem ok_law_parts {f fF fO : Addr} {fd fdF fdO : FuncData} (F : Fun K "_law_parts" "_law_parts" s_law_parts f fd) (FF : Fun K "_law_free" "_law_free" s_law_free fF fdF) (gF : mg "_law_free" = some (.ref fF))
    (FO : Fun K "_law_only" "_law_only" s_law_only fO fdO) (gO : mg "_law_only" = some (.ref fO)) (ml : mg "len" = none) : FnOk P w K mg base CX0 2 f fd ["alphabet", "word", "other"] (sp_law_parts K) := by
  have GF : FnOk P w K mg base CX0 1 fF fdF ["alphabet", "x", "y"] (sp_free K) := ok_free FF
  have bF : Binds K fdF ["alphabet", "x", "y"] [] := FF.binds fun _ _ _ _ _ _ us hl => match us, hl with | [_, _, _], _ => rfl
  have GO : FnOk P w K mg base CX0 1 fO fdO ["word", "letters"] (sp_only K) := ok_only FO
  have bO : Binds K fdO ["word", "letters"] [] := FO.binds fun _ _ _ _ _ _ us hl => match us, hl with | [_, _], _ => rfl
  refine F.ok sc_law_parts (fun vs H Q E h => ?_) (fun cdv A outer s H vs Q E hr h => ?_)
  · obtain ⟨al, a, b, ls, ps, rfl, _⟩ := h
    rfl
  · obtain ⟨al, a, b, ls, ps, rfl, hA, pr, sl, sa, sb, q⟩ := h
    have nd := sc_law_parts.nd
    refine ⟨_, pss_cons (ps_for PassesOwn.never rfl (pi_str (pe_ix ix_tup (pv 0) pe_int (fun _ _ => rfl))) (pg_name (i := 3) nd rfl (.inr rfl))
        (pss_one (ps_if (pt_cmpR op_ne
            (pe_callB call_len_seq (by rfl) ml PySem.boot_len (pa_cons (pe_lc (own := [("y", 4)]) (g := gName 4) rfl nd (pi_str (pv 1)) (blkOk_by (own := [("y", 4)]) (N := ["alphabet", "word", "other", "x", "y"]) (sc := defScope s_law_parts) (by decide +kernel))
              (fun _ _ _ _ _ => pg_name (i := 4) nd rfl (Or.inl rfl)) (fun _ _ _ _ _ => pts_one (pt_cmpR op_eq (pv 4) (pv 3) (nomark _))) (fun _ _ _ _ _ => pv 4)) pa_nil))
            (pe_callB call_len_seq (by rfl) ml PySem.boot_len (pa_cons (pe_lc (own := [("y", 4)]) (g := gName 4) rfl nd (pi_str (pv 2)) (blkOk_by (own := [("y", 4)]) (N := ["alphabet", "word", "other", "x", "y"]) (sc := defScope s_law_parts) (by decide +kernel))
              (fun _ _ _ _ _ => pg_name (i := 4) nd rfl (Or.inl rfl)) (fun _ _ _ _ _ => pts_one (pt_cmpR op_eq (pv 4) (pv 3) (nomark _))) (fun _ _ _ _ _ => pv 4)) pa_nil)) (nomark _))
          (pss_one (ps_ret (pe_tup (pa_cons pe_str (pa_cons (pv 3) pa_nil))))) pss_nil)))
      (pss_cons (ps_for PassesOwn.never rfl (pi_str (pe_ix ix_tup (pv 0) pe_int (fun _ _ => rfl))) (pg_name (i := 3) nd rfl (.inr rfl))
        (pss_one (ps_for PassesOwn.never rfl (pi_str (pe_ix ix_tup (pv 0) pe_int (fun _ _ => rfl))) (pg_name (i := 4) nd rfl (.inl rfl))
          (pss_one (ps_if (PW.pt (pw_and (pt_cmpR op_lt_str (pv 3) (pv 4) (nomark _)) (pw_and1 (pt_not (pt_val (pe_call GF hr (by rfl) gF FF.kp bF .nil pass0 (pa_cons (pv 0) (pa_cons (pv 3) (pa_cons (pv 4) pa_nil)))))))))
            (pss_one (ps_if (pt_cmpR op_ne (pe_call GO hr (by rfl) gO FO.kp bO .nil pass0 (pa_cons (pv 1) (pa_cons (pe_lst (pa_cons (pv 3) (pa_cons (pv 4) pa_nil))) pa_nil)))
                (pe_call GO hr (by rfl) gO FO.kp bO .nil pass0 (pa_cons (pv 2) (pa_cons (pe_lst (pa_cons (pv 3) (pa_cons (pv 4) pa_nil))) pa_nil))) (nomark _))
              (pss_one (ps_ret (pe_tup (pa_cons pe_str (pa_cons (pv 3) (pa_cons (pv 4) pa_nil)))))) pss_nil)) pss_nil)))))
      (pss_one (ps_ret pe_non))), ?_⟩
    have hA0 := hA
    obtain ⟨pt, h1, h2⟩ := hA0
    -- [y for y in t if y == x] has as many items as x stands in t
    have comp : ∀ (t : List Nat) (c : Nat) (H1 : Hp), t.length ≤ 1000 → ∀ D, H1 D = none → ∀ (σ : L2.St) (y4 : Option V), σ = [some (.ref al), some (.str (tx a)), some (.str (tx b)), some (.str (tx [c])), y4] → ∀ (Qd : Hp → Prop),
        (∀ H2, Same H1 H2 → H2 D = some (.lst (((t.filter fun y => decide (y = c))).map fun y => .str (tx [y]))) → Qd H2) → _ := fun t c H1 st D nD σ y4 eσ Qd hq =>
      lc_text (l := t) (g := gName 4) (tt := tTest (tOp rEq (tVar 4) (tVar 3))) (te := tVar 4) (vs := [4]) (σ := σ) (H1 := H1) (D := D) (Qd := Qd)
        (fun i H2 => Same H1 H2 ∧ H2 D = some (.lst (((t.take i).filter fun y => decide (y = c)).map fun y => .str (tx [y]))))
        ⟨same_new nD, upd_same⟩ (fun i d H2 hd hV => by
          obtain ⟨sm, hD⟩ := hV
          subst eσ
          refine ⟨rfl, .str (tx [d]), rfl, .str (tx [c]), rfl, rfl, _, rfl, ?_⟩
          rw [tx_eq, take_next hd, List.filter_append]
          by_cases e : d = c
          · rw [decide_eq_true (show [d] = [c] by rw [e])]
            refine iteT ⟨.str (tx [d]), rfl, _, hD, ?_, ?_, ?_⟩
            · rw [List.length_map]
              have := List.length_filter_le (fun y => decide (y = c)) (t.take i)
              rw [List.length_take] at this
              exact Nat.lt_of_le_of_lt (show _ ≤ 1000 by omega) (by decide)
            · intro x o ex
              rw [upd_ne (ne_of_none ex nD)]
              exact sm x o ex
            · rw [upd_same, List.filter_cons, if_pos (decide_eq_true e), List.map_append]
              rfl
          · rw [decide_eq_false (show ¬ [d] = [c] from fun z => e (List.cons.inj z).1)]
            refine iteF ⟨sm, ?_⟩
            rw [List.filter_cons, if_neg (by rw [decide_eq_false e]; exact Bool.false_ne_true), List.filter_nil, List.append_nil]
            exact hD) (fun H2 hV => by
          obtain ⟨sm, hD⟩ := hV
          rw [List.take_length] at hD
          exact hq H2 sm hD)
    refine ⟨.ref al, rfl, al, _, 1, .str (tx ls), rfl, rfl, h1, atI_nat (j := 1) rfl, tx ls, rfl, for_text (fun i σ H' => ∃ y3 y4, σ = [some (.ref al), some (.str (tx a)), some (.str (tx b)), y3, y4] ∧ Same H H' ∧ ∀ c ∈ ls.take i, countsApart a b c = false)
      ⟨none, none, rfl, Same.refl _, fun c hc => by simp at hc⟩ (fun i c σ H1 hc hW => ?_) (fun σ H1 hW => ?_)⟩
    · obtain ⟨y3, y4, rfl, sm, before⟩ := hW
      refine ⟨.str (tx a), rfl, tx a, rfl, fun D nD => comp a c H1 sa D nD _ y4 rfl _ fun H2 sm2 hD => ?_⟩
      refine ⟨D, _, rfl, .inl (SqL.of hD), .str (tx b), rfl, tx b, rfl, fun D2 nD2 => comp b c H2 sb D2 nD2 _ y4 rfl _ fun H3 sm3 hD2 => ?_⟩
      refine ⟨D2, _, rfl, .inl (SqL.of hD2), rfl, _, rfl, ?_⟩
      rw [List.length_map, List.length_map, count_filter, count_filter]
      have smA : Same H H3 := sm.trans (sm2.trans sm3)
      by_cases e : a.count c = b.count c
      · rw [e, decide_eq_true rfl]
        refine iteF ⟨some (.str (tx [c])), y4, rfl, smA, fun d hd => ?_⟩
        rw [take_next hc] at hd
        rcases List.mem_append.mp hd with hd | hd
        · exact before d hd
        · rw [List.mem_singleton.mp hd]
          unfold countsApart
          rw [e]
          exact decide_eq_false fun z => z rfl
      · rw [decide_eq_false (show ¬ (V.int (a.count c : Int) = V.int (b.count c : Int)) from fun z => e (by injection z with z; omega))]
        refine iteT ⟨.str (tx [c]), rfl, by show 2 ≤ sizeLine; decide, fun p np => ?_⟩
        have found : ls.find? (countsApart a b) = some c := find_at hc before (decide_eq_true e)
        refine q _ _ (smA.trans (same_new np)) ?_
        rw [partsM_count found]
        exact ⟨p, rfl, upd_same⟩
    · obtain ⟨y3, y4, rfl, sm, before⟩ := hW
      rw [List.take_length] at before
      have none1 : ls.find? (countsApart a b) = none := find_no before
      rw [partsM_order none1] at q
      obtain ⟨pt1, g1, _⟩ := hA.same sm
      refine ⟨.ref al, rfl, al, _, 1, .str (tx ls), rfl, rfl, g1, atI_nat (j := 1) rfl, tx ls, rfl, for_text (fun i σ H' => ∃ y3 y4, σ = [some (.ref al), some (.str (tx a)), some (.str (tx b)), y3, y4] ∧ Same H H' ∧ ∀ d ∈ (ls.take i).flatMap (pairsWith ls), parted ps a b d = false)
        ⟨y3, y4, rfl, sm, fun d hd => by simp at hd⟩ (fun i x σ H2 hx hW => ?_) (fun σ H2 hW => ?_)⟩
      · obtain ⟨y3, y4, rfl, sm2, before2⟩ := hW
        obtain ⟨pt2, g2, _⟩ := hA.same sm2
        refine ⟨.ref al, rfl, al, _, 1, .str (tx ls), rfl, rfl, g2, atI_nat (j := 1) rfl, tx ls, rfl, for_text (fun j σ H' => ∃ y4, σ = [some (.ref al), some (.str (tx a)), some (.str (tx b)), some (.str (tx [x])), y4] ∧ Same H H' ∧
            ∀ d ∈ ((ls.take j).filter fun z => decide (x < z)).map (fun z => [x, z]), parted ps a b d = false)
          ⟨y4, rfl, sm2, fun d hd => by simp at hd⟩ (fun j y σ H3 hy hV => ?_) (fun σ H3 hV => ?_)⟩
        · obtain ⟨y4, rfl, sm3, before3⟩ := hV
          have stay : ∀ H4, Same H H4 → (x < y → parted ps a b [x, y] = false) → ∃ y4, [some (V.ref al), some (.str (tx a)), some (.str (tx b)), some (.str (tx [x])), some (.str (tx [y]))] = [some (.ref al), some (.str (tx a)), some (.str (tx b)), some (.str (tx [x])), y4] ∧ Same H H4 ∧
              ∀ d ∈ ((ls.take (j + 1)).filter fun z => decide (x < z)).map (fun z => [x, z]), parted ps a b d = false := fun H4 s4 no => by
            refine ⟨_, rfl, s4, fun d hd => ?_⟩
            rw [take_next hy, List.filter_append, List.map_append] at hd
            rcases List.mem_append.mp hd with hd | hd
            · exact before3 d hd
            · rw [List.filter_cons] at hd
              by_cases lt : x < y
              · rw [if_pos (decide_eq_true lt)] at hd
                rw [List.mem_singleton.mp hd]
                exact no lt
              · rw [if_neg (by rw [decide_eq_false lt]; exact Bool.false_ne_true)] at hd
                cases hd
          refine ⟨.str (tx [x]), rfl, .str (tx [y]), rfl, _, _, rfl, rfl, _, rfl, ?_⟩
          rw [tx_lt]
          by_cases lt : x < y
          · rw [decide_eq_true lt]
            refine iteT ⟨.ref al, rfl, .str (tx [x]), rfl, .str (tx [y]), rfl, al, x, y, ls, ps, rfl, hA.same sm3, pr, _, rfl, ?_⟩
            by_cases free : ind ps x y = true
            · rw [free]
              exact iteF (stay H3 sm3 fun _ => by
                rw [parted_two, free]
                rfl)
            · rw [Bool.not_eq_true] at free
              rw [free]
              refine iteT ⟨.str (tx a), rfl, .str (tx [x]), rfl, .str (tx [y]), rfl, by show 2 ≤ sizeLine; decide, fun r nr => ⟨a, [x, y], r, rfl, SqL.of upd_same, sa, ?_⟩⟩
              have s4 := sm3.trans (same_new (o := .lst [.str (tx [x]), .str (tx [y])]) nr)
              refine ⟨.str (tx b), rfl, .str (tx [x]), rfl, .str (tx [y]), rfl, by show 2 ≤ sizeLine; decide, fun r2 nr2 => ⟨b, [x, y], r2, rfl, SqL.of upd_same, sb, rfl, _, rfl, ?_⟩⟩
              have s5 := s4.trans (same_new (o := .lst [.str (tx [x]), .str (tx [y])]) nr2)
              rw [tx_eq]
              by_cases e : keepM [x, y] a = keepM [x, y] b
              · rw [show (decide ((a.filter fun c => decide (c ∈ [x, y])) = (b.filter fun c => decide (c ∈ [x, y])))) = true from decide_eq_true e]
                exact iteF (stay _ s5 fun _ => by
                  rw [parted_two, free]
                  exact decide_eq_false fun z => z e)
              · rw [show (decide ((a.filter fun c => decide (c ∈ [x, y])) = (b.filter fun c => decide (c ∈ [x, y])))) = false from decide_eq_false e]
                refine iteT ⟨.str (tx [x]), rfl, .str (tx [y]), rfl, by show 3 ≤ sizeLine; decide, fun z nz => ?_⟩
                obtain ⟨rest, er⟩ := pairs_split hx hy lt
                have found : (pairsOf ls).find? (parted ps a b) = some [x, y] := find_split er (fun d hd => by
                  rcases List.mem_append.mp hd with hd | hd
                  · exact before2 d hd
                  · exact before3 d hd) (by
                  rw [parted_two, free]
                  exact decide_eq_true e)
                rw [found] at q
                exact q _ _ (s5.trans (same_new nz)) ⟨z, rfl, upd_same⟩
          · rw [decide_eq_false lt]
            exact iteF (iteF (stay H3 sm3 fun z => absurd z lt))
        · obtain ⟨y4, rfl, sm3, before3⟩ := hV
          rw [List.take_length] at before3
          refine ⟨_, y4, rfl, sm3, fun d hd => ?_⟩
          rw [take_next hx, List.flatMap_append] at hd
          rcases List.mem_append.mp hd with hd | hd
          · exact before2 d hd
          · rw [List.flatMap_cons, List.flatMap_nil, List.append_nil] at hd
            exact before3 d hd
      · obtain ⟨y3, y4, rfl, sm2, before2⟩ := hW
        rw [List.take_length] at before2
        have none2 : (pairsOf ls).find? (parted ps a b) = none := find_no before2
        rw [none2] at q
        exact q _ _ sm2 rfl
end
end Tc
/-! _law_class. -/
namespace Tc
open PySem PySem.Spec PyProof.Rows L2 TcG
section
variable {P : Program} {w : World} {K : PySem.W.Frag} {mg : Str → Option Value} {base : Heap}
def sp_class (K : PySem.W.Frag) : Sp := fun vs H Q _ => ∃ (al : Addr) (a ls : List Nat) (ps : List (List Nat)), vs = [.ref al, .str (tx a)] ∧ Alpha K H al ls ps ∧ Pairs ls ps ∧ ls.length ≤ 5 ∧ a.length ≤ 7 ∧ (∀ c ∈ a, c ∈ ls) ∧
  ∀ (p : Addr) (F : List (List Nat)) (H' : Hp), Same H H' → H' p = some (.lst (txs F)) → (∀ v, v ∈ F ↔ Exs ps a v) → Q (.ref p) H'
theorem ok_class {f fF : Addr} {fd fdF : FuncData} (F : Fun K "_law_class" "_law_class" s_law_class f fd) (FF : Fun K "_law_free" "_law_free" s_law_free fF fdF) (gF : mg "_law_free" = some (.ref fF))
    (ml : mg "len" = none) (mr : mg "range" = none) : FnOk P w K mg base CX0 2 f fd ["alphabet", "word"] (sp_class K) := by
  have GF : FnOk P w K mg base CX0 1 fF fdF ["alphabet", "x", "y"] (sp_free K) := ok_free FF
  have bF : Binds K fdF ["alphabet", "x", "y"] [] := FF.binds fun _ _ _ _ _ _ us hl => match us, hl with | [_, _, _], _ => rfl
  refine F.ok sc_law_class (fun vs H Q E h => ?_) (fun cdv A outer s H vs Q E hr h => ?_)
  · obtain ⟨al, a, ls, ps, rfl, _⟩ := h
    rfl
  · obtain ⟨al, a, ls, ps, rfl, hA, pr, sl, sa, ia, q⟩ := h
    have nd := sc_law_class.nd
    refine ⟨_, pss_cons (ps_set (i := 2) nd rfl (.inl rfl) (pe_lst (pa_cons (pv 1) pa_nil)))
      (pss_cons (ps_set (i := 3) nd rfl (.inl rfl) pe_int)
      (pss_cons (ps_set (i := 4) nd rfl (.inl rfl) (pe_disp (pps_cons (pv 1) pe_bl pps_nil) (by rfl) (by rfl) (fun z => by cases z) (by decide)))
      (pss_cons (ps_while PassesOwn.never (pt_cmpR op_lt (pv 3) (pe_callB call_len_seq (by rfl) ml PySem.boot_len (pa_cons (pv 2) pa_nil)) (nomark _))
        (pss_cons (ps_set (i := 5) nd rfl (.inl rfl) (pe_ix ix_list (pv 2) (pv 3) (fun _ _ => rfl)))
        (pss_cons (ps_set (i := 3) nd rfl (.inl rfl) (pe_op op_add (pv 3) pe_int))
        (pss_one (ps_for PassesOwn.never rfl (pi_range1 (by rfl) mr (pa_cons (pe_op op_sub (pe_callB call_len_str (by rfl) ml PySem.boot_len (pa_cons (pv 5) pa_nil)) pe_int) pa_nil)) (pg_name (i := 6) nd rfl (.inl rfl))
          (pss_one (ps_if (pt_val (pe_call GF hr (by rfl) gF FF.kp bF .nil pass0 (pa_cons (pv 0) (pa_cons (pe_ix ix_str (pv 5) (pv 6) (fun _ _ => rfl)) (pa_cons (pe_ix ix_str (pv 5) (pe_op op_add (pv 6) pe_int) (fun _ _ => rfl)) pa_nil)))))
            (pss_cons (ps_set (i := 7) nd rfl (.inl rfl) (pe_op op_add_str (pe_op op_add_str (pe_op op_add_str (pe_slice sl_str (pv 5) po_none (po_some (pv 6))) (pe_ix ix_str (pv 5) (pe_op op_add (pv 6) pe_int) (fun _ _ => rfl)))
              (pe_ix ix_str (pv 5) (pv 6) (fun _ _ => rfl))) (pe_slice sl_str (pv 5) (po_some (pe_op op_add (pv 6) pe_int)) po_none)))
            (pss_one (ps_if (pt_cmp (pc_dnotin (hu_of hr) (pv 7) (pv 4)))
              (pss_cons (ps_dput (hu_of hr) (pv 4) (pv 7) pe_bl rfl)
              (pss_one (ps_expr (pe_bm PySem.F.plainAttrs_list PySem.F.slot_list_append PySem.F.type_list_append mt_append (pv 2) (pa_cons (pv 7) pa_nil))))) pss_nil))) pss_nil)))))))
      (pss_one (ps_ret (pv 2)))))), ?_⟩
    -- found = [word]; at = 0; known = {word: True}
    refine ⟨.str (tx a), rfl, by show 1 ≤ sizeLine; decide, fun fp nf kp nk => ⟨.str (tx a), rfl, upd_same, [(Sum.inr (tx a), .bl true)], rfl, by show 1 ≤ 15; decide, ?_⟩⟩
    have kf : kp ≠ fp := fun z => by
      rw [z, upd_same] at nk
      cases nk
    have nkH : H kp = none := by
      rw [upd_ne kf] at nk
      exact nk
    have e0 : mergeK [] [((Sum.inr (tx a) : Key), V.bl true)] = knownOf [a] := rfl
    rw [e0]
    -- the words at and behind which nothing is found any more
    refine while_by (fun σ H' => ∃ (F : List (List Nat)) (n : Nat) (y5 y6 y7 : Option V), σ = [some (.ref al), some (.str (tx a)), some (.ref fp), some (.int (n : Int)), some (.ref kp), y5, y6, y7] ∧ Same H H' ∧ H' fp = some (.lst (txs F)) ∧ H' kp = some (.dK (knownOf F)) ∧ Grown ps a F ∧ n ≤ F.length ∧ ClosedTo ps F n)
      (fun (σ : L2.St) _ => match σ[3]? with | some (some (V.int i)) => 100000 - i.toNat | _ => 0) ?_ (fun σ H1 hW => ?_) (fun σ H Q Q' m ⟨x, h1, y, h2, p, ys, e1, hq, i, j, e2, e3, k, e4, hh⟩ => ⟨x, h1, y, h2, p, ys, e1, hq, i, j, e2, e3, k, e4, m _ _ hh⟩)
    · refine ⟨[a], 0, none, none, none, rfl, fun x o e => ?_, ?_, upd_same, ⟨by simp, by simp, fun f hf => by rw [List.mem_singleton.mp hf]; exact .refl a⟩, Nat.zero_le _, fun i hi => absurd hi (Nat.not_lt_zero i)⟩
      · rw [upd_ne (ne_of_none e nkH), upd_ne (ne_of_none e nkH), upd_ne (ne_of_none e nf)]
        exact e
      · rw [upd_ne (Ne.symm kf), upd_ne (Ne.symm kf), upd_same]
        rfl
    · obtain ⟨F, n, y5, y6, y7, rfl, sm, hfp, hkp, gr, hn, cl⟩ := hW
      refine ⟨.int n, rfl, .ref fp, rfl, fp, _, rfl, .inl (SqL.of hfp), (n : Int), _, rfl, rfl, _, rfl, ?_⟩
      have len : (txs F).length = F.length := by
        unfold txs
        rw [List.length_map]
      rw [len]
      by_cases lt : (n : Int) < (F.length : Int)
      · rw [decide_eq_true lt]
        have hlt : n < F.length := by omega
        have gF0 : F[n]? = some F[n] := List.getElem?_eq_getElem hlt
        generalize ef : F[n] = f at gF0
        have hfF : f ∈ F := List.mem_of_getElem? gF0
        have lf : f.length = a.length := ((gr.sound f hfF).perm.length_eq).symm
        have g0 : (txs F)[n]? = some (.str (tx f)) := by
          unfold txs
          rw [List.getElem?_map, gF0]
          rfl
        refine iteT ⟨.ref fp, rfl, .int n, rfl, fp, _, (n : Int), .str (tx f), rfl, rfl, SqL.of hfp, atI_nat g0, .int n, rfl, (n : Int), 1, rfl, rfl, ?_⟩
        have zl : (tx f).length ≤ sizeLine := by
          rw [tx_length]
          exact small_line (by omega)
        refine ⟨.str (tx f), rfl, tx f, rfl, zl, ((tx f).length : Int), 1, rfl, rfl, ((tx f).length : Int) - 1, rfl, ?_⟩
        rw [tx_length]
        refine ⟨by omega, by omega, for_range (lo := 0) (n := ((f.length : Int) - 1).toNat) (fun k σ H' => ∃ (G : List (List Nat)) (y6 y7 : Option V), σ = [some (.ref al), some (.str (tx a)), some (.ref fp), some (.int ((n : Int) + 1)), some (.ref kp), some (.str (tx f)), y6, y7] ∧
            Same H H' ∧ H' fp = some (.lst (txs G)) ∧ H' kp = some (.dK (knownOf G)) ∧ Grown ps a G ∧ n < G.length ∧ G[n]? = some f ∧ ClosedTo ps G n ∧ ∀ j, j < k → ∀ x y, f[j]? = some x → f[j + 1]? = some y → ind ps x y = true → swapAt f j ∈ G)
          ⟨F, y6, y7, rfl, sm, hfp, hkp, gr, hlt, gF0, cl, fun j hj => absurd hj (Nat.not_lt_zero j)⟩ (fun k σ H2 hk hV => ?_) (fun σ H2 hV => ?_)⟩
        · obtain ⟨G, y6, y7, rfl, sm2, hfp2, hkp2, gr2, hn2, gG, cl2, near⟩ := hV
          have h1 : k < f.length := by omega
          have h2 : k + 1 < f.length := by omega
          have g1 : f[k]? = some f[k] := List.getElem?_eq_getElem h1
          have g2 : f[k + 1]? = some f[k + 1] := List.getElem?_eq_getElem h2
          have a1 : atI (tx f).cps.toList (0 + (k : Int)) = some f[k] := at_eq (by omega) g1
          have a2 : atI (tx f).cps.toList (0 + (k : Int) + 1) = some f[k + 1] := at_eq (by omega) g2
          refine ⟨.ref al, rfl, .str (tx f), rfl, .int (0 + (k : Int)), rfl, tx f, 0 + (k : Int), f[k], rfl, rfl, zl, a1, .str (tx f), rfl, .int (0 + (k : Int)), rfl, 0 + (k : Int), 1, rfl, rfl, tx f, 0 + (k : Int) + 1, f[k + 1], rfl, rfl, zl, a2, al, f[k], f[k + 1], ls, ps, rfl, hA.same sm2, pr, _, rfl, ?_⟩
          have stay : ∀ (G' : List (List Nat)) (y7' : Option V) (H3 : Hp), Same H H3 → H3 fp = some (.lst (txs G')) → H3 kp = some (.dK (knownOf G')) → Grown ps a G' → n < G'.length → G'[n]? = some f → ClosedTo ps G' n → (∀ x ∈ G, x ∈ G') → (ind ps f[k] f[k + 1] = true → swapAt f k ∈ G') →
              ∃ (G : List (List Nat)) (y6 y7 : Option V), [some (V.ref al), some (.str (tx a)), some (.ref fp), some (.int ((n : Int) + 1)), some (.ref kp), some (.str (tx f)), some (.int (0 + (k : Int))), y7'] = [some (.ref al), some (.str (tx a)), some (.ref fp), some (.int ((n : Int) + 1)), some (.ref kp), some (.str (tx f)), y6, y7] ∧
            Same H H3 ∧ H3 fp = some (.lst (txs G)) ∧ H3 kp = some (.dK (knownOf G)) ∧ Grown ps a G ∧ n < G.length ∧ G[n]? = some f ∧ ClosedTo ps G n ∧ ∀ j, j < k + 1 → ∀ x y, f[j]? = some x → f[j + 1]? = some y → ind ps x y = true → swapAt f j ∈ G := fun G' y7' H3 s3 f3 k3 gr3 n3 g3 c3 sub new => by
            refine ⟨G', _, _, rfl, s3, f3, k3, gr3, n3, g3, c3, fun j hj x y hx hy hi => ?_⟩
            by_cases ej : j = k
            · subst ej
              rw [g1] at hx
              rw [g2] at hy
              cases hx
              cases hy
              exact new hi
            · exact sub _ (near j (by omega) x y hx hy hi)
          by_cases fr : ind ps f[k] f[k + 1] = true
          · rw [fr]
            have sw := swapAt_eq g1 g2
            have ex := swap_ex g1 g2 fr
            refine iteT ⟨.str (tx f), rfl, .int (0 + (k : Int)), rfl, ((k : Nat) : Int), by rw [Int.zero_add], tx f, rfl, zl, .str (tx f), rfl, .int (0 + (k : Int)), rfl, 0 + (k : Int), 1, rfl, rfl, tx f, 0 + (k : Int) + 1, f[k + 1], rfl, rfl, zl, a2, ?_⟩
            rw [cut_to]
            have t1 : (f.take k).length ≤ 7 := by
              rw [List.length_take]
              omega
            refine ⟨tx (f.take k), tx [f[k + 1]], rfl, rfl, small_line (by rw [tx_length, tx_length]; simp at *; omega), .str (tx f), rfl, .int (0 + (k : Int)), rfl, tx f, 0 + (k : Int), f[k], rfl, rfl, zl, a1, ?_⟩
            rw [tx_append]
            refine ⟨tx (f.take k ++ [f[k + 1]]), tx [f[k]], rfl, rfl, small_line (by rw [tx_length, tx_length]; simp at *; omega), .str (tx f), rfl, .int (0 + (k : Int)), rfl, 0 + (k : Int), 2, rfl, rfl, ((k + 2 : Nat) : Int), by rw [Int.zero_add]; rfl, tx f, rfl, zl, ?_⟩
            rw [tx_append, cut_from]
            have t2 : (f.drop (k + 2)).length ≤ 7 := by
              rw [List.length_drop]
              omega
            refine ⟨tx (f.take k ++ [f[k + 1]] ++ [f[k]]), tx (f.drop (k + 2)), rfl, rfl, small_line (by rw [tx_length, tx_length]; simp at *; omega), ?_⟩
            rw [tx_append, ← sw]
            -- if there not in known
            refine ⟨.str (tx (swapAt f k)), rfl, .ref kp, rfl, kp, _, rfl, DGet.k (k := Sum.inr (tx (swapAt f k))) hkp2, _, rfl, ?_⟩
            rw [known_find]
            by_cases old : swapAt f k ∈ G
            · rw [decide_eq_true old]
              exact iteF (stay G _ H2 sm2 hfp2 hkp2 gr2 hn2 gG cl2 (fun x hx => hx) fun _ => old)
            · rw [decide_eq_false old]
              have bd := gr2.bound ia sl sa
              have gfG : f ∈ G := List.mem_of_getElem? gG
              have lenG : (txs G).length = G.length := by
                unfold txs
                rw [List.length_map]
              refine iteT ⟨.ref kp, rfl, .str (tx (swapAt f k)), rfl, kp, _, rfl, DPut.k (k := Sum.inr (tx (swapAt f k))) hkp2 ?_, ?_⟩
              · unfold knownOf
                rw [List.length_map]
                exact Nat.lt_of_le_of_lt bd (by decide)
              · rw [known_put old]
                have hfp3 : (upd H2 kp (.dK (knownOf (G ++ [swapAt f k])))) fp = some (.lst (txs G)) := by
                  rw [upd_ne (Ne.symm kf)]
                  exact hfp2
                refine ⟨.ref fp, rfl, .inl ⟨rfl, _, SqL.of hfp3⟩, .str (tx (swapAt f k)), rfl, fp, _, _, rfl, rfl, hfp3, ?_, ?_⟩
                · rw [lenG]
                  exact Nat.lt_of_le_of_lt bd (by decide)
                · refine stay (G ++ [swapAt f k]) _ _ (fun x o e => ?_) ?_ ?_ (gr2.put gfG ex old) (by rw [List.length_append]; omega) (by rw [List.getElem?_append_left hn2]; exact gG) (cl2.put (by omega)) (fun x hx => List.mem_append_left _ hx) fun _ => List.mem_append_right _ (List.mem_singleton.mpr rfl)
                  · rw [upd_ne (ne_of_none e nf), upd_ne (ne_of_none e nkH)]
                    exact sm2 x o e
                  · rw [upd_same]
                    unfold txs
                    rw [List.map_append]
                    rfl
                  · rw [upd_ne kf, upd_same]
          · rw [Bool.not_eq_true] at fr
            rw [fr]
            exact iteF (stay G _ H2 sm2 hfp2 hkp2 gr2 hn2 gG cl2 (fun x hx => hx) fun z => by rw [fr] at z; cases z)
        · obtain ⟨G, y6, y7, rfl, sm2, hfp2, hkp2, gr2, hn2, gG, cl2, near⟩ := hV
          have bd := gr2.bound ia sl sa
          refine ⟨⟨G, n + 1, _, _, _, rfl, sm2, hfp2, hkp2, gr2, hn2, fun i hi f' hf' g e => ?_⟩, ?_⟩
          · by_cases ei : i = n
            · subst ei
              rw [gG] at hf'
              cases hf'
              obtain ⟨k, x, y, hx, hy, hi2, rfl⟩ := e.swap
              have := (List.getElem?_eq_some_iff.mp hy).1
              exact near k (by omega) x y hx hy hi2
            · exact cl2 i (by omega) f' hf' g e
          · show 100000 - ((n : Int) + 1).toNat < 100000 - ((n : Int)).toNat
            omega
      · rw [decide_eq_false lt]
        have en : n = F.length := by omega
        subst en
        exact iteF ⟨_, rfl, q fp F H1 sm hfp (gr.all cl)⟩
end
end Tc
/-! The law. -/
namespace Tc
open PySem PySem.Spec PyProof.Rows L2 TcG
theorem paper_keep {H H' : Hp} {v : V} {m : Option Paper} (h : PaperV H v m) (s : Same H H') : PaperV H' v m := by
  cases m with
  | none => exact h
  | some p =>
    cases p with
    | count x =>
      obtain ⟨r, e, hr⟩ := h
      exact ⟨r, e, s _ _ hr⟩
    | order x y =>
      obtain ⟨r, e, hr⟩ := h
      exact ⟨r, e, s _ _ hr⟩
theorem paper_none {H : Hp} {v : V} {m : Option Paper} (h : PaperV H v m) : decide (v = .non) = m.isNone := by
  cases m with
  | none =>
    have h : v = .non := h
    rw [h]
    rfl
  | some p =>
    cases p with
    | count x =>
      obtain ⟨r, e, hr⟩ := h
      rw [e]
      rfl
    | order x y =>
      obtain ⟨r, e, hr⟩ := h
      rw [e]
      rfl
theorem same_strs {K : PySem.W.Frag} {H : Hp} {n : Nat} {xs : List V} (h : xs.all flatV = true) : ∀ (i : Nat) (a b : V), xs[i]? = some a → xs[i]? = some b → SameR K H (n + 1) a b := fun i a b ha hb => by
  rw [ha] at hb
  cases hb
  exact .inl ⟨rfl, List.all_eq_true.mp h a (List.mem_of_getElem? ha)⟩
theorem paper_same {K : PySem.W.Frag} {H : Hp} {v u : V} {m : Option Paper} (h : PaperV H v m) (g : PaperV H u m) : SameR K H 2 v u := by
  cases m with
  | none =>
    have h : v = .non := h
    have g : u = .non := g
    rw [h, g]
    exact .inl ⟨rfl, rfl⟩
  | some p =>
    cases p with
    | count x =>
      obtain ⟨r, rfl, hr⟩ := h
      obtain ⟨t, rfl, ht⟩ := g
      exact .inr ⟨r, t, _, _, rfl, rfl, SqT.of hr, SqT.of ht, rfl, by show 2 ≤ 100; decide, same_strs rfl⟩
    | order x y =>
      obtain ⟨r, rfl, hr⟩ := h
      obtain ⟨t, rfl, ht⟩ := g
      exact .inr ⟨r, t, _, _, rfl, rfl, SqT.of hr, SqT.of ht, rfl, by show 3 ≤ 100; decide, same_strs rfl⟩
/-- where the defs of the text stand -/
structure Text (K : PySem.W.Frag) (mg : Str → Option Value) (base : Heap) (Pt : Addr) where
  fCell : Addr
  dCell : FuncData
  cell : Fun K "_law_cell" "_law_cell" s_law_cell fCell dCell
  gCell : mg "_law_cell" = some (.ref fCell)
  fDigits : Addr
  dDigits : FuncData
  digits : Fun K "_law_digits" "_law_digits" s_law_digits fDigits dDigits
  gDigits : mg "_law_digits" = some (.ref fDigits)
  fBox : Addr
  dBox : FuncData
  box : Fun K "_law_box" "_law_box" s_law_box fBox dBox
  gBox : mg "_law_box" = some (.ref fBox)
  fDraw : Addr
  dDraw : FuncData
  draw : Fun K "_law_draw" "_law_draw" s_law_draw fDraw dDraw
  gDraw : mg "_law_draw" = some (.ref fDraw)
  fAlpha : Addr
  dAlpha : FuncData
  alpha : Fun K "_law_alphabet" "_law_alphabet" s_law_alphabet fAlpha dAlpha
  gAlpha : mg "_law_alphabet" = some (.ref fAlpha)
  fWord : Addr
  dWord : FuncData
  word : Fun K "_law_word" "_law_word" s_law_word fWord dWord
  gWord : mg "_law_word" = some (.ref fWord)
  fFree : Addr
  dFree : FuncData
  free : Fun K "_law_free" "_law_free" s_law_free fFree dFree
  gFree : mg "_law_free" = some (.ref fFree)
  fMixed : Addr
  dMixed : FuncData
  mixed : Fun K "_law_mixed" "_law_mixed" s_law_mixed fMixed dMixed
  gMixed : mg "_law_mixed" = some (.ref fMixed)
  fSame : Addr
  dSame : FuncData
  same : Fun K "_law_same" "_law_same" s_law_same fSame dSame
  gSame : mg "_law_same" = some (.ref fSame)
  fOnly : Addr
  dOnly : FuncData
  only : Fun K "_law_only" "_law_only" s_law_only fOnly dOnly
  gOnly : mg "_law_only" = some (.ref fOnly)
  fLParts : Addr
  dLParts : FuncData
  lParts : Fun K "_law_parts" "_law_parts" s_law_parts fLParts dLParts
  gLParts : mg "_law_parts" = some (.ref fLParts)
  fClass : Addr
  dClass : FuncData
  class_ : Fun K "_law_class" "_law_class" s_law_class fClass dClass
  gClass : mg "_law_class" = some (.ref fClass)
  fPairs : Addr
  dPairs : FuncData
  pairs : Fun K "letter_pairs" "letter_pairs" s_letter_pairs fPairs dPairs
  gPairs : mg "letter_pairs" = some (.ref fPairs)
  fInd : Addr
  dInd : FuncData
  ind : Fun K "independent" "independent" s_independent fInd dInd
  gInd : mg "independent" = some (.ref fInd)
  fTaken : Addr
  dTaken : FuncData
  cTaken : Addr
  taken : FunC K "taken_out" "taken_out" s_taken_out fTaken dTaken cTaken
  gTaken : mg "taken_out" = some (.ref fTaken)
  tTaken : GxR.TabB base mg cTaken Pt
  fParts : Addr
  dParts : FuncData
  parts : Fun K "parts" "parts" s_parts fParts dParts
  gParts : mg "parts" = some (.ref fParts)
  mlen : mg "len" = none
  mrange : mg "range" = none
  mint : mg "int" = none
  mmin : mg "min" = none
  mmax : mg "max" = none
  msorted : mg "sorted" = none
  mtuple : mg "tuple" = none
  mbool : mg "bool" = none
  mstr : mg "str" = none
  misi : mg "isinstance" = none
section
variable {P : Program} {w : World} {K : PySem.W.Frag} {mg : Str → Option Value} {base : Heap}
def sp_law (K : PySem.W.Frag) (Pt : Addr) : Sp := fun vs H Q _ => ∃ (a : Addr) (ns : List Int), vs = [.ref a] ∧ SqL K H a (ns.map V.int) ∧ GxR.TabG H Pt ∧ ∀ H', Q (.bl true) H'
theorem ok_law {f Pt : Addr} {fd : FuncData} (F : Fun K "law" "law" s_law f fd) (T : Text K mg base Pt) : FnOk P w K mg base CX0 4 f fd ["script"] (sp_law K Pt) := by
  have GB : FnOk P w K mg base CX0 3 T.fBox T.dBox ["script", "first", "last"] (sp_box K) := ok_box T.box T.cell T.gCell T.digits T.gDigits T.mlen T.mrange T.mint
  have bB : Binds K T.dBox ["script", "first", "last"] [] := T.box.binds fun _ _ _ _ _ _ us hl => match us, hl with | [_, _, _], _ => rfl
  have GA : FnOk P w K mg base CX0 2 T.fAlpha T.dAlpha ["box", "most"] (sp_alphabet K) := ok_alphabet T.alpha T.draw T.gDraw T.mlen T.mint T.mrange T.msorted T.mtuple
  have bA : Binds K T.dAlpha ["box", "most"] [] := T.alpha.binds fun _ _ _ _ _ _ us hl => match us, hl with | [_, _], _ => rfl
  have GW : FnOk P w K mg base CX0 2 T.fWord T.dWord ["box", "alphabet", "most"] (sp_word K) := ok_word T.word T.draw T.gDraw T.mlen T.mint T.mrange
  have bW : Binds K T.dWord ["box", "alphabet", "most"] [] := T.word.binds fun _ _ _ _ _ _ us hl => match us, hl with | [_, _, _], _ => rfl
  have GM : FnOk P w K mg base CX0 2 T.fMixed T.dMixed ["box", "alphabet", "word"] (sp_mixed K) := ok_mixed T.mixed T.draw T.gDraw T.free T.gFree T.mlen T.mint T.mrange
  have bM : Binds K T.dMixed ["box", "alphabet", "word"] [] := T.mixed.binds fun _ _ _ _ _ _ us hl => match us, hl with | [_, _, _], _ => rfl
  have GD : FnOk P w K mg base CX0 1 T.fDraw T.dDraw ["box", "many"] (sp_draw K) := ok_draw T.draw T.mlen T.mint
  have bD : Binds K T.dDraw ["box", "many"] [] := T.draw.binds fun _ _ _ _ _ _ us hl => match us, hl with | [_, _], _ => rfl
  have GP : FnOk P w K mg base CX0 2 T.fParts T.dParts ["alphabet", "word", "other"] (sp_parts K Pt) := ok_parts T.parts T.pairs T.gPairs T.ind T.gInd T.taken T.gTaken T.tTaken T.mmin T.mmax
  have bP : Binds K T.dParts ["alphabet", "word", "other"] [] := T.parts.binds fun _ _ _ _ _ _ us hl => match us, hl with | [_, _, _], _ => rfl
  have GL : FnOk P w K mg base CX0 2 T.fLParts T.dLParts ["alphabet", "word", "other"] (sp_law_parts K) := ok_law_parts T.lParts T.free T.gFree T.only T.gOnly T.mlen
  have bL : Binds K T.dLParts ["alphabet", "word", "other"] [] := T.lParts.binds fun _ _ _ _ _ _ us hl => match us, hl with | [_, _, _], _ => rfl
  have GC : FnOk P w K mg base CX0 2 T.fClass T.dClass ["alphabet", "word"] (sp_class K) := ok_class T.class_ T.free T.gFree T.mlen T.mrange
  have bC : Binds K T.dClass ["alphabet", "word"] [] := T.class_.binds fun _ _ _ _ _ _ us hl => match us, hl with | [_, _], _ => rfl
  have GS : FnOk P w K mg base CX0 2 T.fSame T.dSame ["actual", "expected"] (sp_same K 2) := ok_same T.same T.gSame ⟨T.misi, T.mtuple, T.mbool, T.mint, T.mstr, T.mlen, T.mrange⟩ 2
  have bS : Binds K T.dSame ["actual", "expected"] [] := T.same.binds fun _ _ _ _ _ _ us hl => match us, hl with | [_, _], _ => rfl
  refine F.ok sc_law (fun vs H Q E h => ?_) (fun cdv A outer s H vs Q E hr h => ?_)
  · obtain ⟨a, ns, rfl, _⟩ := h
    rfl
  · obtain ⟨sc, ns, rfl, hS, tab, q⟩ := h
    have nd := sc_law.nd
    have hr2 : Room 2 _ := hr.mono (by decide)
    have hr1 : Room 1 _ := hr.mono (by decide)
    refine ⟨_, pss_cons (ps_set (i := 1) nd rfl (.inl rfl) (pe_call GB hr (by rfl) T.gBox T.box.kp bB .nil pass0 (pa_cons (pv 0) (pa_cons pe_int (pa_cons pe_int pa_nil)))))
      (pss_cons (ps_for PassesOwn.never rfl (pi_range1 (by rfl) T.mrange (pa_cons pe_int pa_nil)) (pg_name (i := 2) nd rfl (.inl rfl))
        (pss_cons (ps_set (i := 3) nd rfl (.inl rfl) (pe_call GA hr2 (by rfl) T.gAlpha T.alpha.kp bA .nil pass0 (pa_cons (pv 1) (pa_cons pe_int pa_nil))))
        (pss_cons (ps_set (i := 4) nd rfl (.inl rfl) (pe_call GW hr2 (by rfl) T.gWord T.word.kp bW .nil pass0 (pa_cons (pv 1) (pa_cons (pv 3) (pa_cons pe_int pa_nil)))))
        (pss_cons (ps_set (i := 5) nd rfl (.inl rfl) (pe_call GM hr2 (by rfl) T.gMixed T.mixed.kp bM .nil pass0 (pa_cons (pv 1) (pa_cons (pv 3) (pa_cons (pv 4) pa_nil)))))
        (pss_cons (ps_set (i := 6) nd rfl (.inl rfl) (pe_call GD hr1 (by rfl) T.gDraw T.draw.kp bD .nil pass0 (pa_cons (pv 1) (pa_cons pe_int pa_nil))))
        (C8.pss_cut (ps_if (pt_cmpR op_eq (pv 6) pe_int (nomark _))
            (pss_one (ps_set (i := 5) nd rfl (.inl rfl) (pe_call GW hr2 (by rfl) T.gWord T.word.kp bW .nil pass0 (pa_cons (pv 1) (pa_cons (pv 3) (pa_cons pe_int pa_nil))))))
            (pss_one (ps_if (PW.pt (pw_and (pt_cmpR op_eq (pv 6) pe_int (nomark _)) (pw_and1 (pt_cmpR op_gt (pe_callB call_len_str (by rfl) T.mlen PySem.boot_len (pa_cons (pv 4) pa_nil)) pe_int (nomark _)))))
              (pss_cons (ps_set (i := 7) nd rfl (.inl rfl) (pe_call GD hr1 (by rfl) T.gDraw T.draw.kp bD .nil pass0 (pa_cons (pv 1) (pa_cons (pe_op op_sub (pe_callB call_len_str (by rfl) T.mlen PySem.boot_len (pa_cons (pv 4) pa_nil)) pe_int) pa_nil))))
              (pss_one (ps_set (i := 5) nd rfl (.inl rfl) (pe_op op_add_str (pe_op op_add_str (pe_op op_add_str (pe_slice sl_str (pv 5) po_none (po_some (pv 7))) (pe_ix ix_str (pv 5) (pe_op op_add (pv 7) pe_int) (fun _ _ => rfl)))
                (pe_ix ix_str (pv 5) (pv 7) (fun _ _ => rfl))) (pe_slice sl_str (pv 5) (po_some (pe_op op_add (pv 7) pe_int)) po_none))))) pss_nil)))
        (pss_cons (ps_set (i := 8) nd rfl (.inl rfl) (pe_call GP hr2 (by rfl) T.gParts T.parts.kp bP .nil pass0 (pa_cons (pv 3) (pa_cons (pv 4) (pa_cons (pv 5) pa_nil)))))
        (pss_cons (ps_if (pt_not (pt_val (pe_call GS hr2 (by rfl) T.gSame T.same.kp bS .nil pass0 (pa_cons (pv 8) (pa_cons (pe_call GL hr2 (by rfl) T.gLParts T.lParts.kp bL .nil pass0 (pa_cons (pv 3) (pa_cons (pv 4) (pa_cons (pv 5) pa_nil)))) pa_nil)))))
          (pss_one (ps_ret pe_bl)) pss_nil)
        (pss_one (ps_if (pt_cmpR op_ne (pe_cmpR op_isN (pv 8) pe_non (nomark _)) (pe_cmpR op_in_seq (pv 5) (pe_call GC hr2 (by rfl) T.gClass T.class_.kp bC .nil pass0 (pa_cons (pv 3) (pa_cons (pv 4) pa_nil))) (by rfl)) (nomark _))
          (pss_one (ps_ret pe_bl)) pss_nil))))))))))
      (pss_one (ps_ret pe_bl))), ?_⟩
    refine ⟨.ref sc, rfl, sc, ns, rfl, hS, fun b dl H1 sm1 nb hB1 => ?_⟩
    have tab1 : GxR.TabG H1 Pt := let ⟨rows, t1, t2⟩ := tab; ⟨rows, sm1 _ _ t1, t2⟩
    refine ⟨5, rfl, by decide, by decide, for_range (lo := 0) (n := 5) (fun i σ H' => ∃ y2 y3 y4 y5 y6 y7 y8, σ = [some (.ref sc), some (.ref b), y2, y3, y4, y5, y6, y7, y8] ∧ Box K b dl H' ∧ GxR.TabG H' Pt)
      ⟨none, none, none, none, none, none, none, rfl, hB1, tab1⟩ (fun i σ H2 hi hW => ?_) (fun σ H2 hW => ?_)⟩
    · obtain ⟨y2, y3, y4, y5, y6, y7, y8, rfl, hB2, tab2⟩ := hW
      -- alphabet, word, other, kind
      refine ⟨.ref b, rfl, b, dl, 5, rfl, hB2, by decide, by decide, fun al n ps H3 n5 dr mv3 hB3 hA3 => ?_⟩
      have n6 : n ≤ 6 := by omega
      have l5 : (alph n).length = n := alph_len n6
      have pr := dr.pairs
      have tab3 : GxR.TabG H3 Pt := hB2.tabG mv3 tab2
      refine ⟨.ref b, rfl, .ref al, rfl, b, dl, al, 7, alph n, ps, rfl, hB3, hA3, by rw [l5]; exact dr.some, by rw [l5]; omega, by decide, by decide, fun a H4 la ia mv4 hB4 => ?_⟩
      have la7 : a.length ≤ 7 := by omega
      refine ⟨.ref b, rfl, .ref al, rfl, .str (tx a), rfl, b, dl, al, a, alph n, ps, rfl, hB4, hA3.mvB hB3 mv4, pr, by omega, fun o H5 ex mv5 hB5 => ?_⟩
      refine ⟨.ref b, rfl, b, dl, 4, rfl, hB5, by decide, fun kind H6 k0 k4 mv6 hB6 => ?_⟩
      have mv36 : Mv [b] H3 H6 := mv4.trans (mv5.trans mv6)
      have lo : o.length = a.length := ex.perm.length_eq.symm
      have io : ∀ c ∈ o, c ∈ alph n := fun c hc => ia c (ex.perm.mem_iff.mpr hc)
      refine ⟨fun σ' H' => ∃ (o : List Nat) (y7 : Option V), σ' = [some (.ref sc), some (.ref b), some (.int (0 + (i : Int))), some (.ref al), some (.str (tx a)), some (.str (tx o)), some (.int kind), y7, y8] ∧ o.length ≤ 7 ∧ (∀ c ∈ o, c ∈ alph n) ∧ Mv [b] H3 H' ∧ Box K b dl H', ?_, ?_⟩
      · refine ⟨.int kind, rfl, rfl, _, rfl, ?_⟩
        by_cases k1 : kind = 1
        · rw [decide_eq_true (show V.int kind = V.int 1 by rw [k1])]
          refine iteT ⟨.ref b, rfl, .ref al, rfl, b, dl, al, 7, alph n, ps, rfl, hB6, hA3.mvB hB3 mv36, by rw [l5]; exact dr.some, by rw [l5]; omega, by decide, by decide, fun o2 H7 lo2 io2 mv7 hB7 => ?_⟩
          exact ⟨o2, y7, rfl, by omega, io2, mv36.trans mv7, hB7⟩
        · rw [decide_eq_false (show ¬ V.int kind = V.int 1 from fun z => k1 (V.int.inj z))]
          refine iteF ⟨.int kind, rfl, rfl, _, rfl, ?_⟩
          by_cases k2 : kind = 2
          · rw [decide_eq_true (show V.int kind = V.int 2 by rw [k2])]
            have zla : (tx a).length ≤ sizeLine := by
              rw [tx_length]
              exact small_line (by omega)
            refine iteT ⟨.str (tx a), rfl, tx a, rfl, zla, ((tx a).length : Int), 1, rfl, rfl, _, rfl, ?_⟩
            rw [tx_length]
            by_cases big : (1 : Int) < (a.length : Int)
            · rw [decide_eq_true big]
              refine iteT ⟨.ref b, rfl, .str (tx a), rfl, tx a, rfl, zla, ((tx a).length : Int), 1, rfl, rfl, b, dl, ((tx a).length : Int) - 1, rfl, hB6, by rw [tx_length]; omega, fun k H7 kz kl mv7 hB7 => ?_⟩
              rw [tx_length] at kl
              obtain ⟨j, rfl⟩ : ∃ j : Nat, k = (j : Int) := ⟨k.toNat, by omega⟩
              have h1 : j < o.length := by omega
              have h2 : j + 1 < o.length := by omega
              have g1 : o[j]? = some o[j] := List.getElem?_eq_getElem h1
              have g2 : o[j + 1]? = some o[j + 1] := List.getElem?_eq_getElem h2
              have zl : (tx o).length ≤ sizeLine := by
                rw [tx_length]
                exact small_line (by omega)
              have a2 : atI (tx o).cps.toList ((j : Int) + 1) = some o[j + 1] := at_eq (by omega) g2
              refine ⟨.str (tx o), rfl, .int j, rfl, (j : Int), rfl, tx o, rfl, zl, .str (tx o), rfl, .int j, rfl, (j : Int), 1, rfl, rfl, tx o, (j : Int) + 1, o[j + 1], rfl, rfl, zl, a2, ?_⟩
              rw [cut_to]
              have t1 : (o.take j).length ≤ 7 := by
                rw [List.length_take]
                omega
              refine ⟨tx (o.take j), tx [o[j + 1]], rfl, rfl, small_line (by rw [tx_length, tx_length]; simp at *; omega), .str (tx o), rfl, .int j, rfl, tx o, (j : Int), o[j], rfl, rfl, zl, atI_nat g1, ?_⟩
              rw [tx_append]
              refine ⟨tx (o.take j ++ [o[j + 1]]), tx [o[j]], rfl, rfl, small_line (by rw [tx_length, tx_length]; simp at *; omega), .str (tx o), rfl, .int j, rfl, (j : Int), 2, rfl, rfl, ((j + 2 : Nat) : Int), rfl, tx o, rfl, zl, ?_⟩
              rw [tx_append, cut_from]
              have t2 : (o.drop (j + 2)).length ≤ 7 := by
                rw [List.length_drop]
                omega
              refine ⟨tx (o.take j ++ [o[j + 1]] ++ [o[j]]), tx (o.drop (j + 2)), rfl, rfl, small_line (by rw [tx_length, tx_length]; simp at *; omega), ?_⟩
              rw [tx_append]
              refine ⟨o.take j ++ [o[j + 1]] ++ [o[j]] ++ o.drop (j + 2), some (.int j), rfl, ?_, fun c hc => ?_, mv36.trans mv7, hB7⟩
              · simp only [List.length_append, List.length_take, List.length_drop, List.length_cons, List.length_nil]
                omega
              · rcases List.mem_append.mp hc with hc | hc
                · rcases List.mem_append.mp hc with hc | hc
                  · rcases List.mem_append.mp hc with hc | hc
                    · exact io c (List.mem_of_mem_take hc)
                    · rw [List.mem_singleton.mp hc]
                      exact io _ (List.getElem_mem h2)
                  · rw [List.mem_singleton.mp hc]
                    exact io _ (List.getElem_mem h1)
                · exact io c (List.mem_of_mem_drop hc)
            · rw [decide_eq_false big]
              exact iteF ⟨o, y7, rfl, by omega, io, mv36, hB6⟩
          · rw [decide_eq_false (show ¬ V.int kind = V.int 2 from fun z => k2 (V.int.inj z))]
            exact iteF (iteF ⟨o, y7, rfl, by omega, io, mv36, hB6⟩)
      · rintro σ' H7 ⟨o, y7, rfl, lo, io, mv7, hB7⟩
        -- what parts them
        have tab7 : GxR.TabG H7 Pt := hB3.tabG mv7 tab3
        have hA7 : Alpha K H7 al (alph n) ps := hA3.mvB hB3 mv7
        refine ⟨.ref al, rfl, .str (tx a), rfl, .str (tx o), rfl, al, a, o, alph n, ps, rfl, hA7, tab7, by rw [l5]; omega, by omega, by omega, fun v H8 mv8 tab8 hv => ?_⟩
        have hA8 : Alpha K H8 al (alph n) ps := hA7.mvT tab7 mv8
        have hB8 : Box K b dl H8 := hB7.mvT mv8 tab7
        refine ⟨v, rfl, .ref al, rfl, .str (tx a), rfl, .str (tx o), rfl, al, a, o, alph n, ps, rfl, hA8, pr, by rw [l5]; omega, by omega, by omega, fun u H9 sm9 hu => ?_⟩
        refine ⟨v, u, rfl, paper_same (paper_keep hv sm9) hu, true, rfl, iteF ?_⟩
        -- and whether exchanges lead there
        refine ⟨v, rfl, rfl, .str (tx o), rfl, .ref al, rfl, .str (tx a), rfl, al, a, alph n, ps, rfl, hA8.same sm9, pr, by rw [l5]; omega, la7, ia, fun p G H10 sm10 hp hG => ?_⟩
        refine ⟨p, _, rfl, .inl (SqL.of hp), rfl, txs_flat G, rfl, _, rfl, ?_⟩
        have e1 : decide (v = .non) = decide (o ∈ G) := by
          rw [paper_none hv, Bool.eq_iff_iff, Option.isNone_iff_eq_none, partsM_none pr ia io, decide_eq_true_eq, hG]
        show if (!decide (V.bl (decide (v = .non)) = V.bl (inV (.str (tx o)) (txs G)))) = true then _ else _
        rw [inV_txs, e1, decide_eq_true rfl]
        have sm8 := sm9.trans sm10
        refine iteF ⟨_, _, _, _, _, _, _, rfl, hB8.same sm8, ?_⟩
        obtain ⟨rows, t1, t2⟩ := tab8
        exact ⟨rows, sm8 _ _ t1, t2⟩
    · obtain ⟨y2, y3, y4, y5, y6, y7, y8, rfl, _, _⟩ := hW
      exact q _
end
end Tc
/-! The end: where each def stands. -/
namespace Tc
open PySem PySem.Spec PyProof.Rows L2 TcG
open LamX in
theorem all_mk {l : PySem.W.OpenLaw} {w : World} {K : PySem.W.Frag} {h : Heap} {mg : Str → Option Value} {fa : Addr} (X : K.In h) (G : h.Ns mainGlobals mg) (hfa : mg "law" = some (.ref fa))
    {f0 : Addr} {od0 an0 : Option Addr} {sl0 : Array (Option Value)} {oc0 kV0 dc0 pm0 cd0 ct0 : Value}
    {f1 : Addr} {od1 an1 : Option Addr} {sl1 : Array (Option Value)} {oc1 kV1 dc1 pm1 cd1 ct1 : Value}
    {f2 : Addr} {od2 an2 : Option Addr} {sl2 : Array (Option Value)} {oc2 kV2 dc2 pm2 cd2 ct2 : Value}
    {f3 : Addr} {od3 an3 : Option Addr} {sl3 : Array (Option Value)} {oc3 kV3 dc3 pm3 cd3 ct3 : Value}
    {f4 : Addr} {od4 an4 : Option Addr} {sl4 : Array (Option Value)} {oc4 kV4 dc4 pm4 cd4 ct4 : Value}
    {f5 : Addr} {od5 an5 : Option Addr} {sl5 : Array (Option Value)} {oc5 kV5 dc5 pm5 cd5 ct5 : Value}
    {f6 : Addr} {od6 an6 : Option Addr} {sl6 : Array (Option Value)} {oc6 kV6 dc6 pm6 cd6 ct6 : Value}
    {f7 : Addr} {od7 an7 : Option Addr} {sl7 : Array (Option Value)} {oc7 kV7 dc7 pm7 cd7 ct7 : Value}
    {f8 : Addr} {od8 an8 : Option Addr} {sl8 : Array (Option Value)} {oc8 kV8 dc8 pm8 cd8 ct8 : Value}
    {f9 : Addr} {od9 an9 : Option Addr} {sl9 : Array (Option Value)} {oc9 kV9 dc9 pm9 cd9 ct9 : Value}
    {f10 : Addr} {od10 an10 : Option Addr} {sl10 : Array (Option Value)} {oc10 kV10 dc10 pm10 cd10 ct10 : Value}
    {f11 : Addr} {od11 an11 : Option Addr} {sl11 : Array (Option Value)} {oc11 kV11 dc11 pm11 cd11 ct11 : Value}
    {f12 : Addr} {od12 an12 : Option Addr} {sl12 : Array (Option Value)} {oc12 kV12 dc12 pm12 cd12 ct12 : Value}
    {f13 : Addr} {od13 an13 : Option Addr} {sl13 : Array (Option Value)} {oc13 kV13 dc13 pm13 cd13 ct13 : Value}
    {f14 : Addr} {od14 an14 : Option Addr} {sl14 : Array (Option Value)} {oc14 kV14 dc14 pm14 cd14 ct14 : Value}
    {f15 : Addr} {od15 an15 : Option Addr} {sl15 : Array (Option Value)} {oc15 kV15 dc15 pm15 cd15 ct15 : Value}
    {F0 C0 P0 : Addr} {OD0 AN0 DD0 : Option Addr} {SL0 TL0 : Array (Option Value)} {OC0 KV0 DC0 PM0 CT0 E0 : Value} {VS0 : Array Value}
    (a0 : PySem.W.nsIn K mainGlobals "_law_cell" = some (some (.ref f0))) (l0 : K.lookup f0 = some ⟨oc0, od0, .func (PySem.W.fnOf "_law_cell" "_law_cell" (defArgs s_law_cell) (defBody s_law_cell) (defScope s_law_cell) .none kV0 dc0 pm0 an0 cd0 ct0), sl0⟩) (c0 : PySem.W.codeIn K cd0 "_law_cell" = true) (k0 : PySem.W.keepIn K (.ref f0) = true)
    (a1 : PySem.W.nsIn K mainGlobals "_law_digits" = some (some (.ref f1))) (l1 : K.lookup f1 = some ⟨oc1, od1, .func (PySem.W.fnOf "_law_digits" "_law_digits" (defArgs s_law_digits) (defBody s_law_digits) (defScope s_law_digits) .none kV1 dc1 pm1 an1 cd1 ct1), sl1⟩) (c1 : PySem.W.codeIn K cd1 "_law_digits" = true) (k1 : PySem.W.keepIn K (.ref f1) = true)
    (a2 : PySem.W.nsIn K mainGlobals "_law_box" = some (some (.ref f2))) (l2 : K.lookup f2 = some ⟨oc2, od2, .func (PySem.W.fnOf "_law_box" "_law_box" (defArgs s_law_box) (defBody s_law_box) (defScope s_law_box) .none kV2 dc2 pm2 an2 cd2 ct2), sl2⟩) (c2 : PySem.W.codeIn K cd2 "_law_box" = true) (k2 : PySem.W.keepIn K (.ref f2) = true)
    (a3 : PySem.W.nsIn K mainGlobals "_law_draw" = some (some (.ref f3))) (l3 : K.lookup f3 = some ⟨oc3, od3, .func (PySem.W.fnOf "_law_draw" "_law_draw" (defArgs s_law_draw) (defBody s_law_draw) (defScope s_law_draw) .none kV3 dc3 pm3 an3 cd3 ct3), sl3⟩) (c3 : PySem.W.codeIn K cd3 "_law_draw" = true) (k3 : PySem.W.keepIn K (.ref f3) = true)
    (a4 : PySem.W.nsIn K mainGlobals "_law_alphabet" = some (some (.ref f4))) (l4 : K.lookup f4 = some ⟨oc4, od4, .func (PySem.W.fnOf "_law_alphabet" "_law_alphabet" (defArgs s_law_alphabet) (defBody s_law_alphabet) (defScope s_law_alphabet) .none kV4 dc4 pm4 an4 cd4 ct4), sl4⟩) (c4 : PySem.W.codeIn K cd4 "_law_alphabet" = true) (k4 : PySem.W.keepIn K (.ref f4) = true)
    (a5 : PySem.W.nsIn K mainGlobals "_law_word" = some (some (.ref f5))) (l5 : K.lookup f5 = some ⟨oc5, od5, .func (PySem.W.fnOf "_law_word" "_law_word" (defArgs s_law_word) (defBody s_law_word) (defScope s_law_word) .none kV5 dc5 pm5 an5 cd5 ct5), sl5⟩) (c5 : PySem.W.codeIn K cd5 "_law_word" = true) (k5 : PySem.W.keepIn K (.ref f5) = true)
    (a6 : PySem.W.nsIn K mainGlobals "_law_free" = some (some (.ref f6))) (l6 : K.lookup f6 = some ⟨oc6, od6, .func (PySem.W.fnOf "_law_free" "_law_free" (defArgs s_law_free) (defBody s_law_free) (defScope s_law_free) .none kV6 dc6 pm6 an6 cd6 ct6), sl6⟩) (c6 : PySem.W.codeIn K cd6 "_law_free" = true) (k6 : PySem.W.keepIn K (.ref f6) = true)
    (a7 : PySem.W.nsIn K mainGlobals "_law_mixed" = some (some (.ref f7))) (l7 : K.lookup f7 = some ⟨oc7, od7, .func (PySem.W.fnOf "_law_mixed" "_law_mixed" (defArgs s_law_mixed) (defBody s_law_mixed) (defScope s_law_mixed) .none kV7 dc7 pm7 an7 cd7 ct7), sl7⟩) (c7 : PySem.W.codeIn K cd7 "_law_mixed" = true) (k7 : PySem.W.keepIn K (.ref f7) = true)
    (a8 : PySem.W.nsIn K mainGlobals "_law_same" = some (some (.ref f8))) (l8 : K.lookup f8 = some ⟨oc8, od8, .func (PySem.W.fnOf "_law_same" "_law_same" (defArgs s_law_same) (defBody s_law_same) (defScope s_law_same) .none kV8 dc8 pm8 an8 cd8 ct8), sl8⟩) (c8 : PySem.W.codeIn K cd8 "_law_same" = true) (k8 : PySem.W.keepIn K (.ref f8) = true)
    (a9 : PySem.W.nsIn K mainGlobals "_law_only" = some (some (.ref f9))) (l9 : K.lookup f9 = some ⟨oc9, od9, .func (PySem.W.fnOf "_law_only" "_law_only" (defArgs s_law_only) (defBody s_law_only) (defScope s_law_only) .none kV9 dc9 pm9 an9 cd9 ct9), sl9⟩) (c9 : PySem.W.codeIn K cd9 "_law_only" = true) (k9 : PySem.W.keepIn K (.ref f9) = true)
    (a10 : PySem.W.nsIn K mainGlobals "_law_parts" = some (some (.ref f10))) (l10 : K.lookup f10 = some ⟨oc10, od10, .func (PySem.W.fnOf "_law_parts" "_law_parts" (defArgs s_law_parts) (defBody s_law_parts) (defScope s_law_parts) .none kV10 dc10 pm10 an10 cd10 ct10), sl10⟩) (c10 : PySem.W.codeIn K cd10 "_law_parts" = true) (k10 : PySem.W.keepIn K (.ref f10) = true)
    (a11 : PySem.W.nsIn K mainGlobals "_law_class" = some (some (.ref f11))) (l11 : K.lookup f11 = some ⟨oc11, od11, .func (PySem.W.fnOf "_law_class" "_law_class" (defArgs s_law_class) (defBody s_law_class) (defScope s_law_class) .none kV11 dc11 pm11 an11 cd11 ct11), sl11⟩) (c11 : PySem.W.codeIn K cd11 "_law_class" = true) (k11 : PySem.W.keepIn K (.ref f11) = true)
    (a12 : PySem.W.nsIn K mainGlobals "letter_pairs" = some (some (.ref f12))) (l12 : K.lookup f12 = some ⟨oc12, od12, .func (PySem.W.fnOf "letter_pairs" "letter_pairs" (defArgs s_letter_pairs) (defBody s_letter_pairs) (defScope s_letter_pairs) .none kV12 dc12 pm12 an12 cd12 ct12), sl12⟩) (c12 : PySem.W.codeIn K cd12 "letter_pairs" = true) (k12 : PySem.W.keepIn K (.ref f12) = true)
    (a13 : PySem.W.nsIn K mainGlobals "independent" = some (some (.ref f13))) (l13 : K.lookup f13 = some ⟨oc13, od13, .func (PySem.W.fnOf "independent" "independent" (defArgs s_independent) (defBody s_independent) (defScope s_independent) .none kV13 dc13 pm13 an13 cd13 ct13), sl13⟩) (c13 : PySem.W.codeIn K cd13 "independent" = true) (k13 : PySem.W.keepIn K (.ref f13) = true)
    (a14 : PySem.W.nsIn K mainGlobals "parts" = some (some (.ref f14))) (l14 : K.lookup f14 = some ⟨oc14, od14, .func (PySem.W.fnOf "parts" "parts" (defArgs s_parts) (defBody s_parts) (defScope s_parts) .none kV14 dc14 pm14 an14 cd14 ct14), sl14⟩) (c14 : PySem.W.codeIn K cd14 "parts" = true) (k14 : PySem.W.keepIn K (.ref f14) = true)
    (a15 : PySem.W.nsIn K mainGlobals "law" = some (some (.ref f15))) (l15 : K.lookup f15 = some ⟨oc15, od15, .func (PySem.W.fnOf "law" "law" (defArgs s_law) (defBody s_law) (defScope s_law) .none kV15 dc15 pm15 an15 cd15 ct15), sl15⟩) (c15 : PySem.W.codeIn K cd15 "law" = true) (k15 : PySem.W.keepIn K (.ref f15) = true)
    (A0 : PySem.W.nsIn K mainGlobals "taken_out" = some (some (.ref F0))) (L0 : K.lookup F0 = some ⟨OC0, OD0, .func (PySem.W.fnOf "taken_out" "taken_out" (defArgs s_taken_out) (defBody s_taken_out) (defScope s_taken_out) .none KV0 DC0 PM0 AN0 (.ref C0) CT0), SL0⟩) (I0 : PySem.W.codeIn K (.ref C0) "taken_out" = true) (G0 : PySem.W.keepIn K (.ref F0) = true)
    (R0 : K.lookup C0 = some ⟨E0, DD0, .fields VS0, TL0⟩) (Q0 : VS0[11]? = some (.ref P0)) (N0 : K.lookup P0 = none) (Y0 : TabOf mg h "taken_out")
    (z0 : PySem.W.nsIn K mainGlobals "len" = some none)
    (z1 : PySem.W.nsIn K mainGlobals "range" = some none)
    (z2 : PySem.W.nsIn K mainGlobals "int" = some none)
    (z3 : PySem.W.nsIn K mainGlobals "min" = some none)
    (z4 : PySem.W.nsIn K mainGlobals "max" = some none)
    (z5 : PySem.W.nsIn K mainGlobals "sorted" = some none)
    (z6 : PySem.W.nsIn K mainGlobals "tuple" = some none)
    (z7 : PySem.W.nsIn K mainGlobals "bool" = some none)
    (z8 : PySem.W.nsIn K mainGlobals "str" = some none)
    (z9 : PySem.W.nsIn K mainGlobals "isinstance" = some none)
    : LawAtS l w K CX0 4 63 "script" mg fa h := by
  have e := hfa.symm.trans (PySem.W.mg_of X G a15)
  cases e
  have F100 := fun_mk (st := s_law_cell) l0 c0 k0
  have F101 := fun_mk (st := s_law_digits) l1 c1 k1
  have F102 := fun_mk (st := s_law_box) l2 c2 k2
  have F103 := fun_mk (st := s_law_draw) l3 c3 k3
  have F104 := fun_mk (st := s_law_alphabet) l4 c4 k4
  have F105 := fun_mk (st := s_law_word) l5 c5 k5
  have F106 := fun_mk (st := s_law_free) l6 c6 k6
  have F107 := fun_mk (st := s_law_mixed) l7 c7 k7
  have F108 := fun_mk (st := s_law_same) l8 c8 k8
  have F109 := fun_mk (st := s_law_only) l9 c9 k9
  have F110 := fun_mk (st := s_law_parts) l10 c10 k10
  have F111 := fun_mk (st := s_law_class) l11 c11 k11
  have F112 := fun_mk (st := s_letter_pairs) l12 c12 k12
  have F113 := fun_mk (st := s_independent) l13 c13 k13
  have F114 := fun_mk (st := s_parts) l14 c14 k14
  have F115 := fun_mk (st := s_law) l15 c15 k15
  have T0 := tab_at X Y0 (PySem.W.mg_of X G A0) L0 rfl R0 Q0
  have D0 := func_mk (st := s_taken_out) L0 I0 G0
  refine ⟨PySem.W.fnOf "law" "law" (defArgs s_law) (defBody s_law) (defScope s_law) .none kV15 dc15 pm15 an15 cd15 ct15, [(C0, P0)], sp_law K P0, ?_, ?_, ?_, fun s u => .of_eq rfl, ?_, ?_⟩
  · intro p hp
    rw [List.mem_singleton.mp hp]
    exact T0.2
  · intro p hp
    rw [List.mem_singleton.mp hp]
    exact N0
  · intro p hp
    rw [List.mem_singleton.mp hp]
    exact T0.1
  · intro H a ns hl _ hT hS
    exact ⟨a, ns, rfl, hS, ⟨#[], hT (C0, P0) (by simp), trivial⟩, fun _ => rfl⟩
  · intro base _ _ TB
    have z100 := TB (C0, P0) (by simp)
    have B0 : GxR.TabB base mg C0 P0 := ⟨z100.code, z100.bm, z100.gP⟩
    exact ok_law F115 {
      fCell := f0
      dCell := _
      cell := F100
      gCell := PySem.W.mg_of X G a0
      fDigits := f1
      dDigits := _
      digits := F101
      gDigits := PySem.W.mg_of X G a1
      fBox := f2
      dBox := _
      box := F102
      gBox := PySem.W.mg_of X G a2
      fDraw := f3
      dDraw := _
      draw := F103
      gDraw := PySem.W.mg_of X G a3
      fAlpha := f4
      dAlpha := _
      alpha := F104
      gAlpha := PySem.W.mg_of X G a4
      fWord := f5
      dWord := _
      word := F105
      gWord := PySem.W.mg_of X G a5
      fFree := f6
      dFree := _
      free := F106
      gFree := PySem.W.mg_of X G a6
      fMixed := f7
      dMixed := _
      mixed := F107
      gMixed := PySem.W.mg_of X G a7
      fSame := f8
      dSame := _
      same := F108
      gSame := PySem.W.mg_of X G a8
      fOnly := f9
      dOnly := _
      only := F109
      gOnly := PySem.W.mg_of X G a9
      fLParts := f10
      dLParts := _
      lParts := F110
      gLParts := PySem.W.mg_of X G a10
      fClass := f11
      dClass := _
      class_ := F111
      gClass := PySem.W.mg_of X G a11
      fPairs := f12
      dPairs := _
      pairs := F112
      gPairs := PySem.W.mg_of X G a12
      fInd := f13
      dInd := _
      ind := F113
      gInd := PySem.W.mg_of X G a13
      fParts := f14
      dParts := _
      parts := F114
      gParts := PySem.W.mg_of X G a14
      fTaken := F0
      dTaken := _
      cTaken := C0
      taken := D0
      gTaken := PySem.W.mg_of X G A0
      tTaken := B0
      mlen := PySem.W.mg_none_of X G z0
      mrange := PySem.W.mg_none_of X G z1
      mint := PySem.W.mg_none_of X G z2
      mmin := PySem.W.mg_none_of X G z3
      mmax := PySem.W.mg_none_of X G z4
      msorted := PySem.W.mg_none_of X G z5
      mtuple := PySem.W.mg_none_of X G z6
      mbool := PySem.W.mg_none_of X G z7
      mstr := PySem.W.mg_none_of X G z8
      misi := PySem.W.mg_none_of X G z9 }
end Tc
open PySem PySem.W PyProof.Rows
set_option maxRecDepth 100000 in
set_option maxHeartbeats 0 in
theorem PySem.Challenge.cw_traceclasses_k01_what_parts_words_holds : PySem.Challenge.rw_traceclasses_k01_what_parts_words.Holds := by
  w_on; o_law; k_head; (case hw => w_witness2)
  k_fill
  refine TcG.walk_ofMany (l := PySem.Challenge.rw_traceclasses_k01_what_parts_words) (n := 63) (k := 4) (x := "script") (CX := fun _ => L2.CX0) rfl (by decide) rfl ⟨rfl, by decide, by decide⟩ (fun w h Y => PySem.W.kIn_of Y) ?F (fun _ _ _ _ _ h => h)
  case F =>
    intro w mg fa h KX G hmg tabs
    refine' Tc.all_mk KX G hmg ?a0 ?l0 ?c0 ?k0 ?a1 ?l1 ?c1 ?k1 ?a2 ?l2 ?c2 ?k2 ?a3 ?l3 ?c3 ?k3 ?a4 ?l4 ?c4 ?k4 ?a5 ?l5 ?c5 ?k5 ?a6 ?l6 ?c6 ?k6 ?a7 ?l7 ?c7 ?k7 ?a8 ?l8 ?c8 ?k8 ?a9 ?l9 ?c9 ?k9 ?a10 ?l10 ?c10 ?k10 ?a11 ?l11 ?c11 ?k11 ?a12 ?l12 ?c12 ?k12 ?a13 ?l13 ?c13 ?k13 ?a14 ?l14 ?c14 ?k14 ?a15 ?l15 ?c15 ?k15 ?A0 ?L0 ?I0 ?G0 ?R0 ?Q0 ?N0 ?Y0 ?z0 ?z1 ?z2 ?z3 ?z4 ?z5 ?z6 ?z7 ?z8 ?z9
    (case a0 => k_is); (case l0 => k_is); (case c0 => k_is); (case k0 => k_is); (case a1 => k_is); (case l1 => k_is); (case c1 => k_is); (case k1 => k_is); (case a2 => k_is); (case l2 => k_is); (case c2 => k_is); (case k2 => k_is); (case a3 => k_is); (case l3 => k_is); (case c3 => k_is); (case k3 => k_is); (case a4 => k_is); (case l4 => k_is); (case c4 => k_is); (case k4 => k_is); (case a5 => k_is); (case l5 => k_is); (case c5 => k_is); (case k5 => k_is); (case a6 => k_is); (case l6 => k_is); (case c6 => k_is); (case k6 => k_is); (case a7 => k_is); (case l7 => k_is); (case c7 => k_is); (case k7 => k_is); (case a8 => k_is); (case l8 => k_is); (case c8 => k_is); (case k8 => k_is); (case a9 => k_is); (case l9 => k_is); (case c9 => k_is); (case k9 => k_is); (case a10 => k_is); (case l10 => k_is); (case c10 => k_is); (case k10 => k_is); (case a11 => k_is); (case l11 => k_is); (case c11 => k_is); (case k11 => k_is); (case a12 => k_is); (case l12 => k_is); (case c12 => k_is); (case k12 => k_is); (case a13 => k_is); (case l13 => k_is); (case c13 => k_is); (case k13 => k_is); (case a14 => k_is); (case l14 => k_is); (case c14 => k_is); (case k14 => k_is); (case a15 => k_is); (case l15 => k_is); (case c15 => k_is); (case k15 => k_is)
    (case A0 => k_is); (case L0 => k_is); (case I0 => k_is); (case G0 => k_is); (case R0 => k_is)
    (case Q0 => rfl); (case N0 => first | rfl | decide +kernel); (case Y0 => exact tabs _ (by decide +kernel))
    (case z0 => k_is); (case z1 => k_is); (case z2 => k_is); (case z3 => k_is); (case z4 => k_is); (case z5 => k_is); (case z6 => k_is); (case z7 => k_is); (case z8 => k_is); (case z9 => k_is)
