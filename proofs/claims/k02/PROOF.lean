import PyProof.Rows.All
import Wide.All
import OpenK.AllK
import Wide.FinOn
import PyProof.EqAt
import PyProof.EqKinds
import PyProof.TupleCall
import PyProof.JoinWalk
import HandS.Base
import HandS.Call
import HandS.List
import HandS.Comp
import HandS.Text
import HandS.AnyAll
import PyProof.WalkInts
import HandS.ForMost
import HandS.EndTab
import HandS.EndOwn
import HandS.Codes
import HandS.IsInst
import KE.KExcSuper
import HandS.ExcInit
import HandS.FStr
import HandS.Nested
import KE.KExcIs
import HandS.Exc
import HandS.ExcOwn
import HandS.ExcCtx
import HandS.HotCalls
import HandS.ExcInitHot
import HandS.ExcIs
import HandS.ExcField
import HandS.CallSlots
import HandS.WordsExc
import KE.GoesEnum
import HandS.Iter
import HandS.StrMore
import PyProof.ListStr
import HandS.Words
import HandS.TupAny
import PySem.Challenge.RW_traceclasses_k02_words_are_exchanged
set_option Elab.async false
set_option linter.all false
set_option maxRecDepth 100000
set_option maxHeartbeats 4000000
/-! Generator expressions over a text, with tests, that read names of the def around them. -/
namespace TcG
open PySem PySem.Spec PyProof.Rows L2

/-- the state in which a step of the generator runs keeps what stood when it was made, the code table aside -/
def Kept (P : Addr) (s1 s2 : Shared) : Prop := ∀ b o, b ≠ P → s1.heap.get? b = some o → s2.heap.get? b = some o

/-- the run of the tests of one clause -/
abbrev testsRun (ifs : List Expr) (cenv : Env) : Sem Bool :=
  forIn ifs true fun c r => if r = true then do let ok ← isTrue c cenv (eval c cenv); pure (ForInStep.yield ok) else pure (ForInStep.yield r)

/-- what the steps of a generator over the signs of a text do -/
structure Steps (X : Cx) (pins : List (Addr × Obj)) (σ : L2.St) (scope : Scope) (x : Str) (ifs : List Expr) (elt : Expr) (P : Addr) (a : Str) (pz : Nat → Bool) (F : Nat → Value → Prop) (s1 : Shared) : Prop where
  tests : ∀ (C : Addr) (code : Value) (bi : Addr) (A' : Around) E' (c : Nat) (t : Tok) (s2 : Shared) (m2 : Str → Option Value), A'.handled = none → c ∈ a.cps.toList → s2.heap.Ns C m2 → m2 x = some (.str ⟨#[c]⟩ t) → Kept P s1 s2 →
    wpAny (model X.prog X.w) A' (testsRun ifs (genEnv scope (cloFrom X.env.cells scope.names []) C code bi X.env)) (fun ok s3 => ok = pz c ∧ Keeps s2 s3) E' s2
  elt : ∀ (C : Addr) (code : Value) (bi : Addr) (A' : Around) E' (c : Nat) (t : Tok) (s2 : Shared) (m2 : Str → Option Value), A'.handled = none → c ∈ a.cps.toList → pz c = true → s2.heap.Ns C m2 → m2 x = some (.str ⟨#[c]⟩ t) → Kept P s1 s2 →
    wpAny (model X.prog X.w) A' (eval elt (genEnv scope (cloFrom X.env.cells scope.names []) C code bi X.env)) (fun y s3 => F c y ∧ Keeps s2 s3) E' s2

/-- the generator g, ready to be walked in s5: over the signs of a that pass -/
def ReadyT (X : Cx) (pins : List (Addr × Obj)) (σ : L2.St) (H1 : Hp) (P : Addr) (a : Str) (pz : Nat → Bool) (F : Nat → Value → Prop) (g : Addr) (s5 : Shared) : Prop :=
  ∃ (fp wr : List Addr) (G : Array GenState → Array GenState → Prop) (Fv : Nat → Value → Prop) (St : Nat → Shared → Prop),
    WalksS X.prog X.w X.A.in1.in1 g fp wr G (a.cps.toList.filter pz).length Fv St ∧ WalksS X.prog X.w X.A.in1 g fp wr G (a.cps.toList.filter pz).length Fv St ∧ St 0 s5 ∧ (∀ b ∈ fp, b < s5.heap.objs.size) ∧ g ∈ fp ∧
    (∀ i s9, St i s9 → s9.TypeIs (.ref g) "generator") ∧
    (∀ j v, Fv j v → ∃ c, (a.cps.toList.filter pz)[j]? = some c ∧ F c v) ∧
    ∀ s', Moved wr G s5 s' → ∃ H2, GxR.Tabbed P H1 H2 ∧ Inv X pins σ H2 s'

/-- the passing places of a list are the places of its filter -/
theorem passing_filter (pz : Nat → Bool) : ∀ (l : List Nat), ((List.range l.length).filter (fun i => (l[i]?.map pz).getD false)).map (fun i => l.getD i 0) = l.filter pz := by
  intro l
  have key : ∀ (r p : List Nat), ((List.range' p.length r.length).filter (fun i => ((p ++ r)[i]?.map pz).getD false)).map (fun i => (p ++ r).getD i 0) = r.filter pz := by
    intro r
    induction r with
    | nil => intro p; rfl
    | cons x r ih =>
      intro p
      have e0 : (p ++ x :: r)[p.length]? = some x := by simp
      have e1 : (p ++ x :: r).getD p.length 0 = x := by simp
      have ih2 := ih (p ++ [x])
      have ea : p ++ [x] ++ r = p ++ x :: r := by simp
      have el : (p ++ [x]).length = p.length + 1 := by simp
      rw [ea, el] at ih2
      rw [List.length_cons, List.range'_succ, List.filter_cons, List.filter_cons, e0]
      show List.map _ (if (pz x) = true then _ else _) = _
      by_cases h : pz x = true
      · rw [if_pos h, if_pos h, List.map_cons, e1, ih2]
      · rw [if_neg h, if_neg h, ih2]
  have := key l []
  rw [List.range_eq_range']
  simpa using this

theorem passing_of {pz : Nat → Bool} {l : List Nat} {j i : Nat} (h : (passing (fun i => (l[i]?.map pz).getD false) l.length 0)[j]? = some i) : ∃ c, l[i]? = some c ∧ (l.filter pz)[j]? = some c := by
  unfold passing at h
  rw [List.drop_zero] at h
  have hf := passing_filter pz l
  have hj : (l.filter pz)[j]? = some (l.getD i 0) := by
    rw [← hf, List.getElem?_map, h]
    rfl
  have hm : i ∈ List.range l.length := (List.mem_filter.mp (List.mem_of_getElem? h)).1
  have hi := List.mem_range.mp hm
  refine ⟨l[i], List.getElem?_eq_getElem hi, ?_⟩
  rw [hj]
  simp [List.getD, hi]
theorem passing_length (pz : Nat → Bool) (l : List Nat) : (passing (fun i => (l[i]?.map pz).getD false) l.length 0).length = (l.filter pz).length := by
  unfold passing
  rw [List.drop_zero, ← passing_filter pz l, List.length_map]

section
variable {X : Cx} {pins : List (Addr × Obj)} {σ : L2.St} {H : Hp} {s : Shared}

theorem gen_text {c P : Addr} {elt iter : Expr} {ifs : List Expr} {x : Str} {px gpos : Pos} {scope : Scope} {pz : Str → Nat → Bool} {F : Str → Nat → Value → Prop} {te : TE} {k : Nat} {Q' : Value → Shared → Prop} {R : Str → Hp → Prop}
    (room : Room k X.A) (TB : GxR.TabB X.base X.mg c P) (codeAt : X.env.code = .ref c) (S : GxR.GenS X.env scope x) (hi : PE X iter te)
    (plain : ∀ v, genFold iter X.env v = pure v) (I : Inv X pins σ H s) (h : te σ H fun v H1 => ∃ a : Str, v = .str a ∧ GxR.TabG H1 P ∧ R a H1)
    (hel : ∀ a H1 s1, Inv X pins σ H1 s1 → GxR.TabG H1 P → R a H1 → Steps X pins σ scope x ifs elt P a (pz a) (F a) s1)
    (goal : ∀ a H1 g s5, R a H1 → ReadyT X pins σ H1 P a (pz a) (F a) g s5 → Q' (.ref g) s5) :
    wpAny (model X.prog X.w) X.A (eval (.GeneratorExp elt [⟨.Name x px, iter, ifs, 0⟩] scope gpos) X.env) Q' X.xe s := by
  refine wpAny_GeneratorExp_walksQ room.hd S.co (closure_ok S.free) S.cell S.dot S.loc S.kind
    (by have := room.dp; omega) ?_ plain
  refine thn (hi.run pins s σ H _ I h) fun xv s1 ⟨v, H1, I1, r1, q1⟩ => ?_
  obtain ⟨a, rfl, ⟨ps, tabAt, tri⟩, q1⟩ := q1
  obtain ⟨tk0, rfl⟩ := _root_.id r1
  refine wpAny_pyIter_str fun o St W hst => ?_
  have hel := hel a H1 s1 I1 ⟨ps, tabAt, tri⟩ q1
  have tab1 : s1.heap.get? P = some { cls := .none, data := .fields ps } := I1.hok P _ tabAt
  have tabLt : P < s1.heap.objs.size := Heap.lt_size tab1
  have tab2 : (s1.heap.push o).get? P = some { cls := .none, data := .fields ps } := Heap.get?_push_of_some _ tab1
  have cd : PySem.W.CodeHd (s1.heap.push o) c P := TB.code.keeps fun b u e => Heap.get?_push_of_some _ (I1.bk b u e)
  have lim2 : (s1.heap.push o).NoLimit := I1.nolimit.push o
  have cont : ∀ (code : Value) (h3 : Heap) (tk : Nat) (ps' : Array Value), Heap.ExtBut P (s1.heap.push o) h3 → (s1.heap.push o).objs.size ≤ h3.objs.size → h3.get? P = some { cls := .none, data := .fields ps' } →
      (∃ more, ps' = ps ++ more) → TriplesOk ps'.toList →
      wpAny (model X.prog X.w) X.A (builtinsFor X.env.globals X.env.builtins) (fun bi s4 =>
        ∃ J fp wr n0 Pf St0 pz F, Value.ref s1.heap.objs.size = .ref J ∧ (∀ A' : Around, A'.handled = none → Walks X.prog X.w A' J fp wr n0 Pf St0) ∧ St0 0 s4.heap ∧ (∀ b ∈ fp, b < s4.heap.objs.size) ∧ s4.heap.NoLimit ∧ cStatics ∉ wr ∧
          (∀ href : Heap, (∀ b o, s4.heap.get? b = some o → href.get? b = some o) →
            QuietGen X.prog X.w (genEnv scope (cloFrom X.env.cells scope.names []) s4.heap.objs.size code bi X.env) x ifs elt (List.range s4.heap.objs.size) wr Pf pz F href) ∧
          (∀ a h5 tk gs, gs.bare = true → s4.heap.objs.size < a → h5.objs.size = a + 1 → (∀ b o, s4.heap.get? b = some o → h5.get? b = some o) →
            WalksS X.prog X.w X.A.in4 a (a :: s4.heap.objs.size :: List.range s4.heap.objs.size) (s4.heap.objs.size :: wr) (GenOnlyQ s4.gens.size) (passing pz n0 0).length
              (fun j y => ∃ i, (passing pz n0 0)[j]? = some i ∧ F i y) (GenAt X.prog X.w X.A.in4 a s4.gens.size s4.heap.objs.size (List.range s4.heap.objs.size) wr pz n0 F) →
            GenAt X.prog X.w X.A.in4 a s4.gens.size s4.heap.objs.size (List.range s4.heap.objs.size) wr pz n0 F 0 { s4 with gens := s4.gens.push gs, toks := tk, heap := h5 } →
            Q' (.ref a) { s4 with gens := s4.gens.push gs, toks := tk, heap := h5 })) X.xe { s1 with heap := h3, toks := tk } := by
    intro code h3 tk ps' ext size3 tab3 grown tri3
    obtain ⟨bm, ob, e1, e2, e3, e4, e5, e6, e7, e8⟩ := TB.bm
    have statP : cStatics ≠ P := fun e => by
      obtain ⟨_, stat, _⟩ := I1.nolimit
      obtain ⟨o', es, ep, ho, hd, _⟩ := stat
      rw [e, tab1] at ho
      cases ho
      cases hd
    have statLt : cStatics < s1.heap.objs.size := let ⟨_, stat, _⟩ := I1.nolimit; stat.lt
    have sz2 : (s1.heap.push o).objs.size = s1.heap.objs.size + 1 := Heap.size_push ..
    have keep3 : ∀ b u, b ≠ P → s1.heap.get? b = some u → h3.get? b = some u := fun b u hb e => ext b u hb (Heap.get?_push_of_some _ e)
    refine wpAny_builtinsFor (m := X.mg)
      (by rw [I1.ok.glob]; exact ((I1.mod.glob.keeps I1.bk).push o).extBut ext TB.gP)
      e1 e2 (keep3 _ _ e4 (I1.bk _ _ e5)) e6 e7 e8 ?_
    refine ⟨s1.heap.objs.size, [s1.heap.objs.size], [s1.heap.objs.size], a.cps.size, SignAt a, St, (fun i => (a.cps.toList[i]?.map (pz a)).getD false), (fun i y => ∃ cc, a.cps.toList[i]? = some cc ∧ F a cc y), rfl, W, ?_, ?_, lim2.extBut ext statP, ?_, ?_, ?_⟩
    · refine (W X.A room.hd).frame _ _ _ hst fun b hb u e => ext b u (fun z => ?_) e
      rcases List.mem_cons.mp hb with z2 | z2
      · exact Nat.ne_of_lt tabLt (z.symm.trans z2)
      · cases z2
    · intro b hb
      rcases List.mem_cons.mp hb with z | z
      · rw [z]
        show s1.heap.objs.size < h3.objs.size
        omega
      · cases z
    · intro z
      rcases List.mem_cons.mp z with z | z
      · exact Nat.ne_of_lt statLt z
      · cases z
    · intro href ahead
      have kept : ∀ s2 : Shared, (∀ b ∈ List.range h3.objs.size, b ∉ [s1.heap.objs.size] → ∀ o, href.get? b = some o → s2.heap.get? b = some o) → Kept P s1 s2 := fun s2 hk b u hb e => by
        have lt := Heap.lt_size e
        have lt3 : b < h3.objs.size := by
          have q : (s1.heap.push o).objs.size ≤ h3.objs.size := size3
          rw [sz2] at q
          exact Nat.lt_of_lt_of_le (Nat.lt_succ_of_lt lt) q
        refine hk b (List.mem_range.mpr lt3) (fun z => ?_) u (ahead b u (keep3 b u hb e))
        rcases List.mem_cons.mp z with z | z
        · exact Nat.ne_of_lt lt z
        · cases z
      refine ⟨fun A' E' i v s2 m2 hA hPv hn hm hk => ?_, fun A' E' i v s2 m2 hA hPv hp hn hm hk => ?_⟩
      · obtain ⟨cc, u, hcc, rfl⟩ := hPv
        have hcl : a.cps.toList[i]? = some cc := by rw [Array.getElem?_toList]; exact hcc
        refine wpAny_mono (hel.tests _ _ _ A' E' cc u s2 m2 hA (List.mem_of_getElem? hcl) hn hm (kept s2 hk)) (fun ok s3 r => ⟨?_, r.2⟩) fun _ _ e => e
        rw [r.1, hcl]
        rfl
      · obtain ⟨cc, u, hcc, rfl⟩ := hPv
        have hcl : a.cps.toList[i]? = some cc := by rw [Array.getElem?_toList]; exact hcc
        have hp2 : pz a cc = true := by
          rw [hcl] at hp
          exact hp
        exact wpAny_mono (hel.elt _ _ _ A' E' cc u s2 m2 hA (List.mem_of_getElem? hcl) hp2 hn hm (kept s2 hk)) (fun y s3 r => ⟨⟨cc, hcl, r.1⟩, r.2⟩) fun _ _ e => e
    · intro g h5 tk5 gs bare5 above5 size5 keep5 W5 at5
      have en : a.cps.size = a.cps.toList.length := by simp
      rw [en] at W5 at5
      rw [passing_length] at W5
      refine goal a H1 g _ q1 ⟨_, _, _, _, _, W5.in4_2, W5.in4_1, at5, ?_, List.mem_cons_self, fun i s9 h9 => ?_, ?_, fun s' hm => ?_⟩
      · intro b hb
        show b < h5.objs.size
        have e5 : h5.objs.size = g + 1 := size5
        have h8 : h3.objs.size < g := above5
        rw [e5]
        rcases List.mem_cons.mp hb with z | z
        · rw [z]
          exact Nat.lt_succ_self g
        · rcases List.mem_cons.mp z with z | z
          · rw [z]
            exact Nat.lt_succ_of_lt h8
          · exact Nat.lt_succ_of_lt (Nat.lt_trans (show b < h3.objs.size from List.mem_range.mp z) h8)
      · obtain ⟨isg, _⟩ := h9
        exact isg.typeIs
      · intro j v hv
        obtain ⟨i, hij, cc, hcc, hF⟩ := hv
        obtain ⟨c2, hc2, hj⟩ := passing_of hij
        rw [hcc] at hc2
        cases hc2
        exact ⟨cc, hj, hF⟩
      · obtain ⟨more, em⟩ := grown
        have nwr : ∀ b u, s1.heap.get? b = some u → b ∉ h3.objs.size :: [s1.heap.objs.size] := fun b u e hb => by
          have lt := Heap.lt_size e
          have q : s1.heap.objs.size < h3.objs.size := by
            have q0 : (s1.heap.push o).objs.size ≤ h3.objs.size := size3
            rw [sz2] at q0
            exact q0
          rcases List.mem_cons.mp hb with z | z
          · exact Nat.ne_of_lt (Nat.lt_trans lt q) z
          · rcases List.mem_cons.mp z with z | z
            · exact Nat.ne_of_lt lt z
            · cases z
        have J := GxR.inv_tab (more := more) (h' := s'.heap) (g' := s'.gens) (d' := s'.drawn) (t' := s'.toks) I1 tabAt
          (fun b u hb e => hm.heap b u (nwr b u e) (keep5 b u (keep3 b u hb e)))
          (by rw [← em]; exact hm.heap P _ (nwr P _ tab1) (keep5 P _ tab3)) (AllBare.movedS (I1.bare.push bare5) hm)
        rw [GxR.sh_eta s1 s' hm.os] at J
        exact ⟨upd H1 P (.tbl (ps ++ more)), ⟨⟨ps ++ more, upd_same, by rw [← em]; exact tri3⟩, fun b hb => upd_ne hb⟩, J⟩
  refine ⟨lim2, ?_⟩
  cases hf : codeAmong gpos ps.toList with
  | none =>
    refine wpAny_genexprCodeX codeAt (cd.code tab2 tri) (cd.tab tab2) hf fun c' h' tk ext ge lt code' _ tab' _ => ?_
    obtain ⟨o1, vs, f1, tf, fl, tg, inF, tx, tt, op, _, _, _, _, _, _, _, _, _, tri', _⟩ := code'
    exact cont _ h' tk _ ext (Nat.le_trans ge (Nat.le_of_lt lt)) tab'.2 ⟨_, rfl⟩ tri'
  | some cv =>
    refine wpAny_genexprCode_hit codeAt (cd.code tab2 tri) hf ?_
    exact cont cv (s1.heap.push o) s1.toks ps (Heap.ExtBut.refl _ _) (Nat.le_refl _) tab2 ⟨#[], by simp⟩ tri
end
end TcG
/-! ''.join(x for x in W if x in L): the signs of W that stand in L; L a name of the def around. -/
namespace TcG
open PySem PySem.Spec PyProof.Rows L2

theorem clo_look {cells : List (Str × Addr)} {names : List (Str × NameKind)} {y : Str} {c : Addr} (hf : (y, NameKind.free) ∈ names) (hc : cells.lookup y = some c) : (cloFrom cells names []).lookup y = some c := by
  have hm := cloFrom_has (cells := cells) (acc := []) hf
  rw [hc] at hm
  have hall : ∀ d, (y, d) ∈ cloFrom cells names [] → d = c := fun d hd => by
    rcases cloFrom_mem hd with z | ⟨_, z⟩
    · cases z
    · rw [z, hc]
      rfl
  cases e : (cloFrom cells names []).lookup y with
  | none =>
    exfalso
    have : ∀ (l : List (Str × Addr)), (y, c) ∈ l → l.lookup y ≠ none := by
      intro l
      induction l with
      | nil => intro h; cases h
      | cons p r ih =>
        intro h
        obtain ⟨n, d⟩ := p
        rw [List.lookup_cons]
        by_cases hn : (y == n) = true
        · rw [hn]
          intro z
          cases z
        · rw [Bool.not_eq_true] at hn
          rw [hn]
          refine ih ?_
          rcases List.mem_cons.mp h with h | h
          · cases h
            simp at hn
          · exact h
    exact this _ hm e
  | some d => rw [hall d (PySem.mem_of_lookup e)]

/-- the scope of a generator expression of one clause over the name x, in a def with these names -/
def genOk (outer : List (Str × NameKind)) (sc : Scope) (x : Str) : Bool :=
  decide (sc.kind = .function) && !sc.isCoroutine && sc.names.all (fun y => decide (y.2 ≠ .cell) && (decide (y.2 ≠ .free) || decide (outer.lookup y.1 = some .cell)))
    && decide (sc.names.lookup (".0" : Str) = some NameKind.local) && decide (sc.names.lookup x = some NameKind.local)
theorem gens_of {X : Cx} {sc : Scope} {x : Str} (ok : X.Ok) (h : genOk X.env.scope.names sc x = true) : GxR.GenS X.env sc x := by
  unfold genOk at h
  simp only [Bool.and_eq_true, List.all_eq_true, Bool.or_eq_true, decide_eq_true_eq, Bool.not_eq_true'] at h
  obtain ⟨⟨⟨⟨h1, h2⟩, h3⟩, h4⟩, h5⟩ := h
  refine ⟨h1, h2, fun y hy => (h3 y hy).1, h4, h5, fun y hy e => ?_⟩
  rcases (h3 y hy).2 with z | z
  · exact absurd e z
  · exact ok.has y.1 (.inl z)

section
variable {X : Cx} {pins : List (Addr × Obj)} {σ : L2.St} {H : Hp} {s : Shared}

/-- a name of the def around, read by a step of the generator -/
theorem ld_free {P : Addr} {scope : Scope} {y : Str} {iy : Nat} {v : V} {s1 s2 : Shared} {C : Addr} {code : Value} {bi : Addr} {A' : Around} {E' : Value → Shared → Prop} {py : Pos} {Q : Value → Shared → Prop} {ps : Array Value}
    (I1 : Inv X pins σ H s1) (tab : H P = some (.tbl ps)) (hN : X.N[iy]? = some y) (hv : σ[iy]? = some (some v)) (hk : X.env.kindOf y = some .cell) (kind : scope.kind = .function) (hl : scope.names.lookup y = some .free)
    (kept : Kept P s1 s2) (hd : (y == ("__debug__" : Str)) = false) (hcd : (y == ("__classdict__" : Str)) = false) (h : ∀ u, RelV v u → Q u s2) :
    wpAny (model X.prog X.w) A' (eval (.Name y py) (genEnv scope (cloFrom X.env.cells scope.names []) C code bi X.env)) Q E' s2 := by
  obtain ⟨m, _, look⟩ := I1.loc
  obtain ⟨u, ru, l⟩ := look iy y v hN hv (.inr (.inl hk))
  rcases l with ⟨z, _⟩ | ⟨_, c, hc, o, ho, hdat⟩
  · rw [hk] at z
    cases z
  · have tab1 : s1.heap.get? P = some { cls := .none, data := .fields ps } := I1.hok P _ tab
    have nP : c ≠ P := fun z => by
      rw [z, tab1] at ho
      cases ho
      cases hdat
    have cell2 : s2.heap.IsCell c (some u) := ⟨o, kept c o nP ho, hdat⟩
    exact wpAny_Name (wpAny_loadName_free kind hl (clo_look (PySem.mem_of_lookup hl) hc) cell2 (h u ru) hcd) hd

/-- the test «x in y» of a sign, y a text of the def around -/
theorem steps_in {P : Addr} {scope : Scope} {x y : Str} {iy : Nat} {L a : Str} {s1 : Shared} {ps : Array Value} {p1 p2 p3 p4 : Pos}
    (I1 : Inv X pins σ H s1) (tab : H P = some (.tbl ps)) (S : GxR.GenS X.env scope x) (hN : X.N[iy]? = some y) (hv : σ[iy]? = some (some (.str L))) (hk : X.env.kindOf y = some .cell) (hl : scope.names.lookup y = some .free)
    (hd : (y == ("__debug__" : Str)) = false) (hcd : (y == ("__classdict__" : Str)) = false) (hdx : (x == ("__debug__" : Str)) = false) :
    Steps X pins σ scope x [.Compare (.Name x p1) [.In] [.Name y p2] p3] (.Name x p4) P a (fun c => decide (c ∈ L.cps.toList)) (fun c v => ∃ t, v = .str ⟨#[c]⟩ t) s1 := by
  refine ⟨fun C code bi A' E' c t s2 m2 hA hc hn hm kept => ?_, fun C code bi A' E' c t s2 m2 hA hc hp hn hm kept => ?_⟩
  · unfold testsRun
    simp only [List.forIn_cons, List.forIn_nil, if_true]
    refine wpAny_bind (wpAny_bind (wpAny_isTrue_Compare1 ?_))
    refine wpAny_Name (wpAny_loadName_local (env := genEnv scope (cloFrom X.env.cells scope.names []) C code bi X.env) S.kind S.loc hn hm ?_) hdx
    refine ld_free I1 tab hN hv hk S.kind hl kept hd hcd fun u ru => ?_
    obtain ⟨t', rfl⟩ := (show ∃ t', u = Value.str L t' from ru)
    refine PyProof.Rows.in_str ?_
    refine wpAny_truthy_bool ?_
    refine wpAny_pure ?_
    show wpAny _ _ (pure _) _ _ _
    refine wpAny_pure ⟨PySem.StrLaws.found_one L c, GxR.keeps_refl _⟩
  · refine wpAny_Name (wpAny_loadName_local (env := genEnv scope (cloFrom X.env.cells scope.names []) C code bi X.env) S.kind S.loc hn hm ?_) hdx
    exact ⟨⟨t, rfl⟩, GxR.keeps_refl _⟩

/-- the reading: W, a text; L stands in the i-th slot -/
def tKept (P : Addr) (i : Nat) (te : TE) : TE := fun σ H Q => te σ H fun v H1 => ∃ a : Str, v = .str a ∧ GxR.TabG H1 P ∧ ∃ L : Str, σ[i]? = some (some (.str L)) ∧ a.cps.toList.length ≤ 1000 ∧
  ∀ H2, GxR.Tabbed P H1 H2 → Q (.str ⟨(a.cps.toList.filter fun c => decide (c ∈ L.cps.toList)).toArray⟩) H2

theorem joinOk_ones (l : List Nat) (h : l.length ≤ 1000) : JoinOk ⟨#[]⟩ (l.map fun c => (⟨#[c]⟩ : Str)) = true := by
  unfold JoinOk
  have key : ∀ (l : List Nat) (n : Nat), (l.map fun c => (⟨#[c]⟩ : Str)).foldl (fun a b => a + b.length + (⟨#[]⟩ : Str).length) n = n + l.length := by
    intro l
    induction l with
    | nil => intro n; rfl
    | cons x r ih =>
      intro n
      rw [List.map_cons, List.foldl_cons, ih, List.length_cons]
      show n + 1 + 0 + r.length = n + (r.length + 1)
      omega
  rw [List.foldl_toArray, key]
  have : PySem.Builtin.Str.tooLong (0 + l.length) = false := by
    unfold PySem.Builtin.Str.tooLong
    simp only [decide_eq_false_iff_not]
    have : sizeLine = 16777216 := rfl
    omega
  rw [this]
  rfl

theorem pe_kept {c P : Addr} {j : Nat} {iter : Expr} {x y : Str} {iy : Nat} {px p1 p2 p3 p4 p5 apos cpos gpos : Pos} {scope : Scope} {te : TE} {k : Nat}
    (room : Room k X.A) (TB : GxR.TabB X.base X.mg c P) (codeAt : X.env.code = .ref c) (gen : genOk X.env.scope.names scope x = true) (hi : PE X iter te)
    (hN : X.N[iy]? = some y) (hk : X.env.kindOf y = some .cell) (hl : scope.names.lookup y = some .free)
    (plain : ∀ v, genFold iter X.env v = pure v) (hd : (y == ("__debug__" : Str)) = false := by decide) (hcd : (y == ("__classdict__" : Str)) = false := by decide) (hdx : (x == ("__debug__" : Str)) = false := by decide)
    (base : attributeBase (.Constant (.str ⟨#[]⟩) j p5) "join" X.env (eval (.Constant (.str ⟨#[]⟩) j p5) X.env) = eval (.Constant (.str ⟨#[]⟩) j p5) X.env := by rfl)
    (few : ((backTo cpos (starEach [.GeneratorExp (.Name x p4) [⟨.Name x px, iter, [.Compare (.Name x p1) [.In] [.Name y p2] p3], 0⟩] scope gpos] X.env)).all (fun x => !x.1) && (backToKw cpos (keywordEach [] X.env)).all (fun x => x.1.isSome)
      && decide (([.GeneratorExp (.Name x p4) [⟨.Name x px, iter, [.Compare (.Name x p1) [.In] [.Name y p2] p3], 0⟩] scope gpos] : List Expr).length + ([] : List Keyword).length + (if ([] : List Keyword).isEmpty then 0 else 1) < 30)) = true := by rfl)
    (line : (apos.endLine == cpos.line) = true := by rfl)
    (each : starEach [.GeneratorExp (.Name x p4) [⟨.Name x px, iter, [.Compare (.Name x p1) [.In] [.Name y p2] p3], 0⟩] scope gpos] X.env
      = (false, eval (.GeneratorExp (.Name x p4) [⟨.Name x px, iter, [.Compare (.Name x p1) [.In] [.Name y p2] p3], 0⟩] scope gpos) X.env) :: starEach [] X.env := by rfl)
    (bare : (backTo cpos (starEach [] X.env)).any (·.1) = false := by rfl) :
    PE X (.Call (.Attribute (.Constant (.str ⟨#[]⟩) j p5) "join" apos) [.GeneratorExp (.Name x p4) [⟨.Name x px, iter, [.Compare (.Name x p1) [.In] [.Name y p2] p3], 0⟩] scope gpos] [] cpos) (tKept P iy te) := by
  refine ⟨fun pins s σ H Q I h => ?_⟩
  have S := gens_of I.ok gen
  refine wpAny_Call_method_late base few line rfl (Calls.Constant_str ?_)
  refine ⟨"str", _, PySem.F.plainAttrs_str, PySem.F.slot_str_join, PySem.F.type_str_join, typeIs_str _ _ _, (fun _ e => nomatch e), ?_⟩
  rw [each]
  refine Calls.callWith_builtin (by show (false || (backTo cpos (starEach [] X.env)).any (·.1)) = false; rw [bare] <;> rfl) (Calls.evalArgs_plain ?_)
  have I' := I.tok (s.toks + 1)
  refine Calls.spliced_cons (gen_text (pz := fun a c => match σ[iy]? with | some (some (.str L)) => decide (c ∈ L.cps.toList) | _ => false) (F := fun a c v => ∃ t, v = .str ⟨#[c]⟩ t)
    (R := fun a H1 => ∃ L : Str, σ[iy]? = some (some (.str L)) ∧ a.cps.toList.length ≤ 1000 ∧ ∀ H2, GxR.Tabbed P H1 H2 → Q (.str ⟨(a.cps.toList.filter fun c => decide (c ∈ L.cps.toList)).toArray⟩) H2)
    room TB codeAt S hi plain I' h (fun a H1 s1 I1 tb r => ?_) fun a H1 g s5 hR hG => ?_)
  · obtain ⟨ps, tab, _⟩ := tb
    obtain ⟨L, hv, _⟩ := r
    rw [hv]
    exact steps_in I1 tab S hN hv hk hl hd hcd hdx
  refine Calls.spliced_nil ?_
  obtain ⟨L, hv, small, q⟩ := hR
  rw [hv] at hG
  obtain ⟨fp, wr, G, F, St, W, _, hst, hfp, hg, hT, hstr, back⟩ := hG
  have hlen : (a.cps.toList.filter fun c => decide (c ∈ L.cps.toList)).length ≤ 1000 := Nat.le_trans (List.length_filter_le _ _) small
  refine PySem.SC.joinGen W hT hst hfp hg (fun i v hv => ?_) (fun s' l hm hio => ?_) (Nat.le_trans hlen (by decide))
  · obtain ⟨cc, _, t, e⟩ := hstr i v hv
    exact ⟨_, _, e⟩
  · have e : l.map (·.1) = (a.cps.toList.filter fun c => decide (c ∈ L.cps.toList)).map fun c => (⟨#[c]⟩ : Str) := by
      have n0 : l.length = (a.cps.toList.filter fun c => decide (c ∈ L.cps.toList)).length := by
        have e0 := hio.1
        rw [List.size_toArray] at e0
        unfold strValues at e0
        rw [List.length_map] at e0
        exact e0
      refine List.ext_getElem? fun j => ?_
      rw [List.getElem?_map, List.getElem?_map]
      cases hj : l[j]? with
      | none =>
        have h1 : (a.cps.toList.filter fun c => decide (c ∈ L.cps.toList))[j]? = none := by
          rw [List.getElem?_eq_none_iff] at hj ⊢
          omega
        rw [h1]
        rfl
      | some p =>
        have h2 : (strValues l).toArray[j]? = some (.str p.1 p.2) := by
          rw [List.getElem?_toArray]
          unfold strValues
          rw [List.getElem?_map, hj]
          rfl
        obtain ⟨cc, hc, t, ev⟩ := hstr j _ (hio.2 j _ h2)
        rw [hc]
        injection ev with ev1
        show some p.1 = some _
        rw [ev1]
    obtain ⟨H3, ht, J⟩ := back s' hm
    rw [e]
    refine ⟨joinOk_ones _ hlen, fun t' k' => ⟨.str _, H3, J.tok k', ⟨t', ?_⟩, q H3 ht⟩⟩
    have e2 := join_ones (a.cps.toList.filter fun c => decide (c ∈ L.cps.toList))
    unfold Txt.join
    rw [PySem.StrLaws.glued_eq_join, e2]
end
end TcG
/-! min, max of two texts; a text unpacked into names. -/
namespace TcG
open PySem PySem.Spec PyProof.Rows L2

/-- the text of these signs -/
def tx (l : List Nat) : Str := ⟨l.toArray⟩
theorem tx_list (l : List Nat) : (tx l).cps.toList = l := rfl
theorem tx_inj {a b : List Nat} (h : tx a = tx b) : a = b := by
  have := congrArg (fun s : Str => s.cps.toList) h
  exact this
theorem tx_of (s : Str) : s = tx s.cps.toList := by
  cases s
  rfl
theorem tx_eq {a b : List Nat} : decide (V.str (tx a) = V.str (tx b)) = decide (a = b) := by
  by_cases h : a = b
  · rw [h]
    simp
  · rw [decide_eq_false h]
    exact decide_eq_false fun z => h (tx_inj (V.str.inj z))
theorem tx_append (a b : List Nat) : tx a ++ tx b = tx (a ++ b) := by
  show Str.append _ _ = _
  unfold Str.append tx
  simp
theorem tx_length (l : List Nat) : (tx l).length = l.length := by
  show l.toArray.size = l.length
  simp

section
variable {prog : Program} {w : World} {A : Around} {E : Value → Shared → Prop} {s : Shared}

def two (p q : Str) (t u : Tok) : Array Value := #[.str p t, .str q u]

theorem cmp_two {op : CmpOp} {p q : Str} {t u : Tok} {r : Str → Str → Bool}
    (h : ∀ (x y : Str) (t u : Tok) (A' : Around) (s : Shared) (Q : Value → Shared → Prop) (E : Value → Shared → Prop), Q (.bool (r x y)) s → wpAny (model prog w) A' (richCompare op (.str x t) (.str y u)) Q E s) :
    CmpOf prog w A op (fun i v => (two p q t u)[i]? = some v) (fun i j => match i, j with | 1, 0 => r q p | 0, 1 => r p q | 0, 0 => r p p | _, _ => r q q) := by
  intro i j a b s Q E ha hb hQ
  match i, j with
  | 0, 0 => cases ha; cases hb; exact h _ _ _ _ _ _ _ _ hQ
  | 0, 1 => cases ha; cases hb; exact h _ _ _ _ _ _ _ _ hQ
  | 1, 0 => cases ha; cases hb; exact h _ _ _ _ _ _ _ _ hQ
  | 1, 1 => cases ha; cases hb; exact h _ _ _ _ _ _ _ _ hQ
  | i + 2, _ => simp [two] at ha
  | 0, j + 2 => simp [two] at hb
  | 1, j + 2 => simp [two] at hb

theorem min_two_texts {p q : Str} {t u : Tok} {Q : Value → Shared → Prop} (hh : A.handled = none)
    (h : ∀ h' tk t', (∀ c o, s.heap.get? c = some o → h'.get? c = some o) → Q (.str (if q.cps.toList < p.cps.toList then q else p) t') { s with heap := h', toks := tk }) :
    wpAny (model prog w) A (call (.builtin "min") [.str p t, .str q u]) Q E s := by
  have tupAt : (s.heap.push { cls := .type "tuple", data := .seq #[.str p t, .str q u] }).IsTuple s.heap.objs.size (two p q t u) := ⟨_, Heap.get?_push_size _ rfl, rfl, 0, by rfl⟩
  refine call_min_two (wpAny_pyIter_tuple tupAt ?_)
  have sz : (s.heap.push { cls := .type "tuple", data := .seq #[.str p t, .str q u] }).objs.size = s.heap.objs.size + 1 := Heap.size_push ..
  refine ⟨_, [_, s.heap.objs.size], [_], _, _, _, _, rfl,
    Walks.tuple (A := A.in1) hh _ s.heap.objs.size (by rw [sz]; exact Nat.ne_of_lt (Nat.lt_succ_self _)) (two p q t u),
    ⟨⟨_, Heap.get?_push_size _ rfl, rfl, rfl⟩, tupAt.push _⟩, fun c hc => ?_, (by decide : 0 < 2), cmp_two (r := fun x y => decide (x.cps.toList < y.cps.toList)) (fun x y t u A' s Q E hq => PyProof.Rows.lt_str hq), fun v h' tk hP hk => ?_⟩
  · show c < ((s.heap.push _).push _).objs.size
    rw [Heap.size_push, sz]
    rcases List.mem_cons.mp hc with z | z
    · rw [z, sz]
      exact Nat.lt_succ_self _
    · rcases List.mem_cons.mp z with z | z
      · rw [z]
        exact Nat.lt_succ_of_lt (Nat.lt_succ_self _)
      · cases z
  · have old : ∀ c o, s.heap.get? c = some o → h'.get? c = some o := fun c o e => by
      refine hk c o (fun hm => ?_) (Heap.get?_push_of_some _ (Heap.get?_push_of_some _ e))
      rcases List.mem_cons.mp hm with z | z
      · have lt := Heap.lt_size e
        rw [z, sz] at lt
        exact Nat.lt_irrefl _ (Nat.lt_of_succ_lt lt)
      · cases z
    by_cases hba : q.cps.toList < p.cps.toList
    · have e : v = .str q u := by
        have hP2 : (two p q t u)[argBest (fun i j => match i, j with | 1, 0 => decide (q.cps.toList < p.cps.toList) | 0, 1 => decide (p.cps.toList < q.cps.toList) | 0, 0 => decide (p.cps.toList < p.cps.toList) | _, _ => decide (q.cps.toList < q.cps.toList)) 1]? = some v := hP
        simp [argBest, hba, two] at hP2
        exact hP2.symm
      have := h h' tk u old
      rw [if_pos hba] at this
      rw [e]
      exact this
    · have e : v = .str p t := by
        have hP2 : (two p q t u)[argBest (fun i j => match i, j with | 1, 0 => decide (q.cps.toList < p.cps.toList) | 0, 1 => decide (p.cps.toList < q.cps.toList) | 0, 0 => decide (p.cps.toList < p.cps.toList) | _, _ => decide (q.cps.toList < q.cps.toList)) 1]? = some v := hP
        simp [argBest, hba, two] at hP2
        exact hP2.symm
      have := h h' tk t old
      rw [if_neg hba] at this
      rw [e]
      exact this

theorem max_two_texts {p q : Str} {t u : Tok} {Q : Value → Shared → Prop} (hh : A.handled = none)
    (h : ∀ h' tk t', (∀ c o, s.heap.get? c = some o → h'.get? c = some o) → Q (.str (if p.cps.toList < q.cps.toList then q else p) t') { s with heap := h', toks := tk }) :
    wpAny (model prog w) A (call (.builtin "max") [.str p t, .str q u]) Q E s := by
  have tupAt : (s.heap.push { cls := .type "tuple", data := .seq #[.str p t, .str q u] }).IsTuple s.heap.objs.size (two p q t u) := ⟨_, Heap.get?_push_size _ rfl, rfl, 0, by rfl⟩
  refine call_max_two (wpAny_pyIter_tuple tupAt ?_)
  have sz : (s.heap.push { cls := .type "tuple", data := .seq #[.str p t, .str q u] }).objs.size = s.heap.objs.size + 1 := Heap.size_push ..
  refine ⟨_, [_, s.heap.objs.size], [_], _, _, _, _, rfl,
    Walks.tuple (A := A.in1) hh _ s.heap.objs.size (by rw [sz]; exact Nat.ne_of_lt (Nat.lt_succ_self _)) (two p q t u),
    ⟨⟨_, Heap.get?_push_size _ rfl, rfl, rfl⟩, tupAt.push _⟩, fun c hc => ?_, (by decide : 0 < 2), cmp_two (r := fun x y => decide (y.cps.toList < x.cps.toList)) (fun x y t u A' s Q E hq => PySem.P.gt_str hq), fun v h' tk hP hk => ?_⟩
  · show c < ((s.heap.push _).push _).objs.size
    rw [Heap.size_push, sz]
    rcases List.mem_cons.mp hc with z | z
    · rw [z, sz]
      exact Nat.lt_succ_self _
    · rcases List.mem_cons.mp z with z | z
      · rw [z]
        exact Nat.lt_succ_of_lt (Nat.lt_succ_self _)
      · cases z
  · have old : ∀ c o, s.heap.get? c = some o → h'.get? c = some o := fun c o e => by
      refine hk c o (fun hm => ?_) (Heap.get?_push_of_some _ (Heap.get?_push_of_some _ e))
      rcases List.mem_cons.mp hm with z | z
      · have lt := Heap.lt_size e
        rw [z, sz] at lt
        exact Nat.lt_irrefl _ (Nat.lt_of_succ_lt lt)
      · cases z
    by_cases hba : p.cps.toList < q.cps.toList
    · have e : v = .str q u := by
        have hP2 : (two p q t u)[argBest (fun i j => match i, j with | 1, 0 => decide (p.cps.toList < q.cps.toList) | 0, 1 => decide (q.cps.toList < p.cps.toList) | 0, 0 => decide (p.cps.toList < p.cps.toList) | _, _ => decide (q.cps.toList < q.cps.toList)) 1]? = some v := hP
        simp [argBest, hba, two] at hP2
        exact hP2.symm
      have := h h' tk u old
      rw [if_pos hba] at this
      rw [e]
      exact this
    · have e : v = .str p t := by
        have hP2 : (two p q t u)[argBest (fun i j => match i, j with | 1, 0 => decide (p.cps.toList < q.cps.toList) | 0, 1 => decide (q.cps.toList < p.cps.toList) | 0, 0 => decide (p.cps.toList < p.cps.toList) | _, _ => decide (q.cps.toList < q.cps.toList)) 1]? = some v := hP
        simp [argBest, hba, two] at hP2
        exact hP2.symm
      have := h h' tk t old
      rw [if_neg hba] at this
      rw [e]
      exact this

/-- n items of a walk from i on -/
theorem draw_walk {I : Addr} {fp wr : List Addr} {N : Nat} {P : Nat → Value → Prop} {St : Nat → Heap → Prop} (W : Walks prog w A I fp wr N P St) : ∀ (n i : Nat) (s : Shared) (Q : List Value → Shared → Prop), St i s.heap → i + n ≤ N →
    (∀ vs h' tk, vs.length = n → (∀ j v, vs[j]? = some v → P (i + j) v) → St (i + n) h' → (∀ b o, b ∉ wr → s.heap.get? b = some o → h'.get? b = some o) → Q vs { s with heap := h', toks := tk }) → wpAny (model prog w) A (draw (.ref I) n) Q E s
  | 0, i, s, Q, st, _, hQ => by
    show wpAny _ _ (pure []) Q E s
    exact wpAny_pure (hQ [] s.heap s.toks rfl (fun j v hj => by simp at hj) st fun _ _ _ e => e)
  | n + 1, i, s, Q, st, hle, hQ => by
    show wpAny _ _ (pyNext (.ref I) >>= _) Q E s
    refine wpAny_bind (W.item i s _ _ (by omega) st fun v h1 tk1 hv st1 k1 => ?_)
    refine wpAny_bind (wpAny_holding (draw_walk W n (i + 1) _ _ st1 (by omega) fun vs h2 tk2 hl hvs st2 k2 => wpAny_pure ?_))
    refine hQ (v :: vs) h2 tk2 (by rw [List.length_cons, hl]) (fun j x hj => ?_) ?_ fun b o hb e => k2 b o hb (k1 b o hb e)
    · cases j with
      | zero =>
        cases hj
        exact hv
      | succ j =>
        have := hvs j x (by simpa using hj)
        rw [show i + (j + 1) = i + 1 + j by omega]
        exact this
    · rw [show i + (n + 1) = i + 1 + n by omega]
      exact st2

theorem items_text {x : Str} {t : Tok} {n : Nat} {Q : List Value → Shared → Prop} (hh : A.handled = none) (hn : n = x.cps.size)
    (hQ : ∀ vs h' tk, vs.length = n → (∀ (j : Nat) v, vs[j]? = some v → SignAt x j v) → (∀ b o, s.heap.get? b = some o → h'.get? b = some o) → Q vs { s with heap := h', toks := tk }) :
    wpAny (model prog w) A (unpackItems (.str x t) n none) Q E s := by
  unfold unpackItems
  refine wpAny_bind ?_
  · unfold notIterableAtAll
    refine wpAny_bind (wpAny_specialOf (typeIs_str s x t) PySem.F.slot_str_iter.lookup ?_)
    refine wpAny_pure ?_
    simp only [Bool.false_eq_true, if_false]
    refine wpAny_bind (wpAny_holding (wpAny_pyIter_str fun o St W hst => ?_))
    have W := W A hh
    refine wpAny_bind (wpAny_holding (draw_walk W n 0 _ _ hst (by omega) fun vs h1 tk1 hl hvs st1 k1 => ?_))
    rw [if_neg (by omega)]
    have st1 : St x.cps.size h1 := by
      rw [← hn]
      simpa using st1
    refine wpAny_bind (wpAny_holding (W.done _ _ _ st1 fun h2 tk2 k2 => ?_))
    simp only [Option.isSome_none, Bool.false_eq_true, if_false]
    refine wpAny_pure (hQ vs h2 tk2 hl (fun j v hj => by simpa using hvs j v hj) fun b o e => ?_)
    have nb : b ∉ [s.heap.objs.size] := fun z => by
      rcases List.mem_cons.mp z with z | z
      · exact Nat.ne_of_lt (Heap.lt_size e) z
      · cases z
    exact k2 b o nb (k1 b o nb (Heap.get?_push_of_some _ e))
end

section
variable {X : Cx} {pos : Pos}
theorem call_minT (hc : X.calm = true) : CallR X (.builtin "min") (fun xs H Q => ∃ p q : Str, xs = [.str p, .str q] ∧ Q (.str (if q.cps.toList < p.cps.toList then q else p)) H) := by
  intro pins s σ H xs us Q I r h
  obtain ⟨p, q, rfl, hq⟩ := h
  obtain ⟨u, w', rfl, ⟨t, rfl⟩, ⟨t', rfl⟩⟩ := vals2 r
  exact min_two_texts (I.ok.hd hc) fun h' tk t2 k => ⟨.str _, H, I.kept k, ⟨t2, rfl⟩, hq⟩
theorem call_maxT (hc : X.calm = true) : CallR X (.builtin "max") (fun xs H Q => ∃ p q : Str, xs = [.str p, .str q] ∧ Q (.str (if p.cps.toList < q.cps.toList then q else p)) H) := by
  intro pins s σ H xs us Q I r h
  obtain ⟨p, q, rfl, hq⟩ := h
  obtain ⟨u, w', rfl, ⟨t, rfl⟩, ⟨t', rfl⟩⟩ := vals2 r
  exact max_two_texts (I.ok.hd hc) fun h' tk t2 k => ⟨.str _, H, I.kept k, ⟨t2, rfl⟩, hq⟩

/-- (a, b, ..) = a text of as many signs -/
def gUnT (n : Nat) (t : TGs) : TG := fun v σ H Q => ∃ l : List Nat, v = .str (tx l) ∧ l.length = n ∧ t (l.map fun c => .str (tx [c])) σ H Q
theorem pg_unT {es : List Expr} {k : Nat} {t : TGs} {n : Nat} (hc : X.calm = true) (h : PGs X es t)
    (hn : (assignEach es X.env).length = n := by rfl) (hst : (assignEach es X.env).findIdx? (·.1) = none := by rfl) : PG X (.Tuple es k pos) (gUnT n t) := by
  refine ⟨fun pins s σ H v u Q I r hw => ?_⟩
  obtain ⟨l, rfl, hl, hw⟩ := hw
  obtain ⟨tk, rfl⟩ := (show ∃ tk, u = Value.str (tx l) tk from r)
  rw [PyProof.Rows.assign_Tuple]
  refine wpAny_bind (wpAny_standAt ?_)
  unfold unpack
  rw [hn, hst]
  have sz : (tx l).cps.size = l.length := tx_length l
  refine wpAny_bind (wpAny_holding (items_text (I.ok.hd hc) (by rw [sz, hl]) fun vs h' tk' hvl hvs kp => ?_))
  have I1 : Inv X pins σ H { s with heap := h', toks := tk' } := I.kept kp
  refine h.run pins _ σ H _ _ Q I1 ?_ hw
  have key : ∀ (l : List Nat) (vs : List Value), vs.length = l.length → (∀ (j : Nat) v, vs[j]? = some v → ∃ c u, l[j]? = some c ∧ v = .str ⟨#[c]⟩ u) → Vals (l.map fun c => .str (tx [c])) vs := by
    intro l
    induction l with
    | nil =>
      intro vs e _
      cases vs with
      | nil => exact .nil
      | cons _ _ => cases e
    | cons c r ih =>
      intro vs e h
      cases vs with
      | nil => cases e
      | cons v vs =>
        obtain ⟨c', u, e1, rfl⟩ := h 0 v rfl
        cases e1
        exact .cons ⟨u, rfl⟩ (ih vs (Nat.succ.inj e) fun j v hj => h (j + 1) v hj)
  refine key l vs (by rw [hvl, hl]) fun j v hj => ?_
  obtain ⟨c, u, e1, e2⟩ := hvs j v hj
  exact ⟨c, u, by simpa [tx] using e1, e2⟩
end
end TcG
/-! Defs whose code object is known; the end of a law in which several defs hold generator expressions. -/
namespace TcG
open PySem PySem.Spec PyProof.Rows L2

/-- a def of the text whose code object stands at c -/
structure FunC (K : PySem.W.Frag) (x qual : Str) (st : Stmt) (f : Addr) (fd : FuncData) (c : Addr) : Prop where
  ex : ∃ (oc : Value) (od : Option Addr) (kV doc pm : Value) (an : Option Addr) (ct : Value) (osl : Array (Option Value)),
    fd = PySem.W.fnOf x qual (defArgs st) (defBody st) (defScope st) .none kV doc pm an (.ref c) ct ∧ K.lookup f = some ⟨oc, od, .func fd, osl⟩ ∧ PySem.W.codeIn K (.ref c) qual = true
  kp : PySem.W.keepIn K (.ref f) = true
section
variable {P : Program} {w : World} {K : PySem.W.Frag} {mg : Str → Option Value} {base : Heap}
theorem FunC.fun {x qual : Str} {st : Stmt} {f : Addr} {fd : FuncData} {c : Addr} (F : FunC K x qual st f fd c) : Fun K x qual st f fd := by
  obtain ⟨oc, od, kV, doc, pm, an, ct, osl, h1, h2, h3⟩ := F.ex
  exact ⟨⟨oc, od, kV, doc, pm, an, .ref c, ct, osl, h1, h2, h3⟩, F.kp⟩
theorem FunC.ok {x qual : Str} {st : Stmt} {f : Addr} {fd : FuncData} {c : Addr} {N ps : List Str} {k : Nat} {sp : Sp} (F : FunC K x qual st f fd c) (S : FnScope N ps (defScope st)) (len : ∀ vs H Q E, sp vs H Q E → vs.length = ps.length)
    (body : ∀ (A : Around) (outer : List Env) (s : Shared) (H : Hp) (vs : List V) (Q : VK) (E : XK), Room k (A.deeper (envOfC qual (defScope st) s.heap.objs.size f (.ref c))) → sp vs H Q E →
      ∃ t, PSs (cxOf CX0 P w K mg base N qual (defScope st) f (.ref c) A outer s H E).nox (defBody st) t ∧ t { nx := fun _ H' => Q .non H', rt := Q } (start N vs) H) : FnOk P w K mg base CX0 (k + 1) f fd ps sp := by
  obtain ⟨oc, od, kV, doc, pm, an, ct, osl, rfl, lk, code⟩ := F.ex
  refine fn_of lk code S len fun A outer s H vs Q E hr h => ?_
  obtain ⟨t, ht, q⟩ := body A outer s H vs Q E hr h
  exact ⟨t, ht.nox, q⟩
theorem func_mk {x qual : Str} {st : Stmt} {f c : Addr} {oc : Value} {od an : Option Addr} {osl : Array (Option Value)} {kV doc pm ct : Value} (l : K.lookup f = some ⟨oc, od, .func (PySem.W.fnOf x qual (defArgs st) (defBody st) (defScope st) .none kV doc pm an (.ref c) ct), osl⟩)
    (i : PySem.W.codeIn K (.ref c) qual = true) (k : PySem.W.keepIn K (.ref f) = true) : FunC K x qual st f (PySem.W.fnOf x qual (defArgs st) (defBody st) (defScope st) .none kV doc pm an (.ref c) ct) c := ⟨⟨oc, od, kV, doc, pm, an, ct, osl, rfl, l, i⟩, k⟩
end

/-- what the end knows of a def of the view: its code object and the empty table -/
def TabOf (mg : Str → Option Value) (h : Heap) (x : Str) : Prop :=
  ∃ (f : Addr) (o : Obj) (fd : FuncData) (c P : Addr), mg x = some (.ref f) ∧ h.get? f = some o ∧ o.data = .func fd ∧ fd.code = .ref c ∧ PySem.W.CodeHd h c P ∧ h.get? P = some { cls := .none, data := .fields #[] }
open LamX in
theorem walk_ofMany {l : PySem.W.OpenLaw} {n k : Nat} {q : Program} {loose : List Str} {XP : (Str → Option Value) → Heap → Prop} {YP : World → Heap → Prop} {d : DefRec} {K : Params → PySem.W.Frag} {CX : World → CXT} {x : Str}
    (most : l.most = some n) (size : n ≤ sizeLine) (plain : d.params.defaults = []) (room : Room k callerA) (hY : ∀ (w : World) (h : Heap), YP w h → (K w.params).In h)
    (F : ∀ (w : World) (mg : Str → Option Value) (fa : Addr) (h : Heap), (K w.params).In h → h.Ns mainGlobals mg → mg d.name = some (.ref fa) → (∀ y : Str, ((recsOf q).any fun e => e.name == y) = true → TabOf mg h y) → LawAtS l w (K w.params) (CX w) k n x mg fa h)
    (hCX : ∀ (w : World) (H : Hp) (s : Shared) (e : Value) (s' : Shared), CX w [] H s (fun _ _ _ => False) e s' → False) :
    PySem.W.WalkO q loose XP YP l.row.toRowW d [] (fun f vs => PySem.call f vs) := by
  refine Att.attach_callB most plain fun w s0 s1 mg mb fa o pm cd doc a vs ns G Y ho hd hcd hmg hobj hints hlen hbits hg => ?_
  have KX := hY w _ Y
  have tabs : ∀ y : Str, ((recsOf q).any fun e => e.name == y) = true → TabOf mg s1.heap y := fun y hy => by
    obtain ⟨e, he, en⟩ := List.any_eq_true.mp hy
    have en : e.name = y := beq_iff_eq.mp en
    obtain ⟨f', o', fd', c', P', g1, g2, g3, g4, g5, g6⟩ := G.T.tab e he
    rw [en] at g1
    exact ⟨f', o', fd', c', P', g1, g2, g3, g4, PySem.W.CodeHd.of g5 g6, g6.2⟩
  obtain ⟨fd, cs, sp, hT, nT, C, hb, hsp, hF⟩ := F w mg fa _ KX G.T.g hmg tabs
  exact law_callTs KX G.T.g G.T.b G.T.builtins G.T.nolimit hg hT nT C G.T.bmain hobj hints (Nat.le_trans hlen size) room hF hb (fun H hH hS => hsp H a ns hlen hbits hH hS) fun H e s' => hCX w H s1 e s'

/-- the table of a def, by what the written part tells -/
theorem tab_at {K : PySem.W.Frag} {mg : Str → Option Value} {h : Heap} {x : Str} {f c P : Addr} {oc e : Value} {od dd : Option Addr} {fd : FuncData} {osl sl : Array (Option Value)} {vs : Array Value} (KX : K.In h) (T : TabOf mg h x)
    (m : mg x = some (.ref f)) (l : K.lookup f = some ⟨oc, od, .func fd, osl⟩) (hc : fd.code = .ref c) (lc : K.lookup c = some ⟨e, dd, .fields vs, sl⟩) (hP : vs[11]? = some (.ref P)) :
    PySem.W.CodeHd h c P ∧ h.get? P = some { cls := .none, data := .fields #[] } := by
  obtain ⟨f', o', fd', c', P', g1, g2, g3, g4, g5, g6⟩ := T
  rw [m] at g1
  cases g1
  rw [KX _ _ l] at g2
  cases g2
  cases g3
  rw [hc] at g4
  cases g4
  have g5' := g5
  obtain ⟨o2, vs2, file, tf, flags, tg, inF, text, tt, e1, e2, e3, e4, _⟩ := g5'
  rw [KX _ _ lc] at e1
  cases e1
  cases e3
  rw [hP] at e4
  cases e4
  exact ⟨g5, g6⟩
end TcG
/-! What a call leaves as it was. -/
namespace TcG
open PySem PySem.Spec PyProof.Rows L2

theorem same_new {H : Hp} {p : Addr} {o : HO} (h : H p = none) : Same H (upd H p o) := fun b x e => by
  rw [upd_ne (ne_of_none e h)]
  exact e

/-- all but what stands at S is as it was -/
def Mv (S : List Addr) (H H' : Hp) : Prop := ∀ a o, a ∉ S → H a = some o → H' a = some o
theorem Mv.refl (S : List Addr) (H : Hp) : Mv S H H := fun _ _ _ e => e
theorem Mv.trans {S : List Addr} {H H1 H2 : Hp} (a : Mv S H H1) (b : Mv S H1 H2) : Mv S H H2 := fun c o n e => b c o n (a c o n e)
theorem Mv.of_same {S : List Addr} {H H1 : Hp} (a : Same H H1) : Mv S H H1 := fun c o _ e => a c o e
theorem Mv.wide {S T : List Addr} {H H1 : Hp} (a : Mv S H H1) (h : ∀ x ∈ S, x ∈ T) : Mv T H H1 := fun c o n e => a c o (fun z => n (h c z)) e
theorem Mv.new {S : List Addr} {H : Hp} {p : Addr} {o : HO} (h : H p = none) : Mv S H (upd H p o) := .of_same (same_new h)
theorem Mv.put {H : Hp} {p : Addr} {o : HO} : Mv [p] H (upd H p o) := fun a u n e => by
  rw [upd_ne (fun z => n (by rw [z]; exact List.mem_cons_self))]
  exact e
theorem Mv.tabbed {P : Addr} {H H' : Hp} (h : GxR.Tabbed P H H') : Mv [P] H H' := fun a o n e => by
  rw [h.2 a fun z => n (by rw [z]; exact List.mem_cons_self)]
  exact e
/-- an object of another kind stands elsewhere -/
theorem Mv.seqT {K : PySem.W.Frag} {S : List Addr} {H H' : Hp} {a : Addr} {xs : List V} (m : Mv S H H') (h : SqT K H a xs) (n : ∀ p ∈ S, ∀ u, Rd H p u → ∀ ys, u ≠ .tup ys) : SqT K H' a xs := by
  rcases h with h | h
  · have nS : a ∉ S := fun z => n a z _ h _ rfl
    rcases h with h | ⟨o, h⟩
    · exact .inl (.inl (m a _ nS h))
    · exact .inl (.inr ⟨o, m a _ nS h⟩)
  · exact .inr h
theorem Mv.seqL {K : PySem.W.Frag} {S : List Addr} {H H' : Hp} {a : Addr} {xs : List V} (m : Mv S H H') (h : SqL K H a xs) (n : ∀ p ∈ S, ∀ u, Rd H p u → u ≠ .lst xs) : SqL K H' a xs := by
  rcases h with h | h
  · have nS : a ∉ S := fun z => n a z _ h rfl
    rcases h with h | ⟨o, h⟩
    · exact .inl (.inl (m a _ nS h))
    · exact .inl (.inr ⟨o, m a _ nS h⟩)
  · exact .inr h
theorem Same.seqT {K : PySem.W.Frag} {H H' : Hp} {a : Addr} {xs : List V} (m : Same H H') (h : SqT K H a xs) : SqT K H' a xs :=
  (Mv.of_same (S := []) m).seqT h fun p hp => nomatch hp
theorem rd_of {H : Hp} {p : Addr} {o u : HO} (h : H p = some o) (hf : ∀ q v, o ≠ .frz q v) (r : Rd H p u) : u = o := by
  rcases r with r | ⟨q, r⟩
  · rw [h] at r
    cases r
    rfl
  · rw [h] at r
    cases r
    exact absurd rfl (hf _ _)
theorem fmod_range {x m : Int} (h : 0 < m) : 0 ≤ x.fmod m ∧ x.fmod m < m := by
  rw [Int.fmod_eq_emod_of_nonneg x (by omega)]
  exact ⟨Int.emod_nonneg _ (by omega), Int.emod_lt_of_pos _ h⟩

/-- the box of numbers that the law draws from: its digits stand at dl -/
def Box (K : PySem.W.Frag) (b dl : Addr) (H : Hp) : Prop := ∃ (ds : List Int) (n : Int), H b = some (.lst [.ref dl, .int n]) ∧ 0 ≤ n ∧ SqL K H dl (ds.map V.int)
theorem box_list_ne {dl : Addr} {n : Int} (ds : List Int) : HO.lst [V.ref dl, .int n] ≠ .lst (ds.map V.int) := fun z => by
  cases ds with
  | nil => cases z
  | cons x r => cases z
/-- the table grows, the box stays -/
theorem Box.mvT {K : PySem.W.Frag} {b dl P : Addr} {H H' : Hp} (h : Box K b dl H) (m : Mv [P] H H') (t : GxR.TabG H P) : Box K b dl H' := by
  obtain ⟨ds, n, hb, hn, hd⟩ := h
  obtain ⟨ps, tab, _⟩ := t
  have rd : ∀ u, Rd H P u → u = .tbl ps := fun u r => rd_of tab (fun _ _ z => by cases z) r
  refine ⟨ds, n, m b _ (fun z => ?_) hb, hn, m.seqL hd fun p hp u r => ?_⟩
  · rw [List.mem_singleton.mp z, tab] at hb
    cases hb
  · rw [List.mem_singleton.mp hp] at r
    rw [rd u r]
    intro z
    cases z
theorem Box.same {K : PySem.W.Frag} {b dl : Addr} {H H' : Hp} (h : Box K b dl H) (m : Same H H') : Box K b dl H' := by
  obtain ⟨ds, n, hb, hn, hd⟩ := h
  exact ⟨ds, n, m _ _ hb, hn, m.seq hd⟩
/-- what was made behind the box is changed -/
theorem Box.put {K : PySem.W.Frag} {b dl p : Addr} {o : HO} {H0 H : Hp} (h0 : Box K b dl H0) (np : H0 p = none) (h : Box K b dl H) : Box K b dl (upd H p o) := by
  obtain ⟨ds0, n0, hb0, _, hd0⟩ := h0
  obtain ⟨ds, n, hb, hn, hd⟩ := h
  have bp : b ≠ p := ne_of_none hb0 np
  rcases hd0 with hd0 | hd0
  · have dp : dl ≠ p := by
      rcases hd0 with z | ⟨q, z⟩
      · exact ne_of_none z np
      · exact ne_of_none z np
    refine ⟨ds, n, by rw [upd_ne bp]; exact hb, hn, ?_⟩
    rcases hd with (z | ⟨q, z⟩) | z
    · exact .inl (.inl (by rw [upd_ne dp]; exact z))
    · exact .inl (.inr ⟨q, by rw [upd_ne dp]; exact z⟩)
    · exact .inr z
  · exact ⟨ds0, n, by rw [upd_ne bp]; exact hb, hn, .inr hd0⟩
theorem Box.tabG {b dl P : Addr} {H H' : Hp} {K : PySem.W.Frag} (h : Box K b dl H) (m : Mv [b] H H') (t : GxR.TabG H P) : GxR.TabG H' P := by
  obtain ⟨ds, n, hb, hn, hd⟩ := h
  obtain ⟨ps, tab, tri⟩ := t
  refine ⟨ps, m P _ (fun z => ?_) tab, tri⟩
  rw [List.mem_singleton.mp z, hb] at tab
  cases tab
theorem Box.seqT {K : PySem.W.Frag} {b dl a : Addr} {H H' : Hp} {xs : List V} (h : Box K b dl H) (m : Mv [b] H H') (t : SqT K H a xs) : SqT K H' a xs := by
  obtain ⟨ds, n, hb, hn, hd⟩ := h
  refine m.seqT t fun p hp u r => ?_
  rw [List.mem_singleton.mp hp] at r
  rw [rd_of hb (fun _ _ z => by cases z) r]
  intro ys z
  cases z
theorem tab_seqT {K : PySem.W.Frag} {P a : Addr} {H H' : Hp} {xs : List V} (h : GxR.TabG H P) (m : Mv [P] H H') (t : SqT K H a xs) : SqT K H' a xs := by
  obtain ⟨ps, tab, _⟩ := h
  refine m.seqT t fun p hp u r => ?_
  rw [List.mem_singleton.mp hp] at r
  rw [rd_of tab (fun _ _ z => by cases z) r]
  intro ys z
  cases z
end TcG
/-! Loops and comprehensions over the signs of a text; alphabets. -/
namespace TcG
open PySem PySem.Spec PyProof.Rows L2

theorem its_go {l : List Nat} {i : Nat} {H : Hp} : (Its (tx l)).go i H ↔ i < l.length := by
  show i < (tx l).cps.size ↔ _
  rw [show (tx l).cps.size = l.length from tx_length l]
theorem its_stop {l : List Nat} {i : Nat} {H : Hp} : (Its (tx l)).stop i H ↔ l.length ≤ i := by
  show (tx l).cps.size ≤ i ↔ _
  rw [show (tx l).cps.size = l.length from tx_length l]
theorem its_yld {l : List Nat} {i : Nat} {H H' : Hp} {v : V} (h : (Its (tx l)).yld i H v H') : H' = H ∧ ∃ c, l[i]? = some c ∧ v = .str (tx [c]) := by
  obtain ⟨e, c, h1, h2⟩ := h
  exact ⟨e, c, by simpa [tx] using h1, h2⟩

/-- for c in a text -/
theorem for_text {l : List Nat} {g : TG} {tb : TS} {D : Ends} {σ : L2.St} {H : Hp} (Pv : Nat → L2.St → Hp → Prop) (h0 : Pv 0 σ H)
    (turn : ∀ i c σ H, l[i]? = some c → Pv i σ H → g (.str (tx [c])) σ H fun σ2 H2 => tb { D with nx := Pv (i + 1), ct := Pv (i + 1), bk := D.nx } σ2 H2) (out : ∀ σ H, Pv l.length σ H → D.nx σ H) :
    ∃ W : Nat → Nat → L2.St → Hp → Prop, (∃ m, W 0 m σ H) ∧ ∀ i m σ H, W i m σ H →
      ((Its (tx l)).stop i H ∧ D.nx σ H) ∨ ((Its (tx l)).go i H ∧ ∃ N : L2.St → Hp → Prop, (∀ σ' H', N σ' H' → ∃ m', m' < m ∧ W (i + 1) m' σ' H') ∧ ∀ x H', (Its (tx l)).yld i H x H' → g x σ H' fun σ2 H2 => tb { D with nx := N, ct := N, bk := D.nx } σ2 H2) := by
  refine ⟨fun i m σ H => m = l.length - i ∧ i ≤ l.length ∧ Pv i σ H, ⟨l.length, by simp, Nat.zero_le _, h0⟩, ?_⟩
  rintro i m σ H ⟨rfl, hi, p⟩
  by_cases lt : i < l.length
  · refine .inr ⟨its_go.mpr lt, Pv (i + 1), fun σ' H' p' => ⟨l.length - (i + 1), by omega, rfl, lt, p'⟩, fun x H' y => ?_⟩
    obtain ⟨e, c, hc, rfl⟩ := its_yld y
    subst e
    exact turn i c σ _ hc p
  · have e : i = l.length := by omega
    subst e
    exact .inl ⟨its_stop.mpr (Nat.le_refl _), out σ H p⟩

/-- [.. for c in a text if ..] -/
theorem lc_text {l : List Nat} {g : TG} {tt : TT} {te : TE} {vs : List Nat} {σ : L2.St} {H1 : Hp} {D : Addr} {Qd : Hp → Prop} (Pv : Nat → Hp → Prop) (h0 : Pv 0 (upd H1 D (.lst [])))
    (turn : ∀ i c H, l[i]? = some c → Pv i H → g (.str (tx [c])) (wipe σ vs) H fun σ2 H2 => wipe σ2 vs = wipe σ vs ∧ tt σ2 H2 fun b H3 =>
      if b = true then te σ2 H3 fun y H4 => ∃ acc, H4 D = some (.lst acc) ∧ acc.length < sizeLine ∧ Pv (i + 1) (upd H4 D (.lst (acc ++ [y]))) else Pv (i + 1) H3) (out : ∀ H, Pv l.length H → Qd H) :
    ∃ W : Nat → Nat → Hp → Prop, (∃ m, W 0 m (upd H1 D (.lst []))) ∧ ∀ i m H, W i m H →
      ((Its (tx l)).stop i H ∧ Qd H) ∨ ((Its (tx l)).go i H ∧ ∃ Nx : Hp → Prop, (∀ H', Nx H' → ∃ m', m' < m ∧ W (i + 1) m' H') ∧ ∀ x H', (Its (tx l)).yld i H x H' → g x (wipe σ vs) H' fun σ2 H2 => wipe σ2 vs = wipe σ vs ∧ tt σ2 H2 fun b H3 =>
        if b = true then te σ2 H3 fun y H4 => ∃ acc, H4 D = some (.lst acc) ∧ acc.length < sizeLine ∧ Nx (upd H4 D (.lst (acc ++ [y]))) else Nx H3) := by
  refine ⟨fun i m H => m = l.length - i ∧ i ≤ l.length ∧ Pv i H, ⟨l.length, by simp, Nat.zero_le _, h0⟩, ?_⟩
  rintro i m H ⟨rfl, hi, p⟩
  by_cases lt : i < l.length
  · refine .inr ⟨its_go.mpr lt, Pv (i + 1), fun H' p' => ⟨l.length - (i + 1), by omega, rfl, lt, p'⟩, fun x H' y => ?_⟩
    obtain ⟨e, c, hc, rfl⟩ := its_yld y
    subst e
    exact turn i c _ hc p
  · have e : i = l.length := by omega
    subst e
    exact .inl ⟨its_stop.mpr (Nat.le_refl _), out H p⟩

/-- the second clause of a comprehension, over a text -/
theorem lc2_text {l : List Nat} {g1 : TG} {tt1 : TT} {te : TE} {vs1 : List Nat} {σ2 : L2.St} {D : Addr} {H4 : Hp} {Nx : Hp → Prop} (Pv : Nat → Hp → Prop) (h0 : Pv 0 H4)
    (turn : ∀ i c H, l[i]? = some c → Pv i H → g1 (.str (tx [c])) (wipe σ2 vs1) H fun σ3 H5 => wipe σ3 vs1 = wipe σ2 vs1 ∧ tt1 σ3 H5 fun b H6 =>
        if b = true then te σ3 H6 fun y H7 => ∃ acc, H7 D = some (.lst acc) ∧ acc.length < sizeLine ∧ Pv (i + 1) (upd H7 D (.lst (acc ++ [y]))) else Pv (i + 1) H6) (out : ∀ H, Pv l.length H → Nx H) :
    ∃ W1 : Nat → Nat → Hp → Prop, (∃ m, W1 0 m H4) ∧ ∀ j k H, W1 j k H →
      ((Its (tx l)).stop j H ∧ Nx H) ∨ ((Its (tx l)).go j H ∧ ∃ Nx1 : Hp → Prop, (∀ H', Nx1 H' → ∃ k', k' < k ∧ W1 (j + 1) k' H') ∧ ∀ x H', (Its (tx l)).yld j H x H' → g1 x (wipe σ2 vs1) H' fun σ3 H5 => wipe σ3 vs1 = wipe σ2 vs1 ∧ tt1 σ3 H5 fun b H6 =>
        if b = true then te σ3 H6 fun y H7 => ∃ acc, H7 D = some (.lst acc) ∧ acc.length < sizeLine ∧ Nx1 (upd H7 D (.lst (acc ++ [y]))) else Nx1 H6) := by
  refine ⟨fun i m H => m = l.length - i ∧ i ≤ l.length ∧ Pv i H, ⟨l.length, by simp, Nat.zero_le _, h0⟩, ?_⟩
  rintro i m H ⟨rfl, hi, p⟩
  by_cases lt : i < l.length
  · refine .inr ⟨its_go.mpr lt, Pv (i + 1), fun H' p' => ⟨l.length - (i + 1), by omega, rfl, lt, p'⟩, fun x H' y => ?_⟩
    obtain ⟨e, c, hc, rfl⟩ := its_yld y
    subst e
    exact turn i c _ hc p
  · have e : i = l.length := by omega
    subst e
    exact .inl ⟨its_stop.mpr (Nat.le_refl _), out H p⟩
/-- .. and the first one -/
theorem lc2_first {l : List Nat} {n : Nat} {R : L2.St → Hp → (Hp → Prop) → Prop} {vs : List Nat} {σ : L2.St} {H1 : Hp} {D : Addr} {Qd : Hp → Prop} (Pv : Nat → Hp → Prop) (h0 : Pv 0 (upd H1 D (.lst [])))
    (turn : ∀ i c H, l[i]? = some c → Pv i H → wipe ((wipe σ vs).set n (some (.str (tx [c])))) vs = wipe σ vs ∧ R ((wipe σ vs).set n (some (.str (tx [c])))) H (Pv (i + 1))) (out : ∀ H, Pv l.length H → Qd H) :
    ∃ W : Nat → Nat → Hp → Prop, (∃ m, W 0 m (upd H1 D (.lst []))) ∧ ∀ i m H, W i m H →
      ((Its (tx l)).stop i H ∧ Qd H) ∨ ((Its (tx l)).go i H ∧ ∃ Nx : Hp → Prop, (∀ H', Nx H' → ∃ m', m' < m ∧ W (i + 1) m' H') ∧ ∀ x H', (Its (tx l)).yld i H x H' → gName n x (wipe σ vs) H' fun σ2 H2 => wipe σ2 vs = wipe σ vs ∧ tYes σ2 H2 fun b H3 =>
        if b = true then R σ2 H3 Nx else Nx H3) := by
  refine ⟨fun i m H => m = l.length - i ∧ i ≤ l.length ∧ Pv i H, ⟨l.length, by simp, Nat.zero_le _, h0⟩, ?_⟩
  rintro i m H ⟨rfl, hi, p⟩
  by_cases lt : i < l.length
  · refine .inr ⟨its_go.mpr lt, Pv (i + 1), fun H' p' => ⟨l.length - (i + 1), by omega, rfl, lt, p'⟩, fun x H' y => ?_⟩
    obtain ⟨e, c, hc, rfl⟩ := its_yld y
    subst e
    exact turn i c _ hc p
  · have e : i = l.length := by omega
    subst e
    exact .inl ⟨its_stop.mpr (Nat.le_refl _), out H p⟩

theorem take_next {α : Type} {l : List α} {i : Nat} {x : α} (h : l[i]? = some x) : l.take (i + 1) = l.take i ++ [x] := by
  rw [List.take_add_one, h]
  rfl

/-! ### rows of texts, alphabets -/
def txs (ps : List (List Nat)) : List V := ps.map fun p => .str (tx p)
theorem txs_flat (ps : List (List Nat)) : (txs ps).all flatV = true := by
  unfold txs
  rw [List.all_map, List.all_eq_true]
  intro p _
  rfl
theorem inV_txs (p : List Nat) (ps : List (List Nat)) : inV (.str (tx p)) (txs ps) = decide (p ∈ ps) := by
  unfold inV txs
  rw [List.any_map]
  have key : ∀ q : List Nat, ((fun y => eqV y (.str (tx p))) ∘ fun q => V.str (tx q)) q = decide (q = p) := fun q => by
    show (tx q == tx p) = _
    by_cases h : q = p
    · rw [h]
      simp
    · rw [decide_eq_false h]
      exact beq_eq_false_iff_ne.mpr fun z => h (tx_inj z)
  rw [Bool.eq_iff_iff, List.any_eq_true, decide_eq_true_eq]
  constructor
  · intro ⟨q, hq, e⟩
    rw [key] at e
    rw [← of_decide_eq_true e]
    exact hq
  · intro h
    exact ⟨p, h, by rw [key]; exact decide_eq_true rfl⟩
/-- the alphabet at a: letters ls, pairs ps -/
def Alpha (K : PySem.W.Frag) (H : Hp) (a : Addr) (ls : List Nat) (ps : List (List Nat)) : Prop :=
  ∃ pt, SqT K H a [.str "alphabet", .str (tx ls), .ref pt] ∧ SqT K H pt (txs ps)
theorem Alpha.same {K : PySem.W.Frag} {H H' : Hp} {a : Addr} {ls : List Nat} {ps : List (List Nat)} (h : Alpha K H a ls ps) (m : Same H H') : Alpha K H' a ls ps := by
  obtain ⟨pt, h1, h2⟩ := h
  exact ⟨pt, Same.seqT m h1, Same.seqT m h2⟩
theorem Alpha.mvB {K : PySem.W.Frag} {H H' : Hp} {a b dl : Addr} {ls : List Nat} {ps : List (List Nat)} (h : Alpha K H a ls ps) (bx : Box K b dl H) (m : Mv [b] H H') : Alpha K H' a ls ps := by
  obtain ⟨pt, h1, h2⟩ := h
  exact ⟨pt, bx.seqT m h1, bx.seqT m h2⟩
theorem Alpha.mvT {K : PySem.W.Frag} {H H' : Hp} {a P : Addr} {ls : List Nat} {ps : List (List Nat)} (h : Alpha K H a ls ps) (t : GxR.TabG H P) (m : Mv [P] H H') : Alpha K H' a ls ps := by
  obtain ⟨pt, h1, h2⟩ := h
  exact ⟨pt, tab_seqT t m h1, tab_seqT t m h2⟩
/-- whether two letters are independent -/
def ind (ps : List (List Nat)) (x y : Nat) : Bool := decide ([min x y, max x y] ∈ ps)
theorem ind_comm (ps : List (List Nat)) (x y : Nat) : ind ps x y = ind ps y x := by
  unfold ind
  rw [Nat.min_comm, Nat.max_comm]
/-- pairs tell the lesser letter first -/
def Pairs (ls : List Nat) (ps : List (List Nat)) : Prop := ∀ p ∈ ps, ∃ x y, p = [x, y] ∧ x < y ∧ x ∈ ls ∧ y ∈ ls
theorem ind_self {ls : List Nat} {ps : List (List Nat)} (h : Pairs ls ps) (x : Nat) : ind ps x x = false := by
  unfold ind
  refine decide_eq_false fun z => ?_
  obtain ⟨a, b, e, lt, _⟩ := h _ z
  simp at e
  omega
theorem ind_either {ls : List Nat} {ps : List (List Nat)} (h : Pairs ls ps) (x y : Nat) : (decide ([x, y] ∈ ps) || decide ([y, x] ∈ ps)) = ind ps x y := by
  unfold ind
  rw [Bool.eq_iff_iff, Bool.or_eq_true, decide_eq_true_eq, decide_eq_true_eq, decide_eq_true_eq]
  constructor
  · rintro (z | z)
    · obtain ⟨a, b, e, lt, _⟩ := h _ z
      simp at e
      rw [Nat.min_eq_left (by omega), Nat.max_eq_right (by omega)]
      exact z
    · obtain ⟨a, b, e, lt, _⟩ := h _ z
      simp at e
      rw [Nat.min_eq_right (by omega), Nat.max_eq_left (by omega)]
      exact z
  · intro z
    by_cases le : x ≤ y
    · rw [Nat.min_eq_left le, Nat.max_eq_right le] at z
      exact .inl z
    · rw [Nat.min_eq_right (by omega), Nat.max_eq_left (by omega)] at z
      exact .inr z
theorem tx_lt (a b : Nat) : decide ((tx [a]).cps.toList < (tx [b]).cps.toList) = decide (a < b) := by
  show decide ([a] < [b]) = _
  by_cases h : a < b
  · rw [decide_eq_true h]
    exact decide_eq_true (List.Lex.rel h)
  · rw [decide_eq_false h]
    refine decide_eq_false fun z => h ?_
    cases z with
    | rel r => exact r
    | cons r => cases r
theorem min_tx (x y : Nat) : (if (tx [y]).cps.toList < (tx [x]).cps.toList then tx [y] else tx [x]) = tx [min x y] := by
  have e := tx_lt y x
  by_cases h : y < x
  · rw [decide_eq_true h] at e
    rw [if_pos (of_decide_eq_true e), Nat.min_eq_right (by omega)]
  · rw [decide_eq_false h] at e
    rw [if_neg (of_decide_eq_false e), Nat.min_eq_left (by omega)]
theorem max_tx (x y : Nat) : (if (tx [x]).cps.toList < (tx [y]).cps.toList then tx [y] else tx [x]) = tx [max x y] := by
  have e := tx_lt x y
  by_cases h : x < y
  · rw [decide_eq_true h] at e
    rw [if_pos (of_decide_eq_true e), Nat.max_eq_right (by omega)]
  · rw [decide_eq_false h] at e
    rw [if_neg (of_decide_eq_false e), Nat.max_eq_left (by omega)]
end TcG
/-! What parts two words, as a function; numbers of letters in texts. -/
namespace TcG
open PySem PySem.Spec PyProof.Rows L2

theorem count_tx (a : List Nat) (c : Nat) : Txt.count (tx a) (tx [c]) = (a.count c : Int) := by
  have h := count_is (tx a) c
  rw [countIn_signs_sum] at h
  rw [show (tx [c]) = (⟨#[c]⟩ : Str) from rfl, h, tx_list]
  clear h
  induction a with
  | nil => rfl
  | cons x r ih =>
    rw [List.map_cons, List.sum_cons, ih, List.count_cons]
    by_cases e : x = c
    · subst e
      simp
      omega
    · simp [e]

theorem find_at {α : Type} {l : List α} {p : α → Bool} {i : Nat} {x : α} (h : l[i]? = some x) (before : ∀ y ∈ l.take i, p y = false) (here : p x = true) : l.find? p = some x := by
  have e : l = l.take i ++ x :: l.drop (i + 1) := by
    have hi := (List.getElem?_eq_some_iff.mp h)
    obtain ⟨lt, hx⟩ := hi
    rw [← hx, ← List.drop_eq_getElem_cons lt, List.take_append_drop]
  rw [e, List.find?_append]
  have n : (l.take i).find? p = none := List.find?_eq_none.mpr fun y hy z => by
    rw [before y hy] at z
    cases z
  rw [n, List.find?_cons, here]
  rfl
theorem find_no {α : Type} {l : List α} {p : α → Bool} (h : ∀ y ∈ l, p y = false) : l.find? p = none := List.find?_eq_none.mpr fun y hy z => by
  rw [h y hy] at z
  cases z

inductive Paper where
  | count (x : Nat)
  | order (x y : Nat)
def keepM (l a : List Nat) : List Nat := a.filter fun c => decide (c ∈ l)
/-- the pairs of letters of ls, the lesser one first -/
def pairsWith (ls : List Nat) (x : Nat) : List (List Nat) := (ls.filter fun y => decide (x < y)).map fun y => [x, y]
def pairsOf (ls : List Nat) : List (List Nat) := ls.flatMap (pairsWith ls)
def parted (ps : List (List Nat)) (a b : List Nat) : List Nat → Bool
  | [x, y] => !ind ps x y && decide (keepM [x, y] a ≠ keepM [x, y] b)
  | _ => false
theorem parted_two (ps : List (List Nat)) (a b : List Nat) (x y : Nat) : parted ps a b [x, y] = (!ind ps x y && decide (keepM [x, y] a ≠ keepM [x, y] b)) := rfl
def orderOf : Option (List Nat) → Option Paper
  | some [x, y] => some (.order x y)
  | _ => none
def countsApart (a b : List Nat) (c : Nat) : Bool := decide (a.count c ≠ b.count c)
def partsM (ls : List Nat) (ps : List (List Nat)) (a b : List Nat) : Option Paper := match ls.find? (countsApart a b) with
  | some c => some (.count c)
  | none => orderOf ((pairsOf ls).find? (parted ps a b))
theorem partsM_count {ls : List Nat} {ps : List (List Nat)} {a b : List Nat} {c : Nat} (h : ls.find? (countsApart a b) = some c) : partsM ls ps a b = some (.count c) := by
  unfold partsM
  rw [h]
theorem partsM_order {ls : List Nat} {ps : List (List Nat)} {a b : List Nat} (h : ls.find? (countsApart a b) = none) : partsM ls ps a b = orderOf ((pairsOf ls).find? (parted ps a b)) := by
  unfold partsM
  rw [h]
theorem pairsOf_mem {ls p : List Nat} (h : p ∈ pairsOf ls) : ∃ x y, p = [x, y] ∧ x ∈ ls ∧ y ∈ ls ∧ x < y := by
  unfold pairsOf at h
  obtain ⟨x, hx, hp⟩ := List.mem_flatMap.mp h
  unfold pairsWith at hp
  obtain ⟨y, hy, e⟩ := List.mem_map.mp hp
  obtain ⟨h1, h2⟩ := List.mem_filter.mp hy
  exact ⟨x, y, e.symm, hx, h1, of_decide_eq_true h2⟩
/-- the paper as a value -/
def PaperV (H : Hp) (v : V) : Option Paper → Prop
  | none => v = .non
  | some (.count x) => ∃ p, v = .ref p ∧ H p = some (.tup [.str "count", .str (tx [x])])
  | some (.order x y) => ∃ p, v = .ref p ∧ H p = some (.tup [.str "order", .str (tx [x]), .str (tx [y])])
end TcG
/-! Slices of texts; exchanges of neighbours. -/
namespace TcG
open PySem PySem.Spec PyProof.Rows L2
theorem cut_to (l : List Nat) (k : Nat) : cutS (tx l) none (some (k : Int)) = tx (l.take k) := by
  unfold cutS
  rw [HT.sIx_none, HT.sIx_nat, tx_length]
  show (⟨((l.drop 0).take (min k l.length - 0)).toArray⟩ : Str) = tx (l.take k)
  rw [List.drop_zero, Nat.sub_zero]
  unfold tx
  by_cases h : k ≤ l.length
  · rw [Nat.min_eq_left h]
  · rw [Nat.min_eq_right (by omega), List.take_length, List.take_of_length_le (by omega)]
theorem cut_from (l : List Nat) (k : Nat) : cutS (tx l) (some (k : Int)) none = tx (l.drop k) := by
  unfold cutS
  rw [HT.sIx_none, HT.sIx_nat, tx_length]
  show (⟨((l.drop (min k l.length)).take (l.length - min k l.length)).toArray⟩ : Str) = tx (l.drop k)
  unfold tx
  by_cases h : k ≤ l.length
  · rw [Nat.min_eq_left h, List.take_of_length_le (by rw [List.length_drop]; omega)]
  · rw [Nat.min_eq_right (by omega), List.drop_length, List.drop_of_length_le (show l.length ≤ k by omega)]
    simp
/-- the signs at k and behind it have changed places -/
def swapAt (l : List Nat) (k : Nat) : List Nat := l.take k ++ (match l[k + 1]?, l[k]? with | some y, some x => [y, x] | _, _ => []) ++ l.drop (k + 2)
theorem swapAt_eq {l : List Nat} {k x y : Nat} (hx : l[k]? = some x) (hy : l[k + 1]? = some y) : swapAt l k = l.take k ++ [y] ++ [x] ++ l.drop (k + 2) := by
  unfold swapAt
  rw [hx, hy]
  simp
/-- one exchange of neighbouring independent letters -/
inductive Ex1 (ps : List (List Nat)) : List Nat → List Nat → Prop
  | mk (p q : List Nat) (x y : Nat) (h : ind ps x y = true) : Ex1 ps (p ++ x :: y :: q) (p ++ y :: x :: q)
/-- some exchanges, one behind the other -/
inductive Exs (ps : List (List Nat)) : List Nat → List Nat → Prop
  | refl (a : List Nat) : Exs ps a a
  | step {a b c : List Nat} (h : Exs ps a b) (e : Ex1 ps b c) : Exs ps a c
theorem Exs.one {ps : List (List Nat)} {a b : List Nat} (e : Ex1 ps a b) : Exs ps a b := .step (.refl a) e
theorem Exs.trans {ps : List (List Nat)} {a b c : List Nat} (h : Exs ps a b) (g : Exs ps b c) : Exs ps a c := by
  induction g with
  | refl => exact h
  | step _ e ih => exact .step ih e
theorem split_two {l : List Nat} {k x y : Nat} (hx : l[k]? = some x) (hy : l[k + 1]? = some y) : l = l.take k ++ x :: y :: l.drop (k + 2) := by
  obtain ⟨h1, e1⟩ := List.getElem?_eq_some_iff.mp hx
  obtain ⟨h2, e2⟩ := List.getElem?_eq_some_iff.mp hy
  have d1 : l.drop k = x :: l.drop (k + 1) := by rw [List.drop_eq_getElem_cons h1, e1]
  have d2 : l.drop (k + 1) = y :: l.drop (k + 2) := by rw [List.drop_eq_getElem_cons h2, e2]
  rw [← d2, ← d1, List.take_append_drop]
theorem swap_ex {ps : List (List Nat)} {l : List Nat} {k x y : Nat} (hx : l[k]? = some x) (hy : l[k + 1]? = some y) (h : ind ps x y = true) : Ex1 ps l (swapAt l k) := by
  have e := split_two hx hy
  rw [swapAt_eq hx hy]
  have s : l.take k ++ [y] ++ [x] ++ l.drop (k + 2) = l.take k ++ y :: x :: l.drop (k + 2) := by simp
  rw [s]
  have g := Ex1.mk (l.take k) (l.drop (k + 2)) x y h
  rw [← e] at g
  exact g
theorem Ex1.swap {ps : List (List Nat)} {a b : List Nat} (h : Ex1 ps a b) : ∃ k x y, a[k]? = some x ∧ a[k + 1]? = some y ∧ ind ps x y = true ∧ b = swapAt a k := by
  obtain ⟨p, q, x, y, hi⟩ := h
  have hx : (p ++ x :: y :: q)[p.length]? = some x := by simp
  have hy : (p ++ x :: y :: q)[p.length + 1]? = some y := by simp
  refine ⟨p.length, x, y, hx, hy, hi, ?_⟩
  rw [swapAt_eq hx hy]
  simp [List.drop_append]
theorem Ex1.perm {ps : List (List Nat)} {a b : List Nat} (h : Ex1 ps a b) : a.Perm b := by
  obtain ⟨p, q, x, y, _⟩ := h
  exact List.Perm.append_left p (List.Perm.swap y x q)
theorem Exs.perm {ps : List (List Nat)} {a b : List Nat} (h : Exs ps a b) : a.Perm b := by
  induction h with
  | refl => exact List.Perm.refl _
  | step _ e ih => exact ih.trans e.perm
end TcG
/-! The letters from a on, and drawn pairs of them. -/
namespace TcG
open PySem PySem.Spec PyProof.Rows L2
def alph (n : Nat) : List Nat := [97, 98, 99, 100, 101, 102].take n
theorem alph_len {n : Nat} (h : n ≤ 6) : (alph n).length = n := by
  unfold alph
  rw [List.length_take]
  exact Nat.min_eq_left h
theorem alph_at {n j : Nat} (h : n ≤ 6) (hj : j < n) : (alph n)[j]? = some (97 + j) := by
  have key : ∀ n ≤ 6, ∀ j < n, (alph n)[j]? = some (97 + j) := by decide
  exact key n h j hj
theorem alph_pairs {n j : Nat} (h : n ≤ 6) (hj : j < n) : pairsWith (alph n) (97 + j) = ((alph n).drop (j + 1)).map fun y => [97 + j, y] := by
  have key : ∀ n ≤ 6, ∀ j < n, pairsWith (alph n) (97 + j) = ((alph n).drop (j + 1)).map fun y => [97 + j, y] := by decide
  exact key n h j hj
theorem alph_nodup {n : Nat} (h : n ≤ 6) : (pairsOf (alph n)).Nodup := by
  have key : ∀ n ≤ 6, (pairsOf (alph n)).Nodup := by decide
  exact key n h
theorem alph_count {n : Nat} (h : n ≤ 6) : (pairsOf (alph n)).length ≤ 15 := by
  have key : ∀ n ≤ 6, (pairsOf (alph n)).length ≤ 15 := by decide
  exact key n h
theorem alph_rising {n : Nat} (h : n ≤ 6) : (alph n).Pairwise (· < ·) := by
  have key : ∀ n ≤ 6, (alph n).Pairwise (· < ·) := by decide
  exact key n h
theorem at_eq {α : Type} {xs : List α} {z : Int} {j : Nat} {v : α} (e : z = (j : Int)) (h : xs[j]? = some v) : atI xs z = some v := by
  rw [e]
  exact atI_nat h
/-- an alphabet that was drawn -/
structure Drawn (n : Nat) (ps : List (List Nat)) : Prop where
  big : n ≤ 6
  some : 1 ≤ n
  sub : ∀ p ∈ ps, p ∈ pairsOf (alph n)
  nodup : ps.Nodup
  sorted : sortedS (ps.map tx) = true
theorem Drawn.pairs {n : Nat} {ps : List (List Nat)} (d : Drawn n ps) : Pairs (alph n) ps := fun p hp => by
  obtain ⟨x, y, e, hx, hy, lt⟩ := pairsOf_mem (d.sub p hp)
  exact ⟨x, y, e, lt, hx, hy⟩
theorem map_tx_inj {a b : List (List Nat)} (h : a.map tx = b.map tx) : a = b := by
  have e : ∀ l : List (List Nat), (l.map tx).map (fun s => s.cps.toList) = l := fun l => by
    rw [List.map_map]
    exact List.map_id _
  rw [← e a, ← e b, h]
theorem txs_map (ps : List (List Nat)) : txs ps = (ps.map tx).map V.str := by
  unfold txs
  rw [List.map_map]
  rfl
/-- the texts of a row, back as rows of signs -/
theorem rows_of (ys : List Str) : ys = (ys.map fun s => s.cps.toList).map tx := by
  rw [List.map_map]
  exact (List.map_id _).symm
theorem drawn_of {n : Nat} {prs : List (List Nat)} {ys : List Str} (h : n ≤ 6) (h1 : 1 ≤ n) (sub : prs.Sublist (pairsOf (alph n))) (pm : ys.Perm (prs.map tx)) (so : sortedS ys = true) : ∃ ps, ys = ps.map tx ∧ Drawn n ps := by
  refine ⟨ys.map fun s => s.cps.toList, rows_of ys, h, h1, fun p hp => ?_, ?_, by rw [← rows_of]; exact so⟩
  · obtain ⟨s, hs, e⟩ := List.mem_map.mp hp
    obtain ⟨q, hq, eq⟩ := List.mem_map.mp (pm.mem_iff.mp hs)
    rw [← e, ← eq]
    exact sub.subset hq
  · have e : (prs.map tx).map (fun s => s.cps.toList) = prs := by
      rw [List.map_map]
      exact List.map_id _
    have pm2 := pm.map (fun s : Str => s.cps.toList)
    rw [e] at pm2
    exact pm2.nodup_iff.mpr ((alph_nodup h).sublist sub)
end TcG
/-! Values that the law calls the same. -/
namespace TcG
open PySem PySem.Spec PyProof.Rows L2
theorem tyx_tup {K : PySem.W.Frag} {H : Hp} {p : Addr} {xs : List V} (h : SqT K H p xs) : TyX K H (.ref p) (.type "tuple") := by
  rcases h with (h | ⟨o, h⟩) | ⟨o, its, n, hk, hc, _⟩
  · exact .base (.tup h)
  · exact .fTuple h
  · exact .kTuple hk hc
/-- the same up to n tuples deep -/
def SameR (K : PySem.W.Frag) (H : Hp) : Nat → V → V → Prop
  | 0, _, _ => False
  | n + 1, x, y => (x = y ∧ flatV x = true) ∨ ∃ p q xs ys, x = .ref p ∧ y = .ref q ∧ SqT K H p xs ∧ SqT K H q ys ∧ xs.length = ys.length ∧ xs.length ≤ 100 ∧ ∀ (i : Nat) a b, xs[i]? = some a → ys[i]? = some b → SameR K H n a b
end TcG
/-! Words that exchanges lead to, searched breadth first. -/
namespace TcG
open PySem PySem.Spec PyProof.Rows L2
theorem len_le_of_mem {α : Type} [DecidableEq α] : ∀ {F G : List α}, F.Nodup → (∀ x ∈ F, x ∈ G) → F.length ≤ G.length
  | [], _, _, _ => Nat.zero_le _
  | x :: r, G, nd, h => by
    have hx : x ∈ G := h x List.mem_cons_self
    obtain ⟨nx, nr⟩ := List.nodup_cons.mp nd
    have ih := len_le_of_mem (F := r) (G := G.erase x) nr fun y hy => (List.mem_erase_of_ne (show y ≠ x from fun e => nx (by rw [← e]; exact hy))).mpr (h y (List.mem_cons_of_mem _ hy))
    have hl := List.length_erase_of_mem hx
    have pos : 0 < G.length := List.length_pos_of_mem hx
    rw [List.length_cons]
    omega
/-- all words of n letters of ls -/
def wordsOf (ls : List Nat) : Nat → List (List Nat)
  | 0 => [[]]
  | n + 1 => ls.flatMap fun c => (wordsOf ls n).map (c :: ·)
theorem wordsOf_mem (ls : List Nat) : ∀ (f : List Nat), (∀ c ∈ f, c ∈ ls) → f ∈ wordsOf ls f.length
  | [], _ => List.mem_singleton.mpr rfl
  | c :: r, h => List.mem_flatMap.mpr ⟨c, h c List.mem_cons_self, List.mem_map.mpr ⟨r, wordsOf_mem ls r fun d hd => h d (List.mem_cons_of_mem _ hd), rfl⟩⟩
theorem flat_const {α β : Type} (k : Nat) (f : α → List β) (h : ∀ x, (f x).length = k) : ∀ l : List α, (l.flatMap f).length = l.length * k
  | [] => by simp
  | x :: r => by rw [List.flatMap_cons, List.length_append, h, flat_const k f h r, List.length_cons, Nat.succ_mul, Nat.add_comm]
theorem wordsOf_len (ls : List Nat) : ∀ n, (wordsOf ls n).length = ls.length ^ n
  | 0 => rfl
  | n + 1 => by
    show (ls.flatMap fun c => (wordsOf ls n).map (c :: ·)).length = _
    rw [flat_const (ls.length ^ n) _ (fun x => by rw [List.length_map, wordsOf_len ls n]), Nat.pow_succ, Nat.mul_comm]
/-- what is found so far -/
structure Grown (ps : List (List Nat)) (a : List Nat) (F : List (List Nat)) : Prop where
  nd : F.Nodup
  has : a ∈ F
  sound : ∀ f ∈ F, Exs ps a f
theorem Grown.bound {ps : List (List Nat)} {a ls : List Nat} {F : List (List Nat)} (g : Grown ps a F) (h : ∀ c ∈ a, c ∈ ls) (hl : ls.length ≤ 5) (ha : a.length ≤ 7) : F.length ≤ 78125 := by
  have h1 : F.length ≤ (wordsOf ls a.length).length := len_le_of_mem g.nd fun f hf => by
    have pm := (g.sound f hf).perm
    have := wordsOf_mem ls f fun c hc => h c (pm.mem_iff.mpr hc)
    rw [← pm.length_eq] at this
    exact this
  rw [wordsOf_len] at h1
  have h2 : ls.length ^ a.length ≤ 5 ^ a.length := Nat.pow_le_pow_left hl _
  have h3 : 5 ^ a.length ≤ 5 ^ 7 := Nat.pow_le_pow_right (by decide) ha
  exact Nat.le_trans h1 (Nat.le_trans h2 (Nat.le_trans h3 (by decide)))
def ClosedTo (ps : List (List Nat)) (F : List (List Nat)) (n : Nat) : Prop := ∀ i, i < n → ∀ f, F[i]? = some f → ∀ g, Ex1 ps f g → g ∈ F
theorem Grown.all {ps : List (List Nat)} {a : List Nat} {F : List (List Nat)} (g : Grown ps a F) (c : ClosedTo ps F F.length) (v : List Nat) : v ∈ F ↔ Exs ps a v := by
  refine ⟨g.sound v, fun h => ?_⟩
  induction h with
  | refl => exact g.has
  | step _ e ih =>
    obtain ⟨i, hi⟩ := List.mem_iff_getElem?.mp ih
    exact c i (List.getElem?_eq_some_iff.mp hi).1 _ hi _ e
theorem Grown.put {ps : List (List Nat)} {a f g : List Nat} {F : List (List Nat)} (h : Grown ps a F) (hf : f ∈ F) (e : Ex1 ps f g) (n : g ∉ F) : Grown ps a (F ++ [g]) where
  nd := List.nodup_append.mpr ⟨h.nd, by simp, fun x hx y hy => by
    rw [List.mem_singleton.mp hy]
    exact fun z => n (z ▸ hx)⟩
  has := List.mem_append_left _ h.has
  sound := fun x hx => by
    rcases List.mem_append.mp hx with hx | hx
    · exact h.sound x hx
    · rw [List.mem_singleton.mp hx]
      exact .step (h.sound f hf) e
theorem ClosedTo.put {ps : List (List Nat)} {F : List (List Nat)} {g : List Nat} {n : Nat} (h : ClosedTo ps F n) (hn : n ≤ F.length) : ClosedTo ps (F ++ [g]) n := fun i hi f hf x e => by
  rw [List.getElem?_append_left (by omega)] at hf
  exact List.mem_append_left _ (h i hi f hf x e)
/-- the known words as a dict's pairs -/
def knownOf (F : List (List Nat)) : List (Key × V) := F.map fun f => (Sum.inr (tx f), .bl true)
theorem known_find (F : List (List Nat)) (g : List Nat) : (valV (knownOf F) (Sum.inr (tx g))).isSome = decide (g ∈ F) := by
  induction F with
  | nil => rfl
  | cons f r ih =>
    show (valV ((Sum.inr (tx f), V.bl true) :: knownOf r) (Sum.inr (tx g))).isSome = _
    by_cases e : f = g
    · rw [valV_pos (by rw [e])]
      simp [e]
    · rw [valV_neg (fun z => e (tx_inj (Sum.inr.inj z))), ih]
      have : g ≠ f := fun z => e z.symm
      simp [this]
theorem known_put {F : List (List Nat)} {g : List Nat} (h : g ∉ F) : putK (knownOf F) (Sum.inr (tx g)) (.bl true) = knownOf (F ++ [g]) := by
  unfold putK
  have : ((knownOf F).any fun kv => decide (kv.1 = Sum.inr (tx g))) = false := by
    rw [List.any_eq_false]
    intro kv hk z
    obtain ⟨f, hf, e⟩ := List.mem_map.mp hk
    rw [← e] at z
    exact h (tx_inj (Sum.inr.inj (of_decide_eq_true z)) ▸ hf)
  rw [this, if_neg Bool.false_ne_true]
  unfold knownOf
  rw [List.map_append]
  rfl
end TcG
/-! Words are alike exactly if nothing parts them. -/
namespace TcG
open PySem PySem.Spec PyProof.Rows L2
variable {ps : List (List Nat)} {ls : List Nat}
theorem Ex1.pre {a b : List Nat} (r : List Nat) (h : Ex1 ps a b) : Ex1 ps (r ++ a) (r ++ b) := by
  obtain ⟨p, q, x, y, hi⟩ := h
  have := Ex1.mk (r ++ p) q x y hi
  rw [List.append_assoc, List.append_assoc] at this
  exact this
theorem Ex1.post {a b : List Nat} (r : List Nat) (h : Ex1 ps a b) : Ex1 ps (a ++ r) (b ++ r) := by
  obtain ⟨p, q, x, y, hi⟩ := h
  have := Ex1.mk p (q ++ r) x y hi
  simpa using this
theorem Exs.pre {a b : List Nat} (r : List Nat) (h : Exs ps a b) : Exs ps (r ++ a) (r ++ b) := by
  induction h with
  | refl => exact .refl _
  | step _ e ih => exact .step ih (e.pre r)
theorem Exs.post {a b : List Nat} (r : List Nat) (h : Exs ps a b) : Exs ps (a ++ r) (b ++ r) := by
  induction h with
  | refl => exact .refl _
  | step _ e ih => exact .step ih (e.post r)
theorem Ex1.symm {a b : List Nat} (h : Ex1 ps a b) : Ex1 ps b a := by
  obtain ⟨p, q, x, y, hi⟩ := h
  exact .mk p q y x (by rw [ind_comm]; exact hi)
theorem Exs.symm {a b : List Nat} (h : Exs ps a b) : Exs ps b a := by
  induction h with
  | refl => exact .refl _
  | step _ e ih => exact (Exs.one e.symm).trans ih
/-- a letter passes letters that are independent of it -/
theorem bubble (x : Nat) (q : List Nat) : ∀ p : List Nat, (∀ y ∈ p, ind ps y x = true) → Exs ps (p ++ x :: q) (x :: (p ++ q))
  | [], _ => .refl _
  | y :: p, h => by
    have ih := bubble x q p fun z hz => h z (List.mem_cons_of_mem _ hz)
    have h1 : Exs ps (y :: (p ++ x :: q)) (y :: x :: (p ++ q)) := ih.pre [y]
    exact .step h1 (Ex1.mk [] (p ++ q) y x (h y List.mem_cons_self))

theorem keepM_append (l a b : List Nat) : keepM l (a ++ b) = keepM l a ++ keepM l b := by
  unfold keepM
  rw [List.filter_append]
theorem keepM_cons_in {l : List Nat} {c : Nat} (h : c ∈ l) (a : List Nat) : keepM l (c :: a) = c :: keepM l a := by
  unfold keepM
  rw [List.filter_cons, if_pos (decide_eq_true h)]
theorem keepM_cons_out {l : List Nat} {c : Nat} (h : c ∉ l) (a : List Nat) : keepM l (c :: a) = keepM l a := by
  unfold keepM
  rw [List.filter_cons, if_neg (by rw [decide_eq_false h]; exact Bool.false_ne_true)]
theorem keepM_none {l a : List Nat} (h : ∀ c ∈ a, c ∉ l) : keepM l a = [] := by
  unfold keepM
  rw [List.filter_eq_nil_iff]
  intro c hc z
  exact h c hc (of_decide_eq_true z)
theorem keepM_swap (u v : Nat) (a : List Nat) : keepM [u, v] a = keepM [v, u] a := by
  unfold keepM
  refine List.filter_congr fun c _ => ?_
  rw [Bool.eq_iff_iff, decide_eq_true_eq, decide_eq_true_eq]
  simp only [List.mem_cons, List.not_mem_nil, or_false]
  exact Or.comm

/-- the words of all dependent letters are the same in both -/
def KeepsM (ls : List Nat) (ps : List (List Nat)) (a b : List Nat) : Prop := ∀ u v, u ∈ ls → v ∈ ls → u ≠ v → ind ps u v = false → keepM [u, v] a = keepM [u, v] b

theorem split_first {x : Nat} : ∀ {a : List Nat}, x ∈ a → ∃ p q, a = p ++ x :: q ∧ x ∉ p
  | [], h => nomatch h
  | c :: r, h => by
    by_cases e : c = x
    · exact ⟨[], r, by rw [e]; rfl, by simp⟩
    · have hr : x ∈ r := by
        rcases List.mem_cons.mp h with z | z
        · exact absurd z.symm e
        · exact z
      obtain ⟨p, q, e1, e2⟩ := split_first hr
      refine ⟨c :: p, q, by rw [e1]; rfl, fun z => ?_⟩
      rcases List.mem_cons.mp z with z | z
      · exact e z.symm
      · exact e2 z

theorem alike_of_keeps : ∀ (b a : List Nat), (∀ c ∈ a, c ∈ ls) → (∀ c ∈ b, c ∈ ls) → a.Perm b → KeepsM ls ps a b → Exs ps a b
  | [], a, _, _, pm, _ => by
    rw [pm.eq_nil]
    exact .refl _
  | x :: b, a, ia, ib, pm, kp => by
    have hx : x ∈ a := pm.mem_iff.mpr List.mem_cons_self
    obtain ⟨p, q, rfl, nx⟩ := split_first hx
    have xl : x ∈ ls := ib x List.mem_cons_self
    have free : ∀ y ∈ p, ind ps y x = true := fun y hy => by
      cases e : ind ps y x with
      | true => rfl
      | false =>
        exfalso
        have ne : y ≠ x := fun z => nx (z ▸ hy)
        have k := kp y x (ia y (List.mem_append_left _ hy)) xl ne e
        rw [keepM_append, keepM_cons_in (by simp) b] at k
        -- the first of both letters in p is y
        have hk : ∀ c ∈ keepM [y, x] p, c = y := fun c hc => by
          obtain ⟨h1, h2⟩ := List.mem_filter.mp hc
          have h2 := of_decide_eq_true h2
          rcases List.mem_cons.mp h2 with z | z
          · exact z
          · rw [List.mem_singleton.mp z] at h1
            exact absurd h1 nx
        have hy2 : y ∈ keepM [y, x] p := List.mem_filter.mpr ⟨hy, decide_eq_true List.mem_cons_self⟩
        cases ek : keepM [y, x] p with
        | nil =>
          rw [ek] at hy2
          cases hy2
        | cons c r =>
          rw [ek] at k hk
          have := hk c List.mem_cons_self
          rw [List.cons_append] at k
          have k1 := (List.cons.inj k).1
          exact ne (this ▸ k1)
    have go : Exs ps (p ++ x :: q) (x :: (p ++ q)) := bubble x q p free
    have pm2 : (p ++ q).Perm b := by
      have h1 : (x :: (p ++ q)).Perm (x :: b) := go.perm.symm.trans pm
      exact h1.cons_inv
    have kp2 : KeepsM ls ps (p ++ q) b := fun u v hu hv ne hi => by
      have k := kp u v hu hv ne hi
      by_cases hm : x ∈ [u, v]
      · have none : keepM [u, v] p = [] := keepM_none fun c hc z => by
          have f := free c hc
          have cx : c ≠ x := fun z => nx (z ▸ hc)
          have : ind ps c x = false := by
            rcases List.mem_cons.mp hm with m | m
            · rcases List.mem_cons.mp z with z | z
              · exact absurd (z.trans m.symm) cx
              · rw [List.mem_singleton.mp z, m, ind_comm]
                exact hi
            · have m := List.mem_singleton.mp m
              rcases List.mem_cons.mp z with z | z
              · rw [z, m]
                exact hi
              · exact absurd ((List.mem_singleton.mp z).trans m.symm) cx
          rw [f] at this
          cases this
        rw [keepM_append, none, keepM_cons_in hm, keepM_cons_in hm] at k
        rw [keepM_append, none]
        exact (List.cons.inj k).2
      · rw [keepM_append, keepM_cons_out hm, keepM_cons_out hm] at k
        rw [keepM_append]
        exact k
    have ih := alike_of_keeps b (p ++ q) (fun c hc => ia c (by
      rcases List.mem_append.mp hc with h | h
      · exact List.mem_append_left _ h
      · exact List.mem_append_right _ (List.mem_cons_of_mem _ h))) (fun c hc => ib c (List.mem_cons_of_mem _ hc)) pm2 kp2
    exact go.trans (ih.pre [x])

theorem Ex1.keeps (pr : Pairs ls ps) {a b : List Nat} (h : Ex1 ps a b) {u v : Nat} (hi : ind ps u v = false) : keepM [u, v] a = keepM [u, v] b := by
  obtain ⟨p, q, x, y, hxy⟩ := h
  rw [keepM_append, keepM_append]
  congr 1
  by_cases hx : x ∈ [u, v]
  · by_cases hy : y ∈ [u, v]
    · exfalso
      have ne : x ≠ y := fun z => by
        rw [z, ind_self pr] at hxy
        cases hxy
      simp only [List.mem_cons, List.not_mem_nil, or_false] at hx hy
      rcases hx with hx | hx <;> rcases hy with hy | hy
      · exact ne (hx.trans hy.symm)
      · rw [hx, hy, hi] at hxy
        cases hxy
      · rw [hx, hy, ind_comm, hi] at hxy
        cases hxy
      · exact ne (hx.trans hy.symm)
    · rw [keepM_cons_in hx, keepM_cons_out hy, keepM_cons_out hy, keepM_cons_in hx]
  · rw [keepM_cons_out hx]
    by_cases hy : y ∈ [u, v]
    · rw [keepM_cons_in hy, keepM_cons_in hy, keepM_cons_out hx]
    · rw [keepM_cons_out hy, keepM_cons_out hy, keepM_cons_out hx]
theorem Exs.keeps (pr : Pairs ls ps) {a b : List Nat} (h : Exs ps a b) {u v : Nat} (hi : ind ps u v = false) : keepM [u, v] a = keepM [u, v] b := by
  induction h with
  | refl => rfl
  | step _ e ih => exact ih.trans (e.keeps pr hi)

theorem orderOf_none {o : Option (List Nat)} (h : ∀ p, o = some p → ∃ x y, p = [x, y]) (e : orderOf o = none) : o = none := by
  cases o with
  | none => rfl
  | some p =>
    obtain ⟨x, y, rfl⟩ := h p rfl
    cases e
theorem mem_pairsOf {x y : Nat} (hx : x ∈ ls) (hy : y ∈ ls) (lt : x < y) : [x, y] ∈ pairsOf ls :=
  List.mem_flatMap.mpr ⟨x, hx, List.mem_map.mpr ⟨y, List.mem_filter.mpr ⟨hy, decide_eq_true lt⟩, rfl⟩⟩
/-- THE PROMISE [e2]: nothing parts two words exactly if they are alike -/
theorem partsM_none (pr : Pairs ls ps) {a b : List Nat} (ia : ∀ c ∈ a, c ∈ ls) (ib : ∀ c ∈ b, c ∈ ls) : partsM ls ps a b = none ↔ Exs ps a b := by
  constructor
  · intro h
    have h1 : ls.find? (countsApart a b) = none := by
      cases e : ls.find? (countsApart a b) with
      | none => rfl
      | some c =>
        rw [partsM_count e] at h
        cases h
    rw [partsM_order h1] at h
    have h2 : (pairsOf ls).find? (parted ps a b) = none := orderOf_none (fun p hp => by
      obtain ⟨x, y, e, _⟩ := pairsOf_mem (List.mem_of_find?_eq_some hp)
      exact ⟨x, y, e⟩) h
    have pm : a.Perm b := List.perm_iff_count.mpr fun c => by
      by_cases hc : c ∈ ls
      · have := List.find?_eq_none.mp h1 c hc
        unfold countsApart at this
        simpa using this
      · rw [List.count_eq_zero_of_not_mem fun z => hc (ia c z), List.count_eq_zero_of_not_mem fun z => hc (ib c z)]
    refine alike_of_keeps b a ia ib pm fun u v hu hv ne hi => ?_
    have key : ∀ x y, x ∈ ls → y ∈ ls → x < y → ind ps x y = false → keepM [x, y] a = keepM [x, y] b := fun x y hx hy lt hi => by
      have := List.find?_eq_none.mp h2 [x, y] (mem_pairsOf hx hy lt)
      rw [parted_two, hi] at this
      simpa using this
    by_cases lt : u < v
    · exact key u v hu hv lt hi
    · rw [keepM_swap u v a, keepM_swap u v b]
      exact key v u hv hu (by omega) (by rw [ind_comm]; exact hi)
  · intro h
    have h1 : ls.find? (countsApart a b) = none := find_no fun c _ => decide_eq_false fun z => z (h.perm.count_eq c)
    rw [partsM_order h1]
    have h2 : (pairsOf ls).find? (parted ps a b) = none := find_no fun d hd => by
      obtain ⟨x, y, rfl, _⟩ := pairsOf_mem hd
      rw [parted_two]
      cases e : ind ps x y with
      | true => rfl
      | false =>
        rw [h.keeps pr e]
        simp
    rw [h2]
    rfl
end TcG
/-! The __init__ of an own error below ValueError: super().__init__(text); self.x = y. -/
namespace TcG
open PySem PySem.Spec PyProof.Rows L2 NdefX
/-- what the written part says of the class D and its __init__ -/
structure InitC (P : Program) (K : PySem.W.Frag) (mg : Str → Option Value) (D : Addr) (F : NF) (cc : Addr) : Prop where
  cl : F.cl = [(("__class__" : Str), cc)]
  code : PySem.W.codeIn K (.ref F.c) F.qual = true
  file : ∃ (ccl : Value) (cdd : Option Addr) (vs : Array Value) (ccs : Array (Option Value)) (fl : Str) (tf : Tok), K.lookup F.c = some ⟨ccl, cdd, .fields vs, ccs⟩ ∧ vs[2]? = some (.str fl tf) ∧ ((P.main.file : Str) == fl) = true
  cell : ∃ (cl : Value) (cld : Option Addr) (csl : Array (Option Value)), K.lookup cc = some ⟨cl, cld, .cell (some (.ref D)), csl⟩
  clsD : ∃ cd, PySem.W.clsIn K D = some cd
  top : (P.main.scope.names.lookup ("super" : Str)).isSome = false
  sup : mg "super" = none
  init : PySem.W.ks_superIn K D D "__init__" = some (some (.builtin "ValueError.__init__"))
  below : PySem.W.subIn K (.ref D) (.type "ValueError") = some true
  self : PySem.W.mroIn K D (.ref D) = some true
  opaq : PySem.W.nsIn K cStatics "thirdparty.any" = some none
  oex : OexC K D

section
variable {P : Program} {w : World} {K : PySem.W.Frag} {mg : Str → Option Value} {base : Heap}
theorem fn_super {D f cc : Addr} {F : NF} {N ps : List Str} {k : Nat} {sp : Sp} {e : Expr} {rest : List Stmt} {p0 p1 p2 p3 p4 : Pos} {self : Str} {ar : Arg} {pl : Env → Sem Bool}
    {oc kV doc pm ct : Value} {od an : Option Addr} {osl : Array (Option Value)} (lk : K.lookup f = some ⟨oc, od, .func (PySem.W.fnX F.name F.qual F.params F.body F.scope F.cl .none kV doc pm an (.ref F.c) ct), osl⟩)
    (C : InitC P K mg D F cc) (S : NScope N (self :: ps) ["__class__"] F.scope)
    (hbd : F.body = .Expr (.Call (.Attribute (.Call (.Name "super" p0) [] [] p1) "__init__" p2) [e] [] p3) p4 :: rest) (hpar : (F.params.posonlyargs ++ F.params.args).head? = some ar) (har : ar.arg = self) (hks : F.scope.names.lookup ("super" : Str) = some .globalImplicit)
    (len : ∀ vs H Q E, sp vs H Q E → vs.length = (self :: ps).length)
    (hstar : ∀ env : Env, starEach [e] env = [(false, eval e env)])
    (hform : ∀ env : Env, eval (.Call (.Attribute (.Call (.Name "super" p0) [] [] p1) "__init__" p2) [e] [] p3) env = (do
      let ov ← attributeBase (.Call (.Name "super" p0) [] [] p1) "__init__" env (eval (.Call (.Name "super" p0) [] [] p1) env)
      standAt p2.atName
      let (f, first) ← holding [ov] (getMethod ov "__init__" (pl env))
      callWith p3 f first (backTo p3 (starEach [e] env)) []))
    (hs : ∀ env : Env, swapsWith (.Call (.Attribute (.Call (.Name "super" p0) [] [] p1) "__init__" p2) [e] [] p3) none p4.line env = pure false) (hint : ∀ env : Env, env.scope = F.scope → interactive env = false)
    (body : ∀ (A : Around) (outer : List Env) (s : Shared) (H : Hp) (vs : List V) (Q : VK) (E : XK), Room k (A.deeper (envF F f s.heap.objs.size)) → sp vs H Q E →
      ∃ (a : Addr) (te : TE) (t : TS), PE (ncx CX0 P w K mg base N F f A outer s H E) e te ∧ PSs (ncx CX0 P w K mg base N F f A outer s H E) rest t ∧ vs[0]? = some (.ref a) ∧
        te (startF N vs [none]) H (fun v H1 => H1 a = some (exo a D none) ∧ t { nx := fun _ H' => Q .non H', rt := Q } (startF N vs [none]) H1) ∧ H a = some (exo a D none)) :
    FnOk P w K mg base CX0 (k + 1) f (PySem.W.fnX F.name F.qual F.params F.body F.scope F.cl .none kV doc pm an (.ref F.c) ct) (self :: ps) sp := by
  refine ⟨len, fun A outer s H args us vs Q E hr e0 hb r hsp => ?_⟩
  have hl := len _ _ _ _ hsp
  have KX : K.In s.heap := e0.mod.kin.keeps fun b o e => (e0.bs b o e).1
  have KB : K.In base := e0.mod.kin
  have lim : s.heap.NoLimit := e0.mod.nolimit.keeps fun b o e => (e0.bs b o e).1
  obtain ⟨cl0, cld, csl, hcell⟩ := C.cell
  have cells : CellsAt F.cl ["__class__"] [none] s.heap H := by
    rw [C.cl]
    refine ⟨rfl, fun y c h => ?_, fun x y c h1 h2 => ?_, fun i y hy => ?_⟩
    · have ec : c = cc := by
        have := PySem.mem_of_lookup h
        simpa using (List.mem_singleton.mp this) |> (fun z => congrArg Prod.snd z)
      rw [ec]
      exact ⟨(e0.bs _ _ (KB _ _ hcell)).2, _, _, KX _ _ hcell, rfl⟩
    · have e1 := congrArg Prod.fst (List.mem_singleton.mp (PySem.mem_of_lookup h1))
      have e2 := congrArg Prod.fst (List.mem_singleton.mp (PySem.mem_of_lookup h2))
      exact e1.trans e2.symm
    · cases i with
      | zero =>
        cases hy
        exact ⟨cc, rfl, fun v hv => by cases hv⟩
      | succ i => simp at hy
  refine PySem.ks_codeAny_call_defAt (fd := PySem.W.fnX F.name F.qual F.params F.body F.scope F.cl .none kV doc pm an (.ref F.c) ct) (body := F.body) (binds := (self :: ps).zip us) hr.depth (KX _ _ lk) rfl lim (PySem.W.codeRec_of KX C.code) rfl hb S.nocell
    (fun ⟨n, _⟩ hy => S.par n (List.of_mem_zip hy).1) (fun h1 hns kp => ?_) S.co S.gen S.kind
  obtain ⟨a, te, t, he, ht, ha0, q, ea⟩ := body A outer s H vs Q E (hr.deeper _) hsp
  have I : Inv (ncx CX0 P w K mg base N F f A outer s H E) [] (startF N vs [none]) H { s with heap := h1, toks := s.toks + ((self :: ps).zip us).length } := inv_startN S hr.hd e0 hl r cells hns kp
  generalize hs0 : ({ s with heap := h1, toks := s.toks + ((self :: ps).zip us).length } : Shared) = s0 at I ⊢
  have run : _root_.PySem.wpAt (model P w) (A.deeper (envF F f s.heap.objs.size)) (.func F.body (envF F f s.heap.objs.size)) (execs F.body (envF F f s.heap.objs.size))
      (SP (ncx CX0 P w K mg base N F f A outer s H E) [] { nx := fun _ H' => Q .non H', rt := Q, bk := fun _ _ => False, ct := fun _ _ => False })
      (ncx CX0 P w K mg base N F f A outer s H E).xe s0 := by
    subst hs0
    obtain ⟨cdD, hD⟩ := C.clsD
    obtain ⟨ccl, cdd, vs2, ccs, fl, tf, hcode, hvs, hfile⟩ := C.file
    have KI : K.In h1 := KX.keeps kp
    obtain ⟨oD, hD1, hD2⟩ : ∃ oD, h1.get? D = some oD ∧ oD.data = .cls cdD := by
      have hD := hD
      unfold PySem.W.clsIn at hD
      split at hD
      · rename_i c d cd' sl ho
        cases hD
        exact ⟨_, KI _ _ ho, rfl⟩
      · cases hD
    obtain ⟨t1, hx⟩ := exo_at I.hok ea
    have inst : PySem.W.InstAt h1 a { cls := .ref D, dict := none, data := .fields #[.ref t1, .none, .none, .none, .bool false, .none] } D none := ⟨hx, rfl, rfl, trivial⟩
    have kself : (envF F f s.heap.objs.size).kindOf self = some .local := S.par self List.mem_cons_self
    have ndN : N[0]? = some self := by
      have e1 := S.pre
      cases N with
      | nil => simp at e1
      | cons n r =>
        have : n = self := by
          have := congrArg (fun l => l[0]?) e1
          simpa using this
        rw [this]
        rfl
    have hself : ∃ m, h1.Ns s.heap.objs.size m ∧ m self = some (.ref a) := by
      obtain ⟨m, hn, look⟩ := I.loc
      have h0 : (startF N vs [none])[0]? = some (some (.ref a)) := by
        unfold startF
        cases vs with
        | nil => cases ha0
        | cons v r =>
          cases ha0
          rfl
      obtain ⟨u, ru, l⟩ := look 0 self (.ref a) ndN h0 (.inl kself)
      cases ru
      rcases l with ⟨_, l⟩ | ⟨l, _⟩
      · exact ⟨m, hn, l⟩
      · rcases l with l | l
        · rw [show (ncx CX0 P w K mg base N F f A outer s H E).env.kindOf self = some .local from kself] at l
          cases l
        · rw [show (ncx CX0 P w K mg base N F f A outer s H E).env.kindOf self = some .local from kself] at l
          cases l
    obtain ⟨m, hns2, hm2⟩ := hself
    obtain ⟨mb, hb1, hb2⟩ := I.mod.blt
    rw [hbd]
    have frk : F.scope.names.lookup ("__class__" : Str) = some .free := S.frk _ (List.mem_singleton.mpr rfl)
    have hkl : (envF F f s.heap.objs.size).scope.kind = .function := S.kind
    refine PySem.ks_wpAt_execs_cons (PySem.ks_wpAt_Expr_any (PySem.ks_wpAt_MethodCall (pl := pl (envF F f s.heap.objs.size)) ?_ (hform _)) (hint _ rfl) (hs _))
    refine PySem.ks_wpAt_super_base hks frk (by decide) rfl (kp _ _ (KX _ _ lk)) rfl hpar rfl (KI _ _ hcode) rfl hvs hfile C.top ?_
    refine PySem.W.ks_loadName_global hkl hks (Calls.loadGlobal_builtin (env := envF F f s.heap.objs.size) (I.mod.glob.keeps I.bk) C.sup (hb1.keeps I.bk) ((hb2 _ (by decide)).trans (by decide +kernel)) ⟨rfl, ?_⟩)
    refine wpAny_loadName_free hkl frk (by rw [show (envF F f s.heap.objs.size).cells = F.cl from rfl, C.cl]; rfl) ⟨_, KI _ _ hcell, rfl⟩ ?_
    rw [har]
    refine wpAny_loadName_local hkl kself hns2 hm2 ?_
    refine PySem.ks_wpAny_isType_cls hD1 hD2 ⟨rfl, ?_⟩
    refine PySem.ks_wpAny_call_super hD1 hD2 hx rfl (fun c z => by cases z) (PySem.W.looks_mroIn KI C.self) (fun h2 so2 kp2 => ?_)
    -- the __init__ of ValueError, bound
    have KI2 : K.In h2 := KI.keeps kp2
    have hx2 := kp2 _ _ hx
    have hDa : a ≠ D := fun z => by
      rw [z, hD1] at hx
      cases hx
      cases hD2
    have isVE : PySem.W.Looks (model P w) h2 (isInstance (.ref a) (.type "ValueError")) true :=
      (show PySem.W.InstAt h2 a { cls := .ref D, dict := none, data := .fields #[.ref t1, .none, .none, .none, .bool false, .none] } D none from ⟨hx2, rfl, rfl, trivial⟩).type.andThen (PySem.W.looks_subIn KI2 C.below)
    have hal : PySem.W.alongIn K "__init__" ((cdD.mro.dropWhile (· != .ref D)).drop 1) = some (some (.builtin "ValueError.__init__")) := by
      have := C.init
      unfold PySem.W.ks_superIn at this
      rw [hD] at this
      exact this
    refine PySem.W.kxs_getMethod PySem.W.kxs_ValueError so2 (PySem.W.looks_opaque KI2 C.opaq) (l₀ := cdD.mro) (fun A Q E s k q => wpAny_bind ((PySem.W.looks_clsIn KI2 hD) A _ E s k (wpAny_pure q))) rfl KI2 hal isVE hDa (by decide) ?_
    -- its call
    generalize hu : h2.objs.size = u
    have kp3 : ∀ b o, h1.get? b = some o → (h2.push (PySem.W.kxs_mw "ValueError.__init__" a)).get? b = some o := fun b o e => Heap.get?_push_of_some _ (kp2 b o e)
    have hw : (h2.push (PySem.W.kxs_mw "ValueError.__init__" a)).get? u = some (PySem.W.kxs_mw "ValueError.__init__" a) := by
      rw [← hu]
      exact Heap.get?_push_size _ rfl
    have I3 := I.kept (h' := h2.push (PySem.W.kxs_mw "ValueError.__init__" a)) (t' := s.toks + ((self :: ps).zip us).length + 1) kp3
    have new : ∀ b o, h1.get? b = some o → b ≠ u := fun b o e z => by
      have := Heap.lt_size (kp2 b o e)
      rw [z, ← hu] at this
      exact Nat.lt_irrefl _ this
    have lt2 : h1.objs.size ≤ u := by
      rw [← hu]
      exact Nat.le_of_lt (Nat.lt_of_lt_of_le (Heap.lt_size so2) (Nat.le_refl _))
    have nH : H u = none := I.hok.fresh lt2
    have I4 : Inv (ncx CX0 P w K mg base N F f A outer s H E) [(u, PySem.W.kxs_mw "ValueError.__init__" a)] (startF N vs [none]) H { s with heap := h2.push (PySem.W.kxs_mw "ValueError.__init__" a), toks := s.toks + ((self :: ps).zip us).length + 1 } :=
      I3.pins_of fun p hp => by
        rw [List.mem_singleton.mp hp]
        refine ⟨hw, nH, fun z => ?_, I.nofs lt2, fun v z => by cases z⟩
        have := I.lt
        rw [← z] at this
        exact absurd (Nat.lt_of_lt_of_le this lt2) (Nat.lt_irrefl _)
    refine PySem.W.kxs_callWith (i := "ValueError.__init__") (x := a) ?_ ?_
    · rw [hstar]
      rfl
    rw [hstar]
    refine Calls.evalArgs_plain (Calls.spliced_cons ?_)
    refine thn (he.run _ _ _ H _ I4 q) fun v s3 ⟨x, H1, I5, r1, ea1, q1⟩ => Calls.spliced_nil ?_
    have hw5 := (I5.pin (u, PySem.W.kxs_mw "ValueError.__init__" a) (List.mem_append_right _ List.mem_cons_self)).1
    refine ⟨hw5, ?_⟩
    obtain ⟨t2, hx5⟩ := exo_at I5.hok ea1
    obtain ⟨nm, qn, nN, bs, bm, sn, sub, ab, col, dd, k0, k1, k2, k3, k5, hcls, _⟩ := C.oex.cls
    have I6 : Inv (ncx CX0 P w K mg base N F f A outer s H E) [] (startF N vs [none]) H1 s3 := I5.pins_of fun p hp => nomatch hp
    have hC := I6.kIn _ _ hcls
    obtain ⟨hh, g, d, tk, os⟩ := s3
    refine wpAny_call (codeAny_of_tree ?_)
    show wpAny _ (A.deeper (envF F f s.heap.objs.size)).in1 (callAny (.ref u) ⟨[v], []⟩) _ _ _
    simp only [callAny]
    refine wpAny_bind (wpAny_load hw5 ?_)
    simp only [PySem.W.kxs_mw, show (Value.type "method-wrapper" == Value.type "method" || Value.type "method-wrapper" == Value.type "builtin_function_or_method" || Value.type "method-wrapper" == Value.type "method-wrapper") = true by decide, if_true]
    refine PySem.W.KFB.if_so (by decide) ?_
    refine wpAny_bind (PySem.W.check_bound_init PySem.F.excBase_ValueError.toExcCallFacts hC hx5 rfl ?_)
    refine wpAny_bind (wpAny_pure (wpAny_pure ?_))
    refine ⟨PySem.plainId_quiet PySem.F.excBase_ValueError.init.plain _, codeAny_builtin PySem.F.excBase_ValueError.initEntry ?_⟩
    refine PySem.W.exc_init_tree (cls := .ref D) (t0 := t2) (dv := none) (c2 := .none) (c3 := .none) (b4 := .bool false) hx5 (by show 1 ≤ sizeLine; decide) fun h' k e' _ => ?_
    have J := I6.write (t' := tk) (x := a) (e := a) (o := exo a D none) (by rw [ea1]; exact True.intro) (.inl rfl) k ⟨_, e'⟩ (exo_ok e')
    have eu : upd H1 a (exo a D none) = H1 := by
      funext b
      by_cases hb : b = a
      · rw [hb, upd_same, ea1]
      · rw [upd_ne hb]
    rw [eu] at J
    exact PySem.wpAt_of_wpAny (ht.run [] _ _ _ _ J q1)
  refine PySem.ks_wpAt_mono run (fun fl s' hs => ?_) fun e s' hs => hs
  have fin : ∀ {σ' : L2.St} {H' : Hp} {v : V} {u : Value}, Inv (ncx CX0 P w K mg base N F f A outer s H E) [] σ' H' s' → L2.RelV v u → Q v H' → CE outer P w H s Q u s' :=
    fun {σ' H' v u} J rv q => ⟨v, H', J.os, J.bare, J.base, J.hok, rv, q⟩
  cases fl with
  | ret u =>
    obtain ⟨v, σ', H', J, rv, q⟩ := hs
    exact fin J rv q
  | next =>
    obtain ⟨σ', H', J, q⟩ := hs
    exact fin (v := V.non) (u := Value.none) J rfl q
  | brk =>
    obtain ⟨_, _, _, q⟩ := hs
    exact False.elim q
  | cont =>
    obtain ⟨_, _, _, q⟩ := hs
    exact False.elim q
end
end TcG
/-! Own errors with a dict: raised, caught, asked for their class; defs called while one is handled. -/
namespace TcG
open PySem PySem.Spec PyProof.Rows L2

section
variable {X : Cx}
/-- C(e, ..): what is made has no context -/
theorem pmk_fresh {x : Str} {C fI : Addr} {k : Nat} {fd : FuncData} {ps : List Str} {sp : Sp} {e : Expr} {es : List Expr} {ta : TA} {p pos : Pos} (T : OexC X.K C)
    (hi : PySem.W.findIn X.K (.ref C) "__init__" = some (some (.ref fI))) (ht : PySem.W.typeIn X.K (.ref fI) = some (.type "function"))
    (F : FnOk X.prog X.w X.K X.mg X.base L2.CX0 k fI fd ps sp) (room : Room (k + 1) X.A) (binds : Binds X.K fd ps []) (glob : Gl X x) (there : X.mg x = some (.ref C)) (ha : PA X (e :: es) ta)
    (hdb : (x == ("__debug__" : Str)) = false := by decide) (he : starEach (e :: es) X.env = (false, eval e X.env) :: starEach es X.env := by rfl) (hpl : (backTo pos (starEach es X.env)).any (·.1) = false := by rfl) :
    L2N.PMk X (.Call (.Name x p) (e :: es) [] pos) (tMkO C sp [] ta) := by
  intro pins s σ H Q I h
  obtain ⟨c1, c2, c3, c4, mro, c6, c7, c8, c9, c10, c11, c12, c13, c14, c15, clsAt, mroOk⟩ := T.cls
  refine wpAny_Call_Name_kw (ld_glob I glob there ?_ hdb)
  refine PySem.W.callWith_K (h₀ := X.base) I.ok.mod.kin T.kC ?_ he hpl
  refine thn (ha.run pos pins s σ H _ I h) fun us s1 ⟨vs, H1, I1, r1, few, made⟩ => ⟨I1.kIn, ?_⟩
  change wpAny _ _ (call (.ref C) us) _ _ _
  obtain ⟨h0, gens, dr, tk, os⟩ := s1
  have next : h0.objs.size ≤ h0.objs.size + 1 := Nat.le_succ _
  have goal := made (h0.objs.size + 1) (I1.hok.fresh next)
  rw [List.append_nil] at goal
  let h1 := (h0.push (PySem.W.kdv_tup us)).push (PySem.HandSPX.excO C h0.objs.size)
  have old : ∀ b o, h0.get? b = some o → h1.get? b = some o := fun b o e => Heap.get?_push_of_some _ (Heap.get?_push_of_some _ e)
  have self : h1.get? (h0.objs.size + 1) = some (PySem.HandSPX.excO C h0.objs.size) := by
    show ((h0.push (PySem.W.kdv_tup us)).push (PySem.HandSPX.excO C h0.objs.size)).get? (h0.objs.size + 1) = _
    heap_get
  have I2 : Inv X pins σ (upd H1 (h0.objs.size + 1) (exo (h0.objs.size + 1) C none)) ⟨h1, gens, dr, tk, os⟩ := I1.laid (t' := tk) old next (exo_ok self)
  have vals : Vals (V.ref (h0.objs.size + 1) :: vs) (Value.ref (h0.objs.size + 1) :: us) := .cons rfl r1
  have many : (Value.ref (h0.objs.size + 1) :: us ++ []).length = ps.length := by
    rw [List.append_nil, ← vals.length]
    exact F.len _ _ _ _ goal
  have line : us.length ≤ sizeLine := by
    rw [← Paired.length r1]
    exact Nat.le_trans few (by decide)
  have bs := binds _ (Value.ref (h0.objs.size + 1) :: us) I2.kIn many
  rw [List.append_nil] at bs
  refine wpAny_call (PySem.HandSPX.call_own PySem.F.excBase_ValueError (fun Y => PySem.HandSPX.refsVE_contains Y mro mroOk) (I1.kIn _ _ clsAt) (PySem.W.looks_findIn I1.kIn hi)
    (fun y => PySem.W.bind_fn I1.kIn y ht) line (codeAny_mono (F.run _ X.stack _ _ ⟨Value.ref (h0.objs.size + 1) :: us, []⟩ (Value.ref (h0.objs.size + 1) :: us) _ _
      (fun _ _ _ => False) (room.make C us []) (I2.env0.make C us []) bs vals goal) fun r s' end' => ?_))
  match r, end' with
  | .error _, z => exact False.elim z
  | .ok (.ret u), ⟨v, H2, os2, bare2, un2, hok2, rv, ev, d, fs, ea, ed, hd1, q2⟩ =>
    subst ev
    obtain ⟨h2, g2, d2, t2, os'⟩ := s'
    obtain ⟨t0, G, J, kG, ge, oeAt, na⟩ := mk_end0 (d2 := d2) (t2 := t2) I1 next old un2 hok2 os2 bare2 ea ed hd1
    refine ⟨rv, h0.objs.size + 1, _, _, ⟨G, g2, d2, t2, os'⟩, _, .ref C, some d, rfl, J, kG, ge, oeAt, ⟨rfl, rfl, fun vs hv => ?_⟩, rfl, rfl, na, rfl, bare2, raises_own T.exC T.tyC, q2⟩
    cases hv
    rfl
  | .ok .next, z => exact False.elim z
  | .ok .brk, z => exact False.elim z
  | .ok .cont, z => exact False.elim z
/-- what is caught is what is handled, and has no context -/
theorem hot_suite {a : Addr} {oe : Obj} {cls : Value} {d : Option Addr} {pn : List (Addr × Obj)} (hz : L2N.Zn cls d oe) (hf : ∃ vs, oe.data = .fields vs) : L2H.HotC (X.suite a ((a, oe) :: pn)) := by
  obtain ⟨vs, e⟩ := hf
  exact ⟨(a, oe), ⟨rfl, vs, e, hz.2.2 vs e⟩, List.mem_cons_self⟩
/-- around a body nothing is let out -/
theorem takesN : L2N.Takes X (fun _ _ _ _ => False) := fun _ _ x => by
  obtain ⟨_, _, _, _, _, _, _, _, _, _, _, _, _, _, _, _, z⟩ := x
  exact z.elim
theorem passH (E : L2.St → XK) : ∀ σ, PassesAt L2.CX0 X σ (E σ) := fun _ _ _ _ _ _ _ h => h.elim
/-- isinstance(e, c), e what is caught, with its dict -/
def rIsD (K : PySem.W.Frag) (D a : Addr) (cls : Value) (d : Option Addr) : List V → Hp → VK → Prop := fun xs H Q =>
  ∃ (c : V) (cv : Value) (b : Bool) (dd : Addr) (fs : List (Str × V)), xs = [.ref a, c] ∧ cls = .ref D ∧ d = some dd ∧ (∀ u, RelV c u → u = cv) ∧ PySem.W.kitOne K (.ref D) cv = some b ∧ H dd = some (.xd fs) ∧ Q (.bl b) H
theorem call_isD {a D : Addr} {cls : Value} {d : Option Addr} {oe : Obj} {pn : List (Addr × Obj)} (C : ExcC X.K D) (hz : Zc cls d oe) (hf : ∃ vs, oe.data = .fields vs) : CallR (X.suite a ((a, oe) :: pn)) (.builtin "isinstance") (rIsD X.K D a cls d) := by
  intro pins s σ H xs us Q I r h
  obtain ⟨c, cv, b, dd, fs, rfl, rfl, rfl, hcv, e, ed, q⟩ := h
  obtain ⟨u1, u2, rfl, r1, r2⟩ := vals2 r
  obtain rfl : u1 = Value.ref a := r1
  have ec := hcv _ r2
  subst ec
  obtain ⟨hget, _⟩ := I.pin (a, oe) (List.mem_append.mpr (.inl List.mem_cons_self))
  obtain ⟨vs, hv⟩ := hf
  have hx : ObjOk X.prog X.w H s.heap dd (.xd fs) := I.hok dd _ ed
  obtain ⟨mA, hns, _⟩ := hx
  obtain ⟨od, ho, _⟩ := lookIn_ns hns
  have J : PySem.W.InstAt s.heap a oe D (some od) := ⟨hget, hz.1, by unfold PySem.W.notCls; rw [hv] <;> rfl, by rw [hz.2]; exact ho⟩
  have hcl : (PySem.W.clsIn X.K D).isSome = true := by
    obtain ⟨cd, hc, _⟩ := PySem.W.any_some C.hd
    rw [hc]
    rfl
  exact PySem.W.kia_one (PySem.W.kitx_exc (od := some od) hcl C.hg C.hk C.hs C.ha C.hn C.ht C.hm) I.kIn J e (fun z => nomatch z) fun tk => ⟨.bl b, H, I.kept (t' := tk) fun _ _ z => z, rfl, q⟩
end
section
variable {P : Program} {w : World} {K : PySem.W.Frag} {mg : Str → Option Value} {base : Heap}
/-- a def that raises what has no context -/
theorem fun_okN {x qual : Str} {st : Stmt} {f : Addr} {fd : FuncData} {N ps : List Str} {k : Nat} {sp : Sp} (F : Fun K x qual st f fd) (S : FnScope N ps (defScope st)) (len : ∀ vs H Q E, sp vs H Q E → vs.length = ps.length)
    (walk : ∀ (cdv : Value) (A : Around) (outer : List Env) (s : Shared) (H : Hp) (vs : List V) (Q : VK) (E : XK), Room k (A.deeper (envOfC qual (defScope st) s.heap.objs.size f cdv)) → sp vs H Q E →
      ∃ t, PSs (cxOf (L2N.CX P w) P w K mg base N qual (defScope st) f cdv A outer s H E) (defBody st) t ∧ t { nx := fun _ H' => Q .non H', rt := Q } (start N vs) H) : FnOk P w K mg base (L2N.CX P w) (k + 1) f fd ps sp := by
  obtain ⟨oc, od, kV, doc, pm, an, cdv, ct, osl, rfl, lk, code⟩ := F.ex
  exact fn_of lk code S len (walk cdv)
/-- a def that is called while something is handled -/
theorem fun_hot {x qual : Str} {st : Stmt} {f : Addr} {fd : FuncData} {N ps : List Str} {k : Nat} {sp : Sp} (F : Fun K x qual st f fd) (S : FnScope N ps (defScope st)) (len : ∀ vs H Q E, sp vs H Q E → vs.length = ps.length)
    (walk : ∀ (cdv : Value) (A : Around) (outer : List Env) (s : Shared) (H : Hp) (vs : List V) (Q : VK) (E : XK) (p : Addr × Obj), L2H.Hot1 A p → L2H.RoomH k (A.deeper (envOfC qual (defScope st) s.heap.objs.size f cdv)) → sp vs H Q E →
      ∃ t, PSs (L2H.cxH L2.CX0 P w K mg base N qual (defScope st) f cdv A outer s H E p) (defBody st) t ∧ t { nx := fun _ H' => Q .non H', rt := Q } (start N vs) H) : L2H.FnH P w K mg base L2.CX0 (k + 1) f fd ps sp := by
  obtain ⟨oc, od, kV, doc, pm, an, cdv, ct, osl, rfl, lk, code⟩ := F.ex
  exact L2H.fn_ofH lk code S len (walk cdv)
end
/-- isinstance of a class of the text that is none of its own, and of ValueError -/
theorem kit_other {K : PySem.W.Frag} {D C : Addr} (h1 : PySem.W.isClsIn K C = true) (h2 : PySem.W.typeIn K (.ref C) = some (.type "type")) (own : PySem.W.subIn K (.ref D) (.ref D) = some true) (h3 : PySem.W.subIn K (.ref D) (.ref C) = some false) : PySem.W.kitOne K (.ref D) (.ref C) = some false := by
  have ne : D ≠ C := fun z => by
    rw [← z, own] at h3
    cases h3
  have e1 : (Value.ref D == Value.ref C) = false := by simpa using ne
  have e2 : ((PySem.W.clsIn K C).isSome && PySem.W.typeIn K (.ref C) == some (.type "type")) = true := by
    have h1' : (PySem.W.clsIn K C).isSome = true := h1
    rw [h1', h2]
    rfl
  unfold PySem.W.kitOne PySem.W.kitCls
  rw [e1, if_neg Bool.false_ne_true]
  show (if ((PySem.W.clsIn K C).isSome && PySem.W.typeIn K (.ref C) == some (.type "type")) = true then PySem.W.subIn K (.ref D) (.ref C) else none) = some false
  rw [if_pos e2]
  exact h3
theorem kit_value {K : PySem.W.Frag} {D : Addr} (h : PySem.W.subIn K (.ref D) (.type "ValueError") = some true) : PySem.W.kitOne K (.ref D) (.type "ValueError") = some true := by
  have e1 : (Value.ref D == Value.type "ValueError") = false := rfl
  have e2 : PySem.W.kitMeta "ValueError" = true := by decide +kernel
  unfold PySem.W.kitOne PySem.W.kitCls
  rw [e1, if_neg Bool.false_ne_true]
  show (if PySem.W.kitMeta "ValueError" = true then PySem.W.subIn K (.ref D) (.type "ValueError") else none) = some true
  rw [if_pos e2]
  exact h
end TcG
/-! for i, x in enumerate(..), over a text and over a tuple. -/
namespace TcG
open PySem PySem.Spec PyProof.Rows L2

theorem meets_enum1 {v : Value} {o : Obj} {H : Heap → Prop} (B : Begins v o H) :
    Meets (Builtin.«enumerate.__new__» ⟨[.type "enumerate", v], []⟩) (fun _ R s => H s.heap ∧ R (.ok (.ret (.ref (s.heap.push o).objs.size)))
      { s with heap := (s.heap.push o).push { cls := .type "enumerate", data := .fields #[.none, .bool false, .ref s.heap.objs.size, rawInt 0, .none, .none] } }) :=
  .of_wp fun prog w A R s both => by
    obtain ⟨h0, gens, dr, tk, os⟩ := s
    obtain ⟨stands, goal⟩ := both
    have sub := sub_enumerate
    have start : ∀ {A' : Around} {E : Value → Shared → Prop} {Q : Value → Shared → Prop}, Q (.ref h0.objs.size) ⟨h0.push o, gens, dr, tk, os⟩ → wpAny (model prog w) A' (pyIter v) Q E ⟨h0, gens, dr, tk, os⟩ :=
      fun q => B.iter prog w _ _ _ _ stands q
    wp_walk using start
    refine wpAny_stack_any fun _ => wpAny_pure ?_
    split
    · rename_i c _ _ _ _ _
      cases (c == Value.type "enumerate") <;> (wp_walk using start) <;> exact ⟨_, rfl, goal⟩
    · wp_walk using start
      exact ⟨_, rfl, goal⟩
theorem enum1 {prog : Program} {w : World} {A : Around} {E : Value → Shared → Prop} {s : Shared} {v : Value} {o : Obj} {H : Heap → Prop} {Q : Value → Shared → Prop} (B : Begins v o H) (stands : H s.heap)
    (h : ∀ h', IsEnum h' (s.heap.objs.size + 1) s.heap.objs.size 0 .none → h'.get? s.heap.objs.size = some o → (∀ b u, s.heap.get? b = some u → h'.get? b = some u) → Q (.ref (s.heap.objs.size + 1)) { s with heap := h' }) :
    wpAny (model prog w) A (call (.type "enumerate") [v]) Q E s := by
  refine callType_new PySem.F.called_enumerate (by decide) (PySem.F.typeCall_enumerate_1 _) (PySem.F.newCall_enumerate_1 _) (fun obj => PySem.F.args_object_init_2 obj _) PySem.F.entry_enumerate_new (meets_enum1 B) ⟨stands, ?_⟩
  have size : (s.heap.push o).objs.size = s.heap.objs.size + 1 := Heap.size_push ..
  show _ ∧ _
  rw [size]
  have last := Heap.get?_push_size (s.heap.push o) (o := { cls := .type "enumerate", data := .fields #[.none, .bool false, .ref s.heap.objs.size, rawInt 0, .none, .none] }) rfl
  rw [size] at last
  exact ⟨⟨_, last, rfl⟩, h _ last (Heap.get?_push_of_some _ (Heap.get?_push_size _ B.free)) fun b u x => Heap.get?_push_of_some _ (Heap.get?_push_of_some _ x)⟩

/-- the numbered items of the tuple at a -/
def IteT (K : PySem.W.Frag) (a : Addr) (xs : List V) : It :=
  ⟨fun i H => i < xs.length ∧ SqT K H a xs, fun i H v H' => ∃ T x, xs[i]? = some x ∧ v = .ref T ∧ H T = none ∧ H' = upd H T (.tup [.int (i : Nat), x]), fun i H => xs.length ≤ i ∧ SqT K H a xs⟩
/-- the numbered signs of a text -/
def IteS (z : Str) : It :=
  ⟨fun i _ => i < z.cps.size, fun i H v H' => ∃ T c, z.cps[i]? = some c ∧ v = .ref T ∧ H T = none ∧ H' = upd H T (.tup [.int (i : Nat), .str ⟨#[c]⟩]), fun i _ => z.cps.size ≤ i⟩

end TcG
namespace TcG
open PySem PySem.Spec PyProof.Rows L2
section
variable {P : Program} {w : World} {K : PySem.W.Frag} {elts : List Expr} {kk : Nat} {tpos : Pos}
/-- one turn, told by what the inner iterator draws -/
theorem enum_step {X : Cx} {pins : List (Addr × Obj)} {σ : L2.St} {H : Hp} {s : Shared} {E : Value → Shared → Prop} {e it : Addr} {fp : List Addr} {n i : Nat} {Pv : Nat → Value → Prop} {St : Nat → Heap → Prop} {old : Value} {J : It} {tn : Nat → Heap → Prop}
    (I : Inv X pins σ H s) (D : Draws X.prog X.w X.A.in1 it fp n Pv St) (he : IsEnum s.heap e it ((i : Nat) : Int) old) (st : St i s.heap) (lt : i < n) (ne : e ≠ it) (ef : e ∉ fp) (hf : ∀ b ∈ [e, it], FpOk X pins H b)
    (item : ∀ u, Pv i u → ∃ x, RelV x u ∧ ∀ T, H T = none → J.yld i H (.ref T) (upd H T (.tup [.int (i : Nat), x])))
    (next : ∀ h' u, IsEnum h' e it ((i : Nat) + 1 : Int) u → St (i + 1) h' → tn (i + 1) h') :
    wpAny (model X.prog X.w) X.A (pyNext (.ref e)) (fun r s1 => ∃ u, r = some u ∧ wpAny (model X.prog X.w) X.A (letOwnedTupleGo (.Tuple elts kk tpos) (.ref e) u)
      (fun _ s2 => ∃ x H', Inv X pins σ H' s2 ∧ RelV x u ∧ J.yld i H x H' ∧ tn (i + 1) s2.heap ∧ ∀ b ∈ [e, it], H' b = none) E s1) E s := by
  have le : e < s.heap.objs.size := Heap.lt_size he
  have li : it < s.heap.objs.size := by
    obtain ⟨_, q⟩ := D.live _ _ st
    exact Heap.lt_size q
  refine wpAny_pyNext_enum_itemD D he st lt ne ef fun u h' tk hu out st' hT size keep => ?_
  obtain ⟨x, rx, yl⟩ := item u hu
  refine ⟨_, rfl, wpAny_letOwnedTupleGo_enum (s := { s with heap := h', toks := tk + 1 }) out fun h2 he2 same => ?_⟩
  have hT2 : h2.get? s.heap.objs.size = some { cls := .type "tuple", data := .seq #[.int i tk, u] } := (same.2 _ (Nat.ne_of_gt le)).trans hT
  have new : ObjOk X.prog X.w (upd H s.heap.objs.size (.tup [.int (i : Nat), x])) h2 s.heap.objs.size (.tup [.int (i : Nat), x]) :=
    ⟨by show 2 ≤ sizeLine; decide, [.int i tk, u], .cons ⟨_, rfl⟩ (.cons rx .nil), ⟨_, hT2, rfl, _, rfl⟩⟩
  have I1 : Inv X pins σ (upd H s.heap.objs.size (.tup [.int (i : Nat), x])) { s with heap := h2, toks := tk + 1 } :=
    I.turnedNew (ch := [e, it]) (fun b ob hb q => (same.2 b fun z => hb (by simp [z])).trans (keep b ob (fun z => hb (by simp [z])) (fun z => hb (by simp [z])) q)) hf (Nat.le_refl _) new
  have st2 : St (i + 1) h2 := D.frame _ _ _ st' fun b hb o q => (same.2 b fun z => ef (z ▸ hb)).trans q
  refine ⟨.ref s.heap.objs.size, _, I1, rfl, yl _ (I.hok.fresh (Nat.le_refl _)), next _ _ he2 st2, fun b hb => ?_⟩
  have lb : b < s.heap.objs.size := by
    rcases List.mem_cons.mp hb with z | z
    · rw [z]
      exact le
    · rw [List.mem_singleton.mp z]
      exact li
  rw [upd_ne (Nat.ne_of_lt lb)]
  exact (hf b hb).1
theorem enum_over {X : Cx} {pins : List (Addr × Obj)} {σ : L2.St} {H : Hp} {s : Shared} {E : Value → Shared → Prop} {e it : Addr} {fp : List Addr} {n : Nat} {i : Int} {Pv : Nat → Value → Prop} {St : Nat → Heap → Prop} {old : Value}
    (I : Inv X pins σ H s) (D : Draws X.prog X.w X.A.in1 it fp n Pv St) (he : IsEnum s.heap e it i old) (st : St n s.heap) (hf : ∀ b ∈ [e, it], FpOk X pins H b) :
    wpAny (model X.prog X.w) X.A (pyNext (.ref e)) (fun r s1 => r = none ∧ Inv X pins σ H s1) E s := by
  obtain ⟨f0, f1, f2, f3, f4, f5⟩ := hf it (by simp)
  exact wpAny_pyNext_enum_endD D he st fun h' eb => ⟨rfl, I.turned (t' := s.toks) (fun b o hb q => eb b o hb q) f0 f1 f3 f4 f5⟩
theorem turn_enumS (z : Str) (t : Tok) (e it : Addr) :
    Turn P w K (.Tuple elts kk tpos) (IteS z) [e, it] e (fun i h => (∃ old, IsEnum h e it ((i : Nat) : Int) old) ∧ h.IsStrIter it (strIterType z) z t i ∧ e ≠ it ∧ i ≤ z.cps.size) where
  mem := by simp
  obj := fun i h st b hb => by
    obtain ⟨⟨old, he⟩, ⟨o, ho, hc, hd⟩, _⟩ := st
    rcases List.mem_cons.mp hb with y | y
    · exact ⟨_, by rw [y]; exact he, fun v q => by cases q⟩
    · exact ⟨o, by rw [List.mem_singleton.mp y]; exact ho, fun v q => by rw [hd] at q; cases q⟩
  keep := fun i h h' st k => by
    obtain ⟨⟨old, he⟩, ⟨o, ho, r⟩, ne, le⟩ := st
    exact ⟨⟨old, k e (by simp) _ he⟩, ⟨o, k it (by simp) o ho, r⟩, ne, le⟩
  item := by
    intro X hP hw hK hc i pins s σ H E I hf st hg
    subst hP hw hK
    obtain ⟨⟨old, he⟩, hit, ne, le⟩ := st
    have hg : i < z.cps.size := hg
    have hh : X.A.in1.handled = none := I.ok.hd hc
    have D := Draws.text (prog := X.prog) (w := X.w) hh it z t
    refine enum_step (J := IteS z) (tn := fun i h => (∃ old, IsEnum h e it ((i : Nat) : Int) old) ∧ h.IsStrIter it (strIterType z) z t i ∧ e ≠ it ∧ i ≤ z.cps.size) I D he hit hg ne (fun y => ne (List.mem_singleton.mp y)) hf (fun u hu => ?_) fun h' u he' st' => ⟨⟨u, ?_⟩, st', ne, hg⟩
    · obtain ⟨c, t2, hc2, rfl⟩ := hu
      exact ⟨.str ⟨#[c]⟩, ⟨t2, rfl⟩, fun T hT => ⟨T, c, hc2, rfl, hT, rfl⟩⟩
    · rw [show ((i + 1 : Nat) : Int) = (i : Int) + 1 by omega]
      exact he'
  done := by
    intro X hP hw hK hc i pins s σ H E I hf st hg
    subst hP hw hK
    obtain ⟨⟨old, he⟩, hit, ne, le⟩ := st
    have hg : z.cps.size ≤ i := hg
    obtain rfl : i = z.cps.size := by omega
    have hh : X.A.in1.handled = none := I.ok.hd hc
    have D := Draws.text (prog := X.prog) (w := X.w) hh it z t
    exact enum_over I D he hit hf
  self := fun A i s Q E st h => by
    obtain ⟨⟨_, he⟩, _⟩ := st
    exact wpAny_pyIter_enum he h
end
end TcG
namespace TcG
open PySem PySem.Spec PyProof.Rows L2
section
variable {P : Program} {w : World} {K : PySem.W.Frag} {elts : List Expr} {kk : Nat} {tpos : Pos}
theorem turn_enumT (a : Addr) (xs : List V) (e it : Addr) :
    Turn P w K (.Tuple elts kk tpos) (IteT K a xs) [e, it] e (fun i h => (∃ old, IsEnum h e it ((i : Nat) : Int) old) ∧ h.IsTupleIter it a i ∧ e ≠ it ∧ i ≤ xs.length) where
  mem := by simp
  obj := fun i h st b hb => by
    obtain ⟨⟨old, he⟩, ⟨o, ho, hc, hd⟩, _⟩ := st
    rcases List.mem_cons.mp hb with y | y
    · exact ⟨_, by rw [y]; exact he, fun v q => by cases q⟩
    · exact ⟨o, by rw [List.mem_singleton.mp y]; exact ho, fun v q => by rw [hd] at q; cases q⟩
  keep := fun i h h' st k => by
    obtain ⟨⟨old, he⟩, ⟨o, ho, r⟩, ne, le⟩ := st
    exact ⟨⟨old, k e (by simp) _ he⟩, ⟨o, k it (by simp) o ho, r⟩, ne, le⟩
  item := by
    intro X hP hw hK hc i pins s σ H E I hf st hg
    subst hP hw hK
    obtain ⟨⟨old, he⟩, hit, ne, le⟩ := st
    obtain ⟨lt, ht⟩ := hg
    obtain ⟨its, rv, p, _⟩ := I.tuple ht
    have hp : s.heap.IsTuple a its.toArray := p
    have ae : a ≠ e := fun z => by
      obtain ⟨o, ho, hc2, _⟩ := hp
      rw [z, he] at ho
      cases ho
      have hc2 : Value.type "enumerate" = .type "tuple" := hc2
      exact absurd (Value.type.inj hc2) (by decide)
    have ai : a ≠ it := fun z => by
      obtain ⟨o, ho, hc2, _⟩ := hp
      obtain ⟨o2, ho2, hc3, _⟩ := hit
      rw [z, ho2] at ho
      cases ho
      have hc2 : Value.type "tuple_iterator" = .type "tuple" := hc3.symm.trans hc2
      exact absurd (Value.type.inj hc2) (by decide)
    have hh : X.A.in1.handled = none := I.ok.hd hc
    have D := Draws.tuple (prog := X.prog) (w := X.w) hh it a ai its.toArray
    have len : its.toArray.size = xs.length := by
      rw [List.size_toArray]
      exact rv.length.symm
    refine enum_step (J := IteT X.K a xs) (tn := fun i h => (∃ old, IsEnum h e it ((i : Nat) : Int) old) ∧ h.IsTupleIter it a i ∧ e ≠ it ∧ i ≤ xs.length) I D he ⟨hit, hp⟩ (by rw [len]; exact lt) ne (fun y => ?_) hf (fun u hu => ?_) fun h' u he' st' => ⟨⟨u, ?_⟩, st'.1, ne, lt⟩
    · rcases List.mem_cons.mp y with y | y
      · exact ne y
      · exact ae (List.mem_singleton.mp y).symm
    · have hx : xs[i]? = some xs[i] := List.getElem?_eq_getElem lt
      obtain ⟨u2, hu2, ru⟩ := rv.get hx
      have e2 : its[i]? = some u := by simpa using hu
      rw [hu2] at e2
      cases e2
      exact ⟨xs[i], ru, fun T hT => ⟨T, xs[i], hx, rfl, hT, rfl⟩⟩
    · rw [show ((i + 1 : Nat) : Int) = (i : Int) + 1 by omega]
      exact he'
  done := by
    intro X hP hw hK hc i pins s σ H E I hf st hg
    subst hP hw hK
    obtain ⟨⟨old, he⟩, hit, ne, le⟩ := st
    obtain ⟨ge, ht⟩ := hg
    obtain rfl : i = xs.length := by omega
    obtain ⟨its, rv, p, _⟩ := I.tuple ht
    have hp : s.heap.IsTuple a its.toArray := p
    have ai : a ≠ it := fun z => by
      obtain ⟨o, ho, hc2, _⟩ := hp
      obtain ⟨o2, ho2, hc3, _⟩ := hit
      rw [z, ho2] at ho
      cases ho
      have hc2 : Value.type "tuple_iterator" = .type "tuple" := hc3.symm.trans hc2
      exact absurd (Value.type.inj hc2) (by decide)
    have hh : X.A.in1.handled = none := I.ok.hd hc
    have D := Draws.tuple (prog := X.prog) (w := X.w) hh it a ai its.toArray
    have len : its.toArray.size = xs.length := by
      rw [List.size_toArray]
      exact rv.length.symm
    refine enum_over I D he ⟨?_, hp⟩ hf
    rw [len]
    exact hit
  self := fun A i s Q E st h => by
    obtain ⟨⟨_, he⟩, _⟩ := st
    exact wpAny_pyIter_enum he h
end
end TcG
namespace TcG
open PySem PySem.Spec PyProof.Rows L2
section
variable {X : Cx} {e : Expr} {ta : TA} {p pos tpos : Pos} {elts : List Expr} {kk : Nat}
def iEnumT (K : PySem.W.Frag) (ta : TA) : TI := fun σ H R => ta σ H fun vs H1 => ∃ a xs, vs = [.ref a] ∧ SqT K H1 a xs ∧ R (IteT K a xs) H1
def iEnumS (ta : TA) : TI := fun σ H R => ta σ H fun vs H1 => ∃ z : Str, vs = [.str z] ∧ R (IteS z) H1
theorem pi_enumT (hg : Gl X "enumerate") (hm : X.mg "enumerate" = none) (ha : PA X [e] ta) (hs : starEach [e] X.env = [(false, eval e X.env)] := by rfl) :
    PI X (.Tuple elts kk tpos) (.Call (.Name "enumerate" p) [e] [] pos) (iEnumT X.K ta) := by
  refine ⟨fun pins s σ H R I h => ?_⟩
  refine Call_ (ld_blt I hg hm boot_enumerate (PyProof.Rows.callWith_type1 (thn (ha.run pos pins s σ H _ I h) fun us s1 ⟨vs, H1, I1, r1, q1⟩ => ?_) hs rfl))
  obtain ⟨a, xs, rfl, ht, q⟩ := q1
  obtain ⟨u, rfl, r⟩ := vals1 r1
  obtain rfl : u = Value.ref a := r
  obtain ⟨its, rv, pt, _⟩ := I1.tuple ht
  refine enum1 (begins_tuple a its.toArray) pt fun h' hen hit keep => wpAny_pyIter_enum hen ?_
  have I2 : Inv X pins σ H1 { s1 with heap := h' } := I1.kept (t' := s1.toks) keep
  refine ⟨s1.heap.objs.size + 1, [s1.heap.objs.size + 1, s1.heap.objs.size], _, _, H1, rfl, I2, turn_enumT a xs (s1.heap.objs.size + 1) s1.heap.objs.size, ⟨⟨.none, hen⟩, ⟨_, hit, rfl, rfl⟩, Nat.succ_ne_self _, Nat.zero_le _⟩, fun b hb => ?_, q⟩
  have le : s1.heap.objs.size ≤ b := by
    rcases List.mem_cons.mp hb with z | z
    · rw [z]
      exact Nat.le_succ _
    · rw [List.mem_singleton.mp z]
      exact Nat.le_refl _
  exact I1.fpOk le (I1.hok.fresh le)
theorem pi_enumS (hg : Gl X "enumerate") (hm : X.mg "enumerate" = none) (ha : PA X [e] ta) (hs : starEach [e] X.env = [(false, eval e X.env)] := by rfl) :
    PI X (.Tuple elts kk tpos) (.Call (.Name "enumerate" p) [e] [] pos) (iEnumS ta) := by
  refine ⟨fun pins s σ H R I h => ?_⟩
  refine Call_ (ld_blt I hg hm boot_enumerate (PyProof.Rows.callWith_type1 (thn (ha.run pos pins s σ H _ I h) fun us s1 ⟨vs, H1, I1, r1, q1⟩ => ?_) hs rfl))
  obtain ⟨z, rfl, q⟩ := q1
  obtain ⟨u, rfl, r⟩ := vals1 r1
  obtain ⟨t, rfl⟩ := (show ∃ t, u = Value.str z t from r)
  refine enum1 (begins_text z t) trivial fun h' hen hit keep => wpAny_pyIter_enum hen ?_
  have I2 : Inv X pins σ H1 { s1 with heap := h' } := I1.kept (t' := s1.toks) keep
  refine ⟨s1.heap.objs.size + 1, [s1.heap.objs.size + 1, s1.heap.objs.size], _, _, H1, rfl, I2, turn_enumS z t (s1.heap.objs.size + 1) s1.heap.objs.size, ⟨⟨.none, hen⟩, ⟨_, hit, rfl, rfl⟩, Nat.succ_ne_self _, Nat.zero_le _⟩, fun b hb => ?_, q⟩
  have le : s1.heap.objs.size ≤ b := by
    rcases List.mem_cons.mp hb with z | z
    · rw [z]
      exact Nat.le_succ _
    · rw [List.mem_singleton.mp z]
      exact Nat.le_refl _
  exact I1.fpOk le (I1.hok.fresh le)
end
end TcG
namespace TcG
open PySem PySem.Spec PyProof.Rows L2
/-- the turns over the numbered items of a tuple -/
theorem for_enumT {K : PySem.W.Frag} {a : Addr} {xs : List V} {g : TG} {tb : TS} {D : Ends} {σ : L2.St} {H : Hp} (Pv : Nat → L2.St → Hp → Prop) (h0 : Pv 0 σ H) (stays : ∀ i σ H, Pv i σ H → SqT K H a xs)
    (turn : ∀ i x σ H T, xs[i]? = some x → Pv i σ H → H T = none → g (.ref T) σ (upd H T (.tup [.int (i : Nat), x])) fun σ2 H2 => tb { D with nx := Pv (i + 1), ct := Pv (i + 1), bk := D.nx } σ2 H2) (out : ∀ σ H, Pv xs.length σ H → D.nx σ H) :
    ∃ W : Nat → Nat → L2.St → Hp → Prop, (∃ m, W 0 m σ H) ∧ ∀ i m σ H, W i m σ H →
      ((IteT K a xs).stop i H ∧ D.nx σ H) ∨ ((IteT K a xs).go i H ∧ ∃ N : L2.St → Hp → Prop, (∀ σ' H', N σ' H' → ∃ m', m' < m ∧ W (i + 1) m' σ' H') ∧ ∀ x H', (IteT K a xs).yld i H x H' → g x σ H' fun σ2 H2 => tb { D with nx := N, ct := N, bk := D.nx } σ2 H2) := by
  refine ⟨fun i m σ H => m = xs.length - i ∧ i ≤ xs.length ∧ Pv i σ H, ⟨xs.length, by simp, Nat.zero_le _, h0⟩, ?_⟩
  rintro i m σ H ⟨rfl, hi, p⟩
  by_cases lt : i < xs.length
  · refine .inr ⟨⟨lt, stays i σ H p⟩, Pv (i + 1), fun σ' H' p' => ⟨xs.length - (i + 1), by omega, rfl, lt, p'⟩, fun x H' y => ?_⟩
    obtain ⟨T, x', hx, rfl, hT, rfl⟩ := y
    exact turn i x' σ H T hx p hT
  · obtain rfl : i = xs.length := by omega
    exact .inl ⟨⟨Nat.le_refl _, stays _ σ H p⟩, out σ H p⟩
/-- the turns over the numbered signs of a text -/
theorem for_enumS {l : List Nat} {g : TG} {tb : TS} {D : Ends} {σ : L2.St} {H : Hp} (Pv : Nat → L2.St → Hp → Prop) (h0 : Pv 0 σ H)
    (turn : ∀ i c σ H T, l[i]? = some c → Pv i σ H → H T = none → g (.ref T) σ (upd H T (.tup [.int (i : Nat), .str (tx [c])])) fun σ2 H2 => tb { D with nx := Pv (i + 1), ct := Pv (i + 1), bk := D.nx } σ2 H2) (out : ∀ σ H, Pv l.length σ H → D.nx σ H) :
    ∃ W : Nat → Nat → L2.St → Hp → Prop, (∃ m, W 0 m σ H) ∧ ∀ i m σ H, W i m σ H →
      ((IteS (tx l)).stop i H ∧ D.nx σ H) ∨ ((IteS (tx l)).go i H ∧ ∃ N : L2.St → Hp → Prop, (∀ σ' H', N σ' H' → ∃ m', m' < m ∧ W (i + 1) m' σ' H') ∧ ∀ x H', (IteS (tx l)).yld i H x H' → g x σ H' fun σ2 H2 => tb { D with nx := N, ct := N, bk := D.nx } σ2 H2) := by
  have size : (tx l).cps.size = l.length := tx_length l
  refine ⟨fun i m σ H => m = l.length - i ∧ i ≤ l.length ∧ Pv i σ H, ⟨l.length, by simp, Nat.zero_le _, h0⟩, ?_⟩
  rintro i m σ H ⟨rfl, hi, p⟩
  by_cases lt : i < l.length
  · refine .inr ⟨by show i < (tx l).cps.size; rw [size]; exact lt, Pv (i + 1), fun σ' H' p' => ⟨l.length - (i + 1), by omega, rfl, lt, p'⟩, fun x H' y => ?_⟩
    obtain ⟨T, c, hc, rfl, hT, rfl⟩ := y
    exact turn i c σ H T (by simpa [tx] using hc) p hT
  · obtain rfl : i = l.length := by omega
    exact .inl ⟨by show (tx l).cps.size ≤ l.length; rw [size]; exact Nat.le_refl _, out σ H p⟩
end TcG
/-! Rows of exchanges; as few as can be. -/
namespace TcG
open PySem PySem.Spec PyProof.Rows L2
variable {ps : List (List Nat)} {ls : List Nat}
def canAt (ps : List (List Nat)) (w : List Nat) (z : Int) : Bool := decide (0 ≤ z) && (decide (z < (w.length : Int) - 1) && (match w[z.toNat]?, w[z.toNat + 1]? with | some x, some y => ind ps x y | _, _ => false))
/-- the word behind exchanges at these places, and the number of the first that is not possible -/
def runEx (ps : List (List Nat)) : List Nat → List Int → Nat → List Nat × Option Nat
  | w, [], _ => (w, none)
  | w, z :: r, k => if canAt ps w z = true then runEx ps (swapAt w z.toNat) r (k + 1) else (w, some k)
theorem runEx_go {w : List Nat} {z : Int} (r : List Int) (k : Nat) (h : canAt ps w z = true) : runEx ps w (z :: r) k = runEx ps (swapAt w z.toNat) r (k + 1) := by
  rw [runEx, if_pos h]
theorem runEx_no {w : List Nat} {z : Int} (r : List Int) (k : Nat) (h : canAt ps w z = false) : runEx ps w (z :: r) k = (w, some k) := by
  rw [runEx, if_neg (by rw [h]; exact Bool.false_ne_true)]
def desc (n : Nat) : Nat → List Nat
  | 0 => []
  | j + 1 => (n + j) :: desc n j
theorem desc_len (n : Nat) : ∀ j, (desc n j).length = j
  | 0 => rfl
  | j + 1 => by
    show (desc n j).length + 1 = j + 1
    rw [desc_len n j]
/-- the places of exchanges that lead from the one to the other, letter by letter -/
def exL : Nat → List Nat → List Nat → List Nat
  | _, _, [] => []
  | n, rest, x :: b => desc n (rest.idxOf x) ++ exL (n + 1) (rest.erase x) b
def KeepsA (ps : List (List Nat)) (a b : List Nat) : Prop := ∀ u v, ind ps u v = false → keepM [u, v] a = keepM [u, v] b
theorem Exs.keepsA (pr : Pairs ls ps) {a b : List Nat} (h : Exs ps a b) : KeepsA ps a b := fun u v hi => h.keeps pr hi
theorem keepsA_step (pr : Pairs ls ps) {a b : List Nat} {x : Nat} (kp : KeepsA ps a (x :: b)) : ∃ p q, a = p ++ x :: q ∧ x ∉ p ∧ (∀ y ∈ p, ind ps y x = true) ∧ KeepsA ps (p ++ q) b := by
  have hx : x ∈ a := by
    have k := kp x x (ind_self pr x)
    have m : x ∈ keepM [x, x] (x :: b) := List.mem_filter.mpr ⟨List.mem_cons_self, decide_eq_true List.mem_cons_self⟩
    rw [← k] at m
    exact (List.mem_filter.mp m).1
  obtain ⟨p, q, rfl, nx⟩ := split_first hx
  have free : ∀ y ∈ p, ind ps y x = true := fun y hy => by
    cases e : ind ps y x with
    | true => rfl
    | false =>
      exfalso
      have k := kp y x e
      rw [keepM_append, keepM_cons_in (by simp) b] at k
      have only : ∀ c ∈ keepM [y, x] p, c = y := fun c hc => by
        obtain ⟨h1, h2⟩ := List.mem_filter.mp hc
        rcases List.mem_cons.mp (of_decide_eq_true h2) with z | z
        · exact z
        · rw [List.mem_singleton.mp z] at h1
          exact absurd h1 nx
      have hy2 : y ∈ keepM [y, x] p := List.mem_filter.mpr ⟨hy, decide_eq_true List.mem_cons_self⟩
      cases ek : keepM [y, x] p with
      | nil =>
        rw [ek] at hy2
        cases hy2
      | cons c r =>
        rw [ek] at k only
        have ec := only c List.mem_cons_self
        rw [List.cons_append] at k
        have k1 := (List.cons.inj k).1
        exact nx (by rw [← k1, ec]; exact hy)
  refine ⟨p, q, rfl, nx, free, fun u v hi => ?_⟩
  have k := kp u v hi
  by_cases hm : x ∈ [u, v]
  · have none : keepM [u, v] p = [] := keepM_none fun c hc z => by
      have f := free c hc
      have bad : ind ps c x = false := by
        rcases List.mem_cons.mp hm with m | m
        · rcases List.mem_cons.mp z with z | z
          · rw [z, m]
            exact ind_self pr u
          · rw [List.mem_singleton.mp z, m, ind_comm]
            exact hi
        · have m := List.mem_singleton.mp m
          rcases List.mem_cons.mp z with z | z
          · rw [z, m]
            exact hi
          · rw [List.mem_singleton.mp z, m]
            exact ind_self pr v
      rw [f] at bad
      cases bad
    rw [keepM_append, none, keepM_cons_in hm, keepM_cons_in hm] at k
    rw [keepM_append, none]
    exact (List.cons.inj k).2
  · rw [keepM_append, keepM_cons_out hm, keepM_cons_out hm] at k
    rw [keepM_append]
    exact k
theorem keepsA_nil (pr : Pairs ls ps) {a : List Nat} (kp : KeepsA ps a []) : a = [] := by
  cases a with
  | nil => rfl
  | cons x r =>
    have k := kp x x (ind_self pr x)
    rw [keepM_cons_in List.mem_cons_self] at k
    cases k
theorem idx_first {x : Nat} {p q : List Nat} (nx : x ∉ p) : (p ++ x :: q).idxOf x = p.length := by
  induction p with
  | nil => exact List.idxOf_cons_self
  | cons y p ih =>
    have ne : ¬ y = x := fun z => nx (by rw [z]; exact List.mem_cons_self)
    have e := ih fun z => nx (List.mem_cons_of_mem _ z)
    rw [List.cons_append, List.idxOf_cons, e]
    have : (y == x) = false := by simpa using ne
    rw [this]
    rfl
theorem erase_first {x : Nat} {p q : List Nat} (nx : x ∉ p) : (p ++ x :: q).erase x = p ++ q := by
  rw [List.erase_append_right _ nx, List.erase_cons_head]
/-- a letter goes ahead of the letters of p -/
theorem run_move (pre : List Nat) (x : Nat) (more : List Nat) : ∀ (n : Nat) (p q : List Nat) (k : Nat), p.length = n → (∀ y ∈ p, ind ps y x = true) →
    runEx ps (pre ++ (p ++ x :: q)) ((desc pre.length n ++ more).map Int.ofNat) k = runEx ps (pre ++ x :: (p ++ q)) (more.map Int.ofNat) (k + n)
  | 0, p, q, k, hl, _ => by
    obtain rfl : p = [] := List.eq_nil_of_length_eq_zero hl
    rfl
  | n + 1, p, q, k, hl, free => by
    obtain ⟨r, y, rfl⟩ : ∃ r y, p = r ++ [y] := ⟨p.dropLast, p.getLast (fun z => by rw [z] at hl; cases hl), (List.dropLast_concat_getLast _).symm⟩
    have lr : r.length = n := by simpa using hl
    have ew : pre ++ ((r ++ [y]) ++ x :: q) = (pre ++ r) ++ y :: x :: q := by simp
    have lpr : (pre ++ r).length = pre.length + n := by rw [List.length_append, lr]
    have hy : ((pre ++ r) ++ y :: x :: q)[pre.length + n]? = some y := by rw [← lpr]; simp
    have hx : ((pre ++ r) ++ y :: x :: q)[pre.length + n + 1]? = some x := by
      rw [← lpr, List.getElem?_append_right (by omega), show (pre ++ r).length + 1 - (pre ++ r).length = 1 by omega]
      rfl
    have can : canAt ps ((pre ++ r) ++ y :: x :: q) (Int.ofNat (pre.length + n)) = true := by
      unfold canAt
      rw [show (Int.ofNat (pre.length + n)).toNat = pre.length + n from rfl, hy, hx]
      have e1 : decide (0 ≤ Int.ofNat (pre.length + n)) = true := decide_eq_true (Int.natCast_nonneg _)
      have e2 : decide (Int.ofNat (pre.length + n) < ((((pre ++ r) ++ y :: x :: q).length : Nat) : Int) - 1) = true := decide_eq_true (by
        rw [List.length_append, lpr, List.length_cons, List.length_cons]
        show ((pre.length + n : Nat) : Int) < _
        omega)
      rw [e1, e2]
      exact free y (by simp)
    have sw : swapAt ((pre ++ r) ++ y :: x :: q) (pre.length + n) = pre ++ (r ++ x :: (y :: q)) := by
      rw [swapAt_eq hy hx, ← lpr, List.take_left]
      have : ((pre ++ r) ++ y :: x :: q).drop ((pre ++ r).length + 2) = q := by
        rw [← List.drop_drop, List.drop_left]
        rfl
      rw [this]
      simp
    show runEx ps (pre ++ ((r ++ [y]) ++ x :: q)) (Int.ofNat (pre.length + n) :: (desc pre.length n ++ more).map Int.ofNat) k = _
    rw [ew, runEx_go _ k can, show (Int.ofNat (pre.length + n)).toNat = pre.length + n from rfl, sw, run_move pre x more n r (y :: q) (k + 1) lr fun z hz => free z (List.mem_append_left _ hz)]
    have e3 : r ++ [y] ++ q = r ++ y :: q := by simp
    rw [e3, show k + 1 + n = k + (n + 1) by omega]
theorem run_exL (pr : Pairs ls ps) : ∀ (b a pre : List Nat) (k : Nat), KeepsA ps a b → ∃ n, runEx ps (pre ++ a) ((exL pre.length a b).map Int.ofNat) k = (pre ++ b, none) ∧ n = k
  | [], a, pre, k, kp => by
    rw [keepsA_nil pr kp]
    exact ⟨k, rfl, rfl⟩
  | x :: b, a, pre, k, kp => by
    obtain ⟨p, q, rfl, nx, free, kp2⟩ := keepsA_step pr kp
    unfold exL
    rw [idx_first nx, erase_first nx, run_move pre x _ p.length p q k rfl free]
    obtain ⟨n, h, _⟩ := run_exL pr b (p ++ q) (pre ++ [x]) (k + p.length) kp2
    have el : (pre ++ [x]).length = pre.length + 1 := by simp
    rw [el] at h
    refine ⟨k, ?_, rfl⟩
    have e1 : pre ++ x :: (p ++ q) = pre ++ [x] ++ (p ++ q) := by simp
    have e2 : pre ++ x :: b = pre ++ [x] ++ b := by simp
    rw [e1, e2]
    exact h

/-! how many pairs stand the other way round -/
/-- the place of the letter c of which n stand before it -/
def nth : List Nat → Nat → Nat → Nat
  | [], _, _ => 0
  | x :: b, c, n => if x = c then (match n with | 0 => 0 | n + 1 => nth b c n + 1) else nth b c n + 1
theorem nth_first (b : List Nat) (x : Nat) : nth (x :: b) x 0 = 0 := by simp [nth]
theorem nth_hit (b : List Nat) (x n : Nat) : nth (x :: b) x (n + 1) = nth b x n + 1 := by simp [nth]
theorem nth_miss {x c : Nat} (b : List Nat) (n : Nat) (h : ¬ x = c) : nth (x :: b) c n = nth b c n + 1 := by simp [nth, h]
def spots (b : List Nat) : List Nat → List Nat → List Nat
  | _, [] => []
  | seen, c :: r => nth b c (seen.count c) :: spots b (c :: seen) r
def inverts : List Nat → Nat
  | [] => 0
  | x :: r => (r.filter fun y => decide (y < x)).length + inverts r
theorem spots_len (b : List Nat) : ∀ a seen, (spots b seen a).length = a.length
  | [], _ => rfl
  | c :: r, seen => by
    show (spots b (c :: seen) r).length + 1 = r.length + 1
    rw [spots_len b r]
theorem spots_append (b : List Nat) : ∀ p seen q, spots b seen (p ++ q) = spots b seen p ++ spots b (p.reverse ++ seen) q
  | [], _, _ => rfl
  | c :: p, seen, q => by
    show nth b c (seen.count c) :: spots b (c :: seen) (p ++ q) = nth b c (seen.count c) :: (spots b (c :: seen) p ++ _)
    rw [spots_append b p (c :: seen) q, List.reverse_cons, List.append_assoc]
    rfl
/-- behind the first x: what was counted for x is one more -/
theorem spots_behind {b : List Nat} {x : Nat} : ∀ (q S T : List Nat), (∀ c, c ≠ x → S.count c = T.count c) → S.count x = T.count x + 1 → spots (x :: b) S q = (spots b T q).map (· + 1)
  | [], _, _, _, _ => rfl
  | c :: q, S, T, h1, h2 => by
    have ih := spots_behind (b := b) q (c :: S) (c :: T) (fun d hd => by rw [List.count_cons, List.count_cons, h1 d hd]) (by rw [List.count_cons, List.count_cons, h2]; omega)
    show nth (x :: b) c (S.count c) :: spots (x :: b) (c :: S) q = (nth b c (T.count c) + 1) :: (spots b (c :: T) q).map (· + 1)
    rw [ih]
    congr 1
    by_cases e : x = c
    · rw [← e, h2, nth_hit]
    · rw [nth_miss _ _ e, h1 c fun z => e z.symm]
theorem spots_ahead {b : List Nat} {x : Nat} : ∀ (p S : List Nat), x ∉ p → spots (x :: b) S p = (spots b S p).map (· + 1)
  | [], _, _ => rfl
  | c :: p, S, nx => by
    have ne : ¬ x = c := fun z => nx (by rw [z]; exact List.mem_cons_self)
    have ih := spots_ahead (b := b) p (c :: S) fun z => nx (List.mem_cons_of_mem _ z)
    show nth (x :: b) c (S.count c) :: spots (x :: b) (c :: S) p = (nth b c (S.count c) + 1) :: (spots b (c :: S) p).map (· + 1)
    rw [ih]
    congr 1
    rw [nth_miss _ _ ne]
theorem spots_same {b : List Nat} : ∀ (q S T : List Nat), (∀ c, S.count c = T.count c) → spots b S q = spots b T q
  | [], _, _, _ => rfl
  | c :: q, S, T, h => by
    show nth b c (S.count c) :: spots b (c :: S) q = nth b c (T.count c) :: spots b (c :: T) q
    rw [h c, spots_same q (c :: S) (c :: T) fun d => by rw [List.count_cons, List.count_cons, h d]]
theorem inverts_put : ∀ u v : List Nat, inverts (u.map (· + 1) ++ 0 :: v.map (· + 1)) = u.length + inverts (u ++ v)
  | [], v => by
    show (List.filter (fun y => decide (y < 0)) (v.map (· + 1))).length + inverts (v.map (· + 1)) = 0 + inverts v
    have e0 : List.filter (fun y => decide (y < 0)) (v.map (· + 1)) = [] := List.filter_eq_nil_iff.mpr fun y _ z => absurd (of_decide_eq_true z) (Nat.not_lt_zero y)
    have e1 : ∀ v : List Nat, inverts (v.map (· + 1)) = inverts v := fun v => by
      induction v with
      | nil => rfl
      | cons y r ih =>
        show (List.filter (fun z => decide (z < y + 1)) (r.map (· + 1))).length + inverts (r.map (· + 1)) = (List.filter (fun z => decide (z < y)) r).length + inverts r
        rw [ih, List.filter_map, List.length_map]
        congr 2
        refine List.filter_congr fun z _ => ?_
        simp
    rw [e0, e1]
    rfl
  | t :: u, v => by
    show (List.filter (fun y => decide (y < t + 1)) (u.map (· + 1) ++ 0 :: v.map (· + 1))).length + inverts (u.map (· + 1) ++ 0 :: v.map (· + 1)) = u.length + 1 + ((List.filter (fun y => decide (y < t)) (u ++ v)).length + inverts (u ++ v))
    rw [inverts_put u v, List.filter_append, List.filter_append, List.filter_cons, if_pos (by simp), List.filter_map, List.filter_map, List.length_append, List.length_cons, List.length_map, List.length_map, List.length_append]
    have e : ∀ l : List Nat, List.filter ((fun y => decide (y < t + 1)) ∘ (· + 1)) l = List.filter (fun y => decide (y < t)) l := fun l => List.filter_congr fun z _ => by simp
    rw [e u, e v]
    omega
/-- as many exchanges as pairs stand the other way round -/
theorem exL_least (pr : Pairs ls ps) : ∀ (b a : List Nat) (n : Nat), KeepsA ps a b → (exL n a b).length = inverts (spots b [] a)
  | [], a, n, kp => by
    rw [keepsA_nil pr kp]
    rfl
  | x :: b, a, n, kp => by
    obtain ⟨p, q, rfl, nx, free, kp2⟩ := keepsA_step pr kp
    unfold exL
    rw [idx_first nx, erase_first nx, List.length_append, desc_len, exL_least pr b (p ++ q) (n + 1) kp2, spots_append, spots_append]
    have e0 : spots (x :: b) (p.reverse ++ []) (x :: q) = 0 :: spots (x :: b) (x :: (p.reverse ++ [])) q := by
      show nth (x :: b) x ((p.reverse ++ []).count x) :: _ = _
      have z : (p.reverse ++ []).count x = 0 := List.count_eq_zero_of_not_mem (by simpa using nx)
      rw [z, nth_first]
    rw [e0, spots_ahead p [] nx, spots_behind q (x :: (p.reverse ++ [])) (p.reverse ++ []) (fun c hc => by rw [List.count_cons, if_neg (by simpa using fun z : x = c => hc z.symm)]; rfl) (by rw [List.count_cons, if_pos (by simp)]), inverts_put, spots_len]
theorem exL_len : ∀ (b a : List Nat) (n : Nat), (exL n a b).length ≤ b.length * (a.length + 1)
  | [], a, n => Nat.zero_le _
  | x :: b, a, n => by
    unfold exL
    have ih := exL_len b (a.erase x) (n + 1)
    have h1 : (a.erase x).length ≤ a.length := List.length_erase_le
    have h2 : a.idxOf x ≤ a.length := List.idxOf_le_length
    have h3 : b.length * ((a.erase x).length + 1) ≤ b.length * (a.length + 1) := Nat.mul_le_mul_left _ (by omega)
    rw [List.length_append, desc_len, List.length_cons, Nat.succ_mul]
    omega
theorem swapAt_len {l : List Nat} {k : Nat} (h : k + 1 < l.length) : (swapAt l k).length = l.length := by
  rw [swapAt_eq (List.getElem?_eq_getElem (by omega : k < l.length)) (List.getElem?_eq_getElem h)]
  simp only [List.length_append, List.length_take, List.length_drop, List.length_cons, List.length_nil]
  omega
theorem canAt_bounds {w : List Nat} {z : Int} (h : canAt ps w z = true) : ∃ k : Nat, z = (k : Int) ∧ k + 1 < w.length := by
  unfold canAt at h
  obtain ⟨h1, h2⟩ := Bool.and_eq_true_iff.mp h
  obtain ⟨h2, _⟩ := Bool.and_eq_true_iff.mp h2
  have a := of_decide_eq_true h1
  have b := of_decide_eq_true h2
  exact ⟨z.toNat, by omega, by omega⟩
theorem canAt_in {w : List Nat} {k x y : Nat} (hx : w[k]? = some x) (hy : w[k + 1]? = some y) : canAt ps w (k : Int) = ind ps x y := by
  obtain ⟨lt, _⟩ := List.getElem?_eq_some_iff.mp hy
  unfold canAt
  rw [show ((k : Int)).toNat = k from rfl, hx, hy, decide_eq_true (by omega : (0 : Int) ≤ (k : Int)), decide_eq_true (by omega : (k : Int) < (w.length : Int) - 1)]
  rfl
theorem canAt_out {w : List Nat} {z : Int} (h : ¬ (0 ≤ z ∧ z < (w.length : Int) - 1)) : canAt ps w z = false := by
  unfold canAt
  by_cases a : (0 : Int) ≤ z
  · rw [decide_eq_false (fun b : z < (w.length : Int) - 1 => h ⟨a, b⟩)]
    simp
  · rw [decide_eq_false a]
    rfl
theorem canAt_mem {w : List Nat} {z : Int} (h : canAt ps w z = true) {c : Nat} (hc : c ∈ swapAt w z.toNat) : c ∈ w := by
  obtain ⟨k, rfl, lt⟩ := canAt_bounds h
  rw [show ((k : Int)).toNat = k from rfl, swapAt_eq (List.getElem?_eq_getElem (by omega : k < w.length)) (List.getElem?_eq_getElem lt)] at hc
  simp only [List.mem_append, List.mem_singleton] at hc
  rcases hc with ((hc | hc) | hc) | hc
  · exact List.mem_of_mem_take hc
  · rw [hc]
    exact List.getElem_mem lt
  · rw [hc]
    exact List.getElem_mem _
  · exact List.mem_of_mem_drop hc
end TcG
/-! s.index(c, i); list(s). -/
namespace TcG
open PySem PySem.Spec PyProof.Rows L2
open Builtin.Str StrLaws
theorem occ_full (s sub : Str) (hi : Nat) : ∀ (l : List Nat) (st : Array Nat × Nat), 1 ≤ st.fst.size → (forIn (m := Id) l st (occBody s sub hi 1)).run = st
  | [], _, _ => rfl
  | a :: l, st, h => by
    have no : ¬ (((st.fst.size < 1 ∧ st.snd ≤ a) ∧ a + sub.length ≤ hi) ∧ subAt s sub a = true) := fun z => by have := z.1.1.1; omega
    rw [List.forIn_cons]
    unfold occBody
    rw [if_neg no]
    exact occ_full s sub hi l st h
theorem occ_until (s sub : Str) (hi i free : Nat) (B : List Nat) (here : i + sub.length ≤ hi ∧ subAt s sub i = true) (le : free ≤ i) : ∀ A : List Nat, (∀ a ∈ A, ¬ (a + sub.length ≤ hi ∧ subAt s sub a = true)) →
    (forIn (m := Id) (A ++ i :: B) ((#[] : Array Nat), free) (occBody s sub hi 1)).run.fst = #[i]
  | [], _ => by
    rw [List.nil_append, List.forIn_cons]
    have yes : (((#[] : Array Nat).size < 1 ∧ free ≤ i) ∧ i + sub.length ≤ hi) ∧ subAt s sub i = true := ⟨⟨⟨by decide, le⟩, here.1⟩, here.2⟩
    have e : occBody s sub hi 1 i ((#[] : Array Nat), free) = pure (ForInStep.yield (#[i], i + sub.length)) := by
      unfold occBody
      rw [if_pos yes]
      rfl
    rw [e]
    show (forIn (m := Id) B ((#[i] : Array Nat), i + sub.length) (occBody s sub hi 1)).run.fst = #[i]
    rw [occ_full s sub hi B _ (by show 1 ≤ (#[i] : Array Nat).size; simp)]
  | a :: A, h => by
    have no : ¬ ((((#[] : Array Nat).size < 1 ∧ free ≤ a) ∧ a + sub.length ≤ hi) ∧ subAt s sub a = true) := fun z => h a List.mem_cons_self ⟨z.1.2, z.2⟩
    rw [List.cons_append, List.forIn_cons]
    have e : occBody s sub hi 1 a ((#[] : Array Nat), free) = pure (ForInStep.yield (#[], free)) := by
      unfold occBody
      rw [if_neg no]
    rw [e]
    exact occ_until s sub hi i free B here le A fun b hb => h b (List.mem_cons_of_mem _ hb)
theorem index_from {pre p q : List Nat} {c : Nat} (nc : c ∉ p) : Txt.indexFrom (tx (pre ++ (p ++ c :: q))) (tx [c]) (pre.length : Int) = some (pre.length + p.length) := by
  unfold Txt.indexFrom
  have len : (tx (pre ++ (p ++ c :: q))).length = pre.length + p.length + 1 + q.length := by
    rw [tx_length]
    simp
    omega
  have lo : fromIndex (tx (pre ++ (p ++ c :: q))).length (pre.length : Int) = pre.length := by
    first
      | rfl
      | (rw [len]; unfold fromIndex; split <;> omega)
      | (rw [len]; unfold fromIndex; simp; omega)
  rw [lo, occ_eq]
  have one : ∀ i, (i + (tx [c]).length ≤ (tx (pre ++ (p ++ c :: q))).length ∧ subAt (tx (pre ++ (p ++ c :: q))) (tx [c]) i = true) ↔ (pre ++ (p ++ c :: q))[i]? = some c := fun i => subAt_one (tx (pre ++ (p ++ c :: q))) c i
  have split : List.range' pre.length ((tx (pre ++ (p ++ c :: q))).length + 1 - pre.length) = List.range' pre.length p.length ++ (pre.length + p.length) :: List.range' (pre.length + p.length + 1) (q.length + 1) := by
    rw [len, show pre.length + p.length + 1 + q.length + 1 - pre.length = p.length + (1 + (q.length + 1)) by omega, ← List.range'_append_1, ← List.range'_append_1]
    rfl
  rw [split, occ_until _ _ _ _ _ _ ((one _).mpr ?_) (by omega) _ fun a ha => ?_]
  · rfl
  · rw [List.getElem?_append_right (by omega), List.getElem?_append_right (by omega)]
    rw [show pre.length + p.length - pre.length - p.length = 0 by omega]
    rfl
  · rw [one]
    obtain ⟨j, hj, rfl⟩ := List.mem_range'.mp ha
    intro z
    rw [List.getElem?_append_right (by omega), show pre.length + 1 * j - pre.length = j by omega, List.getElem?_append_left hj] at z
    exact nc (List.mem_of_getElem? z)
section
variable {X : Cx}
/-- list(s) -/
theorem call_listT (hc : X.calm = true) : CallR X (.type "list") (fun xs H Q => ∃ l : List Nat, xs = [.str (tx l)] ∧ l.length ≤ 1000 ∧ ∀ p, H p = none → Q (.ref p) (upd H p (.lst (l.map fun c => .str (tx [c]))))) := by
  intro pins s σ H xs us Q I r h
  obtain ⟨l, rfl, few, q⟩ := h
  obtain ⟨u, rfl, rx⟩ := vals1 r
  obtain ⟨t, rfl⟩ := (show ∃ t, u = Value.str (tx l) t from rx)
  have size : (tx l).cps.size = l.length := tx_length l
  refine PySem.call_list_str (I.ok.hd hc) (tx l) t (fun h' tk acc c' keep at' items => ?_) (by rw [size]; exact Nat.le_trans few (by decide))
  have vals : ∀ (l : List Nat) (vs : List Value), vs.length = l.length → (∀ (j : Nat) v, vs[j]? = some v → ∃ c u, l[j]? = some c ∧ v = .str ⟨#[c]⟩ u) → Vals (l.map fun c => V.str (tx [c])) vs := by
    intro l
    induction l with
    | nil =>
      intro vs e _
      cases vs with
      | nil => exact .nil
      | cons _ _ => cases e
    | cons c r ih =>
      intro vs e h
      cases vs with
      | nil => cases e
      | cons v vs =>
        obtain ⟨c', u, e1, rfl⟩ := h 0 v rfl
        cases e1
        exact .cons ⟨u, rfl⟩ (ih vs (Nat.succ.inj e) fun j v hj => h (j + 1) v hj)
  have V1 : Vals (l.map fun c => V.str (tx [c])) acc.toList := vals l acc.toList (by
      have e := items.1
      rw [size] at e
      simpa using e) fun j v hj => by
    have hj2 : acc[j]? = some v := by simpa using hj
    obtain ⟨c, u, e1, e2⟩ := items.2 j v hj2
    exact ⟨c, u, by simpa [tx] using e1, e2⟩
  have J := I.laid (t' := tk) (a := s.heap.objs.size) (o := .lst (l.map fun c => V.str (tx [c]))) keep (Nat.le_refl _)
    (show ObjOk X.prog X.w _ h' _ (.lst _) from ⟨by rw [List.length_map]; exact Nat.le_trans few (by decide), acc.toList, c', V1, by simpa using at'⟩)
  exact ⟨.ref s.heap.objs.size, _, J, rfl, q _ (I.hok.fresh (Nat.le_refl _))⟩
end
end TcG
/-! The text of the law by its places. -/
namespace Tc
open PySem PySem.Spec PyProof.Rows L2 TcG
def topS (i : Nat) : Stmt := PySem.Challenge.pw_traceclasses_k02_words_are_exchanged.main.body.getD i (.Pass ⟨0, 0, 0, 0⟩)
-- topS 0: (PySem.Stmt.Assign
-- class TraceFault: topS 1
-- class AlphabetFault: topS 2
abbrev s_AlphabetFault_init : Stmt := inClass (topS 2) 0
-- AlphabetFault_init: 0 self, 1 reason
-- class ExchangeFault: topS 3
abbrev s_ExchangeFault_init : Stmt := inClass (topS 3) 0
-- ExchangeFault_init: 0 self, 1 number
-- topS 4: (PySem.Stmt.Assign
abbrev s_letter_pairs : Stmt := topS 5
theorem sc_letter_pairs : FnScope ["letters"] ["letters"] (defScope s_letter_pairs) :=
  ⟨rfl, rfl, rfl, by decide +kernel, rfl, by decide +kernel, by decide +kernel⟩
-- letter_pairs: 0 letters [letters is a cell]
abbrev s_independent : Stmt := topS 6
theorem sc_independent : FnScope ["alphabet", "x", "y"] ["alphabet", "x", "y"] (defScope s_independent) :=
  ⟨rfl, rfl, rfl, by decide +kernel, rfl, by decide +kernel, by decide +kernel⟩
-- independent: 0 alphabet, 1 x, 2 y
abbrev s_taken_out : Stmt := topS 7
theorem sc_taken_out : FnScope ["word", "letters"] ["word", "letters"] (defScope s_taken_out) :=
  ⟨rfl, rfl, rfl, by decide +kernel, rfl, by decide +kernel, by decide +kernel⟩
-- taken_out: 0 word, 1 letters [letters is a cell]
-- topS 8: (PySem.Stmt.Assign
abbrev s_parts : Stmt := topS 9
theorem sc_parts : FnScope ["alphabet", "word", "other", "letters", "letter", "pair", "low", "high"] ["alphabet", "word", "other"] (defScope s_parts) :=
  ⟨rfl, rfl, rfl, by decide +kernel, rfl, by decide +kernel, by decide +kernel⟩
-- parts: 0 alphabet, 1 word, 2 other, 3 letters, 4 letter, 5 pair, 6 low, 7 high
abbrev s_exchanges : Stmt := topS 10
theorem sc_exchanges : FnScope ["alphabet", "word", "other", "places", "now", "at", "letter", "found", "place"] ["alphabet", "word", "other"] (defScope s_exchanges) :=
  ⟨rfl, rfl, rfl, by decide +kernel, rfl, by decide +kernel, by decide +kernel⟩
-- exchanges: 0 alphabet, 1 word, 2 other, 3 places, 4 now, 5 at, 6 letter, 7 found, 8 place
abbrev s_swapped : Stmt := topS 11
theorem sc_swapped : FnScope ["word", "place"] ["word", "place"] (defScope s_swapped) :=
  ⟨rfl, rfl, rfl, by decide +kernel, rfl, by decide +kernel, by decide +kernel⟩
-- swapped: 0 word, 1 place
abbrev s_exchanged : Stmt := topS 12
theorem sc_exchanged : FnScope ["alphabet", "word", "places", "now", "number", "place"] ["alphabet", "word", "places"] (defScope s_exchanged) :=
  ⟨rfl, rfl, rfl, by decide +kernel, rfl, by decide +kernel, by decide +kernel⟩
-- exchanged: 0 alphabet, 1 word, 2 places, 3 now, 4 number, 5 place
abbrev s_can_exchange : Stmt := topS 13
theorem sc_can_exchange : FnScope ["alphabet", "word", "place"] ["alphabet", "word", "place"] (defScope s_can_exchange) :=
  ⟨rfl, rfl, rfl, by decide +kernel, rfl, by decide +kernel, by decide +kernel⟩
-- can_exchange: 0 alphabet, 1 word, 2 place
abbrev s_distance : Stmt := topS 14
theorem sc_distance : FnScope ["alphabet", "word", "other", "places"] ["alphabet", "word", "other"] (defScope s_distance) :=
  ⟨rfl, rfl, rfl, by decide +kernel, rfl, by decide +kernel, by decide +kernel⟩
-- distance: 0 alphabet, 1 word, 2 other, 3 places
-- topS 15: (PySem.Stmt.Assign
abbrev s_law_free : Stmt := topS 16
theorem sc_law_free : FnScope ["alphabet", "x", "y"] ["alphabet", "x", "y"] (defScope s_law_free) :=
  ⟨rfl, rfl, rfl, by decide +kernel, rfl, by decide +kernel, by decide +kernel⟩
-- law_free: 0 alphabet, 1 x, 2 y
abbrev s_law_cell : Stmt := topS 17
theorem sc_law_cell : FnScope ["script", "k"] ["script", "k"] (defScope s_law_cell) :=
  ⟨rfl, rfl, rfl, by decide +kernel, rfl, by decide +kernel, by decide +kernel⟩
-- law_cell: 0 script, 1 k
abbrev s_law_digits : Stmt := topS 18
theorem sc_law_digits : FnScope ["script", "first", "last", "digits", "k", "cell", "turn", "seed"] ["script", "first", "last"] (defScope s_law_digits) :=
  ⟨rfl, rfl, rfl, by decide +kernel, rfl, by decide +kernel, by decide +kernel⟩
-- law_digits: 0 script, 1 first, 2 last, 3 digits, 4 k, 5 cell, 6 turn, 7 seed
abbrev s_law_box : Stmt := topS 19
theorem sc_law_box : FnScope ["script", "first", "last"] ["script", "first", "last"] (defScope s_law_box) :=
  ⟨rfl, rfl, rfl, by decide +kernel, rfl, by decide +kernel, by decide +kernel⟩
-- law_box: 0 script, 1 first, 2 last
abbrev s_law_draw : Stmt := topS 20
theorem sc_law_draw : FnScope ["box", "many", "at"] ["box", "many"] (defScope s_law_draw) :=
  ⟨rfl, rfl, rfl, by decide +kernel, rfl, by decide +kernel, by decide +kernel⟩
-- law_draw: 0 box, 1 many, 2 at
abbrev s_law_alphabet : Stmt := topS 21
theorem sc_law_alphabet : FnScope ["box", "most", "letters", "pairs", "j", "k"] ["box", "most"] (defScope s_law_alphabet) :=
  ⟨rfl, rfl, rfl, by decide +kernel, rfl, by decide +kernel, by decide +kernel⟩
-- law_alphabet: 0 box, 1 most, 2 letters, 3 pairs, 4 j, 5 k
abbrev s_law_word : Stmt := topS 22
theorem sc_law_word : FnScope ["box", "alphabet", "most", "word", "k"] ["box", "alphabet", "most"] (defScope s_law_word) :=
  ⟨rfl, rfl, rfl, by decide +kernel, rfl, by decide +kernel, by decide +kernel⟩
-- law_word: 0 box, 1 alphabet, 2 most, 3 word, 4 k
abbrev s_law_mixed : Stmt := topS 23
theorem sc_law_mixed : FnScope ["box", "alphabet", "word", "turn", "k"] ["box", "alphabet", "word"] (defScope s_law_mixed) :=
  ⟨rfl, rfl, rfl, by decide +kernel, rfl, by decide +kernel, by decide +kernel⟩
-- law_mixed: 0 box, 1 alphabet, 2 word, 3 turn, 4 k
abbrev s_law_alike : Stmt := topS 24
theorem sc_law_alike : FnScope ["alphabet", "word", "other", "x", "y"] ["alphabet", "word", "other"] (defScope s_law_alike) :=
  ⟨rfl, rfl, rfl, by decide +kernel, rfl, by decide +kernel, by decide +kernel⟩
-- law_alike: 0 alphabet, 1 word, 2 other, 3 x, 4 y [x is a cell] [y is a cell]
abbrev s_law_inverted : Stmt := topS 25
theorem sc_law_inverted : FnScope ["word", "other", "many", "spots", "k", "number", "j", "i"] ["word", "other"] (defScope s_law_inverted) :=
  ⟨rfl, rfl, rfl, by decide +kernel, rfl, by decide +kernel, by decide +kernel⟩
-- law_inverted: 0 word, 1 other, 2 many, 3 spots, 4 k, 5 number, 6 j, 7 i [word is a cell] [other is a cell] [k is a cell]
abbrev s_law_same : Stmt := topS 26
theorem sc_law_same : FnScope ["actual", "expected", "k"] ["actual", "expected"] (defScope s_law_same) :=
  ⟨rfl, rfl, rfl, by decide +kernel, rfl, by decide +kernel, by decide +kernel⟩
-- law_same: 0 actual, 1 expected, 2 k
abbrev s_law_done : Stmt := topS 27
theorem sc_law_done : FnScope ["alphabet", "word", "places", "k", "at"] ["alphabet", "word", "places"] (defScope s_law_done) :=
  ⟨rfl, rfl, rfl, by decide +kernel, rfl, by decide +kernel, by decide +kernel⟩
-- law_done: 0 alphabet, 1 word, 2 places, 3 k, 4 at
abbrev s_law : Stmt := topS 28
theorem sc_law : FnScope ["script", "box", "turn", "alphabet", "word", "other", "found", "many", "places", "due", "e"] ["script"] (defScope s_law) :=
  ⟨rfl, rfl, rfl, by decide +kernel, rfl, by decide +kernel, by decide +kernel⟩
-- law: 0 script, 1 box, 2 turn, 3 alphabet, 4 word, 5 other, 6 found, 7 many, 8 places, 9 due, 10 e [box is a cell]
end Tc
/-! The law's own numbers: cells, digits, the box, draws. -/
namespace Tc
open PySem PySem.Spec PyProof.Rows L2 TcG
section
variable {P : Program} {w : World} {K : PySem.W.Frag} {mg : Str → Option Value} {base : Heap}

/-! _law_cell -/
def sp_cell (K : PySem.W.Frag) : Sp := fun vs H Q _ => ∃ (a : Addr) (ns : List Int) (k : Int), vs = [.ref a, .int k] ∧ SqL K H a (ns.map V.int) ∧ 0 ≤ k ∧ ∀ z : Int, Q (.int z) H
theorem ok_cell {f : Addr} {fd : FuncData} {k : Nat} (F : Fun K "_law_cell" "_law_cell" s_law_cell f fd) (ml : mg "len" = none) : FnOk P w K mg base CX0 (k + 1) f fd ["script", "k"] (sp_cell K) := by
  refine F.ok sc_law_cell (fun vs H Q E h => ?_) (fun cdv A outer s H vs Q E hr h => ?_)
  · obtain ⟨a, ns, k, rfl, _⟩ := h
    rfl
  · obtain ⟨a, ns, k, rfl, hS, hk, q⟩ := h
    refine ⟨_, pss_cons (ps_if (pt_cmpR op_lt (pv 1) (pe_callB call_len_seq (by rfl) ml PySem.boot_len (pa_cons (pv 0) pa_nil)) (nomark _))
        (pss_one (ps_ret (pe_ix ix_list (pv 0) (pv 1) (fun _ _ => rfl)))) pss_nil)
      (pss_one (ps_ret pe_int)), ?_⟩
    refine ⟨.int k, rfl, .ref a, rfl, a, _, rfl, .inl hS, _, _, rfl, rfl, _, rfl, ite2 (fun e => ?_) (fun e => ?_)⟩
    · have e0 : k < ((ns.map V.int).length : Int) := of_decide_eq_true e
      rw [List.length_map] at e0
      obtain ⟨j, rfl⟩ : ∃ j : Nat, k = (j : Int) := ⟨k.toNat, by omega⟩
      have hj : j < ns.length := by omega
      refine ⟨.ref a, rfl, .int j, rfl, a, _, _, .int ns[j], rfl, rfl, hS, atI_nat ?_, q _⟩
      rw [List.getElem?_map, List.getElem?_eq_getElem hj]
      rfl
    · exact q _

/-! _law_digits -/
def sp_digits (K : PySem.W.Frag) : Sp := fun vs H Q _ => ∃ (a : Addr) (ns : List Int), vs = [.ref a, .int 0, .int 63] ∧ SqL K H a (ns.map V.int) ∧
  ∀ (p : Addr) (ds : List Int) (H' : Hp), Same H H' → H p = none → H' p = some (.lst (ds.map V.int)) → Q (.ref p) H'
theorem ok_digits {f fC : Addr} {fd fdC : FuncData} (F : Fun K "_law_digits" "_law_digits" s_law_digits f fd) (FC : Fun K "_law_cell" "_law_cell" s_law_cell fC fdC) (gC : mg "_law_cell" = some (.ref fC))
    (ml : mg "len" = none) (mr : mg "range" = none) (mi : mg "int" = none) : FnOk P w K mg base CX0 2 f fd ["script", "first", "last"] (sp_digits K) := by
  have GC : FnOk P w K mg base CX0 1 fC fdC ["script", "k"] (sp_cell K) := ok_cell FC ml
  have bC : Binds K fdC ["script", "k"] [] := FC.binds fun _ _ _ _ _ _ us hl => match us, hl with | [_, _], _ => rfl
  refine F.ok sc_law_digits (fun vs H Q E h => ?_) (fun cdv A outer s H vs Q E hr h => ?_)
  · obtain ⟨a, ns, rfl, _⟩ := h
    rfl
  · obtain ⟨a, ns, rfl, hS, q⟩ := h
    have nd := sc_law_digits.nd
    refine ⟨_, pss_cons (ps_set (i := 3) nd rfl (.inl rfl) (pe_lst pa_nil))
      (pss_cons (ps_for PassesOwn.never rfl (pi_range2 (by rfl) mr (pa_cons (pv 1) (pa_cons (pv 2) pa_nil))) (pg_name (i := 4) nd rfl (.inl rfl))
        (pss_cons (ps_set (i := 5) nd rfl (.inl rfl) (pe_call GC hr (by rfl) gC FC.kp bC .nil pass0 (pa_cons (pv 0) (pa_cons (pv 4) pa_nil))))
        (C8.pss_cut (ps_if (pt_cmpR op_lt (pv 5) pe_int (nomark _))
            (pss_one (ps_set (i := 5) nd rfl (.inl rfl) (pe_op op_sub pe_int (pe_op op_mul pe_int (pv 5))))) pss_nil)
        (pss_one (ps_if (pt_cmpR op_ge (pv 5) (pe_op op_pow pe_int pe_int) (nomark _))
            (pss_one (ps_for PassesOwn.never rfl (pi_range1 (by rfl) mr (pa_cons pe_int pa_nil)) (pg_name (i := 6) nd rfl (.inl rfl))
              (pss_one (ps_if (pt_cmpR op_gt (pv 5) pe_int (nomark _))
                (pss_cons (ps_expr (pe_bm PySem.F.plainAttrs_list PySem.F.slot_list_append PySem.F.type_list_append mt_append (pv 3)
                    (pa_cons (pe_op op_modN (pe_callTy call_int1 (by rfl) mi (by decide +kernel) (pa_cons (pv 5) pa_nil)) pe_int) pa_nil)))
                  (pss_one (ps_set (i := 5) nd rfl (.inl rfl) (pe_op op_fdiv (pv 5) pe_int)))) pss_nil))))
            (pss_cons (ps_set (i := 7) nd rfl (.inl rfl) (pe_op op_modN (pe_callTy call_int1 (by rfl) mi (by decide +kernel)
                (pa_cons (pe_op op_add (pe_op op_add (pe_op op_mul (pv 5) pe_int) (pe_op op_mul (pv 4) pe_int)) pe_int) pa_nil)) pe_int))
              (pss_one (ps_for PassesOwn.never rfl (pi_range1 (by rfl) mr (pa_cons pe_int pa_nil)) (pg_name (i := 6) nd rfl (.inl rfl))
                (pss_cons (ps_set (i := 7) nd rfl (.inl rfl) (pe_op op_modN (pe_callTy call_int1 (by rfl) mi (by decide +kernel)
                    (pa_cons (pe_op op_add (pe_op op_add (pe_op op_mul (pv 7) pe_int) (pe_op op_mul pe_int (pv 6))) pe_int) pa_nil)) pe_int))
                  (pss_one (ps_expr (pe_bm PySem.F.plainAttrs_list PySem.F.slot_list_append PySem.F.type_list_append mt_append (pv 3)
                    (pa_cons (pe_op op_modN (pe_callTy call_int1 (by rfl) mi (by decide +kernel) (pa_cons (pe_op op_fdiv (pv 7) pe_int) pa_nil)) pe_int) pa_nil)))))))))))))
      (pss_one (ps_ret (pv 3)))), ?_⟩
    refine ⟨Nat.zero_le _, fun p np => ?_⟩
    -- the turns: at most 60 digits each
    refine ⟨.int 0, rfl, .int 63, rfl, 0, 63, rfl, ⟨by decide, by decide, by decide, by decide⟩, for_range (lo := 0) (n := 63)
      (fun i σ H' => ∃ ds y4 y5 y6 y7, σ = [some (.ref a), some (.int 0), some (.int 63), some (.ref p), y4, y5, y6, y7] ∧ Same H H' ∧ H' p = some (.lst (List.map V.int ds)) ∧ ds.length ≤ 60 * i)
      ⟨[], none, none, none, none, rfl, same_new np, upd_same, Nat.le_refl _⟩ (fun i σ H1 hi hW => ?_) (fun σ H1 hW => ?_)⟩
    · obtain ⟨ds, y4, y5, y6, y7, rfl, sm, hp, hl⟩ := hW
      refine ⟨.ref a, rfl, .int (0 + (i : Int)), rfl, a, ns, 0 + (i : Int), rfl, sm.seq hS, by omega, fun z => ?_⟩
      -- the number, no more below 0
      refine ⟨fun σ' H' => ∃ z' : Int, σ' = [some (.ref a), some (.int 0), some (.int 63), some (.ref p), some (.int (0 + (i : Int))), some (.int z'), y6, y7] ∧ H' = H1,
        ⟨.int z, rfl, z, 0, rfl, rfl, _, rfl, ite2 (fun _ => ⟨.int z, rfl, 2, z, rfl, rfl, .inl ⟨by decide, by decide⟩, 1, _, rfl, rfl, _, rfl, rfl⟩) (fun _ => ⟨z, rfl, rfl⟩)⟩, ?_⟩
      rintro σ' H' ⟨z, rfl, rfl⟩
      refine ⟨.int z, rfl, 10, 18, rfl, rfl, ⟨by decide, by decide, by decide⟩, z, _, rfl, rfl, _, rfl, ite2 (fun _ => ?_) (fun _ => ?_)⟩
      · -- a great number: its digits
        refine ⟨60, rfl, by decide, by decide, for_range (lo := 0) (n := 60)
          (fun j σ H2 => ∃ ds z y6, σ = [some (.ref a), some (.int 0), some (.int 63), some (.ref p), some (.int (0 + (i : Int))), some (.int z), y6, y7] ∧ Same H H2 ∧ H2 p = some (.lst (List.map V.int ds)) ∧ ds.length ≤ 60 * i + j)
          ⟨ds, z, y6, rfl, sm, hp, hl⟩ (fun j σ H2 hj hV => ?_) (fun σ H2 hV => ?_)⟩
        · obtain ⟨ds, z, y6, rfl, sm, hp, hl⟩ := hV
          refine ⟨.int z, rfl, z, 0, rfl, rfl, _, rfl, ite2 (fun _ => ?_) (fun _ => ?_)⟩
          · refine ⟨.ref p, rfl, .inl ⟨rfl, _, SqL.of hp⟩, .int z, rfl, .inl ⟨z, rfl, z, 1000, rfl, rfl, (by decide : (1000 : Int) ≠ 0), p, _, _, rfl, rfl, hp, ?_, ?_⟩⟩
            · rw [List.length_map]
              exact Nat.lt_of_le_of_lt (show ds.length ≤ 10000 by omega) (by decide)
            · refine ⟨.int z, rfl, z, 1000, rfl, rfl, ⟨by decide, by decide⟩, ds ++ [z.fmod 1000], z / 1000, some (.int (0 + (j : Int))), rfl, fun b o e => ?_, ?_, ?_⟩
              · rw [upd_ne (ne_of_none e np)]
                exact sm b o e
              · rw [upd_same, List.map_append]
                rfl
              · rw [List.length_append, List.length_singleton]
                omega
          · exact ⟨ds, z, some (.int (0 + (j : Int))), rfl, sm, hp, by omega⟩
        · obtain ⟨ds, z, y6, rfl, sm, hp, hl⟩ := hV
          exact ⟨ds, _, _, _, _, rfl, sm, hp, by omega⟩
      · -- another one: drawn on from it
        refine ⟨.int z, rfl, z, 48271, rfl, rfl, .inr ⟨by decide, by decide⟩, .int (0 + (i : Int)), rfl, 0 + (i : Int), 69621, rfl, rfl, .inr ⟨by decide, by decide⟩, _, _, rfl, rfl, _, 11, rfl, rfl, .inl ⟨_, rfl, ?_⟩⟩
        refine ⟨_, 2147483647, rfl, rfl, (by decide : (2147483647 : Int) ≠ 0), 12, rfl, by decide, by decide, for_range (lo := 0) (n := 12)
          (fun j σ H2 => ∃ (ds : List Int) (z x : Int) (y6 : Option V), σ = [some (.ref a), some (.int 0), some (.int 63), some (.ref p), some (.int (0 + (i : Int))), some (.int z), y6, some (.int x)] ∧ Same H H2 ∧ H2 p = some (.lst (List.map V.int ds)) ∧ ds.length ≤ 60 * i + j)
          ⟨ds, z, _, y6, rfl, sm, hp, hl⟩ (fun j σ H2 hj hV => ?_) (fun σ H2 hV => ?_)⟩
        · obtain ⟨ds, z, x, y6, rfl, sm, hp, hl⟩ := hV
          refine ⟨.int x, rfl, x, 16807, rfl, rfl, .inr ⟨by decide, by decide⟩, .int (0 + (j : Int)), rfl, 7, _, rfl, rfl, .inl ⟨by decide, by decide⟩, _, _, rfl, rfl, _, 1, rfl, rfl, .inl ⟨_, rfl, _, 2147483647, rfl, rfl, (by decide : (2147483647 : Int) ≠ 0), ?_⟩⟩
          refine ⟨.ref p, rfl, .inl ⟨rfl, _, SqL.of hp⟩, .int _, rfl, _, 997, rfl, rfl, ⟨by decide, by decide⟩, .inl ⟨_, rfl, _, 1000, rfl, rfl, (by decide : (1000 : Int) ≠ 0), p, _, _, rfl, rfl, hp, ?_, ?_⟩⟩
          · rw [List.length_map]
            exact Nat.lt_of_le_of_lt (show ds.length ≤ 10000 by omega) (by decide)
          · refine ⟨ds ++ [((x * 16807 + 7 * (0 + (j : Int)) + 1).fmod 2147483647 / 997).fmod 1000], z, _, some (.int (0 + (j : Int))), rfl, fun b o e => ?_, ?_, ?_⟩
            · rw [upd_ne (ne_of_none e np)]
              exact sm b o e
            · rw [upd_same, List.map_append]
              rfl
            · rw [List.length_append, List.length_singleton]
              omega
        · obtain ⟨ds, z, x, y6, rfl, sm, hp, hl⟩ := hV
          exact ⟨ds, _, _, _, _, rfl, sm, hp, by omega⟩
    · obtain ⟨ds, y4, y5, y6, y7, rfl, sm, hp, hl⟩ := hW
      exact ⟨.ref p, rfl, q p ds H1 sm np hp⟩

/-! _law_box -/
def sp_box (K : PySem.W.Frag) : Sp := fun vs H Q _ => ∃ (a : Addr) (ns : List Int), vs = [.ref a, .int 0, .int 63] ∧ SqL K H a (ns.map V.int) ∧
  ∀ (b dl : Addr) (H' : Hp), Same H H' → H b = none → Box K b dl H' → Q (.ref b) H'
theorem ok_box {f fC fD : Addr} {fd fdC fdD : FuncData} (F : Fun K "_law_box" "_law_box" s_law_box f fd) (FC : Fun K "_law_cell" "_law_cell" s_law_cell fC fdC) (gC : mg "_law_cell" = some (.ref fC))
    (FD : Fun K "_law_digits" "_law_digits" s_law_digits fD fdD) (gD : mg "_law_digits" = some (.ref fD))
    (ml : mg "len" = none) (mr : mg "range" = none) (mi : mg "int" = none) : FnOk P w K mg base CX0 3 f fd ["script", "first", "last"] (sp_box K) := by
  have GD : FnOk P w K mg base CX0 2 fD fdD ["script", "first", "last"] (sp_digits K) := ok_digits FD FC gC ml mr mi
  have bD : Binds K fdD ["script", "first", "last"] [] := FD.binds fun _ _ _ _ _ _ us hl => match us, hl with | [_, _, _], _ => rfl
  refine F.ok sc_law_box (fun vs H Q E h => ?_) (fun cdv A outer s H vs Q E hr h => ?_)
  · obtain ⟨a, ns, rfl, _⟩ := h
    rfl
  · obtain ⟨a, ns, rfl, hS, q⟩ := h
    refine ⟨_, pss_one (ps_ret (pe_lst (pa_cons (pe_call GD hr (by rfl) gD FD.kp bD .nil pass0 (pa_cons (pv 0) (pa_cons (pv 1) (pa_cons (pv 2) pa_nil)))) (pa_cons pe_int pa_nil)))), ?_⟩
    refine ⟨.ref a, rfl, .int 0, rfl, .int 63, rfl, a, ns, rfl, hS, fun p ds H1 sm np hp => ⟨by show 2 ≤ sizeLine; decide, fun b nb => ?_⟩⟩
    exact q b p _ (sm.trans (same_new nb)) (sm.free nb) ⟨ds, 0, upd_same, Int.le_refl _, (same_new nb).seq (SqL.of hp)⟩

/-! _law_draw -/
def sp_draw (K : PySem.W.Frag) : Sp := fun vs H Q _ => ∃ (b dl : Addr) (m : Int), vs = [.ref b, .int m] ∧ Box K b dl H ∧ 0 < m ∧
  ∀ (r : Int) (H' : Hp), 0 ≤ r → r < m → Mv [b] H H' → Box K b dl H' → Q (.int r) H'
theorem ok_draw {f : Addr} {fd : FuncData} {k : Nat} (F : Fun K "_law_draw" "_law_draw" s_law_draw f fd) (ml : mg "len" = none) (mi : mg "int" = none) : FnOk P w K mg base CX0 (k + 1) f fd ["box", "many"] (sp_draw K) := by
  refine F.ok sc_law_draw (fun vs H Q E h => ?_) (fun cdv A outer s H vs Q E hr h => ?_)
  · obtain ⟨b, dl, m, rfl, _⟩ := h
    rfl
  · obtain ⟨b, dl, m, rfl, ⟨ds, n, hb, hn, hd⟩, hm, q⟩ := h
    have nd := sc_law_draw.nd
    refine ⟨_, pss_cons (ps_set (i := 2) nd rfl (.inl rfl) (pe_ix ix_list (pv 0) pe_int (fun _ _ => rfl)))
      (pss_cons (ps_asg (pe_op op_add (pv 2) pe_int) (pg_sub (pv 0) pe_int set_list))
      (pss_cons (ps_if (pt_cmpR op_lt (pv 2) (pe_callB call_len_seq (by rfl) ml PySem.boot_len (pa_cons (pe_ix ix_list (pv 0) pe_int (fun _ _ => rfl)) pa_nil)) (nomark _))
        (pss_one (ps_ret (pe_op op_modN (pe_callTy call_int1 (by rfl) mi (by decide +kernel) (pa_cons (pe_ix ix_list (pe_ix ix_list (pv 0) pe_int (fun _ _ => rfl)) (pv 2) (fun _ _ => rfl)) pa_nil)) (pv 1)))) pss_nil)
      (pss_one (ps_ret pe_int)))), ?_⟩
    -- at = box[1]; box[1] = at + 1
    refine ⟨.ref b, rfl, b, _, 1, .int n, rfl, rfl, SqL.of hb, atI_nat (j := 1) rfl, ?_⟩
    refine ⟨.int n, rfl, n, 1, rfl, rfl, .ref b, rfl, b, _, 1, 1, rfl, rfl, hb, rfl, ?_⟩
    have h1 : (upd H b (.lst [.ref dl, .int (n + 1)])) b = some (.lst [.ref dl, .int (n + 1)]) := upd_same
    have m1 : Mv [b] H (upd H b (.lst [.ref dl, .int (n + 1)])) := Mv.put
    have hd1 : SqL K (upd H b (.lst [.ref dl, .int (n + 1)])) dl (ds.map V.int) := m1.seqL hd fun p hp u r => by
      rw [List.mem_singleton.mp hp] at r
      rw [rd_of hb (fun _ _ z => by cases z) r]
      exact box_list_ne ds
    have box1 : Box K b dl (upd H b (.lst [.ref dl, .int (n + 1)])) := ⟨ds, n + 1, h1, by omega, hd1⟩
    -- if at < len(box[0])
    refine ⟨.int n, rfl, .ref b, rfl, b, _, 0, .ref dl, rfl, rfl, SqL.of h1, atI_nat (j := 0) rfl, dl, _, rfl, .inl hd1, n, _, rfl, rfl, _, rfl, ite2 (fun e => ?_) (fun e => ?_)⟩
    · have e0 : n < ((ds.map V.int).length : Int) := of_decide_eq_true e
      rw [List.length_map] at e0
      obtain ⟨j, rfl⟩ : ∃ j : Nat, n = (j : Int) := ⟨n.toNat, by omega⟩
      have hj : j < ds.length := by omega
      have g : (ds.map V.int)[j]? = some (.int ds[j]) := by
        rw [List.getElem?_map, List.getElem?_eq_getElem hj]
        rfl
      have rg := fmod_range (x := ds[j]) hm
      exact ⟨.ref b, rfl, b, _, 0, .ref dl, rfl, rfl, SqL.of h1, atI_nat (j := 0) rfl, .int j, rfl, dl, _, j, .int ds[j], rfl, rfl, hd1, atI_nat g, .inl ⟨_, rfl, .int m, rfl, _, m, rfl, rfl, by omega, q _ _ rg.1 rg.2 m1 box1⟩⟩
    · exact q 0 _ (Int.le_refl _) hm m1 box1
end
end Tc
/-! Independent letters, what is taken out of a word, pairs of letters. -/
namespace Tc
open PySem PySem.Spec PyProof.Rows L2 TcG
section
variable {P : Program} {w : World} {K : PySem.W.Frag} {mg : Str → Option Value} {base : Heap}

theorem small_line {n : Nat} (h : n ≤ 100000) : n ≤ sizeLine := Nat.le_trans h (by decide)

/-! independent -/
def sp_independent (K : PySem.W.Frag) : Sp := fun vs H Q _ => ∃ (a : Addr) (x y : Nat) (ls : List Nat) (ps : List (List Nat)), vs = [.ref a, .str (tx [x]), .str (tx [y])] ∧ Alpha K H a ls ps ∧ Q (.bl (ind ps x y)) H
theorem ok_independent {f : Addr} {fd : FuncData} {k : Nat} (F : Fun K "independent" "independent" s_independent f fd) (mn : mg "min" = none) (mx : mg "max" = none) : FnOk P w K mg base CX0 (k + 1) f fd ["alphabet", "x", "y"] (sp_independent K) := by
  refine F.ok sc_independent (fun vs H Q E h => ?_) (fun cdv A outer s H vs Q E hr h => ?_)
  · obtain ⟨a, x, y, ls, ps, rfl, _⟩ := h
    rfl
  · obtain ⟨a, x, y, ls, ps, rfl, ⟨pt, h1, h2⟩, q⟩ := h
    refine ⟨_, pss_one (ps_ret (pe_cmpR op_in_seq (pe_op op_add_str
        (pe_callB (call_minT rfl) (by rfl) mn (by decide +kernel) (pa_cons (pv 1) (pa_cons (pv 2) pa_nil)))
        (pe_callB (call_maxT rfl) (by rfl) mx (by decide +kernel) (pa_cons (pv 1) (pa_cons (pv 2) pa_nil))))
      (pe_ix ix_tup (pv 0) pe_int (fun _ _ => rfl)) (by rfl))), ?_⟩
    refine ⟨.str (tx [x]), rfl, .str (tx [y]), rfl, _, _, rfl, .str (tx [x]), rfl, .str (tx [y]), rfl, _, _, rfl, ?_⟩
    rw [min_tx, max_tx]
    refine ⟨_, _, rfl, rfl, by show (1 + 1 : Nat) ≤ sizeLine; decide, .ref a, rfl, a, _, 2, .ref pt, rfl, rfl, h1, atI_nat (j := 2) rfl, pt, _, rfl, .inr h2, rfl, txs_flat ps, ?_⟩
    rw [tx_append, inV_txs]
    exact q

/-! taken_out -/
def sp_taken (Pt : Addr) : Sp := fun vs H Q _ => ∃ (a l : List Nat), vs = [.str (tx a), .str (tx l)] ∧ a.length ≤ 1000 ∧ GxR.TabG H Pt ∧ ∀ H', GxR.Tabbed Pt H H' → Q (.str (tx (a.filter fun c => decide (c ∈ l)))) H'
theorem ok_taken {f c Pt : Addr} {fd : FuncData} {k : Nat} (F : FunC K "taken_out" "taken_out" s_taken_out f fd c) (TB : GxR.TabB base mg c Pt) : FnOk P w K mg base CX0 (k + 1) f fd ["word", "letters"] (sp_taken Pt) := by
  refine F.ok sc_taken_out (fun vs H Q E h => ?_) (fun A outer s H vs Q E hr h => ?_)
  · obtain ⟨a, l, rfl, _⟩ := h
    rfl
  · obtain ⟨a, l, rfl, small, tab, q⟩ := h
    refine ⟨_, pss_one (ps_ret (pe_kept hr TB rfl (by show genOk (defScope s_taken_out).names _ _ = true; decide +kernel) (pv 0) (iy := 1) rfl (by rfl) (by rfl) (fun _ => rfl))), ?_⟩
    exact ⟨.str (tx a), rfl, tx a, rfl, tab, tx l, rfl, small, q⟩

/-! _law_free -/
def sp_free (K : PySem.W.Frag) : Sp := fun vs H Q _ => ∃ (a : Addr) (x y : Nat) (ls : List Nat) (ps : List (List Nat)), vs = [.ref a, .str (tx [x]), .str (tx [y])] ∧ Alpha K H a ls ps ∧ Pairs ls ps ∧ Q (.bl (ind ps x y)) H
theorem ok_free {f : Addr} {fd : FuncData} {k : Nat} (F : Fun K "_law_free" "_law_free" s_law_free f fd) : FnOk P w K mg base CX0 (k + 1) f fd ["alphabet", "x", "y"] (sp_free K) := by
  refine F.ok sc_law_free (fun vs H Q E h => ?_) (fun cdv A outer s H vs Q E hr h => ?_)
  · obtain ⟨a, x, y, ls, ps, rfl, _⟩ := h
    rfl
  · obtain ⟨a, x, y, ls, ps, rfl, ⟨pt, h1, h2⟩, pr, q⟩ := h
    refine ⟨_, pss_one (ps_ret (pe_or (pe_cmpR op_in_seq (pe_op op_add_str (pv 1) (pv 2)) (pe_ix ix_tup (pv 0) pe_int (fun _ _ => rfl)) (by rfl))
      (pe_one (pe_cmpR op_in_seq (pe_op op_add_str (pv 2) (pv 1)) (pe_ix ix_tup (pv 0) pe_int (fun _ _ => rfl)) (by rfl))))), ?_⟩
    rw [← ind_either pr] at q
    refine ⟨.str (tx [x]), rfl, .str (tx [y]), rfl, _, _, rfl, rfl, by show (1 + 1 : Nat) ≤ sizeLine; decide, .ref a, rfl, a, _, 2, .ref pt, rfl, rfl, h1, atI_nat (j := 2) rfl, pt, _, rfl, .inr h2, rfl, txs_flat ps, _, rfl, ?_⟩
    rw [tx_append]
    have e1 : inV (.str (tx ([x] ++ [y]))) (txs ps) = decide ([x, y] ∈ ps) := inV_txs _ _
    have e2 : inV (.str (tx ([y] ++ [x]))) (txs ps) = decide ([y, x] ∈ ps) := inV_txs _ _
    show if inV (.str (tx ([x] ++ [y]))) (txs ps) = true then _ else _
    rw [e1]
    by_cases h : [x, y] ∈ ps
    · rw [decide_eq_true h] at q ⊢
      exact q
    · rw [decide_eq_false h] at q ⊢
      refine iteF ⟨.str (tx [y]), rfl, .str (tx [x]), rfl, _, _, rfl, rfl, by show (1 + 1 : Nat) ≤ sizeLine; decide, .ref a, rfl, a, _, 2, .ref pt, rfl, rfl, h1, atI_nat (j := 2) rfl, pt, _, rfl, .inr h2, rfl, txs_flat ps, ?_⟩
      rw [tx_append]
      show Q (.bl (inV (.str (tx ([y] ++ [x]))) (txs ps))) H
      rw [e2]
      exact q

end
end Tc
/-! The pairs of letters. -/
namespace Tc
open PySem PySem.Spec PyProof.Rows L2 TcG
theorem scx_letter_pairs : FnScope ["letters", "low", "high"] ["letters"] (defScope s_letter_pairs) :=
  ⟨rfl, rfl, rfl, by decide +kernel, rfl, by decide +kernel, by decide +kernel⟩
theorem pairsWith_len (ls : List Nat) (x : Nat) : (pairsWith ls x).length ≤ ls.length := by
  unfold pairsWith
  rw [List.length_map]
  exact List.length_filter_le _ _
theorem flat_len (ls : List Nat) : ∀ l : List Nat, (l.flatMap (pairsWith ls)).length ≤ l.length * ls.length
  | [] => by simp
  | x :: r => by
    rw [List.flatMap_cons, List.length_append, List.length_cons]
    have h1 := pairsWith_len ls x
    have h2 := flat_len ls r
    rw [Nat.succ_mul]
    omega
section
variable {P : Program} {w : World} {K : PySem.W.Frag} {mg : Str → Option Value} {base : Heap}
def sp_letter_pairs : Sp := fun vs H Q _ => ∃ ls : List Nat, vs = [.str (tx ls)] ∧ ls.length ≤ 100 ∧ ∀ (p : Addr) (H' : Hp), Same H H' → H p = none → H' p = some (.lst (txs (pairsOf ls))) → Q (.ref p) H'
theorem ok_letter_pairs {f : Addr} {fd : FuncData} {k : Nat} (F : Fun K "letter_pairs" "letter_pairs" s_letter_pairs f fd) : FnOk P w K mg base CX0 (k + 1) f fd ["letters"] sp_letter_pairs := by
  refine F.ok scx_letter_pairs (fun vs H Q E h => ?_) (fun cdv A outer s H vs Q E hr h => ?_)
  · obtain ⟨ls, rfl, _⟩ := h
    rfl
  · obtain ⟨ls, rfl, small, q⟩ := h
    have nd := scx_letter_pairs.nd
    refine ⟨_, pss_one (ps_ret (pe_lc2 (own := [("low", 1), ("high", 2)]) (vs1 := [2]) (g := gName 1) (g1 := gName 2) (tt := tYes) rfl nd (pi_str (pv 0))
      (blkOk_by (own := [("low", 1), ("high", 2)]) (N := ["letters", "low", "high"]) (sc := defScope s_letter_pairs) (by decide +kernel)) (by decide)
      (fun _ _ _ _ _ => pg_name (i := 1) nd rfl (Or.inl rfl)) (fun _ _ _ _ _ => pts_nil) (fun _ _ _ _ _ => pi_str (pv 0)) (fun _ _ _ _ _ => pg_name (i := 2) nd rfl (Or.inl rfl))
      (fun _ _ _ _ _ => pts_one (pt_cmpR op_lt_str (pv 1) (pv 2) (nomark _))) (fun _ _ _ _ _ => pe_op op_add_str (pv 1) (pv 2)))), ?_⟩
    refine ⟨.str (tx ls), rfl, tx ls, rfl, fun D nD => lc2_first (fun i H' => Same H H' ∧ H' D = some (.lst (txs ((ls.take i).flatMap (pairsWith ls))))) ⟨same_new nD, upd_same⟩ (fun i c H1 hc hW => ?_) (fun H1 hW => ?_)⟩
    · obtain ⟨sm, hD⟩ := hW
      refine ⟨rfl, ?_⟩
      refine ⟨.str (tx ls), rfl, tx ls, rfl, lc2_text (fun j H' => Same H H' ∧ H' D = some (.lst (txs ((ls.take i).flatMap (pairsWith ls) ++ ((ls.take j).filter fun y => decide (c < y)).map fun y => [c, y])))) ⟨sm, by simpa using hD⟩ (fun j d H2 hd hV => ?_) (fun H2 hV => ?_)⟩
      · obtain ⟨sm, hD⟩ := hV
        refine ⟨rfl, .str (tx [c]), rfl, .str (tx [d]), rfl, _, _, rfl, rfl, _, rfl, ?_⟩
        rw [tx_lt, take_next hd, List.filter_append]
        by_cases lt : c < d
        · rw [decide_eq_true lt]
          refine iteT ⟨.str (tx [c]), rfl, .str (tx [d]), rfl, _, _, rfl, rfl, by show (1 + 1 : Nat) ≤ sizeLine; decide, _, hD, ?_, ?_, ?_⟩
          · unfold txs
            rw [List.length_map, List.length_append, List.length_map]
            have h1 := flat_len ls (ls.take i)
            have h2 := List.length_filter_le (fun y => decide (c < y)) (ls.take j)
            have h3 : (ls.take i).length ≤ 100 := by rw [List.length_take]; omega
            have h4 : (ls.take j).length ≤ 100 := by rw [List.length_take]; omega
            have h5 : (ls.take i).length * ls.length ≤ 100 * 100 := Nat.mul_le_mul h3 small
            refine Nat.lt_of_le_of_lt (show _ ≤ 20000 by omega) (by decide)
          · intro b o e
            rw [upd_ne (ne_of_none e nD)]
            exact sm b o e
          · rw [upd_same, List.filter_cons, if_pos (decide_eq_true lt), tx_append]
            unfold txs
            simp
        · rw [decide_eq_false lt]
          refine iteF ⟨sm, ?_⟩
          rw [List.filter_cons, if_neg (by rw [decide_eq_false lt]; exact Bool.false_ne_true), List.filter_nil, List.append_nil]
          exact hD
      · obtain ⟨sm, hD⟩ := hV
        refine ⟨sm, ?_⟩
        rw [take_next hc, List.flatMap_append, hD, List.take_length]
        unfold pairsWith
        simp
    · obtain ⟨sm, hD⟩ := hW
      refine q D H1 sm nD ?_
      rw [hD, List.take_length]
      rfl
end
end Tc
/-! parts. -/
namespace Tc
open PySem PySem.Spec PyProof.Rows L2 TcG
section
variable {P : Program} {w : World} {K : PySem.W.Frag} {mg : Str → Option Value} {base : Heap}
def sp_parts (K : PySem.W.Frag) (Pt : Addr) : Sp := fun vs H Q _ => ∃ (al : Addr) (a b ls : List Nat) (ps : List (List Nat)), vs = [.ref al, .str (tx a), .str (tx b)] ∧ Alpha K H al ls ps ∧ GxR.TabG H Pt ∧ ls.length ≤ 100 ∧ a.length ≤ 1000 ∧ b.length ≤ 1000 ∧
  ∀ (v : V) (H' : Hp), Mv [Pt] H H' → GxR.TabG H' Pt → PaperV H' v (partsM ls ps a b) → Q v H'
theorem ok_parts {f fL fI fT cT Pt : Addr} {fd fdL fdI fdT : FuncData} (F : Fun K "parts" "parts" s_parts f fd) (FL : Fun K "letter_pairs" "letter_pairs" s_letter_pairs fL fdL) (gL : mg "letter_pairs" = some (.ref fL))
    (FI : Fun K "independent" "independent" s_independent fI fdI) (gI : mg "independent" = some (.ref fI)) (FT : FunC K "taken_out" "taken_out" s_taken_out fT fdT cT) (gT : mg "taken_out" = some (.ref fT)) (TB : GxR.TabB base mg cT Pt)
    (mn : mg "min" = none) (mx : mg "max" = none) : FnOk P w K mg base CX0 2 f fd ["alphabet", "word", "other"] (sp_parts K Pt) := by
  have GL : FnOk P w K mg base CX0 1 fL fdL ["letters"] sp_letter_pairs := ok_letter_pairs FL
  have bL : Binds K fdL ["letters"] [] := FL.binds fun _ _ _ _ _ _ us hl => match us, hl with | [_], _ => rfl
  have GI : FnOk P w K mg base CX0 1 fI fdI ["alphabet", "x", "y"] (sp_independent K) := ok_independent FI mn mx
  have bI : Binds K fdI ["alphabet", "x", "y"] [] := FI.binds fun _ _ _ _ _ _ us hl => match us, hl with | [_, _, _], _ => rfl
  have GT : FnOk P w K mg base CX0 1 fT fdT ["word", "letters"] (sp_taken Pt) := ok_taken FT TB
  have bT : Binds K fdT ["word", "letters"] [] := FT.fun.binds fun _ _ _ _ _ _ us hl => match us, hl with | [_, _], _ => rfl
  refine F.ok sc_parts (fun vs H Q E h => ?_) (fun cdv A outer s H vs Q E hr h => ?_)
  · obtain ⟨al, a, b, ls, ps, rfl, _⟩ := h
    rfl
  · obtain ⟨al, a, b, ls, ps, rfl, hA, tab, sl, sa, sb, q⟩ := h
    have nd := sc_parts.nd
    refine ⟨_, pss_cons (ps_set (i := 3) nd rfl (.inl rfl) (pe_ix ix_tup (pv 0) pe_int (fun _ _ => rfl)))
      (pss_cons (ps_for PassesOwn.never rfl (pi_str (pv 3)) (pg_name (i := 4) nd rfl (.inl rfl))
        (pss_one (ps_if (pt_cmpR op_ne (pe_m1 PySem.F.slot_str_count PySem.F.type_str_count mt_count (pv 1) (pv 4)) (pe_m1 PySem.F.slot_str_count PySem.F.type_str_count mt_count (pv 2) (pv 4)) (nomark _))
          (pss_one (ps_ret (pe_tup (pa_cons pe_str (pa_cons (pv 4) pa_nil))))) pss_nil)))
      (pss_cons (ps_for PassesOwn.never rfl (pi_list (pe_call GL hr (by rfl) gL FL.kp bL .nil pass0 (pa_cons (pv 3) pa_nil))) (pg_name (i := 5) nd rfl (.inl rfl))
        (pss_cons (ps_asg (pv 5) (pg_unT rfl (pgs_cons (pg_name (i := 6) nd rfl (.inl rfl)) (pgs_cons (pg_name (i := 7) nd rfl (.inl rfl)) pgs_nil))))
        (pss_one (ps_if (PW.pt (pw_and (pt_not (pt_val (pe_call GI hr (by rfl) gI FI.kp bI .nil pass0 (pa_cons (pv 0) (pa_cons (pv 6) (pa_cons (pv 7) pa_nil))))))
            (pw_and1 (pt_cmpR op_ne (pe_call GT hr (by rfl) gT FT.kp bT .nil pass0 (pa_cons (pv 1) (pa_cons (pv 5) pa_nil))) (pe_call GT hr (by rfl) gT FT.kp bT .nil pass0 (pa_cons (pv 2) (pa_cons (pv 5) pa_nil))) (nomark _)))))
          (pss_one (ps_ret (pe_tup (pa_cons pe_str (pa_cons (pv 6) (pa_cons (pv 7) pa_nil)))))) pss_nil))))
      (pss_one (ps_ret pe_non)))), ?_⟩
    have hA0 := hA
    obtain ⟨pt, h1, h2⟩ := hA0
    refine ⟨.ref al, rfl, al, _, 1, .str (tx ls), rfl, rfl, h1, atI_nat (j := 1) rfl, ?_⟩
    -- the numbers of each letter
    refine ⟨.str (tx ls), rfl, tx ls, rfl, for_text (fun i σ H' => ∃ y4, σ = [some (.ref al), some (.str (tx a)), some (.str (tx b)), some (.str (tx ls)), y4, none, none, none] ∧ H' = H ∧ ∀ c ∈ ls.take i, countsApart a b c = false)
      ⟨none, rfl, rfl, fun c hc => by simp at hc⟩ (fun i c σ H1 hc hW => ?_) (fun σ H1 hW => ?_)⟩
    · obtain ⟨y4, rfl, rfl, before⟩ := hW
      refine ⟨.str (tx a), rfl, ⟨_, rfl⟩, .str (tx [c]), rfl, tx a, tx [c], rfl, rfl, .str (tx b), rfl, ⟨_, rfl⟩, .str (tx [c]), rfl, tx b, tx [c], rfl, rfl, rfl, _, rfl, ?_⟩
      rw [count_tx, count_tx]
      by_cases e : a.count c = b.count c
      · rw [e, decide_eq_true rfl]
        refine iteF ⟨some (.str (tx [c])), rfl, rfl, fun d hd => ?_⟩
        rw [take_next hc] at hd
        rcases List.mem_append.mp hd with hd | hd
        · exact before d hd
        · rw [List.mem_singleton.mp hd]
          unfold countsApart
          rw [e]
          exact decide_eq_false fun z => z rfl
      · rw [decide_eq_false (show ¬ (V.int (a.count c : Int) = V.int (b.count c : Int)) from fun z => e (by injection z with z; omega))]
        refine iteT ⟨.str (tx [c]), rfl, by show 2 ≤ sizeLine; decide, fun p np => ?_⟩
        have found : ls.find? (countsApart a b) = some c := find_at hc before (decide_eq_true e)
        refine q _ _ (Mv.new np) ?_ ?_
        · obtain ⟨rows, t1, t2⟩ := tab
          exact ⟨rows, by rw [upd_ne (ne_of_none t1 np)]; exact t1, t2⟩
        · rw [partsM_count found]
          exact ⟨p, rfl, upd_same⟩
    · obtain ⟨y4, rfl, rfl, before⟩ := hW
      rw [List.take_length] at before
      have none1 : ls.find? (countsApart a b) = none := find_no before
      rw [partsM_order none1] at q
      refine ⟨.str (tx ls), rfl, ls, rfl, sl, fun p H2 sm np hp => ?_⟩
      have tab2 : GxR.TabG H2 Pt := let ⟨rows, t1, t2⟩ := tab; ⟨rows, sm _ _ t1, t2⟩
      have pP : p ∉ [Pt] := fun z => by
        obtain ⟨rows, t1, _⟩ := tab2
        rw [List.mem_singleton.mp z, t1] at hp
        cases hp
      refine ⟨p, rfl, ⟨_, SqL.of hp⟩, for_list (xs := txs (pairsOf ls)) (fun i σ H' => ∃ y5 y6 y7, σ = [some (.ref al), some (.str (tx a)), some (.str (tx b)), some (.str (tx ls)), y4, y5, y6, y7] ∧ Mv [Pt] H2 H' ∧ GxR.TabG H' Pt ∧ ∀ d ∈ (pairsOf ls).take i, parted ps a b d = false)
        ⟨none, none, none, rfl, Mv.refl _ _, tab2, fun d hd => by simp at hd⟩ (fun i σ H3 _ hW => ?_) (fun i x σ H3 hx hW => ?_) (fun σ H3 hW => ?_)⟩
      · obtain ⟨y5, y6, y7, rfl, mv, tb, _⟩ := hW
        exact SqL.of (mv p _ pP hp)
      · obtain ⟨y5, y6, y7, rfl, mv, tb, before2⟩ := hW
        obtain ⟨d, hd, rfl⟩ : ∃ d, (pairsOf ls)[i]? = some d ∧ x = .str (tx d) := by
          unfold txs at hx
          rw [List.getElem?_map] at hx
          cases e : (pairsOf ls)[i]? with
          | none =>
            rw [e] at hx
            cases hx
          | some d =>
            rw [e] at hx
            cases hx
            exact ⟨d, rfl, rfl⟩
        obtain ⟨u, v, rfl, _, _, lt⟩ := pairsOf_mem (List.mem_of_getElem? hd)
        have hA3 : Alpha K H3 al ls ps := (hA.same sm).mvT tab2 mv
        refine ⟨.str (tx [u, v]), rfl, [u, v], rfl, rfl, .str (tx [u]), _, rfl, .str (tx [v]), _, rfl, rfl, ?_⟩
        refine ⟨.ref al, rfl, .str (tx [u]), rfl, .str (tx [v]), rfl, al, u, v, ls, ps, rfl, hA3, _, rfl, ?_⟩
        have stay : ∀ H4, Mv [Pt] H3 H4 → GxR.TabG H4 Pt → parted ps a b [u, v] = false → ∃ y5 y6 y7, [some (V.ref al), some (.str (tx a)), some (.str (tx b)), some (.str (tx ls)), y4, some (.str (tx [u, v])), some (.str (tx [u])), some (.str (tx [v]))] = [some (.ref al), some (.str (tx a)), some (.str (tx b)), some (.str (tx ls)), y4, y5, y6, y7] ∧ Mv [Pt] H2 H4 ∧ GxR.TabG H4 Pt ∧ ∀ d ∈ (pairsOf ls).take (i + 1), parted ps a b d = false := fun H4 m4 t4 no => by
          refine ⟨_, _, _, rfl, mv.trans m4, t4, fun d' hd' => ?_⟩
          rw [take_next hd] at hd'
          rcases List.mem_append.mp hd' with hd' | hd'
          · exact before2 d' hd'
          · rw [List.mem_singleton.mp hd']
            exact no
        by_cases free : ind ps u v = true
        · rw [free]
          refine iteF (iteF (stay H3 (Mv.refl _ _) tb ?_))
          rw [parted_two, free]
          rfl
        · rw [Bool.not_eq_true] at free
          rw [free]
          refine iteT ⟨.str (tx a), rfl, .str (tx [u, v]), rfl, a, [u, v], rfl, sa, tb, fun H4 tb4 => ?_⟩
          refine ⟨.str (tx b), rfl, .str (tx [u, v]), rfl, b, [u, v], rfl, sb, tb4.1, fun H5 tb5 => ⟨rfl, _, rfl, ?_⟩⟩
          have m5 : Mv [Pt] H3 H5 := (Mv.tabbed tb4).trans (Mv.tabbed tb5)
          rw [tx_eq]
          by_cases e : keepM [u, v] a = keepM [u, v] b
          · rw [show (decide ((a.filter fun c => decide (c ∈ [u, v])) = (b.filter fun c => decide (c ∈ [u, v])))) = true from decide_eq_true e]
            refine iteF (stay H5 m5 tb5.1 ?_)
            rw [parted_two, free]
            exact decide_eq_false fun z => z e
          · rw [show (decide ((a.filter fun c => decide (c ∈ [u, v])) = (b.filter fun c => decide (c ∈ [u, v])))) = false from decide_eq_false e]
            refine iteT ⟨.str (tx [u]), rfl, .str (tx [v]), rfl, by show 3 ≤ sizeLine; decide, fun r nr => ?_⟩
            have found : (pairsOf ls).find? (parted ps a b) = some [u, v] := find_at hd before2 (by
              rw [parted_two, free]
              exact decide_eq_true e)
            rw [found] at q
            refine q _ _ (((Mv.of_same sm).trans mv).trans (m5.trans (Mv.new nr))) ?_ ⟨r, rfl, upd_same⟩
            obtain ⟨rows, t1, t2⟩ := tb5.1
            exact ⟨rows, by rw [upd_ne (ne_of_none t1 nr)]; exact t1, t2⟩
      · obtain ⟨y5, y6, y7, rfl, mv, tb, before2⟩ := hW
        have len : (txs (pairsOf ls)).length = (pairsOf ls).length := by
          unfold txs
          rw [List.length_map]
        rw [len, List.take_length] at before2
        have none2 : (pairsOf ls).find? (parted ps a b) = none := find_no before2
        rw [none2] at q
        exact q _ _ ((Mv.of_same sm).trans mv) tb rfl
end
end Tc
/-! Drawn alphabets and words. -/
namespace Tc
open PySem PySem.Spec PyProof.Rows L2 TcG
section
variable {P : Program} {w : World} {K : PySem.W.Frag} {mg : Str → Option Value} {base : Heap}

theorem ne_lst {H : Hp} {p q : Addr} {o : HO} {xs : List V} (hp : H p = some (.lst xs)) (hq : H q = some o) (h : ∀ ys, o = .lst ys → ys ≠ xs) : p ≠ q := fun e => by
  rw [e, hq] at hp
  cases hp
  exact h _ rfl rfl

/-! _law_alphabet -/
def sp_alphabet (K : PySem.W.Frag) : Sp := fun vs H Q _ => ∃ (b dl : Addr) (m : Int), vs = [.ref b, .int m] ∧ Box K b dl H ∧ 1 ≤ m ∧ m ≤ 6 ∧
  ∀ (a : Addr) (n : Nat) (ps : List (List Nat)) (H' : Hp), (n : Int) ≤ m → Drawn n ps → Mv [b] H H' → Box K b dl H' → Alpha K H' a (alph n) ps → Q (.ref a) H'
theorem ok_alphabet {f fD : Addr} {fd fdD : FuncData} (F : Fun K "_law_alphabet" "_law_alphabet" s_law_alphabet f fd) (FD : Fun K "_law_draw" "_law_draw" s_law_draw fD fdD) (gD : mg "_law_draw" = some (.ref fD))
    (ml : mg "len" = none) (mi : mg "int" = none) (mr : mg "range" = none) (ms : mg "sorted" = none) (mt : mg "tuple" = none) : FnOk P w K mg base CX0 2 f fd ["box", "most"] (sp_alphabet K) := by
  have GD : FnOk P w K mg base CX0 1 fD fdD ["box", "many"] (sp_draw K) := ok_draw FD ml mi
  have bD : Binds K fdD ["box", "many"] [] := FD.binds fun _ _ _ _ _ _ us hl => match us, hl with | [_, _], _ => rfl
  refine F.ok sc_law_alphabet (fun vs H Q E h => ?_) (fun cdv A outer s H vs Q E hr h => ?_)
  · obtain ⟨b, dl, m, rfl, _⟩ := h
    rfl
  · obtain ⟨b, dl, m, rfl, hB, m1, m6, q⟩ := h
    have nd := sc_law_alphabet.nd
    refine ⟨_, pss_cons (ps_set (i := 2) nd rfl (.inl rfl) (pe_slice sl_str pe_str po_none (po_some (pe_op op_add pe_int (pe_call GD hr (by rfl) gD FD.kp bD .nil pass0 (pa_cons (pv 0) (pa_cons (pv 1) pa_nil)))))))
      (pss_cons (ps_set (i := 3) nd rfl (.inl rfl) (pe_lst pa_nil))
      (pss_cons (ps_for PassesOwn.never rfl (pi_range1 (by rfl) mr (pa_cons (pe_callB call_len_str (by rfl) ml PySem.boot_len (pa_cons (pv 2) pa_nil)) pa_nil)) (pg_name (i := 4) nd rfl (.inl rfl))
        (pss_one (ps_for PassesOwn.never rfl (pi_range2 (by rfl) mr (pa_cons (pe_op op_add (pv 4) pe_int) (pa_cons (pe_callB call_len_str (by rfl) ml PySem.boot_len (pa_cons (pv 2) pa_nil)) pa_nil))) (pg_name (i := 5) nd rfl (.inl rfl))
          (pss_one (ps_if (pt_cmpR op_lt (pe_call GD hr (by rfl) gD FD.kp bD .nil pass0 (pa_cons (pv 0) (pa_cons pe_int pa_nil))) pe_int (nomark _))
            (pss_one (ps_expr (pe_bm PySem.F.plainAttrs_list PySem.F.slot_list_append PySem.F.type_list_append mt_append (pv 3)
              (pa_cons (pe_op op_add_str (pe_ix ix_str (pv 2) (pv 4) (fun _ _ => rfl)) (pe_ix ix_str (pv 2) (pv 5) (fun _ _ => rfl))) pa_nil)))) pss_nil)))))
      (pss_one (ps_ret (pe_tup (pa_cons pe_str (pa_cons (pv 2) (pa_cons (pe_callTy call_tuple_of (by rfl) mt (by decide +kernel)
        (pa_cons (pe_callB cr_sortedS (by rfl) ms (by decide +kernel) (pa_cons (pv 3) pa_nil)) pa_nil)) pa_nil)))))))), ?_⟩
    -- letters = 'abcdef'[:1 + r]
    refine ⟨.ref b, rfl, .int m, rfl, b, dl, m, rfl, hB, by omega, fun r H1 r0 rm mv1 hB1 => ⟨1, r, rfl, rfl, 1 + r, rfl, ?_⟩⟩
    obtain ⟨n, en⟩ : ∃ n : Nat, 1 + r = (n : Int) := ⟨(1 + r).toNat, by omega⟩
    have n1 : 1 ≤ n := by omega
    have n6 : n ≤ 6 := by omega
    have nm : (n : Int) ≤ m := by omega
    refine ⟨tx [97, 98, 99, 100, 101, 102], rfl, by show (6 : Nat) ≤ sizeLine; decide, ?_⟩
    rw [en, cut_to]
    -- pairs = []
    refine ⟨Nat.zero_le _, fun p np => ?_⟩
    have len : (tx (alph n)).length = n := by rw [tx_length, alph_len n6]
    have zl : (tx (alph n)).length ≤ sizeLine := by
      rw [len]
      exact small_line (by omega)
    have hp1 : (upd H1 p (.lst [])) p = some (.lst (txs [])) := upd_same
    -- all pairs of places
    refine ⟨.str (tx (alph n)), rfl, tx (alph n), rfl, zl, ((tx (alph n)).length : Int), rfl, by rw [len]; omega, by rw [len]; omega, ?_⟩
    have e1 : (((tx (alph n)).length : Int)).toNat = n := by rw [len]; omega
    rw [e1]
    have step : ∀ i, i < n → (alph n)[i]? = some (97 + i) := fun i hi => alph_at n6 hi
    refine for_range (lo := 0) (n := n) (fun i σ H' => ∃ prs y4 y5, σ = [some (.ref b), some (.int m), some (.str (tx (alph n))), some (.ref p), y4, y5] ∧ Mv [b] H H' ∧ Box K b dl H' ∧ H' p = some (.lst (txs prs)) ∧ prs.Sublist (((alph n).take i).flatMap (pairsWith (alph n))))
      ⟨[], none, none, rfl, mv1.trans (Mv.new np), hB1.same (same_new np), hp1, List.Sublist.refl _⟩ (fun i σ H2 hi hW => ?_) (fun σ H2 hW => ?_)
    · obtain ⟨prs, y4, y5, rfl, mv2, hB2, hp2, sub⟩ := hW
      refine ⟨.int (0 + (i : Int)), rfl, _, 1, rfl, rfl, .str (tx (alph n)), rfl, tx (alph n), rfl, zl, 0 + (i : Int) + 1, ((tx (alph n)).length : Int), rfl, by rw [len]; omega, ?_⟩
      have e2 : (((tx (alph n)).length : Int) - (0 + (i : Int) + 1)).toNat = n - (i + 1) := by rw [len]; omega
      rw [e2]
      refine for_range (lo := 0 + (i : Int) + 1) (n := n - (i + 1)) (fun t σ H' => ∃ prs y5, σ = [some (.ref b), some (.int m), some (.str (tx (alph n))), some (.ref p), some (.int (0 + (i : Int))), y5] ∧ Mv [b] H H' ∧ Box K b dl H' ∧ H' p = some (.lst (txs prs)) ∧
          prs.Sublist (((alph n).take i).flatMap (pairsWith (alph n)) ++ (((alph n).drop (i + 1)).take t).map fun y => [97 + i, y]))
        ⟨prs, y5, rfl, mv2, hB2, hp2, by simpa using sub⟩ (fun t σ H3 ht hV => ?_) (fun σ H3 hV => ?_)
      · obtain ⟨prs, y5, rfl, mv3, hB3, hp3, sub⟩ := hV
        have hd : ((alph n).drop (i + 1))[t]? = some (97 + (i + 1 + t)) := by
          rw [List.getElem?_drop]
          exact step _ (by omega)
        have nx : (((alph n).drop (i + 1)).take (t + 1)).map (fun y => [97 + i, y]) = (((alph n).drop (i + 1)).take t).map (fun y => [97 + i, y]) ++ [[97 + i, 97 + (i + 1 + t)]] := by
          rw [take_next hd, List.map_append]
          rfl
        refine ⟨.ref b, rfl, b, dl, 5, rfl, hB3, by decide, fun r H4 r0 r5 mv4 hB4 => ⟨r, 2, rfl, rfl, _, rfl, ?_⟩⟩
        have hpb : p ≠ b := by
          obtain ⟨ds, nn, hb, _⟩ := hB3
          refine ne_lst hp3 hb fun ys e z => ?_
          cases e
          unfold txs at z
          cases prs with
          | nil => cases z
          | cons x l => cases z
        have hp4 : H4 p = some (.lst (txs prs)) := mv4 p _ (fun z => hpb (List.mem_singleton.mp z)) hp3
        refine ite2 (fun _ => ?_) (fun _ => ?_)
        · refine ⟨.ref p, rfl, .inl ⟨rfl, _, SqL.of hp4⟩, .str (tx (alph n)), rfl, .int (0 + (i : Int)), rfl, tx (alph n), 0 + (i : Int), 97 + i, rfl, rfl, zl, at_eq (z := 0 + (i : Int)) (j := i) (by omega) (step i hi), ?_⟩
          refine ⟨.str (tx (alph n)), rfl, .int (0 + (i : Int) + 1 + (t : Int)), rfl, tx (alph n), 0 + (i : Int) + 1 + (t : Int), 97 + (i + 1 + t), rfl, rfl, zl, at_eq (z := 0 + (i : Int) + 1 + (t : Int)) (j := i + 1 + t) (by omega) (step (i + 1 + t) (by omega)), ?_⟩
          refine ⟨_, _, rfl, rfl, by show (1 + 1 : Nat) ≤ sizeLine; decide, p, _, _, rfl, rfl, hp4, ?_, ?_⟩
          · unfold txs
            rw [List.length_map]
            have h1 := sub.length_le
            rw [List.length_append, List.length_map, List.length_take] at h1
            have h2 := flat_len (alph n) ((alph n).take i)
            rw [alph_len n6, List.length_take, alph_len n6] at h2
            have h3 : min i n * n ≤ 6 * 6 := Nat.mul_le_mul (by omega) n6
            refine Nat.lt_of_le_of_lt (show prs.length ≤ 100 by omega) (by decide)
          · have e3 : (⟨#[97 + i]⟩ : Str) ++ ⟨#[97 + (i + 1 + t)]⟩ = tx [97 + i, 97 + (i + 1 + t)] := tx_append [97 + i] [97 + (i + 1 + t)]
            rw [e3]
            refine ⟨prs ++ [[97 + i, 97 + (i + 1 + t)]], some (.int (0 + (i : Int) + 1 + (t : Int))), rfl, fun a o na e => ?_, ?_, ?_, ?_⟩
            · have e5 := (mv3.trans mv4) a o na e
              have nap : a ≠ p := fun z => by
                rw [z] at e
                have := mv1 p _ (fun y => hpb (List.mem_singleton.mp y)) e
                rw [np] at this
                cases this
              rw [upd_ne nap]
              exact e5
            · exact hB1.put np hB4
            · rw [upd_same]
              unfold txs
              rw [List.map_append]
              rfl
            · rw [nx, ← List.append_assoc]
              exact List.Sublist.append sub (List.Sublist.refl _)
        · refine ⟨prs, some (.int (0 + (i : Int) + 1 + (t : Int))), rfl, mv3.trans mv4, hB4, hp4, ?_⟩
          rw [nx, ← List.append_assoc]
          exact List.Sublist.trans sub (List.sublist_append_left _ _)
      · obtain ⟨prs, y5, rfl, mv3, hB3, hp3, sub⟩ := hV
        refine ⟨prs, _, _, rfl, mv3, hB3, hp3, ?_⟩
        rw [take_next (step i hi), List.flatMap_append]
        have e4 : ((alph n).drop (i + 1)).take (n - (i + 1)) = (alph n).drop (i + 1) := List.take_of_length_le (by rw [List.length_drop, alph_len n6]; exact Nat.le_refl _)
        rw [e4, ← alph_pairs n6 hi] at sub
        simpa using sub
    · obtain ⟨prs, y4, y5, rfl, mv2, hB2, hp2, sub⟩ := hW
      have e5 : (alph n).take n = alph n := List.take_of_length_le (by rw [alph_len n6]; exact Nat.le_refl _)
      rw [e5] at sub
      rw [txs_map] at hp2
      refine ⟨.str (tx (alph n)), rfl, .ref p, rfl, p, prs.map tx, rfl, SqL.of hp2, ?_, fun ys c pm so nc => ?_⟩
      · rw [List.length_map]
        have h1 := sub.length_le
        have h2 := alph_count n6
        exact Nat.lt_of_le_of_lt (Nat.le_trans h1 h2) (by decide)
      · obtain ⟨ps, rfl, dr⟩ := drawn_of n6 n1 sub pm so
        refine ⟨c, _, rfl, .inl ⟨SqL.of upd_same, fun t nt => ⟨by show 3 ≤ sizeLine; decide, fun a na => ?_⟩⟩⟩
        have sm : Same H2 (upd (upd (upd H2 c (.lst ((ps.map tx).map V.str))) t (.tup ((ps.map tx).map V.str))) a (.tup [.str "alphabet", .str (tx (alph n)), .ref t])) := (same_new nc).trans ((same_new nt).trans (same_new na))
        refine q a n ps _ nm dr (mv2.trans (Mv.of_same sm)) (hB2.same sm) ⟨t, SqT.of upd_same, SqT.of ?_⟩
        rw [upd_ne (fun z => by rw [← z, upd_same] at na; cases na), upd_same, txs_map]
end
end Tc
/-! Drawn words, words in another order. -/
namespace Tc
open PySem PySem.Spec PyProof.Rows L2 TcG
section
variable {P : Program} {w : World} {K : PySem.W.Frag} {mg : Str → Option Value} {base : Heap}

/-! _law_word -/
def sp_word (K : PySem.W.Frag) : Sp := fun vs H Q _ => ∃ (b dl al : Addr) (m : Int) (ls : List Nat) (ps : List (List Nat)), vs = [.ref b, .ref al, .int m] ∧ Box K b dl H ∧ Alpha K H al ls ps ∧ 0 < ls.length ∧ ls.length ≤ 100 ∧ 0 ≤ m ∧ m ≤ 100 ∧
  ∀ (a : List Nat) (H' : Hp), (a.length : Int) ≤ m → (∀ c ∈ a, c ∈ ls) → Mv [b] H H' → Box K b dl H' → Q (.str (tx a)) H'
theorem ok_word {f fD : Addr} {fd fdD : FuncData} (F : Fun K "_law_word" "_law_word" s_law_word f fd) (FD : Fun K "_law_draw" "_law_draw" s_law_draw fD fdD) (gD : mg "_law_draw" = some (.ref fD))
    (ml : mg "len" = none) (mi : mg "int" = none) (mr : mg "range" = none) : FnOk P w K mg base CX0 2 f fd ["box", "alphabet", "most"] (sp_word K) := by
  have GD : FnOk P w K mg base CX0 1 fD fdD ["box", "many"] (sp_draw K) := ok_draw FD ml mi
  have bD : Binds K fdD ["box", "many"] [] := FD.binds fun _ _ _ _ _ _ us hl => match us, hl with | [_, _], _ => rfl
  refine F.ok sc_law_word (fun vs H Q E h => ?_) (fun cdv A outer s H vs Q E hr h => ?_)
  · obtain ⟨b, dl, al, m, ls, ps, rfl, _⟩ := h
    rfl
  · obtain ⟨b, dl, al, m, ls, ps, rfl, hB, hA, l0, l100, m0, m100, q⟩ := h
    have nd := sc_law_word.nd
    refine ⟨_, pss_cons (ps_set (i := 3) nd rfl (.inl rfl) pe_str)
      (pss_cons (ps_for PassesOwn.never rfl (pi_range1 (by rfl) mr (pa_cons (pe_call GD hr (by rfl) gD FD.kp bD .nil pass0 (pa_cons (pv 0) (pa_cons (pe_op op_add (pv 2) pe_int) pa_nil))) pa_nil)) (pg_name (i := 4) nd rfl (.inl rfl))
        (pss_one (ps_set (i := 3) nd rfl (.inl rfl) (pe_op op_add_str (pv 3) (pe_ix ix_str (pe_ix ix_tup (pv 1) pe_int (fun _ _ => rfl))
          (pe_call GD hr (by rfl) gD FD.kp bD .nil pass0 (pa_cons (pv 0) (pa_cons (pe_callB call_len_str (by rfl) ml PySem.boot_len (pa_cons (pe_ix ix_tup (pv 1) pe_int (fun _ _ => rfl)) pa_nil)) pa_nil))) (fun _ _ => rfl))))))
      (pss_one (ps_ret (pv 3)))), ?_⟩
    refine ⟨.ref b, rfl, .int m, rfl, m, 1, rfl, rfl, b, dl, m + 1, rfl, hB, by omega, fun r H1 r0 rm mv1 hB1 => ⟨r, rfl, by omega, by omega, ?_⟩⟩
    have len : (tx ls).length = ls.length := tx_length ls
    have zl : (tx ls).length ≤ sizeLine := by
      rw [len]
      exact small_line (by omega)
    refine for_range (lo := 0) (n := r.toNat) (fun i σ H' => ∃ a y4, σ = [some (.ref b), some (.ref al), some (.int m), some (.str (tx a)), y4] ∧ a.length = i ∧ (∀ c ∈ a, c ∈ ls) ∧ Mv [b] H H' ∧ Box K b dl H')
      ⟨[], none, rfl, rfl, fun c hc => (nomatch hc), mv1, hB1⟩ (fun i σ H2 hi hW => ?_) (fun σ H2 hW => ?_)
    · obtain ⟨a, y4, rfl, la, ia, mv2, hB2⟩ := hW
      obtain ⟨pt, h1, h2⟩ := hA.mvB hB mv2
      refine ⟨.str (tx a), rfl, .ref al, rfl, al, _, 1, .str (tx ls), rfl, rfl, h1, atI_nat (j := 1) rfl, ?_⟩
      refine ⟨.ref b, rfl, .ref al, rfl, al, _, 1, .str (tx ls), rfl, rfl, h1, atI_nat (j := 1) rfl, tx ls, rfl, zl, b, dl, ((tx ls).length : Int), rfl, hB2, by rw [len]; omega, fun k H3 k0 kl mv3 hB3 => ?_⟩
      rw [len] at kl
      obtain ⟨j, rfl⟩ : ∃ j : Nat, k = (j : Int) := ⟨k.toNat, by omega⟩
      have hj : j < ls.length := by omega
      refine ⟨tx ls, (j : Int), ls[j], rfl, rfl, zl, atI_nat (List.getElem?_eq_getElem hj), tx a, tx [ls[j]], rfl, rfl, ?_, ?_⟩
      · rw [tx_length, tx_length, la]
        exact small_line (by simp; omega)
      · rw [tx_append]
        refine ⟨a ++ [ls[j]], some (.int (0 + (i : Int))), rfl, by rw [List.length_append, la]; rfl, fun c hc => ?_, mv2.trans mv3, hB3⟩
        rcases List.mem_append.mp hc with hc | hc
        · exact ia c hc
        · rw [List.mem_singleton.mp hc]
          exact List.getElem_mem hj
    · obtain ⟨a, y4, rfl, la, ia, mv2, hB2⟩ := hW
      exact ⟨_, rfl, q a H2 (by omega) ia mv2 hB2⟩

/-! _law_mixed -/
def sp_mixed (K : PySem.W.Frag) : Sp := fun vs H Q _ => ∃ (b dl al : Addr) (a ls : List Nat) (ps : List (List Nat)), vs = [.ref b, .ref al, .str (tx a)] ∧ Box K b dl H ∧ Alpha K H al ls ps ∧ Pairs ls ps ∧ a.length ≤ 100 ∧
  ∀ (a' : List Nat) (H' : Hp), Exs ps a a' → Mv [b] H H' → Box K b dl H' → Q (.str (tx a')) H'
theorem ok_mixed {f fD fF : Addr} {fd fdD fdF : FuncData} (F : Fun K "_law_mixed" "_law_mixed" s_law_mixed f fd) (FD : Fun K "_law_draw" "_law_draw" s_law_draw fD fdD) (gD : mg "_law_draw" = some (.ref fD))
    (FF : Fun K "_law_free" "_law_free" s_law_free fF fdF) (gF : mg "_law_free" = some (.ref fF)) (ml : mg "len" = none) (mi : mg "int" = none) (mr : mg "range" = none) : FnOk P w K mg base CX0 2 f fd ["box", "alphabet", "word"] (sp_mixed K) := by
  have GD : FnOk P w K mg base CX0 1 fD fdD ["box", "many"] (sp_draw K) := ok_draw FD ml mi
  have bD : Binds K fdD ["box", "many"] [] := FD.binds fun _ _ _ _ _ _ us hl => match us, hl with | [_, _], _ => rfl
  have GF : FnOk P w K mg base CX0 1 fF fdF ["alphabet", "x", "y"] (sp_free K) := ok_free FF
  have bF : Binds K fdF ["alphabet", "x", "y"] [] := FF.binds fun _ _ _ _ _ _ us hl => match us, hl with | [_, _, _], _ => rfl
  refine F.ok sc_law_mixed (fun vs H Q E h => ?_) (fun cdv A outer s H vs Q E hr h => ?_)
  · obtain ⟨b, dl, al, a, ls, ps, rfl, _⟩ := h
    rfl
  · obtain ⟨b, dl, al, a, ls, ps, rfl, hB, hA, pr, la, q⟩ := h
    have nd := sc_law_mixed.nd
    refine ⟨_, pss_cons (ps_for PassesOwn.never rfl (pi_range1 (by rfl) mr (pa_cons (pe_op op_mul pe_int (pe_callB call_len_str (by rfl) ml PySem.boot_len (pa_cons (pv 2) pa_nil))) pa_nil)) (pg_name (i := 3) nd rfl (.inl rfl))
        (pss_cons (ps_set (i := 4) nd rfl (.inl rfl) (pe_call GD hr (by rfl) gD FD.kp bD .nil pass0 (pa_cons (pv 0) (pa_cons (pe_callB call_len_str (by rfl) ml PySem.boot_len (pa_cons (pv 2) pa_nil)) pa_nil))))
        (pss_one (ps_if (PW.pt (pw_and (pt_cmpR op_lt (pe_op op_add (pv 4) pe_int) (pe_callB call_len_str (by rfl) ml PySem.boot_len (pa_cons (pv 2) pa_nil)) (nomark _))
            (pw_and1 (pt_val (pe_call GF hr (by rfl) gF FF.kp bF .nil pass0 (pa_cons (pv 1) (pa_cons (pe_ix ix_str (pv 2) (pv 4) (fun _ _ => rfl)) (pa_cons (pe_ix ix_str (pv 2) (pe_op op_add (pv 4) pe_int) (fun _ _ => rfl)) pa_nil))))))))
          (pss_one (ps_set (i := 2) nd rfl (.inl rfl) (pe_op op_add_str (pe_op op_add_str (pe_op op_add_str (pe_slice sl_str (pv 2) po_none (po_some (pv 4))) (pe_ix ix_str (pv 2) (pe_op op_add (pv 4) pe_int) (fun _ _ => rfl)))
            (pe_ix ix_str (pv 2) (pv 4) (fun _ _ => rfl))) (pe_slice sl_str (pv 2) (po_some (pe_op op_add (pv 4) pe_int)) po_none)))) pss_nil))))
      (pss_one (ps_ret (pv 2))), ?_⟩
    have zl : ∀ a' : List Nat, a'.length = a.length → (tx a').length ≤ sizeLine := fun a' e => by
      rw [tx_length, e]
      exact small_line (by omega)
    refine ⟨.str (tx a), rfl, tx a, rfl, zl a rfl, 2, ((tx a).length : Int), rfl, rfl, .inl ⟨by decide, by decide⟩, 2 * ((tx a).length : Int), rfl, ?_⟩
    rw [tx_length]
    refine ⟨by omega, by omega, for_range (lo := 0) (n := (2 * (a.length : Int)).toNat) (fun i σ H' => ∃ a' y3 y4, σ = [some (.ref b), some (.ref al), some (.str (tx a')), y3, y4] ∧ Exs ps a a' ∧ Mv [b] H H' ∧ Box K b dl H')
      ⟨a, none, none, rfl, .refl a, Mv.refl _ _, hB⟩ (fun i σ H2 hi hW => ?_) (fun σ H2 hW => ?_)⟩
    · obtain ⟨a', y3, y4, rfl, ex, mv2, hB2⟩ := hW
      have la' : a'.length = a.length := ex.perm.length_eq.symm
      refine ⟨.ref b, rfl, .str (tx a'), rfl, tx a', rfl, zl a' la', b, dl, ((tx a').length : Int), rfl, hB2, by rw [tx_length]; omega, fun k H3 k0 kl mv3 hB3 => ?_⟩
      rw [tx_length] at kl
      obtain ⟨j, rfl⟩ : ∃ j : Nat, k = (j : Int) := ⟨k.toNat, by omega⟩
      refine ⟨.int j, rfl, (j : Int), 1, rfl, rfl, .str (tx a'), rfl, tx a', rfl, zl a' la', (j : Int) + 1, ((tx a').length : Int), rfl, rfl, _, rfl, ?_⟩
      rw [tx_length]
      by_cases lt : (j : Int) + 1 < (a'.length : Int)
      · rw [decide_eq_true lt]
        have h1 : j < a'.length := by omega
        have h2 : j + 1 < a'.length := by omega
        have g1 : a'[j]? = some a'[j] := List.getElem?_eq_getElem h1
        have g2 : a'[j + 1]? = some a'[j + 1] := List.getElem?_eq_getElem h2
        have g3 : atI (tx a').cps.toList ((j : Int) + 1) = some a'[j + 1] := at_eq (by omega) g2
        have hA3 : Alpha K H3 al ls ps := hA.mvB hB (mv2.trans mv3)
        refine iteT ⟨.ref al, rfl, .str (tx a'), rfl, .int j, rfl, tx a', (j : Int), a'[j], rfl, rfl, zl a' la', atI_nat g1, .str (tx a'), rfl, .int j, rfl, (j : Int), 1, rfl, rfl, tx a', (j : Int) + 1, a'[j + 1], rfl, rfl, zl a' la', g3, al, a'[j], a'[j + 1], ls, ps, rfl, hA3, pr, _, rfl, ?_⟩
        by_cases fr : ind ps a'[j] a'[j + 1] = true
        · rw [fr]
          have sw := swapAt_eq g1 g2
          have e1 := swap_ex g1 g2 fr
          refine iteT ⟨.str (tx a'), rfl, .int j, rfl, (j : Int), rfl, tx a', rfl, zl a' la', .str (tx a'), rfl, .int j, rfl, (j : Int), 1, rfl, rfl, tx a', (j : Int) + 1, a'[j + 1], rfl, rfl, zl a' la', g3, ?_⟩
          rw [cut_to]
          have t1 : (tx (a'.take j)).length ≤ 100 := by
            rw [tx_length, List.length_take]
            omega
          refine ⟨tx (a'.take j), tx [a'[j + 1]], rfl, rfl, small_line (by rw [tx_length [_]]; simp; omega), .str (tx a'), rfl, .int j, rfl, tx a', (j : Int), a'[j], rfl, rfl, zl a' la', atI_nat g1, ?_⟩
          rw [tx_append]
          refine ⟨tx (a'.take j ++ [a'[j + 1]]), tx [a'[j]], rfl, rfl, small_line (by rw [tx_length, tx_length] at *; simp at *; omega), .str (tx a'), rfl, .int j, rfl, (j : Int), 2, rfl, rfl, ((j + 2 : Nat) : Int), rfl, tx a', rfl, zl a' la', ?_⟩
          rw [tx_append, cut_from]
          have t2 : (a'.drop (j + 2)).length ≤ 100 := by
            rw [List.length_drop]
            omega
          refine ⟨tx (a'.take j ++ [a'[j + 1]] ++ [a'[j]]), tx (a'.drop (j + 2)), rfl, rfl, small_line (by rw [tx_length, tx_length] at *; simp at *; omega), ?_⟩
          rw [tx_append, ← sw]
          exact ⟨swapAt a' j, some (.int (0 + (i : Int))), some (.int j), rfl, .step ex e1, mv2.trans mv3, hB3⟩
        · rw [Bool.not_eq_true] at fr
          rw [fr]
          exact iteF ⟨a', some (.int (0 + (i : Int))), some (.int j), rfl, ex, mv2.trans mv3, hB3⟩
      · rw [decide_eq_false lt]
        exact iteF (iteF ⟨a', some (.int (0 + (i : Int))), some (.int j), rfl, ex, mv2.trans mv3, hB3⟩)
    · obtain ⟨a', y3, y4, rfl, ex, mv2, hB2⟩ := hW
      exact ⟨_, rfl, q a' H2 ex mv2 hB2⟩
end
end Tc
/-! _law_same. -/
namespace Tc
open PySem PySem.Spec PyProof.Rows L2 TcG
section
variable {P : Program} {w : World} {K : PySem.W.Frag} {mg : Str → Option Value} {base : Heap}

theorem kitF {a b : String} (h : kitB a b = some false := by decide +kernel) : PySem.W.kitOne K (.type a) (.type b) = some false := kit_ty h
theorem kitT {a b : String} (h : kitB a b = some true := by decide +kernel) : PySem.W.kitOne K (.type a) (.type b) = some true := kit_ty h

/-- isinstance(x, T), T a built-in type that is named -/
theorem pe_isi {X : Cx} {T : String} {i : Nat} {x n : Str} {p1 p2 p3 p4 : Pos} (mi : X.mg "isinstance" = none) (gi : Gl X "isinstance") (gT : Gl X n) (mT : X.mg n = none) (bT : bootBuiltins n = some (.type T)) (hv : PE X (.Name x p1) (tVar i))
    (hn : n ≠ "__name__" := by decide) (hd : (n == ("__debug__" : Str)) = false := by decide)
    (he : starEach [.Name x p1, .Name n p2] X.env = (false, eval (.Name x p1) X.env) :: starEach [.Name n p2] X.env := by rfl) (hpl : (backTo p4 (starEach [.Name n p2] X.env)).any (·.1) = false := by rfl)
    (he2 : starEach [.Name n p2] X.env = (false, eval (.Name n p2) X.env) :: starEach [] X.env := by rfl) :
    PE X (.Call (.Name "isinstance" p3) [.Name x p1, .Name n p2] [] p4) (tCB (rIsi X.K) (tCons (tVar i) (tCons (tC (.ty T)) tNil))) :=
  pe_callB call_isi gi mi (by decide +kernel) (pa_cons hv (pa_cons (pe_bltn gT mT bT rfl hn hd) pa_nil)) (by decide) (by decide) he hpl

def sp_same (K : PySem.W.Frag) (n : Nat) : Sp := fun vs H Q _ => ∃ x y : V, vs = [x, y] ∧ SameR K H n x y ∧ Q (.bl true) H
structure SameM (mg : Str → Option Value) : Prop where
  isi : mg "isinstance" = none
  tup : mg "tuple" = none
  bool : mg "bool" = none
  int : mg "int" = none
  str : mg "str" = none
  len : mg "len" = none
  range : mg "range" = none
theorem ok_same {f : Addr} {fd : FuncData} (F : Fun K "_law_same" "_law_same" s_law_same f fd) (gS : mg "_law_same" = some (.ref f)) (M : SameM mg) : ∀ n, FnOk P w K mg base CX0 n f fd ["actual", "expected"] (sp_same K n)
  | 0 => ⟨fun vs H Q E h => by obtain ⟨x, y, _, z, _⟩ := h; exact z.elim, fun A outer s H args us vs Q E hr e0 hb r h => by obtain ⟨x, y, _, z, _⟩ := h; exact z.elim⟩
  | n + 1 => by
    have GS : FnOk P w K mg base CX0 n f fd ["actual", "expected"] (sp_same K n) := ok_same F gS M n
    have bS : Binds K fd ["actual", "expected"] [] := F.binds fun _ _ _ _ _ _ us hl => match us, hl with | [_, _], _ => rfl
    refine F.ok sc_law_same (fun vs H Q E h => ?_) (fun cdv A outer s H vs Q E hr h => ?_)
    · obtain ⟨x, y, rfl, _⟩ := h
      rfl
    · obtain ⟨x, y, rfl, hs, q⟩ := h
      have nd := sc_law_same.nd
      refine ⟨_, pss_cons (ps_if (pt_val (pe_isi (T := "tuple") M.isi (by rfl) (by rfl) M.tup (by decide +kernel) (pv 1)))
          (pss_cons (ps_if (PW.pt (pw_or (pt_not (pt_val (pe_isi (T := "tuple") M.isi (by rfl) (by rfl) M.tup (by decide +kernel) (pv 0))))
              (pw_or1 (pt_cmpR op_ne (pe_callB call_len_seq (by rfl) M.len PySem.boot_len (pa_cons (pv 0) pa_nil)) (pe_callB call_len_seq (by rfl) M.len PySem.boot_len (pa_cons (pv 1) pa_nil)) (nomark _)))))
            (pss_one (ps_ret pe_bl)) pss_nil)
          (pss_cons (ps_for PassesOwn.never rfl (pi_range1 (by rfl) M.range (pa_cons (pe_callB call_len_seq (by rfl) M.len PySem.boot_len (pa_cons (pv 1) pa_nil)) pa_nil)) (pg_name (i := 2) nd rfl (.inl rfl))
            (pss_one (ps_if (pt_not (pt_val (pe_call GS hr (by rfl) gS F.kp bS .nil pass0 (pa_cons (pe_ix ix_tup (pv 0) (pv 2) (fun _ _ => rfl)) (pa_cons (pe_ix ix_tup (pv 1) (pv 2) (fun _ _ => rfl)) pa_nil))))) (pss_one (ps_ret pe_bl)) pss_nil)))
          (pss_one (ps_ret pe_bl)))) pss_nil)
        (pss_cons (ps_if (pt_cmpR op_isN (pv 1) pe_non (nomark _)) (pss_one (ps_ret (pe_cmpR op_isN (pv 0) pe_non (nomark _)))) pss_nil)
        (pss_cons (ps_if (pt_val (pe_isi (T := "bool") M.isi (by rfl) (by rfl) M.bool (by decide +kernel) (pv 1))) (pss_one (ps_ret (pe_and (pe_isi (T := "bool") M.isi (by rfl) (by rfl) M.bool (by decide +kernel) (pv 0)) (pe_one (pe_cmpR op_eq (pv 0) (pv 1) (nomark _)))))) pss_nil)
        (pss_cons (ps_if (pt_val (pe_isi (T := "int") M.isi (by rfl) (by rfl) M.int (by decide +kernel) (pv 1))) (pss_one (ps_ret (pe_and (pe_isi (T := "int") M.isi (by rfl) (by rfl) M.int (by decide +kernel) (pv 0))
            (pe_and (pe_not (pe_isi (T := "bool") M.isi (by rfl) (by rfl) M.bool (by decide +kernel) (pv 0))) (pe_one (pe_cmpR op_eq (pv 0) (pv 1) (nomark _))))))) pss_nil)
        (pss_one (ps_ret (pe_and (pe_isi (T := "str") M.isi (by rfl) (by rfl) M.str (by decide +kernel) (pv 0)) (pe_one (pe_cmpR op_eq (pv 0) (pv 1) (nomark _))))))))), ?_⟩
      rcases hs with ⟨rfl, fl⟩ | ⟨a, b, xs, ys, rfl, rfl, hx, hy, el, small, all⟩
      · cases x with
        | non =>
          exact ⟨.non, rfl, .non, .ty "tuple", .type "NoneType", _, false, rfl, .ty _, .base .non, kitF, false, rfl, iteF ⟨.non, rfl, rfl, true, rfl, iteT ⟨.non, rfl, rfl, q⟩⟩⟩
        | bl b =>
          refine ⟨.bl b, rfl, .bl b, .ty "tuple", .type "bool", _, false, rfl, .ty _, .base (.bl b), kitF, false, rfl, iteF ⟨.bl b, rfl, rfl, false, rfl, iteF ⟨.bl b, rfl, .bl b, .ty "bool", .type "bool", _, true, rfl, .ty _, .base (.bl b), kitT, true, rfl, iteT
            ⟨.bl b, rfl, .bl b, .ty "bool", .type "bool", _, true, rfl, .ty _, .base (.bl b), kitT, true, rfl, iteT ⟨.bl b, rfl, .bl b, rfl, rfl, ?_⟩⟩⟩⟩⟩
          rw [decide_eq_true rfl]
          exact q
        | int i =>
          refine ⟨.int i, rfl, .int i, .ty "tuple", .type "int", _, false, rfl, .ty _, .base (.int i), kitF, false, rfl, iteF ⟨.int i, rfl, rfl, false, rfl, iteF ⟨.int i, rfl, .int i, .ty "bool", .type "int", _, false, rfl, .ty _, .base (.int i), kitF, false, rfl, iteF
            ⟨.int i, rfl, .int i, .ty "int", .type "int", _, true, rfl, .ty _, .base (.int i), kitT, true, rfl, iteT ⟨.int i, rfl, .int i, .ty "int", .type "int", _, true, rfl, .ty _, .base (.int i), kitT, true, rfl, iteT
              ⟨.int i, rfl, .int i, .ty "bool", .type "int", _, false, rfl, .ty _, .base (.int i), kitF, false, rfl, true, rfl, iteT ⟨.int i, rfl, .int i, rfl, rfl, ?_⟩⟩⟩⟩⟩⟩⟩
          rw [decide_eq_true rfl]
          exact q
        | str z =>
          refine ⟨.str z, rfl, .str z, .ty "tuple", .type "str", _, false, rfl, .ty _, .base (.str z), kitF, false, rfl, iteF ⟨.str z, rfl, rfl, false, rfl, iteF ⟨.str z, rfl, .str z, .ty "bool", .type "str", _, false, rfl, .ty _, .base (.str z), kitF, false, rfl, iteF
            ⟨.str z, rfl, .str z, .ty "int", .type "str", _, false, rfl, .ty _, .base (.str z), kitF, false, rfl, iteF ⟨.str z, rfl, .str z, .ty "str", .type "str", _, true, rfl, .ty _, .base (.str z), kitT, true, rfl, iteT ⟨.str z, rfl, .str z, rfl, rfl, ?_⟩⟩⟩⟩⟩⟩
          rw [decide_eq_true rfl]
          exact q
        | _ => cases fl
      · refine ⟨.ref b, rfl, .ref b, .ty "tuple", .type "tuple", _, true, rfl, .ty _, tyx_tup hy, kitT, true, rfl, iteT ?_⟩
        refine ⟨.ref a, rfl, .ref a, .ty "tuple", .type "tuple", _, true, rfl, .ty _, tyx_tup hx, kitT, true, rfl, iteF ?_⟩
        refine ⟨.ref a, rfl, a, xs, rfl, .inr hx, .ref b, rfl, b, ys, rfl, .inr hy, rfl, _, rfl, ?_⟩
        rw [el, decide_eq_true rfl]
        refine iteF ⟨.ref b, rfl, b, ys, rfl, .inr hy, (ys.length : Int), rfl, by omega, by omega, ?_⟩
        refine for_range (lo := 0) (n := ((ys.length : Int)).toNat) (fun i σ H' => ∃ y2, σ = [some (.ref a), some (.ref b), y2] ∧ H' = H) ⟨none, rfl, rfl⟩ (fun i σ H1 hi hW => ?_) (fun σ H1 hW => ?_)
        · obtain ⟨y2, rfl, rfl⟩ := hW
          have hi2 : i < ys.length := by omega
          have hi1 : i < xs.length := by omega
          refine ⟨.ref a, rfl, .int (0 + (i : Int)), rfl, a, xs, 0 + (i : Int), xs[i], rfl, rfl, hx, at_eq (by omega) (List.getElem?_eq_getElem hi1), .ref b, rfl, .int (0 + (i : Int)), rfl, b, ys, 0 + (i : Int), ys[i], rfl, rfl, hy, at_eq (by omega) (List.getElem?_eq_getElem hi2), ?_⟩
          exact ⟨xs[i], ys[i], rfl, all i _ _ (List.getElem?_eq_getElem hi1) (List.getElem?_eq_getElem hi2), true, rfl, iteF ⟨some (.int (0 + (i : Int))), rfl, rfl⟩⟩
        · obtain ⟨y2, rfl, rfl⟩ := hW
          exact q
end
end Tc
/-! swapped, can_exchange, exchanges, distance. -/
namespace Tc
open PySem PySem.Spec PyProof.Rows L2 TcG
section
variable {P : Program} {w : World} {K : PySem.W.Frag} {mg : Str → Option Value} {base : Heap}
def sp_swapped : Sp := fun vs H Q _ => ∃ (a : List Nat) (k : Nat), vs = [.str (tx a), .int (k : Int)] ∧ k + 1 < a.length ∧ a.length ≤ 100 ∧ Q (.str (tx (swapAt a k))) H
theorem ok_swapped {f : Addr} {fd : FuncData} {k : Nat} (F : Fun K "swapped" "swapped" s_swapped f fd) : FnOk P w K mg base CX0 (k + 1) f fd ["word", "place"] sp_swapped := by
  refine F.ok sc_swapped (fun vs H Q E h => ?_) (fun cdv A outer s H vs Q E hr h => ?_)
  · obtain ⟨a, k, rfl, _⟩ := h
    rfl
  · obtain ⟨a, j, rfl, h2, la, q⟩ := h
    refine ⟨_, pss_one (ps_ret (pe_op op_add_str (pe_op op_add_str (pe_op op_add_str (pe_slice sl_str (pv 0) po_none (po_some (pv 1))) (pe_ix ix_str (pv 0) (pe_op op_add (pv 1) pe_int) (fun _ _ => rfl)))
        (pe_ix ix_str (pv 0) (pv 1) (fun _ _ => rfl))) (pe_slice sl_str (pv 0) (po_some (pe_op op_add (pv 1) pe_int)) po_none))), ?_⟩
    have h1 : j < a.length := by omega
    have g1 : a[j]? = some a[j] := List.getElem?_eq_getElem h1
    have g2 : a[j + 1]? = some a[j + 1] := List.getElem?_eq_getElem h2
    have zl : (tx a).length ≤ sizeLine := by
      rw [tx_length]
      exact small_line (by omega)
    have a2 : atI (tx a).cps.toList ((j : Int) + 1) = some a[j + 1] := at_eq (by omega) g2
    refine ⟨.str (tx a), rfl, .int j, rfl, (j : Int), rfl, tx a, rfl, zl, .str (tx a), rfl, .int j, rfl, (j : Int), 1, rfl, rfl, tx a, (j : Int) + 1, a[j + 1], rfl, rfl, zl, a2, ?_⟩
    rw [cut_to]
    have t1 : (a.take j).length ≤ 100 := by
      rw [List.length_take]
      omega
    refine ⟨tx (a.take j), tx [a[j + 1]], rfl, rfl, small_line (by rw [tx_length, tx_length]; simp at *; omega), .str (tx a), rfl, .int j, rfl, tx a, (j : Int), a[j], rfl, rfl, zl, atI_nat g1, ?_⟩
    rw [tx_append]
    refine ⟨tx (a.take j ++ [a[j + 1]]), tx [a[j]], rfl, rfl, small_line (by rw [tx_length, tx_length]; simp at *; omega), .str (tx a), rfl, .int j, rfl, (j : Int), 2, rfl, rfl, ((j + 2 : Nat) : Int), rfl, tx a, rfl, zl, ?_⟩
    rw [tx_append, cut_from]
    have t2 : (a.drop (j + 2)).length ≤ 100 := by
      rw [List.length_drop]
      omega
    refine ⟨tx (a.take j ++ [a[j + 1]] ++ [a[j]]), tx (a.drop (j + 2)), rfl, rfl, small_line (by rw [tx_length, tx_length]; simp at *; omega), ?_⟩
    rw [tx_append]
    rw [swapAt_eq g1 g2] at q
    exact q

def sp_can (K : PySem.W.Frag) : Sp := fun vs H Q _ => ∃ (al : Addr) (a ls : List Nat) (ps : List (List Nat)) (z : Int), vs = [.ref al, .str (tx a), .int z] ∧ Alpha K H al ls ps ∧ a.length ≤ 100 ∧ Q (.bl (canAt ps a z)) H
theorem ok_can {f fI : Addr} {fd fdI : FuncData} (F : Fun K "can_exchange" "can_exchange" s_can_exchange f fd) (FI : Fun K "independent" "independent" s_independent fI fdI) (gI : mg "independent" = some (.ref fI))
    (ml : mg "len" = none) (mn : mg "min" = none) (mx : mg "max" = none) : FnOk P w K mg base CX0 2 f fd ["alphabet", "word", "place"] (sp_can K) := by
  have GI : FnOk P w K mg base CX0 1 fI fdI ["alphabet", "x", "y"] (sp_independent K) := ok_independent FI mn mx
  have bI : Binds K fdI ["alphabet", "x", "y"] [] := FI.binds fun _ _ _ _ _ _ us hl => match us, hl with | [_, _, _], _ => rfl
  refine F.ok sc_can_exchange (fun vs H Q E h => ?_) (fun cdv A outer s H vs Q E hr h => ?_)
  · obtain ⟨al, a, ls, ps, z, rfl, _⟩ := h
    rfl
  · obtain ⟨al, a, ls, ps, z, rfl, hA, la, q⟩ := h
    refine ⟨_, pss_one (ps_ret (pe_and (pe_chain op_le op_lt pe_int (pv 2) (pe_op op_sub (pe_callB call_len_str (by rfl) ml PySem.boot_len (pa_cons (pv 1) pa_nil)) pe_int))
      (pe_one (pe_call GI hr (by rfl) gI FI.kp bI .nil pass0 (pa_cons (pv 0) (pa_cons (pe_ix ix_str (pv 1) (pv 2) (fun _ _ => rfl)) (pa_cons (pe_ix ix_str (pv 1) (pe_op op_add (pv 2) pe_int) (fun _ _ => rfl)) pa_nil))))))), ?_⟩
    have zl : (tx a).length ≤ sizeLine := by
      rw [tx_length]
      exact small_line (by omega)
    refine ⟨.int z, rfl, 0, z, rfl, rfl, _, rfl, ?_⟩
    by_cases lo : (0 : Int) ≤ z
    · rw [decide_eq_true lo]
      refine iteT ⟨.str (tx a), rfl, tx a, rfl, zl, ((tx a).length : Int), 1, rfl, rfl, z, _, rfl, rfl, ?_⟩
      rw [tx_length]
      refine ⟨decide (z < (a.length : Int) - 1), rfl, ?_⟩
      by_cases hi : z < (a.length : Int) - 1
      · rw [decide_eq_true hi]
        obtain ⟨j, rfl⟩ : ∃ j : Nat, z = (j : Int) := ⟨z.toNat, by omega⟩
        have h1 : j < a.length := by omega
        have h2 : j + 1 < a.length := by omega
        have g1 : a[j]? = some a[j] := List.getElem?_eq_getElem h1
        have g2 : a[j + 1]? = some a[j + 1] := List.getElem?_eq_getElem h2
        have a2 : atI (tx a).cps.toList ((j : Int) + 1) = some a[j + 1] := at_eq (by omega) g2
        rw [canAt_in g1 g2] at q
        exact iteT ⟨.ref al, rfl, .str (tx a), rfl, .int j, rfl, tx a, (j : Int), a[j], rfl, rfl, zl, atI_nat g1, .str (tx a), rfl, .int j, rfl, (j : Int), 1, rfl, rfl, tx a, (j : Int) + 1, a[j + 1], rfl, rfl, zl, a2, al, a[j], a[j + 1], ls, ps, rfl, hA, q⟩
      · rw [decide_eq_false hi]
        rw [canAt_out fun z => hi z.2] at q
        exact iteF q
    · rw [decide_eq_false lo]
      rw [canAt_out fun z => lo z.1] at q
      exact iteF ⟨false, rfl, iteF q⟩
end
end Tc
/-! exchanges, distance. -/
namespace Tc
open PySem PySem.Spec PyProof.Rows L2 TcG
theorem swap_mid (pre r s : List Nat) (x y : Nat) : swapAt (pre ++ (r ++ [y] ++ x :: s)) (pre.length + r.length) = pre ++ (r ++ x :: y :: s) := by
  have ew : pre ++ (r ++ [y] ++ x :: s) = (pre ++ r) ++ y :: x :: s := by simp
  have hy : ((pre ++ r) ++ y :: x :: s)[(pre ++ r).length]? = some y := by simp
  have hx : ((pre ++ r) ++ y :: x :: s)[(pre ++ r).length + 1]? = some x := by
    rw [List.getElem?_append_right (by omega), show (pre ++ r).length + 1 - (pre ++ r).length = 1 by omega]
    rfl
  rw [ew, ← List.length_append, swapAt_eq hy hx, List.take_left]
  have : ((pre ++ r) ++ y :: x :: s).drop ((pre ++ r).length + 2) = s := by
    rw [← List.drop_drop, List.drop_left]
    rfl
  rw [this]
  simp
theorem paper_none {H : Hp} {v : V} {m : Option Paper} (h : PaperV H v m) : decide (v = .non) = m.isNone := by
  cases m with
  | none =>
    have h : v = .non := h
    rw [h]
    rfl
  | some p =>
    cases p with
    | count x =>
      obtain ⟨r, e, hr⟩ := h
      rw [e]
      rfl
    | order x y =>
      obtain ⟨r, e, hr⟩ := h
      rw [e]
      rfl
def numsV (l : List Nat) : List V := l.map fun n : Nat => V.int (n : Int)
section
variable {P : Program} {w : World} {K : PySem.W.Frag} {mg : Str → Option Value} {base : Heap}
def sp_exchanges (K : PySem.W.Frag) (Pt : Addr) : Sp := fun vs H Q _ => ∃ (al : Addr) (a b ls : List Nat) (ps : List (List Nat)), vs = [.ref al, .str (tx a), .str (tx b)] ∧ Alpha K H al ls ps ∧ Pairs ls ps ∧ GxR.TabG H Pt ∧ ls.length ≤ 100 ∧ a.length ≤ 100 ∧ b.length ≤ 100 ∧ (∀ c ∈ a, c ∈ ls) ∧ (∀ c ∈ b, c ∈ ls) ∧
  (∀ H', Mv [Pt] H H' → GxR.TabG H' Pt → ¬ Exs ps a b → Q .non H') ∧ ∀ (p : Addr) (H' : Hp), Mv [Pt] H H' → GxR.TabG H' Pt → Exs ps a b → H' p = some (.tup (numsV (exL 0 a b))) → Q (.ref p) H'
theorem ok_exchanges {f fP fS Pt : Addr} {fd fdP fdS : FuncData} (F : Fun K "exchanges" "exchanges" s_exchanges f fd) (FP : Fun K "parts" "parts" s_parts fP fdP) (gP : mg "parts" = some (.ref fP)) (GP : FnOk P w K mg base CX0 2 fP fdP ["alphabet", "word", "other"] (sp_parts K Pt))
    (FS : Fun K "swapped" "swapped" s_swapped fS fdS) (gS : mg "swapped" = some (.ref fS)) (me : mg "enumerate" = none) (mr : mg "range" = none) (mt : mg "tuple" = none) : FnOk P w K mg base CX0 3 f fd ["alphabet", "word", "other"] (sp_exchanges K Pt) := by
  have bP : Binds K fdP ["alphabet", "word", "other"] [] := FP.binds fun _ _ _ _ _ _ us hl => match us, hl with | [_, _, _], _ => rfl
  have GS : FnOk P w K mg base CX0 1 fS fdS ["word", "place"] sp_swapped := ok_swapped FS
  have bS : Binds K fdS ["word", "place"] [] := FS.binds fun _ _ _ _ _ _ us hl => match us, hl with | [_, _], _ => rfl
  refine F.ok sc_exchanges (fun vs H Q E h => ?_) (fun cdv A outer s H vs Q E hr h => ?_)
  · obtain ⟨al, a, b, ls, ps, rfl, _⟩ := h
    rfl
  · obtain ⟨al, a, b, ls, ps, rfl, hA, pr, tab, l1, l2, l3, ia, ib, qn, qy⟩ := h
    have nd := sc_exchanges.nd
    have hr1 : Room 1 _ := hr.mono (by decide)
    refine ⟨_, pss_cons (ps_if (pt_cmpR op_notN (pe_call GP hr (by rfl) gP FP.kp bP .nil pass0 (pa_cons (pv 0) (pa_cons (pv 1) (pa_cons (pv 2) pa_nil)))) pe_non (nomark _)) (pss_one (ps_ret pe_non)) pss_nil)
      (pss_cons (ps_set (i := 3) nd rfl (.inl rfl) (pe_lst pa_nil))
      (pss_cons (ps_set (i := 4) nd rfl (.inl rfl) (pv 1))
      (pss_cons (ps_for PassesOwn.never rfl (pi_enumS (by rfl) me (pa_cons (pv 2) pa_nil)) (pg_tup (by rfl) (pgs_cons (pg_name (i := 5) nd rfl (.inl rfl)) (pgs_cons (pg_name (i := 6) nd rfl (.inl rfl)) pgs_nil)))
        (pss_cons (ps_set (i := 7) nd rfl (.inl rfl) (pe_bmS PySem.F.plainAttrs_str PySem.F.slot_str_index PySem.F.type_str_index (mt_indexFromX (by rfl) takes0) (pv 4) (pa_cons (pv 6) (pa_cons (pv 5) pa_nil))))
        (pss_one (ps_for PassesOwn.never rfl (pi_range3 (by rfl) mr (pa_cons (pe_op op_sub (pv 7) pe_int) (pa_cons (pe_op op_sub (pv 5) pe_int) (pa_cons (pe_un un_neg pe_int) pa_nil)))) (pg_name (i := 8) nd rfl (.inl rfl))
          (pss_cons (ps_expr (pe_bm PySem.F.plainAttrs_list PySem.F.slot_list_append PySem.F.type_list_append mt_append (pv 3) (pa_cons (pv 8) pa_nil)))
          (pss_one (ps_set (i := 4) nd rfl (.inl rfl) (pe_call GS hr1 (by rfl) gS FS.kp bS .nil pass0 (pa_cons (pv 4) (pa_cons (pv 8) pa_nil))))))))))
      (pss_one (ps_ret (pe_callTy call_tuple_of (by rfl) mt (by decide +kernel) (pa_cons (pv 3) pa_nil))))))), ?_⟩
    refine ⟨.ref al, rfl, .str (tx a), rfl, .str (tx b), rfl, al, a, b, ls, ps, rfl, hA, tab, l1, by omega, by omega, fun v H1 mv1 tab1 hv => ?_⟩
    refine ⟨rfl, _, rfl, ?_⟩
    rw [paper_none hv]
    have iff := partsM_none pr ia ib
    cases e : partsM ls ps a b with
    | some pp =>
      have no : ¬ Exs ps a b := fun z => by
        rw [iff.mpr z] at e
        cases e
      exact iteT (qn H1 mv1 tab1 no)
    | none =>
      have yes : Exs ps a b := iff.mp e
      refine iteF ⟨by show 0 ≤ sizeLine; decide, fun r nr => ?_⟩
      refine ⟨.str (tx a), rfl, ?_⟩
      have kp0 : KeepsA ps a b := yes.keepsA pr
      have bound : (exL 0 a b).length ≤ 100 * 101 := Nat.le_trans (exL_len b a 0) (Nat.mul_le_mul l3 (by omega))
      refine ⟨.str (tx b), rfl, tx b, rfl, for_enumS (fun i σ H' => ∃ (rest L : List Nat) (y5 y6 y7 y8 : Option V), σ = [some (.ref al), some (.str (tx a)), some (.str (tx b)), some (.ref r), some (.str (tx (b.take i ++ rest))), y5, y6, y7, y8] ∧
          KeepsA ps rest (b.drop i) ∧ L ++ exL i rest (b.drop i) = exL 0 a b ∧ (b.take i ++ rest).length ≤ 100 ∧ Same H1 H' ∧ H' r = some (.lst (numsV L)))
        ⟨a, [], none, none, none, none, rfl, kp0, rfl, l2, same_new nr, upd_same⟩ (fun i c σ H2 T hc hW nT => ?_) (fun σ H2 hW => ?_)⟩
      · obtain ⟨rest, L, y5, y6, y7, y8, rfl, kp, eL, lw, sm2, hr2⟩ := hW
        have rT : r ≠ T := ne_of_none hr2 nT
        have lt : i < b.length := (List.getElem?_eq_some_iff.mp hc).1
        have ed : b.drop i = c :: b.drop (i + 1) := by
          rw [List.drop_eq_getElem_cons lt]
          congr 1
          exact (List.getElem?_eq_some_iff.mp hc).2
        rw [ed] at kp eL
        obtain ⟨p, q, rfl, nx, free, kp2⟩ := keepsA_step pr kp
        have lpre : (b.take i).length = i := by
          rw [List.length_take]
          omega
        have exE : exL i (p ++ c :: q) (c :: b.drop (i + 1)) = desc i p.length ++ exL (i + 1) (p ++ q) (b.drop (i + 1)) := by
          rw [exL, idx_first nx, erase_first nx]
        rw [exE] at eL
        refine ⟨T, _, rfl, SqT.of upd_same, rfl, .int (i : Nat), _, rfl, .str (tx [c]), _, rfl, rfl, ?_⟩
        have sm3 : Same H1 (upd H2 T (.tup [.int (i : Nat), .str (tx [c])])) := sm2.trans (same_new nT)
        have hr3 : (upd H2 T (.tup [.int (i : Nat), .str (tx [c])])) r = some (.lst (numsV L)) := by
          rw [upd_ne rT]
          exact hr2
        have lp : p.length ≤ 100 := by
          rw [List.length_append, List.length_append] at lw
          omega
        -- found
        refine ⟨.str (tx (b.take i ++ (p ++ c :: q))), rfl, rfl, .str (tx [c]), rfl, .int (i : Nat), rfl, tx (b.take i ++ (p ++ c :: q)), tx [c], (i : Int), rfl, rfl, ?_, ?_⟩
        · intro k hk
          have ix := index_from (pre := b.take i) (q := q) nx
          rw [lpre] at ix
          rw [ix] at hk
          obtain rfl := Option.some.inj hk
          -- the letter goes to its place
          refine ⟨.int ((i + p.length : Nat) : Int), rfl, _, 1, rfl, rfl, .int (i : Nat), rfl, _, 1, rfl, rfl, 1, rfl, ((i + p.length : Nat) : Int) - 1, (i : Int) - 1, -1, _, rfl, RgC.neg (by omega) (by omega) (by omega) (by omega), ?_⟩
          have en : (((i + p.length : Nat) : Int) - 1 - ((i : Int) - 1)).toNat = p.length := by omega
          rw [en]
          refine for_rangeC (lo := ((i + p.length : Nat) : Int) - 1) (c := -1) (n := p.length) (fun t σ H' => ∃ (p1 p2 L1 : List Nat) (y8 : Option V), σ = [some (.ref al), some (.str (tx a)), some (.str (tx b)), some (.ref r), some (.str (tx (b.take i ++ (p1 ++ c :: (p2 ++ q))))), some (.int (i : Nat)), some (.str (tx [c])), some (.int ((i + p.length : Nat) : Int)), y8] ∧
              p = p1 ++ p2 ∧ p2.length = t ∧ L1 ++ desc i p1.length ++ exL (i + 1) (p ++ q) (b.drop (i + 1)) = exL 0 a b ∧ Same H1 H' ∧ H' r = some (.lst (numsV L1)))
            ⟨p, [], L, y8, rfl, by simp, rfl, by rw [List.append_assoc]; exact eL, sm3, hr3⟩ (fun t σ H4 ht hV => ?_) (fun σ H4 hV => ?_)
          · obtain ⟨p1, p2, L1, y8, rfl, ep, e2, eL1, sm4, hr4⟩ := hV
            have l1p : p1.length + t = p.length := by
              rw [ep, List.length_append, e2]
            obtain ⟨r1, y, rfl⟩ : ∃ r1 y, p1 = r1 ++ [y] := ⟨p1.dropLast, p1.getLast (fun z => by rw [z] at l1p; simp at l1p; omega), (List.dropLast_concat_getLast _).symm⟩
            have lr : (r1 ++ [y]).length = r1.length + 1 := by simp
            have pl : ((i + p.length : Nat) : Int) - 1 + (t : Nat) * -1 = ((i + r1.length : Nat) : Int) := by
              rw [lr] at l1p
              omega
            rw [pl]
            have few : L1.length ≤ 100 * 101 := by
              have := congrArg List.length eL1
              rw [List.length_append, List.length_append] at this
              omega
            have lw2 : (b.take i ++ (r1 ++ [y] ++ c :: (p2 ++ q))).length = (b.take i ++ (p ++ c :: q)).length := by
              rw [ep]
              simp only [List.length_append, List.length_cons, List.length_nil]
              omega
            refine ⟨.ref r, rfl, .inl ⟨rfl, _, SqL.of hr4⟩, .int _, rfl, r, _, _, rfl, rfl, hr4, by unfold numsV; rw [List.length_map]; exact Nat.lt_of_le_of_lt few (by decide), ?_⟩
            refine ⟨.str (tx (b.take i ++ (r1 ++ [y] ++ c :: (p2 ++ q)))), rfl, .int _, rfl, b.take i ++ (r1 ++ [y] ++ c :: (p2 ++ q)), i + r1.length, rfl, ?_, by rw [lw2]; exact lw, ?_⟩
            · simp only [List.length_append, List.length_cons, List.length_nil, lpre]
              omega
            · have sw := swap_mid (b.take i) r1 (p2 ++ q) c y
              rw [lpre] at sw
              rw [sw]
              refine ⟨r1, y :: p2, L1 ++ [i + r1.length], some (.int ((i + r1.length : Nat) : Int)), rfl, by rw [ep]; simp, by rw [List.length_cons, e2], ?_, fun x o ex => ?_, ?_⟩
              · rw [← eL1, lr]
                show _ = L1 ++ ((i + r1.length) :: desc i r1.length) ++ _
                simp
              · rw [upd_ne (ne_of_none ex nr)]
                exact sm4 x o ex
              · rw [upd_same]
                unfold numsV
                rw [List.map_append]
                rfl
          · obtain ⟨p1, p2, L1, y8, rfl, ep, e2, eL1, sm4, hr4⟩ := hV
            have l0 : p1 = [] := by
              have := congrArg List.length ep
              rw [List.length_append, e2] at this
              exact List.eq_nil_of_length_eq_zero (by omega)
            subst l0
            have ep : p = p2 := ep
            subst ep
            refine ⟨p ++ q, L1, some (.int (i : Nat)), some (.str (tx [c])), some (.int ((i + p.length : Nat) : Int)), y8, ?_, kp2, ?_, ?_, sm4, hr4⟩
            · have e5 : b.take (i + 1) = b.take i ++ [c] := take_next hc
              rw [e5]
              simp
            · simpa [desc] using eL1
            · have e5 : b.take (i + 1) = b.take i ++ [c] := take_next hc
              rw [e5]
              simp only [List.length_append, List.length_cons, List.length_nil] at lw ⊢
              omega
        · intro hk
          have ix := index_from (pre := b.take i) (q := q) nx
          rw [lpre] at ix
          rw [ix] at hk
          cases hk
      · obtain ⟨rest, L, y5, y6, y7, y8, rfl, kp, eL, lw, sm2, hr2⟩ := hW
        have e0 : b.drop b.length = [] := List.drop_length
        rw [e0] at eL
        have eL : L = exL 0 a b := by
          have : L ++ [] = exL 0 a b := eL
          rwa [List.append_nil] at this
        refine ⟨.ref r, rfl, r, _, rfl, .inl ⟨SqL.of hr2, fun p np => ?_⟩⟩
        have sm3 : Same H1 (upd H2 p (.tup (numsV L))) := sm2.trans (same_new np)
        refine qy p _ (mv1.trans (.of_same sm3)) ?_ yes (by rw [upd_same, eL])
        obtain ⟨rows, t1, t2⟩ := tab1
        exact ⟨rows, sm3 _ _ t1, t2⟩
end
end Tc
/-! distance; ExchangeFault; exchanged. -/
namespace Tc
open PySem PySem.Spec PyProof.Rows L2 TcG
section
variable {P : Program} {w : World} {K : PySem.W.Frag} {mg : Str → Option Value} {base : Heap}
def sp_distance (K : PySem.W.Frag) (Pt : Addr) : Sp := fun vs H Q _ => ∃ (al : Addr) (a b ls : List Nat) (ps : List (List Nat)), vs = [.ref al, .str (tx a), .str (tx b)] ∧ Alpha K H al ls ps ∧ Pairs ls ps ∧ GxR.TabG H Pt ∧ ls.length ≤ 100 ∧ a.length ≤ 100 ∧ b.length ≤ 100 ∧ (∀ c ∈ a, c ∈ ls) ∧ (∀ c ∈ b, c ∈ ls) ∧
  (∀ H', Mv [Pt] H H' → GxR.TabG H' Pt → ¬ Exs ps a b → Q .non H') ∧ ∀ (H' : Hp), Mv [Pt] H H' → GxR.TabG H' Pt → Exs ps a b → Q (.int ((exL 0 a b).length : Int)) H'
theorem ok_distance {f fX Pt : Addr} {fd fdX : FuncData} (F : Fun K "distance" "distance" s_distance f fd) (FX : Fun K "exchanges" "exchanges" s_exchanges fX fdX) (gX : mg "exchanges" = some (.ref fX)) (GX : FnOk P w K mg base CX0 3 fX fdX ["alphabet", "word", "other"] (sp_exchanges K Pt))
    (ml : mg "len" = none) : FnOk P w K mg base CX0 4 f fd ["alphabet", "word", "other"] (sp_distance K Pt) := by
  have bX : Binds K fdX ["alphabet", "word", "other"] [] := FX.binds fun _ _ _ _ _ _ us hl => match us, hl with | [_, _, _], _ => rfl
  refine F.ok sc_distance (fun vs H Q E h => ?_) (fun cdv A outer s H vs Q E hr h => ?_)
  · obtain ⟨al, a, b, ls, ps, rfl, _⟩ := h
    rfl
  · obtain ⟨al, a, b, ls, ps, rfl, hA, pr, tab, l1, l2, l3, ia, ib, qn, qy⟩ := h
    have nd := sc_distance.nd
    refine ⟨_, pss_cons (ps_set (i := 3) nd rfl (.inl rfl) (pe_call GX hr (by rfl) gX FX.kp bX .nil pass0 (pa_cons (pv 0) (pa_cons (pv 1) (pa_cons (pv 2) pa_nil)))))
      (pss_cons (ps_if (pt_cmpR op_isN (pv 3) pe_non (nomark _)) (pss_one (ps_ret pe_non)) pss_nil)
      (pss_one (ps_ret (pe_callB call_len_seq (by rfl) ml PySem.boot_len (pa_cons (pv 3) pa_nil))))), ?_⟩
    refine ⟨.ref al, rfl, .str (tx a), rfl, .str (tx b), rfl, al, a, b, ls, ps, rfl, hA, pr, tab, l1, l2, l3, ia, ib, fun H' mv tab' no => ?_, fun p H' mv tab' yes hp => ?_⟩
    · exact ⟨.non, rfl, rfl, true, rfl, iteT (qn H' mv tab' no)⟩
    · refine ⟨.ref p, rfl, rfl, false, rfl, iteF ⟨.ref p, rfl, p, _, rfl, .inr (SqT.of hp), ?_⟩⟩
      have e : (numsV (exL 0 a b)).length = (exL 0 a b).length := by
        unfold numsV
        rw [List.length_map]
      rw [e]
      exact qy H' mv tab' yes

theorem str_app (a b : Str) : (a ++ b).length = a.length + b.length := by
  rw [tx_of a, tx_of b, tx_append, tx_length, tx_length, tx_length, List.length_append]
/-! ExchangeFault(number) -/
def faultF (cc c : Addr) : NdefX.NF := ⟨"__init__", "ExchangeFault.__init__", defArgs s_ExchangeFault_init, defBody s_ExchangeFault_init, defScope s_ExchangeFault_init, [("__class__", cc)], c⟩
theorem nsc_fault : NdefX.NScope ["self", "number", "__class__"] ["self", "number"] ["__class__"] (defScope s_ExchangeFault_init) := NdefX.nscope_by (by decide +kernel)
def sp_fault (D : Addr) : Sp := fun vs H Q _ => ∃ (a : Addr) (n : Nat), vs = [.ref a, .int (n : Int)] ∧ n < 100 ∧ H a = some (exo a D none) ∧ ∀ d, H d = none → d ≠ a → Q .non (upd (upd H d (exd d [("number", .int (n : Int))])) a (exo a D (some d)))
theorem num_short : ∀ n < 100, (Str.ofString (toString ((n : Nat) : Int))).length ≤ 10 := by decide +kernel
theorem ok_fault {D f cc c : Addr} {oc kV doc pm ct : Value} {od an : Option Addr} {osl : Array (Option Value)} (lk : K.lookup f = some ⟨oc, od, .func (PySem.W.fnX "__init__" "ExchangeFault.__init__" (defArgs s_ExchangeFault_init) (defBody s_ExchangeFault_init) (defScope s_ExchangeFault_init) [("__class__", cc)] .none kV doc pm an (.ref c) ct), osl⟩)
    (C : InitC P K mg D (faultF cc c) cc) (nn : PySem.W.findIn K (.ref D) "number" = some none) :
    FnOk P w K mg base CX0 1 f (PySem.W.fnX "__init__" "ExchangeFault.__init__" (defArgs s_ExchangeFault_init) (defBody s_ExchangeFault_init) (defScope s_ExchangeFault_init) [("__class__", cc)] .none kV doc pm an (.ref c) ct) ["self", "number"] (sp_fault D) := by
  refine fn_super (F := faultF cc c) (cc := cc) (k := 0) (N := ["self", "number", "__class__"]) (self := "self") (ps := ["number"]) (pl := fun _ => pure false) lk C nsc_fault rfl rfl rfl rfl (fun vs H Q E h => ?_) (fun _ => rfl) (fun _ => rfl) (fun _ => rfl) (fun _ h => ?_) (fun A outer s H vs Q E hr h => ?_)
  · obtain ⟨a, n, rfl, _⟩ := h
    rfl
  · unfold interactive
    rw [h]
    rfl
  · obtain ⟨a, n, rfl, few, ha, q⟩ := h
    refine ⟨a, _, _, pe_joined (PJ.cons pe_str (PJ.cons (pe_fmt (pv 1)) (PJ.cons pe_str PJ.nil))), pss_one (ps_ost (pv 0) (pv 1)), rfl, ?_, ha⟩
    have short := num_short n few
    refine ⟨"exchange ", rfl, by decide, .int (n : Int), rfl, .inr ⟨(n : Int), rfl, ?_, _, rfl, ?_, " is not possible", rfl, ?_, ha, ?_⟩⟩
    · have : (n : Int).natAbs.log2 ≤ n := by
        rw [Int.natAbs_natCast]
        exact Nat.log2_le_self n
      omega
    · rw [str_app, str_app]
      exact Nat.le_trans (Nat.add_le_add (show (Str.empty ++ Str.ofString "exchange ").length ≤ 100 by decide) short) (by decide)
    · rw [str_app, str_app, str_app]
      exact Nat.le_trans (Nat.add_le_add (Nat.add_le_add (show (Str.empty).length + (Str.ofString "exchange ").length ≤ 100 by decide) short) (show (Str.ofString " is not possible").length ≤ 100 by decide)) (by decide)
    · refine ⟨.int (n : Int), rfl, .ref a, rfl, a, D, rfl, C.oex, nn, .inl ⟨ha, fun dx nd ne => ?_⟩⟩
      exact q dx nd ne
end
end Tc
/-! exchanged. -/
namespace Tc
open PySem PySem.Spec PyProof.Rows L2 TcG
structure Fault (K : PySem.W.Frag) (mg : Str → Option Value) (D fI : Addr) : Prop where
  g : mg "ExchangeFault" = some (.ref D)
  oex : OexC K D
  hi : PySem.W.findIn K (.ref D) "__init__" = some (some (.ref fI))
  ht : PySem.W.typeIn K (.ref fI) = some (.type "function")
section
variable {P : Program} {w : World} {K : PySem.W.Frag} {mg : Str → Option Value} {base : Heap}
def sp_exchanged (K : PySem.W.Frag) (D : Addr) : Sp := fun vs H Q E => ∃ (al pl : Addr) (a ls : List Nat) (ps : List (List Nat)) (zs : List Int), vs = [.ref al, .str (tx a), .ref pl] ∧ Alpha K H al ls ps ∧ SqT K H pl (zs.map V.int) ∧ a.length ≤ 100 ∧ zs.length ≤ 50 ∧
  ((runEx ps a zs 0).2 = none → ∀ H', Same H H' → Q (.str (tx (runEx ps a zs 0).1)) H') ∧
  ∀ k, (runEx ps a zs 0).2 = some k → ∀ d H', Same H H' → H' d = some (.xd [("number", .int (k : Int))]) → E (.ref D) (some d) H'
theorem ok_exchanged {f fC fS fI D : Addr} {fd fdC fdS fdI : FuncData} (F : Fun K "exchanged" "exchanged" s_exchanged f fd) (FC : Fun K "can_exchange" "can_exchange" s_can_exchange fC fdC) (gC : mg "can_exchange" = some (.ref fC)) (GC : FnOk P w K mg base CX0 2 fC fdC ["alphabet", "word", "place"] (sp_can K))
    (FS : Fun K "swapped" "swapped" s_swapped fS fdS) (gS : mg "swapped" = some (.ref fS)) (T : Fault K mg D fI) (GI : FnOk P w K mg base CX0 1 fI fdI ["self", "number"] (sp_fault D)) (bI : Binds K fdI ["self", "number"] []) (me : mg "enumerate" = none) :
    FnOk P w K mg base (L2N.CX P w) 3 f fd ["alphabet", "word", "places"] (sp_exchanged K D) := by
  have bC : Binds K fdC ["alphabet", "word", "place"] [] := FC.binds fun _ _ _ _ _ _ us hl => match us, hl with | [_, _, _], _ => rfl
  have GS : FnOk P w K mg base CX0 1 fS fdS ["word", "place"] sp_swapped := ok_swapped FS
  have bS : Binds K fdS ["word", "place"] [] := FS.binds fun _ _ _ _ _ _ us hl => match us, hl with | [_, _], _ => rfl
  refine fun_okN F sc_exchanged (fun vs H Q E h => ?_) (fun cdv A outer s H vs Q E hr h => ?_)
  · obtain ⟨al, pl, a, ls, ps, zs, rfl, _⟩ := h
    rfl
  · obtain ⟨al, pl, a, ls, ps, zs, rfl, hA, hZ, la, lz, qy, qn⟩ := h
    have nd := sc_exchanged.nd
    have hr1 : Room 1 _ := hr.mono (by decide)
    refine ⟨_, pss_cons (ps_set (i := 3) nd rfl (.inl rfl) (pv 1))
      (pss_cons (ps_for (passes_of rfl) rfl (pi_enumT (by rfl) me (pa_cons (pv 2) pa_nil)) (pg_tup (by rfl) (pgs_cons (pg_name (i := 4) nd rfl (.inl rfl)) (pgs_cons (pg_name (i := 5) nd rfl (.inl rfl)) pgs_nil)))
        (pss_cons (ps_if (pt_not (pt_val (pe_call GC hr (by rfl) gC FC.kp bC .nil pass0 (pa_cons (pv 0) (pa_cons (pv 3) (pa_cons (pv 5) pa_nil))))))
          (pss_one (L2N.ps_raise (by rfl) (L2N.takes_of rfl rfl rfl rfl) (pmk_fresh T.oex T.hi T.ht GI hr bI (by rfl) T.g (pa_cons (pv 4) pa_nil)))) pss_nil)
        (pss_one (ps_set (i := 3) nd rfl (.inl rfl) (pe_call GS hr1 (by rfl) gS FS.kp bS .nil pass0 (pa_cons (pv 3) (pa_cons (pv 5) pa_nil)))))))
      (pss_one (ps_ret (pv 3)))), ?_⟩
    refine ⟨.str (tx a), rfl, ?_⟩
    refine ⟨.ref pl, rfl, pl, zs.map V.int, rfl, hZ, for_enumT (fun i σ H' => ∃ (a' : List Nat) (y4 y5 : Option V), σ = [some (.ref al), some (.str (tx a)), some (.ref pl), some (.str (tx a')), y4, y5] ∧ a'.length ≤ 100 ∧ runEx ps a zs 0 = runEx ps a' (zs.drop i) i ∧ Same H H')
      ⟨a, none, none, rfl, la, rfl, Same.refl _⟩ (fun i σ H' hW => ?_) (fun i x σ H1 T1 hx hW nT => ?_) (fun σ H1 hW => ?_)⟩
    · obtain ⟨_, _, _, _, _, _, sm⟩ := hW
      exact Same.seqT sm hZ
    · obtain ⟨a', y4, y5, rfl, la', er, sm⟩ := hW
      obtain ⟨z, hz, rfl⟩ : ∃ z, zs[i]? = some z ∧ x = .int z := by
        rw [List.getElem?_map] at hx
        cases e : zs[i]? with
        | none =>
          rw [e] at hx
          cases hx
        | some z =>
          rw [e] at hx
          cases hx
          exact ⟨z, rfl, rfl⟩
      have lt : i < zs.length := (List.getElem?_eq_some_iff.mp hz).1
      have ed : zs.drop i = z :: zs.drop (i + 1) := by
        rw [List.drop_eq_getElem_cons lt]
        congr 1
        exact (List.getElem?_eq_some_iff.mp hz).2
      rw [ed] at er
      have sm1 : Same H (upd H1 T1 (.tup [.int (i : Nat), .int z])) := sm.trans (same_new nT)
      refine ⟨T1, _, rfl, SqT.of upd_same, rfl, .int (i : Nat), _, rfl, .int z, _, rfl, rfl, ?_⟩
      refine ⟨.ref al, rfl, .str (tx a'), rfl, .int z, rfl, al, a', ls, ps, z, rfl, hA.same sm1, la', _, rfl, ?_⟩
      cases can : canAt ps a' z with
      | false =>
        rw [runEx_no _ _ can] at er
        refine iteT ⟨.int (i : Nat), rfl, by show 1 ≤ 1000; decide, fun e ne => ⟨e, i, rfl, by omega, upd_same, fun d nd' de => ⟨rfl, d, [("number", .int (i : Nat))], upd_same, ?_, ?_, ?_⟩⟩⟩
        · rw [upd_ne de, upd_same]
        · rw [upd_ne de] at nd'
          exact nd'
        · rw [upd_ne de] at nd'
          refine qn i (by rw [er]) d _ (fun y o ey => ?_) upd_same
          have g := sm1 y o ey
          have ye : y ≠ e := ne_of_none g ne
          have yd : y ≠ d := ne_of_none g nd'
          rw [upd_ne yd, del_ne ye, upd_ne ye, upd_ne yd, upd_ne ye]
          exact g
      | true =>
        rw [runEx_go _ _ can] at er
        obtain ⟨k, rfl, lk⟩ := canAt_bounds can
        refine iteF ⟨.str (tx a'), rfl, .int (k : Int), rfl, a', k, rfl, lk, la', swapAt a' k, some (.int (i : Nat)), some (.int (k : Int)), rfl, ?_, er, sm1⟩
        rw [swapAt_len lk]
        exact la'
    · obtain ⟨a', y4, y5, rfl, la', er, sm⟩ := hW
      have e0 : zs.drop (zs.map V.int).length = [] := by
        rw [List.length_map]
        exact List.drop_length
      rw [e0] at er
      have q := qy (by rw [er]; rfl) H1 sm
      rw [er] at q
      exact ⟨_, rfl, q⟩
end
end Tc
namespace TcG
open PySem PySem.Spec PyProof.Rows L2
theorem sorted_one : ∀ l m : List Nat, l.Pairwise (· ≤ ·) → m.Pairwise (· ≤ ·) → l.Perm m → l = m
  | [], m, _, _, p => p.nil_eq
  | x :: l, m, h1, h2, p => by
    cases m with
    | nil => exact absurd p.symm.nil_eq (by simp)
    | cons y m =>
      have a1 := (List.pairwise_cons.mp h1).1
      have a2 := (List.pairwise_cons.mp h2).1
      have xy : x = y := by
        have i1 : y ∈ x :: l := p.mem_iff.mpr List.mem_cons_self
        have i2 : x ∈ y :: m := p.mem_iff.mp List.mem_cons_self
        rcases List.mem_cons.mp i1 with z | z
        · exact z.symm
        · rcases List.mem_cons.mp i2 with u | u
          · exact u
          · have := a1 y z
            have := a2 x u
            omega
      subst xy
      rw [sorted_one l m (List.pairwise_cons.mp h1).2 (List.pairwise_cons.mp h2).2 p.cons_inv]
def ones (l : List Nat) : List Str := l.map fun c => tx [c]
theorem ones_inj {a b : List Nat} (h : ones a = ones b) : a = b := by
  have e : ∀ l, (ones l).map (fun s => s.cps.toList.headD 0) = l := fun l => by
    unfold ones
    rw [List.map_map]
    exact List.map_id _
  rw [← e a, ← e b, h]
theorem ones_of {l : List Nat} {ys : List Str} (p : ys.Perm (ones l)) : ∃ m, ys = ones m ∧ m.Perm l := by
  refine ⟨ys.map fun s => s.cps.toList.headD 0, ?_, ?_⟩
  · unfold ones
    rw [List.map_map]
    refine (List.map_id ys).symm.trans (List.map_congr_left fun s hs => ?_)
    obtain ⟨c, _, e⟩ := List.mem_map.mp (p.mem_iff.mp hs)
    rw [← e]
    rfl
  · have q := p.map fun s : Str => s.cps.toList.headD 0
    have e : (ones l).map (fun s => s.cps.toList.headD 0) = l := by
      unfold ones
      rw [List.map_map]
      exact List.map_id _
    rw [e] at q
    exact q
theorem ones_rising : ∀ (l : List Nat), sortedS (ones l) = true → l.Pairwise (· ≤ ·) := by
  have step : ∀ (l : List Nat) (x : Nat), risingS (tx [x]) (ones l) = true → (x :: l).Pairwise (· ≤ ·) := by
    intro l
    induction l with
    | nil => intro x _; exact List.pairwise_singleton ..
    | cons y r ih =>
      intro x h
      have h' : (_ && risingS (tx [y]) (ones r)) = true := h
      obtain ⟨h1, h2⟩ := Bool.and_eq_true_iff.mp h'
      have le : x ≤ y := by
        have h1 : (!(decide (y < x) || (y == x && false))) = true := h1
        rw [Bool.and_false, Bool.or_false, Bool.not_eq_true', decide_eq_false_iff_not] at h1
        omega
      have pr := ih y h2
      refine List.pairwise_cons.mpr ⟨fun z hz => ?_, pr⟩
      rcases List.mem_cons.mp hz with e | hz
      · rw [e]
        exact le
      · exact Nat.le_trans le ((List.pairwise_cons.mp pr).1 z hz)
  intro l h
  cases l with
  | nil => exact List.Pairwise.nil
  | cons x r => exact step r x h
theorem eqv_strs : ∀ (a b : List Str), PyData.eqvAll (a.map .str) (b.map .str) = decide (a = b)
  | [], [] => by simp [PyData.eqvAll]
  | [], y :: b => by simp [PyData.eqvAll]
  | x :: a, [] => by simp [PyData.eqvAll]
  | x :: a, y :: b => by
    have ih := eqv_strs a b
    rw [List.map_cons, List.map_cons, PyData.eqvAll, ih]
    show ((x == y) && decide (a = b)) = _
    by_cases e : x = y
    · subst e
      simp
    · simp [e]
theorem lay_strs : ∀ a : List Str, (∀ s ∈ a, PyData.strOk s = true) → PyData.canLayAll0 (a.map .str) = true
  | [], _ => by rw [List.map_nil, PyData.canLayAll0]
  | x :: a, h => by
    rw [List.map_cons, PyData.canLayAll0, lay_strs a fun s hs => h s (List.mem_cons_of_mem _ hs), PyData.canLay0, h x List.mem_cons_self]
    rfl
theorem deep_strs : ∀ a : List Str, PyData.depthAll (a.map .str) = 0
  | [] => by rw [List.map_nil, PyData.depthAll]
  | x :: a => by
    rw [List.map_cons, PyData.depthAll, deep_strs a, PyData.depth]
    rfl
theorem shaped_strs (a : List Str) (h : ∀ s ∈ a, PyData.strOk s = true) : SeqAt.shaped (.list (a.map .str)) = true := by
  unfold SeqAt.shaped
  rw [PyData.canLay0, lay_strs a h, PyData.depth, deep_strs a]
  rfl
theorem dp_strs {K : PySem.W.Frag} {H : Hp} : ∀ a : List Str, DpAll K H (a.map V.str) (a.map .str)
  | [] => .nil
  | x :: a => .cons (.str x) (dp_strs a)
end TcG
/-! _law_alike. -/
namespace Tc
open PySem PySem.Spec PyProof.Rows L2 TcG
theorem scx_alike : FnScope ["alphabet", "word", "other", "x", "y", "z"] ["alphabet", "word", "other"] (defScope s_law_alike) :=
  ⟨rfl, rfl, rfl, by decide +kernel, rfl, by decide +kernel, by decide +kernel⟩
theorem ones_V (l : List Nat) : (l.map fun c => V.str (tx [c])) = (ones l).map V.str := by
  unfold ones
  rw [List.map_map]
  rfl
section
variable {P : Program} {w : World} {K : PySem.W.Frag} {mg : Str → Option Value} {base : Heap}
def sp_alike (K : PySem.W.Frag) : Sp := fun vs H Q _ => ∃ (al : Addr) (a b ls : List Nat) (ps : List (List Nat)), vs = [.ref al, .str (tx a), .str (tx b)] ∧ Alpha K H al ls ps ∧ Pairs ls ps ∧ (∀ c ∈ a, c ∈ ls) ∧ (∀ c ∈ b, c ∈ ls) ∧ (∀ c ∈ ls, c < 1000) ∧ a.length ≤ 60 ∧ b.length ≤ 60 ∧
  ∀ (t : Bool) (H' : Hp), Same H H' → (t = true ↔ Exs ps a b) → Q (.bl t) H'
theorem ok_alike {f fF : Addr} {fd fdF : FuncData} (F : Fun K "_law_alike" "_law_alike" s_law_alike f fd) (FF : Fun K "_law_free" "_law_free" s_law_free fF fdF) (gF : mg "_law_free" = some (.ref fF))
    (ms : mg "sorted" = none) (ml : mg "list" = none) : FnOk P w K mg base CX0 2 f fd ["alphabet", "word", "other"] (sp_alike K) := by
  have GF : FnOk P w K mg base CX0 1 fF fdF ["alphabet", "x", "y"] (sp_free K) := ok_free FF
  have bF : Binds K fdF ["alphabet", "x", "y"] [] := FF.binds fun _ _ _ _ _ _ us hl => match us, hl with | [_, _, _], _ => rfl
  refine F.ok scx_alike (fun vs H Q E h => ?_) (fun cdv A outer s H vs Q E hr h => ?_)
  · obtain ⟨al, a, b, ls, ps, rfl, _⟩ := h
    rfl
  · obtain ⟨al, a, b, ls, ps, rfl, hA, pr, ia, ib, low, la, lb, q⟩ := h
    have nd := scx_alike.nd
    refine ⟨_, pss_cons (ps_if (pt_cmpR (op_neD hr.units) (pe_callB cr_sortedS (by rfl) ms (by decide +kernel) (pa_cons (pe_callTy (call_listT (by rfl)) (by rfl) ml (by decide +kernel) (pa_cons (pv 1) pa_nil)) pa_nil))
        (pe_callB cr_sortedS (by rfl) ms (by decide +kernel) (pa_cons (pe_callTy (call_listT (by rfl)) (by rfl) ml (by decide +kernel) (pa_cons (pv 2) pa_nil)) pa_nil)) (nomark _)) (pss_one (ps_ret pe_bl)) pss_nil)
      (pss_cons (ps_for PassesOwn.never rfl (pi_str (pe_ix ix_tup (pv 0) pe_int (fun _ _ => rfl))) (pg_name (i := 3) nd rfl (.inr rfl))
        (pss_one (ps_for PassesOwn.never rfl (pi_str (pe_ix ix_tup (pv 0) pe_int (fun _ _ => rfl))) (pg_name (i := 4) nd rfl (.inr rfl))
          (pss_one (ps_if (pt_not (pt_val (pe_call GF hr (by rfl) gF FF.kp bF .nil pass0 (pa_cons (pv 0) (pa_cons (pv 3) (pa_cons (pv 4) pa_nil))))))
            (pss_one (ps_if (pt_cmpR (op_neD hr.units)
              (pe_lc (own := [("z", 5)]) (g := gName 5) (tt := tTest (tOp (rIn K false) (tVar 5) (tLst (tCons (tVar 3) (tCons (tVar 4) tNil))))) (te := tVar 5) rfl nd (pi_str (pv 1)) (blkOk_by (own := [("z", 5)]) (N := ["alphabet", "word", "other", "x", "y", "z"]) (sc := defScope s_law_alike) (by decide +kernel))
                (fun _ _ _ _ _ => pg_name (i := 5) nd rfl (Or.inl rfl)) (fun _ _ _ _ _ => pts_one (pt_cmpR op_in_seq (pv 5) (pe_lst (pa_cons (pv 3) (pa_cons (pv 4) pa_nil))) (by rfl))) (fun _ _ _ _ _ => pv 5))
              (pe_lc (own := [("z", 5)]) (g := gName 5) (tt := tTest (tOp (rIn K false) (tVar 5) (tLst (tCons (tVar 3) (tCons (tVar 4) tNil))))) (te := tVar 5) rfl nd (pi_str (pv 2)) (blkOk_by (own := [("z", 5)]) (N := ["alphabet", "word", "other", "x", "y", "z"]) (sc := defScope s_law_alike) (by decide +kernel))
                (fun _ _ _ _ _ => pg_name (i := 5) nd rfl (Or.inl rfl)) (fun _ _ _ _ _ => pts_one (pt_cmpR op_in_seq (pv 5) (pe_lst (pa_cons (pv 3) (pa_cons (pv 4) pa_nil))) (by rfl))) (fun _ _ _ _ _ => pv 5)) (nomark _))
              (pss_one (ps_ret pe_bl)) pss_nil)) pss_nil)))))
      (pss_one (ps_ret pe_bl))), ?_⟩
    have okS : ∀ l : List Nat, (∀ c ∈ l, c ∈ ls) → ∀ z ∈ ones l, PyData.strOk z = true := fun l hl z hz => by
      obtain ⟨c, hc, rfl⟩ := List.mem_map.mp hz
      have := low c (hl c hc)
      have h2 : decide (c < 0x110000) = true := decide_eq_true (by omega)
      unfold PyData.strOk
      show (#[c] : Array Nat).all (fun x => decide (x < 0x110000)) = true
      simp [h2]
    -- the sorted letters
    refine ⟨.str (tx a), rfl, a, rfl, by omega, fun p1 n1 => ⟨p1, ones a, rfl, SqL.of (by rw [upd_same, ones_V]), by unfold ones; rw [List.length_map]; omega, fun y1 q1 pm1 so1 m1 => ?_⟩⟩
    refine ⟨.str (tx b), rfl, b, rfl, by omega, fun p2 n2 => ⟨p2, ones b, rfl, SqL.of (by rw [upd_same, ones_V]), by unfold ones; rw [List.length_map]; omega, fun y2 q2 pm2 so2 m2 => ?_⟩⟩
    obtain ⟨u1, rfl, pu1⟩ := ones_of pm1
    obtain ⟨u2, rfl, pu2⟩ := ones_of pm2
    generalize e1 : upd H p1 (.lst (a.map fun c => V.str (tx [c]))) = H1 at m1 n2 m2 ⊢
    have s1 : Same H H1 := by
      rw [← e1]
      exact same_new n1
    have s2 : Same H (upd H1 q1 (.lst ((ones u1).map V.str))) := s1.trans (same_new m1)
    have s3 := s2.trans (same_new (o := .lst (b.map fun c => V.str (tx [c]))) n2)
    have s4 := s3.trans (same_new (o := .lst ((ones u2).map V.str)) m2)
    have q1at : (upd (upd (upd H1 q1 (.lst ((ones u1).map V.str))) p2 (.lst (b.map fun c => V.str (tx [c])))) q2 (.lst ((ones u2).map V.str))) q1 = some (.lst ((ones u1).map V.str)) := by
      have g1 : (upd H1 q1 (.lst ((ones u1).map V.str))) q1 = some (.lst ((ones u1).map V.str)) := upd_same
      have g2 := (same_new (o := .lst (b.map fun c => V.str (tx [c]))) n2) q1 _ g1
      exact (same_new (o := .lst ((ones u2).map V.str)) m2) q1 _ g2
    refine ⟨.list ((ones u1).map .str), .list ((ones u2).map .str), .lst (SqL.of q1at) (dp_strs _), .lst (SqL.of upd_same) (dp_strs _), shaped_strs _ (okS u1 fun c hc => ia c (pu1.mem_iff.mp hc)), shaped_strs _ (okS u2 fun c hc => ib c (pu2.mem_iff.mp hc)), _, rfl, ?_⟩
    have ev : PyData.eqv (.list ((ones u1).map .str)) (.list ((ones u2).map .str)) = decide (ones u1 = ones u2) := by
      rw [PyData.eqv]
      exact eqv_strs _ _
    rw [ev]
    by_cases eq : ones u1 = ones u2
    case neg =>
      rw [decide_eq_false eq]
      refine iteT (q false _ s4 ⟨fun z => Bool.noConfusion z, fun ex => absurd ?_ eq⟩)
      rw [sorted_one u1 u2 (ones_rising u1 so1) (ones_rising u2 so2) (pu1.trans (ex.perm.trans pu2.symm))]
    rw [decide_eq_true eq]
    have pm : a.Perm b := by
      have := ones_inj eq
      exact pu1.symm.trans (this ▸ pu2)
    generalize e4 : (upd (upd (upd H1 q1 (.lst ((ones u1).map V.str))) p2 (.lst (b.map fun c => V.str (tx [c])))) q2 (.lst ((ones u2).map V.str))) = H4 at s4 ⊢
    -- the letters of a word that are x or y
    have comp : ∀ (t : List Nat) (x y : Nat) (H1 : Hp), t.length ≤ 60 → ∀ D, H1 D = none → ∀ (σ : L2.St) (y5 : Option V), σ = [some (.ref al), some (.str (tx a)), some (.str (tx b)), some (.str (tx [x])), some (.str (tx [y])), y5] → ∀ (Qd : Hp → Prop),
        (∀ H2, Same H1 H2 → H2 D = some (.lst ((ones (keepM [x, y] t)).map V.str)) → Qd H2) → _ := fun t x y H1 st D nD σ y5 eσ Qd hq =>
      lc_text (l := t) (g := gName 5) (tt := tTest (tOp (rIn K false) (tVar 5) (tLst (tCons (tVar 3) (tCons (tVar 4) tNil))))) (te := tVar 5) (vs := [5]) (σ := σ) (H1 := H1) (D := D) (Qd := Qd)
        (fun i H2 => Same H1 H2 ∧ H2 D = some (.lst ((ones (keepM [x, y] (t.take i))).map V.str)))
        ⟨same_new nD, upd_same⟩ (fun i d H2 hd hV => by
          obtain ⟨sm, hD⟩ := hV
          subst eσ
          refine ⟨rfl, .str (tx [d]), rfl, .str (tx [x]), rfl, .str (tx [y]), rfl, by show 2 ≤ sizeLine; decide, fun r nr => ⟨r, txs [[x], [y]], rfl, .inl (SqL.of upd_same), rfl, txs_flat _, _, rfl, ?_⟩⟩
          have smr : Same H1 (upd H2 r (.lst [.str (tx [x]), .str (tx [y])])) := sm.trans (same_new nr)
          have hDr : (upd H2 r (.lst [.str (tx [x]), .str (tx [y])])) D = some (.lst ((ones (keepM [x, y] (t.take i))).map V.str)) := same_new nr D _ hD
          have mem : inV (.str (tx [d])) (txs [[x], [y]]) = decide (d ∈ [x, y]) := by
            rw [inV_txs, Bool.eq_iff_iff, decide_eq_true_eq, decide_eq_true_eq]
            simp
          show if inV (.str (tx [d])) (txs [[x], [y]]) = true then _ else _
          rw [mem, take_next hd, keepM_append]
          by_cases e : d ∈ [x, y]
          · rw [decide_eq_true e, keepM_cons_in e]
            refine iteT ⟨.str (tx [d]), rfl, _, hDr, ?_, fun z o ez => ?_, ?_⟩
            · unfold ones keepM
              rw [List.length_map, List.length_map]
              have := List.length_filter_le (fun c => decide (c ∈ [x, y])) (t.take i)
              rw [List.length_take] at this
              exact Nat.lt_of_le_of_lt (show _ ≤ 60 by omega) (by decide)
            · rw [upd_ne (ne_of_none ez nD)]
              exact smr z o ez
            · rw [upd_same]
              unfold ones
              rw [List.map_append, List.map_append]
              rfl
          · rw [decide_eq_false e, keepM_cons_out e]
            refine iteF ⟨smr, ?_⟩
            show _ = some (HO.lst ((ones (keepM [x, y] (t.take i) ++ [])).map V.str))
            rw [List.append_nil]
            exact hDr) (fun H2 hV => by
          obtain ⟨sm, hD⟩ := hV
          rw [List.take_length] at hD
          exact hq H2 sm hD)
    obtain ⟨pt1, g1, _⟩ := hA.same s4
    refine ⟨.ref al, rfl, al, _, 1, .str (tx ls), rfl, rfl, g1, atI_nat (j := 1) rfl, tx ls, rfl, for_text (fun i σ H' => ∃ y3 y4 y5, σ = [some (.ref al), some (.str (tx a)), some (.str (tx b)), y3, y4, y5] ∧ Same H H' ∧ ∀ u ∈ ls.take i, ∀ v ∈ ls, ind ps u v = false → keepM [u, v] a = keepM [u, v] b)
      ⟨none, none, none, rfl, s4, fun c hc => by simp at hc⟩ (fun i x σ H5 hx hW => ?_) (fun σ H5 hW => ?_)⟩
    · obtain ⟨y3, y4, y5, rfl, s5, before⟩ := hW
      obtain ⟨pt2, g2, _⟩ := hA.same s5
      refine ⟨.ref al, rfl, al, _, 1, .str (tx ls), rfl, rfl, g2, atI_nat (j := 1) rfl, tx ls, rfl, for_text (fun j σ H' => ∃ y4 y5, σ = [some (.ref al), some (.str (tx a)), some (.str (tx b)), some (.str (tx [x])), y4, y5] ∧ Same H H' ∧ ∀ v ∈ ls.take j, ind ps x v = false → keepM [x, v] a = keepM [x, v] b)
        ⟨y4, y5, rfl, s5, fun c hc => by simp at hc⟩ (fun j y σ H6 hy hV => ?_) (fun σ H6 hV => ?_)⟩
      · obtain ⟨y4, y5, rfl, s6, before2⟩ := hV
        refine ⟨.ref al, rfl, .str (tx [x]), rfl, .str (tx [y]), rfl, al, x, y, ls, ps, rfl, hA.same s6, pr, _, rfl, ?_⟩
        have go : ∀ H7 y5, Same H H7 → (ind ps x y = false → keepM [x, y] a = keepM [x, y] b) → ∃ y4 y5', [some (V.ref al), some (.str (tx a)), some (.str (tx b)), some (.str (tx [x])), some (.str (tx [y])), y5] = [some (.ref al), some (.str (tx a)), some (.str (tx b)), some (.str (tx [x])), y4, y5'] ∧ Same H H7 ∧
            ∀ v ∈ ls.take (j + 1), ind ps x v = false → keepM [x, v] a = keepM [x, v] b := fun H7 y5 s7 new => by
          refine ⟨_, _, rfl, s7, fun v hv hi => ?_⟩
          rw [take_next hy] at hv
          rcases List.mem_append.mp hv with hv | hv
          · exact before2 v hv hi
          · rw [List.mem_singleton.mp hv] at hi ⊢
            exact new hi
        cases fr : ind ps x y with
        | true => exact iteF (go H6 y5 s6 fun z => by rw [fr] at z; cases z)
        | false =>
          refine iteT ⟨.str (tx a), rfl, tx a, rfl, fun D1 nD1 => comp a x y H6 la D1 nD1 _ y5 rfl _ fun H7 sm7 hD1 => ?_⟩
          refine ⟨.str (tx b), rfl, tx b, rfl, fun D2 nD2 => comp b x y H7 lb D2 nD2 _ y5 rfl _ fun H8 sm8 hD2 => ?_⟩
          have s8 := s6.trans (sm7.trans sm8)
          have keepOk : ∀ t : List Nat, (∀ c ∈ t, c ∈ ls) → ∀ c ∈ keepM [x, y] t, c ∈ ls := fun t ht c hc => ht c (List.mem_filter.mp hc).1
          refine ⟨.list ((ones (keepM [x, y] a)).map .str), .list ((ones (keepM [x, y] b)).map .str), .lst (SqL.of (sm8 _ _ hD1)) (dp_strs _), .lst (SqL.of hD2) (dp_strs _), shaped_strs _ (okS _ (keepOk a ia)), shaped_strs _ (okS _ (keepOk b ib)), _, rfl, ?_⟩
          have ev : PyData.eqv (.list ((ones (keepM [x, y] a)).map .str)) (.list ((ones (keepM [x, y] b)).map .str)) = decide (ones (keepM [x, y] a) = ones (keepM [x, y] b)) := by
            rw [PyData.eqv]
            exact eqv_strs _ _
          rw [ev]
          by_cases eq : ones (keepM [x, y] a) = ones (keepM [x, y] b)
          · rw [decide_eq_true eq]
            exact iteF (go H8 y5 s8 fun _ => ones_inj eq)
          · rw [decide_eq_false eq]
            refine iteT (q false _ s8 ⟨fun z => Bool.noConfusion z, fun ex => absurd ?_ eq⟩)
            rw [ex.keeps pr fr]
      · obtain ⟨y4, y5, rfl, s6, before2⟩ := hV
        rw [List.take_length] at before2
        refine ⟨_, _, _, rfl, s6, fun u hu v hv hi => ?_⟩
        rw [take_next hx] at hu
        rcases List.mem_append.mp hu with hu | hu
        · exact before u hu v hv hi
        · rw [List.mem_singleton.mp hu] at hi ⊢
          exact before2 v hv hi
    · obtain ⟨y3, y4, y5, rfl, s5, before⟩ := hW
      rw [List.take_length] at before
      exact q true _ s5 ⟨fun _ => alike_of_keeps b a ia ib pm fun u v hu hv _ hi => before u hu v hv hi, fun _ => rfl⟩
end
end Tc
/-! _law_done. -/
namespace Tc
open PySem PySem.Spec PyProof.Rows L2 TcG
/-- the number of the first that is not possible, as a value -/
def numV : Option Nat → V
  | none => .non
  | some k => .int (k : Int)
section
variable {P : Program} {w : World} {K : PySem.W.Frag} {mg : Str → Option Value} {base : Heap}
def sp_done (K : PySem.W.Frag) : Sp := fun vs H Q _ => ∃ (al pl : Addr) (a ls : List Nat) (ps : List (List Nat)) (zs : List Int), vs = [.ref al, .str (tx a), .ref pl] ∧ Alpha K H al ls ps ∧ Pairs ls ps ∧ SqT K H pl (zs.map V.int) ∧ a.length ≤ 100 ∧ zs.length ≤ 20000 ∧
  ∀ (p : Addr) (H' : Hp), Same H H' → H p = none → H' p = some (.lst [.str (tx (runEx ps a zs 0).1), numV (runEx ps a zs 0).2]) → Q (.ref p) H'
theorem ok_done {f fF : Addr} {fd fdF : FuncData} (F : Fun K "_law_done" "_law_done" s_law_done f fd) (FF : Fun K "_law_free" "_law_free" s_law_free fF fdF) (gF : mg "_law_free" = some (.ref fF))
    (ml : mg "len" = none) (mr : mg "range" = none) : FnOk P w K mg base CX0 2 f fd ["alphabet", "word", "places"] (sp_done K) := by
  have GF : FnOk P w K mg base CX0 1 fF fdF ["alphabet", "x", "y"] (sp_free K) := ok_free FF
  have bF : Binds K fdF ["alphabet", "x", "y"] [] := FF.binds fun _ _ _ _ _ _ us hl => match us, hl with | [_, _, _], _ => rfl
  refine F.ok sc_law_done (fun vs H Q E h => ?_) (fun cdv A outer s H vs Q E hr h => ?_)
  · obtain ⟨al, pl, a, ls, ps, zs, rfl, _⟩ := h
    rfl
  · obtain ⟨al, pl, a, ls, ps, zs, rfl, hA, pr, hZ, la, lz, q⟩ := h
    have nd := sc_law_done.nd
    refine ⟨_, pss_cons (ps_for PassesOwn.never rfl (pi_range1 (by rfl) mr (pa_cons (pe_callB call_len_seq (by rfl) ml PySem.boot_len (pa_cons (pv 2) pa_nil)) pa_nil)) (pg_name (i := 3) nd rfl (.inl rfl))
        (pss_cons (ps_set (i := 4) nd rfl (.inl rfl) (pe_ix ix_tup (pv 2) (pv 3) (fun _ _ => rfl)))
        (pss_cons (ps_if (PW.pt (pw_or (pt_not (pt_chain op_le op_lt pe_int (pv 4) (pe_op op_sub (pe_callB call_len_str (by rfl) ml PySem.boot_len (pa_cons (pv 1) pa_nil)) pe_int)))
            (pw_or1 (pt_not (pt_val (pe_call GF hr (by rfl) gF FF.kp bF .nil pass0 (pa_cons (pv 0) (pa_cons (pe_ix ix_str (pv 1) (pv 4) (fun _ _ => rfl)) (pa_cons (pe_ix ix_str (pv 1) (pe_op op_add (pv 4) pe_int) (fun _ _ => rfl)) pa_nil)))))))))
          (pss_one (ps_ret (pe_lst (pa_cons (pv 1) (pa_cons (pv 3) pa_nil))))) pss_nil)
        (pss_one (ps_set (i := 1) nd rfl (.inl rfl) (pe_op op_add_str (pe_op op_add_str (pe_op op_add_str (pe_slice sl_str (pv 1) po_none (po_some (pv 4))) (pe_ix ix_str (pv 1) (pe_op op_add (pv 4) pe_int) (fun _ _ => rfl)))
          (pe_ix ix_str (pv 1) (pv 4) (fun _ _ => rfl))) (pe_slice sl_str (pv 1) (po_some (pe_op op_add (pv 4) pe_int)) po_none)))))))
      (pss_one (ps_ret (pe_lst (pa_cons (pv 1) (pa_cons pe_non pa_nil))))), ?_⟩
    have len : (zs.map V.int).length = zs.length := List.length_map _
    refine ⟨.ref pl, rfl, pl, _, rfl, .inr hZ, ((zs.map V.int).length : Int), rfl, by omega, by omega, ?_⟩
    have en : (((zs.map V.int).length : Int)).toNat = zs.length := by omega
    rw [en]
    refine for_range (lo := 0) (n := zs.length) (fun i σ H' => ∃ (a' : List Nat) (y3 y4 : Option V), σ = [some (.ref al), some (.str (tx a')), some (.ref pl), y3, y4] ∧ a'.length ≤ 100 ∧ runEx ps a zs 0 = runEx ps a' (zs.drop i) i ∧ Same H H')
      ⟨a, none, none, rfl, la, rfl, Same.refl _⟩ (fun i σ H1 hi hW => ?_) (fun σ H1 hW => ?_)
    · obtain ⟨a', y3, y4, rfl, la', er, sm⟩ := hW
      have hz : zs[i]? = some zs[i] := List.getElem?_eq_getElem hi
      have hzV : (zs.map V.int)[i]? = some (.int zs[i]) := by
        rw [List.getElem?_map, hz]
        rfl
      have ed : zs.drop i = zs[i] :: zs.drop (i + 1) := List.drop_eq_getElem_cons hi
      rw [ed] at er
      generalize zs[i] = z at hz hzV er
      have zl : (tx a').length ≤ sizeLine := by
        rw [tx_length]
        exact small_line (by omega)
      refine ⟨.ref pl, rfl, .int (0 + (i : Int)), rfl, pl, _, 0 + (i : Int), .int z, rfl, rfl, Same.seqT sm hZ, at_eq (by omega) hzV, ?_⟩
      have stop : canAt ps a' z = false → ∀ p, H1 p = none → Q (.ref p) (upd H1 p (.lst [.str (tx a'), .int (0 + (i : Int))])) := fun can p np => by
        rw [runEx_no _ _ can] at er
        have no : H p = none := sm.free np
        refine q p _ (sm.trans (same_new np)) no ?_
        rw [upd_same, er]
        show some (HO.lst [V.str (tx a'), V.int (0 + (i : Int))]) = some (HO.lst [V.str (tx a'), V.int (i : Int)])
        rw [Int.zero_add]
      refine ⟨.int z, rfl, 0, z, rfl, rfl, _, rfl, ?_⟩
      by_cases lo : (0 : Int) ≤ z
      · rw [decide_eq_true lo]
        refine iteT ⟨.str (tx a'), rfl, tx a', rfl, zl, ((tx a').length : Int), 1, rfl, rfl, z, _, rfl, rfl, ?_⟩
        rw [tx_length]
        refine ⟨decide (z < (a'.length : Int) - 1), rfl, ?_⟩
        by_cases hi2 : z < (a'.length : Int) - 1
        · rw [decide_eq_true hi2]
          obtain ⟨j, rfl⟩ : ∃ j : Nat, z = (j : Int) := ⟨z.toNat, by omega⟩
          have h1 : j < a'.length := by omega
          have h2 : j + 1 < a'.length := by omega
          have g1 : a'[j]? = some a'[j] := List.getElem?_eq_getElem h1
          have g2 : a'[j + 1]? = some a'[j + 1] := List.getElem?_eq_getElem h2
          have a2 : atI (tx a').cps.toList ((j : Int) + 1) = some a'[j + 1] := at_eq (by omega) g2
          refine iteF ⟨.ref al, rfl, .str (tx a'), rfl, .int j, rfl, tx a', (j : Int), a'[j], rfl, rfl, zl, atI_nat g1, .str (tx a'), rfl, .int j, rfl, (j : Int), 1, rfl, rfl, tx a', (j : Int) + 1, a'[j + 1], rfl, rfl, zl, a2, al, a'[j], a'[j + 1], ls, ps, rfl, hA.same sm, pr, _, rfl, ?_⟩
          have can := canAt_in (ps := ps) g1 g2
          cases fr : ind ps a'[j] a'[j + 1] with
          | false =>
            rw [fr] at can
            exact iteT ⟨.str (tx a'), rfl, .int (0 + (i : Int)), rfl, by show 2 ≤ sizeLine; decide, fun p np => stop can p np⟩
          | true =>
            rw [fr] at can
            rw [runEx_go _ _ can] at er
            refine iteF ⟨.str (tx a'), rfl, .int j, rfl, (j : Int), rfl, tx a', rfl, zl, .str (tx a'), rfl, .int j, rfl, (j : Int), 1, rfl, rfl, tx a', (j : Int) + 1, a'[j + 1], rfl, rfl, zl, a2, ?_⟩
            rw [cut_to]
            have t1 : (a'.take j).length ≤ 100 := by
              rw [List.length_take]
              omega
            refine ⟨tx (a'.take j), tx [a'[j + 1]], rfl, rfl, small_line (by rw [tx_length, tx_length]; simp at *; omega), .str (tx a'), rfl, .int j, rfl, tx a', (j : Int), a'[j], rfl, rfl, zl, atI_nat g1, ?_⟩
            rw [tx_append]
            refine ⟨tx (a'.take j ++ [a'[j + 1]]), tx [a'[j]], rfl, rfl, small_line (by rw [tx_length, tx_length]; simp at *; omega), .str (tx a'), rfl, .int j, rfl, (j : Int), 2, rfl, rfl, ((j + 2 : Nat) : Int), rfl, tx a', rfl, zl, ?_⟩
            rw [tx_append, cut_from]
            have t2 : (a'.drop (j + 2)).length ≤ 100 := by
              rw [List.length_drop]
              omega
            refine ⟨tx (a'.take j ++ [a'[j + 1]] ++ [a'[j]]), tx (a'.drop (j + 2)), rfl, rfl, small_line (by rw [tx_length, tx_length]; simp at *; omega), ?_⟩
            rw [tx_append, ← swapAt_eq g1 g2]
            exact ⟨swapAt a' j, _, _, rfl, by rw [swapAt_len h2]; exact la', er, sm⟩
        · rw [decide_eq_false hi2]
          exact iteT (iteT ⟨.str (tx a'), rfl, .int (0 + (i : Int)), rfl, by show 2 ≤ sizeLine; decide, fun p np => stop (canAt_out fun y => hi2 y.2) p np⟩)
      · rw [decide_eq_false lo]
        exact iteF ⟨false, rfl, iteT (iteT ⟨.str (tx a'), rfl, .int (0 + (i : Int)), rfl, by show 2 ≤ sizeLine; decide, fun p np => stop (canAt_out fun y => lo y.1) p np⟩)⟩
    · obtain ⟨a', y3, y4, rfl, la', er, sm⟩ := hW
      rw [List.drop_length] at er
      refine ⟨.str (tx a'), rfl, by show 2 ≤ sizeLine; decide, fun p np => ?_⟩
      refine q p _ (sm.trans (same_new np)) (sm.free np) ?_
      rw [upd_same, er]
      rfl
end
end Tc
/-! _law_inverted. -/
namespace Tc
open PySem PySem.Spec PyProof.Rows L2 TcG
def idxs (b : List Nat) (c i : Nat) : List Nat := (List.range i).filter fun j => decide (b[j]? = some c)
theorem list_split {α : Type} {l : List α} {i : Nat} {x : α} (h : l[i]? = some x) : l = l.take i ++ x :: l.drop (i + 1) := by
  obtain ⟨lt, hx⟩ := List.getElem?_eq_some_iff.mp h
  rw [← hx, ← List.drop_eq_getElem_cons lt, List.take_append_drop]
theorem idxs_cons (x : Nat) (b : List Nat) (c : Nat) : idxs (x :: b) c (b.length + 1) = (if x = c then [0] else []) ++ (idxs b c b.length).map (· + 1) := by
  unfold idxs
  rw [List.range_succ_eq_map, List.filter_cons, List.filter_map]
  have e : ((fun j => decide ((x :: b)[j]? = some c)) ∘ Nat.succ) = fun j => decide (b[j]? = some c) := by
    funext j
    simp
  rw [e]
  by_cases h : x = c
  · rw [if_pos (by simp [h]), if_pos h]
    rfl
  · rw [if_neg (by simp [h]), if_neg h]
    rfl
theorem idxs_nth : ∀ (b : List Nat) (c n : Nat), n < b.count c → (idxs b c b.length)[n]? = some (nth b c n)
  | [], c, n, h => by simp at h
  | x :: b, c, n, h => by
    rw [List.length_cons, idxs_cons]
    by_cases e : x = c
    · subst e
      rw [if_pos rfl]
      rw [List.count_cons_self] at h
      cases n with
      | zero => rw [nth_first]; rfl
      | succ n =>
        rw [nth_hit]
        show ((idxs b x b.length).map (· + 1))[n]? = _
        rw [List.getElem?_map, idxs_nth b x n (by omega)]
        rfl
    · rw [if_neg e, nth_miss _ _ e, List.nil_append, List.getElem?_map, idxs_nth b c n (by rw [List.count_cons_of_ne (by simpa using e)] at h; exact h)]
      rfl
theorem idxs_next (b : List Nat) (c i : Nat) : idxs b c (i + 1) = idxs b c i ++ if b[i]? = some c then [i] else [] := by
  unfold idxs
  rw [List.range_succ, List.filter_append, List.filter_cons]
  by_cases h : b[i]? = some c
  · rw [if_pos (decide_eq_true h), if_pos h]
    rfl
  · rw [if_neg (by rw [decide_eq_false h]; exact Bool.false_ne_true), if_neg h]
    rfl
theorem idxs_len (b : List Nat) (c i : Nat) : (idxs b c i).length ≤ i := by
  unfold idxs
  have := List.length_filter_le (fun j => decide (b[j]? = some c)) (List.range i)
  rw [List.length_range] at this
  exact this
theorem spots_next (a b : List Nat) {k c : Nat} (hc : a[k]? = some c) : spots b [] (a.take (k + 1)) = spots b [] (a.take k) ++ [nth b c ((a.take k).count c)] := by
  rw [take_next hc, spots_append]
  show _ ++ [nth b c (((a.take k).reverse ++ []).count c)] = _
  rw [List.append_nil, List.count_reverse]
theorem scx_inverted : FnScope ["word", "other", "many", "spots", "k", "number", "j", "i", "x"] ["word", "other"] (defScope s_law_inverted) :=
  ⟨rfl, rfl, rfl, by decide +kernel, rfl, by decide +kernel, by decide +kernel⟩
section
variable {P : Program} {w : World} {K : PySem.W.Frag} {mg : Str → Option Value} {base : Heap}
def sp_inverted : Sp := fun vs H Q _ => ∃ (a b : List Nat), vs = [.str (tx a), .str (tx b)] ∧ a.Perm b ∧ a.length ≤ 60 ∧ ∀ H', Same H H' → Q (.int (inverts (spots b [] a) : Nat)) H'
theorem ok_inverted {f : Addr} {fd : FuncData} {k : Nat} (F : Fun K "_law_inverted" "_law_inverted" s_law_inverted f fd) (ml : mg "len" = none) (mr : mg "range" = none) : FnOk P w K mg base CX0 (k + 1) f fd ["word", "other"] sp_inverted := by
  refine F.ok scx_inverted (fun vs H Q E h => ?_) (fun cdv A outer s H vs Q E hr h => ?_)
  · obtain ⟨a, b, rfl, _⟩ := h
    rfl
  · obtain ⟨a, b, rfl, pm, la, q⟩ := h
    have nd := scx_inverted.nd
    have lb : b.length ≤ 60 := by rw [← pm.length_eq]; exact la
    refine ⟨_, pss_cons (ps_set (i := 2) nd rfl (.inl rfl) pe_int)
      (pss_cons (ps_set (i := 3) nd rfl (.inl rfl) (pe_lst pa_nil))
      (pss_cons (ps_for PassesOwn.never rfl (pi_range1 (by rfl) mr (pa_cons (pe_callB call_len_str (by rfl) ml PySem.boot_len (pa_cons (pv 0) pa_nil)) pa_nil)) (pg_name (i := 4) nd rfl (.inr rfl))
        (pss_cons (ps_set (i := 5) nd rfl (.inl rfl) (pe_callB call_len_seq (by rfl) ml PySem.boot_len (pa_cons (pe_lc (own := [("x", 8)]) (g := gName 8) (tt := tTest (tOp rEq (tVar 8) (tOp rIxS (tVar 0) (tVar 4)))) (te := tVar 8) rfl nd (pi_str (pe_slice sl_str (pv 0) po_none (po_some (pv 4))))
            (blkOk_by (own := [("x", 8)]) (N := ["word", "other", "many", "spots", "k", "number", "j", "i", "x"]) (sc := defScope s_law_inverted) (by decide +kernel))
            (fun _ _ _ _ _ => pg_name (i := 8) nd rfl (Or.inl rfl)) (fun _ _ _ _ _ => pts_one (pt_cmpR op_eq (pv 8) (pe_ix ix_str (pv 0) (pv 4) (fun _ _ => rfl)) (nomark _))) (fun _ _ _ _ _ => pv 8)) pa_nil)))
        (pss_one (ps_expr (pe_bm PySem.F.plainAttrs_list PySem.F.slot_list_append PySem.F.type_list_append mt_append (pv 3) (pa_cons (pe_ix ix_list
          (pe_lc (own := [("j", 6)]) (g := gName 6) (tt := tTest (tOp rEq (tOp rIxS (tVar 1) (tVar 6)) (tOp rIxS (tVar 0) (tVar 4)))) (te := tVar 6) rfl nd (pi_range1 (by rfl) mr (pa_cons (pe_callB call_len_str (by rfl) ml PySem.boot_len (pa_cons (pv 1) pa_nil)) pa_nil))
            (blkOk_by (own := [("j", 6)]) (N := ["word", "other", "many", "spots", "k", "number", "j", "i", "x"]) (sc := defScope s_law_inverted) (by decide +kernel))
            (fun _ _ _ _ _ => pg_name (i := 6) nd rfl (Or.inl rfl)) (fun _ _ _ _ _ => pts_one (pt_cmpR op_eq (pe_ix ix_str (pv 1) (pv 6) (fun _ _ => rfl)) (pe_ix ix_str (pv 0) (pv 4) (fun _ _ => rfl)) (nomark _))) (fun _ _ _ _ _ => pv 6))
          (pv 5) (fun _ _ => rfl)) pa_nil))))))
      (pss_cons (ps_for PassesOwn.never rfl (pi_range1 (by rfl) mr (pa_cons (pe_callB call_len_seq (by rfl) ml PySem.boot_len (pa_cons (pv 3) pa_nil)) pa_nil)) (pg_name (i := 7) nd rfl (.inl rfl))
        (pss_one (ps_for PassesOwn.never rfl (pi_range2 (by rfl) mr (pa_cons (pe_op op_add (pv 7) pe_int) (pa_cons (pe_callB call_len_seq (by rfl) ml PySem.boot_len (pa_cons (pv 3) pa_nil)) pa_nil))) (pg_name (i := 6) nd rfl (.inl rfl))
          (pss_one (ps_if (pt_cmpR op_gt (pe_ix ix_list (pv 3) (pv 7) (fun _ _ => rfl)) (pe_ix ix_list (pv 3) (pv 6) (fun _ _ => rfl)) (nomark _)) (pss_one (ps_set (i := 2) nd rfl (.inl rfl) (pe_op op_add (pv 2) pe_int))) pss_nil)))))
      (pss_one (ps_ret (pv 2)))))), ?_⟩
    have zla : (tx a).length ≤ sizeLine := by
      rw [tx_length]
      exact small_line (by omega)
    have zlb : (tx b).length ≤ sizeLine := by
      rw [tx_length]
      exact small_line (by omega)
    have lena : (tx a).length = a.length := tx_length a
    have lenb : (tx b).length = b.length := tx_length b
    refine ⟨by show 0 ≤ sizeLine; decide, fun r nr => ?_⟩
    refine ⟨.str (tx a), rfl, tx a, rfl, zla, ((tx a).length : Int), rfl, by omega, by omega, ?_⟩
    have en : (((tx a).length : Int)).toNat = a.length := by omega
    rw [en]
    refine for_range (lo := 0) (n := a.length) (fun i σ H' => ∃ y4 y5 y6 y7 y8, σ = [some (.str (tx a)), some (.str (tx b)), some (.int 0), some (.ref r), y4, y5, y6, y7, y8] ∧ Same H H' ∧ H' r = some (.lst (numsV (spots b [] (a.take i)))))
      ⟨none, none, none, none, none, rfl, same_new nr, upd_same⟩ (fun i σ H1 hi hW => ?_) (fun σ H1 hW => ?_)
    · obtain ⟨y4, y5, y6, y7, y8, rfl, sm1, hr1⟩ := hW
      have hc : a[i]? = some a[i] := List.getElem?_eq_getElem hi
      obtain ⟨c, hc⟩ : ∃ c, a[i]? = some c := ⟨_, hc⟩
      have less : (a.take i).count c < b.count c := by
        rw [← pm.count_eq]
        have e := congrArg (List.count c) (list_split hc)
        rw [List.count_append, List.count_cons_self] at e
        omega
      rw [Int.zero_add]
      refine ⟨.str (tx a), rfl, .int (i : Int), rfl, (i : Int), rfl, tx a, rfl, zla, ?_⟩
      rw [cut_to]
      refine ⟨tx (a.take i), rfl, fun D nD => lc_text (l := a.take i) (fun j H' => Same H1 H' ∧ H' D = some (.lst ((ones (((a.take i).take j).filter fun y => decide (y = c))).map V.str))) ⟨same_new nD, upd_same⟩ (fun j d H2 hd hV => ?_) (fun H2 hV => ?_)⟩
      · obtain ⟨sm2, hD⟩ := hV
        refine ⟨rfl, .str (tx [d]), rfl, .str (tx a), rfl, .int (i : Int), rfl, tx a, (i : Int), c, rfl, rfl, zla, atI_nat hc, rfl, _, rfl, ?_⟩
        show if decide (V.str (tx [d]) = V.str (tx [c])) = true then _ else _
        rw [tx_eq, take_next hd, List.filter_append]
        by_cases e : d = c
        · rw [decide_eq_true (show [d] = [c] by rw [e])]
          refine iteT ⟨.str (tx [d]), rfl, _, hD, ?_, fun z o ez => ?_, ?_⟩
          · unfold ones
            rw [List.length_map, List.length_map]
            have h1 := List.length_filter_le (fun y => decide (y = c)) ((a.take i).take j)
            rw [List.length_take, List.length_take] at h1
            exact Nat.lt_of_le_of_lt (show _ ≤ 60 by omega) (by decide)
          · rw [upd_ne (ne_of_none ez nD)]
            exact sm2 z o ez
          · rw [upd_same, List.filter_cons, if_pos (decide_eq_true e)]
            unfold ones
            rw [List.map_append, List.map_append]
            rfl
        · rw [decide_eq_false (show ¬ [d] = [c] from fun z => e (List.cons.inj z).1)]
          refine iteF ⟨sm2, ?_⟩
          rw [List.filter_cons, if_neg (by rw [decide_eq_false e]; exact Bool.false_ne_true), List.filter_nil, List.append_nil]
          exact hD
      obtain ⟨sm2, hD⟩ := hV
      have li : (a.take i).length = (a.take i).length := rfl
      rw [List.take_length] at hD
      refine ⟨D, _, rfl, .inl (SqL.of hD), ?_⟩
      have cnt : ((ones ((a.take i).filter fun y => decide (y = c))).map V.str).length = (a.take i).count c := by
        unfold ones
        rw [List.length_map, List.length_map, List.count_eq_length_filter]
        congr 1
      rw [cnt]
      have hr2 := sm2 _ _ hr1
      refine ⟨.ref r, rfl, .inl ⟨rfl, _, SqL.of hr2⟩, .str (tx b), rfl, tx b, rfl, zlb, ((tx b).length : Int), rfl, by omega, by omega, ?_⟩
      have enb : (((tx b).length : Int)).toNat = b.length := by omega
      rw [enb]
      refine fun D2 nD2 => lc_range (lo := 0) (n := b.length) (fun j H' => Same H2 H' ∧ H' D2 = some (.lst (numsV (idxs b c j)))) ⟨same_new nD2, upd_same⟩ (fun j H3 hj hV => ?_) (fun H3 hV => ?_)
      · obtain ⟨sm3, hD2⟩ := hV
        have hbj : b[j]? = some b[j] := List.getElem?_eq_getElem hj
        refine ⟨rfl, .str (tx b), rfl, .int (0 + (j : Int)), rfl, tx b, 0 + (j : Int), b[j], rfl, rfl, zlb, at_eq (by omega) hbj, .str (tx a), rfl, .int (i : Int), rfl, tx a, (i : Int), c, rfl, rfl, zla, atI_nat hc, rfl, _, rfl, ?_⟩
        show if decide (V.str (tx [b[j]]) = V.str (tx [c])) = true then _ else _
        rw [tx_eq, idxs_next]
        by_cases e : b[j] = c
        · have ex : (if b[j]? = some c then [j] else []) = [j] := if_pos (by rw [hbj, e])
          rw [decide_eq_true (show [b[j]] = [c] by rw [e]), ex]
          refine iteT ⟨.int (0 + (j : Int)), rfl, _, hD2, ?_, fun z o ez => ?_, ?_⟩
          · unfold numsV
            rw [List.length_map]
            have := idxs_len b c j
            exact Nat.lt_of_le_of_lt (show _ ≤ 60 by omega) (by decide)
          · rw [upd_ne (ne_of_none ez nD2)]
            exact sm3 z o ez
          · rw [upd_same, Int.zero_add]
            unfold numsV
            rw [List.map_append]
            rfl
        · have ex : (if b[j]? = some c then [j] else []) = [] := if_neg (by rw [hbj]; exact fun z => e (Option.some.inj z))
          rw [decide_eq_false (show ¬ [b[j]] = [c] from fun z => e (List.cons.inj z).1), ex, List.append_nil]
          exact iteF ⟨sm3, hD2⟩
      obtain ⟨sm3, hD2⟩ := hV
      have at2 : (numsV (idxs b c b.length))[(a.take i).count c]? = some (.int ((nth b c ((a.take i).count c) : Nat) : Int)) := by
        unfold numsV
        rw [List.getElem?_map, idxs_nth b c _ less]
        rfl
      have hr3 := sm3 _ _ hr2
      refine ⟨.int (((a.take i).count c : Nat) : Int), rfl, D2, _, _, .int ((nth b c ((a.take i).count c) : Nat) : Int), rfl, rfl, SqL.of hD2, atI_nat at2, r, _, _, rfl, rfl, hr3, ?_, ?_⟩
      · unfold numsV
        rw [List.length_map, spots_len, List.length_take]
        exact Nat.lt_of_le_of_lt (show _ ≤ 60 by omega) (by decide)
      · refine ⟨_, _, _, _, _, rfl, fun z o ez => ?_, ?_⟩
        · rw [upd_ne (ne_of_none ez nr)]
          exact sm3 _ _ (sm2 _ _ (sm1 z o ez))
        · rw [upd_same, spots_next a b hc]
          unfold numsV
          rw [List.map_append]
          rfl
    · obtain ⟨y4, y5, y6, y7, y8, rfl, sm1, hr1⟩ := hW
      rw [List.take_length] at hr1
      have lenL : (spots b [] a).length ≤ 60 := by
        rw [spots_len]
        exact la
      generalize eL : spots b [] a = L at hr1 lenL q
      have lenV : (numsV L).length = L.length := List.length_map _
      have get : ∀ j (h : j < L.length), (numsV L)[j]? = some (.int ((L[j] : Nat) : Int)) := fun j h => by
        unfold numsV
        rw [List.getElem?_map, List.getElem?_eq_getElem h]
        rfl
      refine ⟨.ref r, rfl, r, _, rfl, .inl (SqL.of hr1), ((numsV L).length : Int), rfl, by omega, by omega, ?_⟩
      have en2 : (((numsV L).length : Int)).toNat = L.length := by omega
      rw [en2]
      refine for_range (lo := 0) (n := L.length) (fun i σ H' => ∃ (m : Nat) (y4 y5 y6 y7 y8 : Option V), σ = [some (.str (tx a)), some (.str (tx b)), some (.int (m : Int)), some (.ref r), y4, y5, y6, y7, y8] ∧ m + inverts (L.drop i) = inverts L ∧ H' = H1)
        ⟨0, y4, y5, y6, y7, y8, rfl, by rw [List.drop_zero, Nat.zero_add], rfl⟩ (fun i σ H2 hi hW => ?_) (fun σ H2 hW => ?_)
      · obtain ⟨m, y4, y5, y6, y7, y8, rfl, em, rfl⟩ := hW
        refine ⟨.int (0 + (i : Int)), rfl, _, 1, rfl, rfl, .ref r, rfl, r, _, rfl, .inl (SqL.of hr1), 0 + (i : Int) + 1, ((numsV L).length : Int), rfl, by omega, ?_⟩
        have en3 : (((numsV L).length : Int) - (0 + (i : Int) + 1)).toNat = L.length - (i + 1) := by omega
        rw [en3]
        have ed : L.drop i = L[i] :: L.drop (i + 1) := List.drop_eq_getElem_cons hi
        rw [ed] at em
        have em : m + (((L.drop (i + 1)).filter fun y => decide (y < L[i])).length + inverts (L.drop (i + 1))) = inverts L := em
        refine for_range (lo := 0 + (i : Int) + 1) (n := L.length - (i + 1)) (fun t σ H' => ∃ (y6 : Option V), σ = [some (.str (tx a)), some (.str (tx b)), some (.int ((m + (((L.drop (i + 1)).take t).filter fun y => decide (y < L[i])).length : Nat) : Int)), some (.ref r), y4, y5, y6, some (.int (0 + (i : Int))), y8] ∧ H' = H2)
          ⟨y6, rfl, rfl⟩ (fun t σ H3 ht hV => ?_) (fun σ H3 hV => ?_)
        · obtain ⟨y6, rfl, rfl⟩ := hV
          have ht2 : i + 1 + t < L.length := by omega
          have hd : (L.drop (i + 1))[t]? = some L[i + 1 + t] := by
            rw [List.getElem?_drop]
            exact List.getElem?_eq_getElem ht2
          refine ⟨.ref r, rfl, .int (0 + (i : Int)), rfl, r, _, 0 + (i : Int), _, rfl, rfl, SqL.of hr1, at_eq (by omega) (get i hi), .ref r, rfl, .int (0 + (i : Int) + 1 + (t : Nat)), rfl, r, _, 0 + (i : Int) + 1 + (t : Nat), _, rfl, rfl, SqL.of hr1, at_eq (by omega) (get (i + 1 + t) ht2), _, _, rfl, rfl, _, rfl, ?_⟩
          rw [take_next hd, List.filter_append, List.filter_cons, List.filter_nil]
          by_cases lt : L[i + 1 + t] < L[i]
          · rw [if_pos (decide_eq_true lt), decide_eq_true (show ((L[i + 1 + t] : Nat) : Int) < ((L[i] : Nat) : Int) by omega)]
            refine iteT ⟨.int _, rfl, _, 1, rfl, rfl, some (.int (0 + (i : Int) + 1 + (t : Nat))), ?_, rfl⟩
            rw [List.length_append, List.length_singleton]
            rfl
          · rw [if_neg (by rw [decide_eq_false lt]; exact Bool.false_ne_true), decide_eq_false (show ¬ ((L[i + 1 + t] : Nat) : Int) < ((L[i] : Nat) : Int) by omega), List.append_nil]
            exact iteF ⟨some (.int (0 + (i : Int) + 1 + (t : Nat))), rfl, rfl⟩
        · obtain ⟨y6, rfl, rfl⟩ := hV
          rw [List.take_of_length_le (by rw [List.length_drop]; omega)]
          exact ⟨_, y4, y5, y6, _, y8, rfl, by omega, rfl⟩
      · obtain ⟨m, y4, y5, y6, y7, y8, rfl, em, rfl⟩ := hW
        rw [List.drop_length] at em
        have em : m = inverts L := em
        refine ⟨_, rfl, ?_⟩
        rw [em]
        exact q _ sm1
end
end Tc
/-! _law_same, called while an error is handled. -/
namespace Tc
open PySem PySem.Spec PyProof.Rows L2 TcG
section
variable {P : Program} {w : World} {K : PySem.W.Frag} {mg : Str → Option Value} {base : Heap}
def sp_sameI : Sp := fun vs H Q _ => ∃ i : Int, vs = [.int i, .int i] ∧ Q (.bl true) H
theorem ok_sameH {f : Addr} {fd : FuncData} (F : Fun K "_law_same" "_law_same" s_law_same f fd) (M : SameM mg) : L2H.FnH P w K mg base CX0 1 f fd ["actual", "expected"] sp_sameI := by
  refine fun_hot F sc_law_same (fun vs H Q E h => ?_) (fun cdv A outer s H vs Q E p hot hr h => ?_)
  · obtain ⟨i, rfl, _⟩ := h
    rfl
  · obtain ⟨i, rfl, q⟩ := h
    refine ⟨_, pss_cons (ps_if (pt_val (pe_isi (T := "tuple") M.isi (by rfl) (by rfl) M.tup (by decide +kernel) (pv 1))) pss_never pss_nil)
      (pss_cons (ps_if (pt_cmpR op_isN (pv 1) pe_non (nomark _)) pss_never pss_nil)
      (pss_cons (ps_if (pt_val (pe_isi (T := "bool") M.isi (by rfl) (by rfl) M.bool (by decide +kernel) (pv 1))) pss_never pss_nil)
      (pss_cons (ps_if (pt_val (pe_isi (T := "int") M.isi (by rfl) (by rfl) M.int (by decide +kernel) (pv 1))) (pss_one (ps_ret (pe_and (pe_isi (T := "int") M.isi (by rfl) (by rfl) M.int (by decide +kernel) (pv 0))
          (pe_and (pe_not (pe_isi (T := "bool") M.isi (by rfl) (by rfl) M.bool (by decide +kernel) (pv 0))) (pe_one (pe_cmpR op_eq (pv 0) (pv 1) (nomark _))))))) pss_nil)
      pss_never))), ?_⟩
    refine ⟨.int i, rfl, .int i, .ty "tuple", .type "int", _, false, rfl, .ty _, .base (.int i), kitF, false, rfl, iteF ⟨.int i, rfl, rfl, false, rfl, iteF ⟨.int i, rfl, .int i, .ty "bool", .type "int", _, false, rfl, .ty _, .base (.int i), kitF, false, rfl, iteF
      ⟨.int i, rfl, .int i, .ty "int", .type "int", _, true, rfl, .ty _, .base (.int i), kitT, true, rfl, iteT ⟨.int i, rfl, .int i, .ty "int", .type "int", _, true, rfl, .ty _, .base (.int i), kitT, true, rfl, iteT
        ⟨.int i, rfl, .int i, .ty "bool", .type "int", _, false, rfl, .ty _, .base (.int i), kitF, false, rfl, true, rfl, iteT ⟨.int i, rfl, .int i, rfl, rfl, ?_⟩⟩⟩⟩⟩⟩⟩
    rw [decide_eq_true rfl]
    exact q
end
end Tc
/-! The law. -/
namespace Tc
open PySem PySem.Spec PyProof.Rows L2 TcG
theorem scx_law : FnScope ["script", "box", "turn", "alphabet", "word", "other", "found", "many", "places", "due", "e", "k"] ["script"] (defScope s_law) :=
  ⟨rfl, rfl, rfl, by decide +kernel, rfl, by decide +kernel, by decide +kernel⟩
/-- what exchanges tells -/
def Found (K : PySem.W.Frag) (H : Hp) (ps : List (List Nat)) (a o : List Nat) (v : V) : Prop := (¬ Exs ps a o ∧ v = .non) ∨ (Exs ps a o ∧ ∃ p, v = .ref p ∧ SqT K H p (numsV (exL 0 a o)))
theorem Found.same {K : PySem.W.Frag} {H H' : Hp} {ps : List (List Nat)} {a o : List Nat} {v : V} (h : Found K H ps a o v) (s : Same H H') : Found K H' ps a o v := by
  rcases h with h | ⟨e, p, ev, hp⟩
  · exact .inl h
  · exact .inr ⟨e, p, ev, Same.seqT s hp⟩
theorem Found.box {K : PySem.W.Frag} {H H' : Hp} {ps : List (List Nat)} {a o : List Nat} {v : V} {b dl : Addr} (h : Found K H ps a o v) (hB : Box K b dl H) (m : Mv [b] H H') : Found K H' ps a o v := by
  rcases h with h | ⟨e, p, ev, hp⟩
  · exact .inl h
  · exact .inr ⟨e, p, ev, hB.seqT m hp⟩
theorem Found.tab {K : PySem.W.Frag} {H H' : Hp} {ps : List (List Nat)} {a o : List Nat} {v : V} {Pt : Addr} (h : Found K H ps a o v) (t : GxR.TabG H Pt) (m : Mv [Pt] H H') : Found K H' ps a o v := by
  rcases h with h | ⟨e, p, ev, hp⟩
  · exact .inl h
  · exact .inr ⟨e, p, ev, tab_seqT t m hp⟩
theorem tab_same {H H' : Hp} {Pt : Addr} (t : GxR.TabG H Pt) (s : Same H H') : GxR.TabG H' Pt := by
  obtain ⟨rows, t1, t2⟩ := t
  exact ⟨rows, s _ _ t1, t2⟩
theorem nums_ints (l : List Nat) : numsV l = (l.map Int.ofNat).map V.int := by
  unfold numsV
  rw [List.map_map]
  rfl
theorem cut_ints (zs : List Int) (j : Nat) : cutV (zs.map V.int) none (some (j : Int)) = (zs.take j).map V.int := by
  unfold cutV
  rw [HT.sIx_none, HT.sIx_nat, List.drop_zero, Nat.sub_zero, List.length_map, ← List.map_take]
  congr 1
  by_cases h : j ≤ zs.length
  · rw [Nat.min_eq_left h]
  · rw [Nat.min_eq_right (by omega), List.take_length, List.take_of_length_le (by omega)]
theorem slice_any {K : PySem.W.Frag} {H : Hp} {p : Addr} {xs : List V} {lo hi : Option Int} {Q : VK} (h : SqT K H p xs) (q : ∀ p' H', Same H H' → SqT K H' p' (cutV xs lo hi) → Q (.ref p') H') : rSlA K (.ref p) lo hi H Q := by
  refine ⟨p, xs, rfl, h, fun w => q p H (Same.refl _) ?_, fun _ p' n => q p' _ (same_new n) (SqT.of upd_same)⟩
  have e : cutV xs lo hi = xs := by
    unfold cutV
    rw [w.1, w.2, List.drop_zero, Nat.sub_zero, List.take_length]
  rw [e]
  exact h
theorem cat_any {K : PySem.W.Frag} {H : Hp} {p1 p2 : Addr} {xs ys : List V} {Q : VK} (h1 : SqT K H p1 xs) (h2 : SqT K H p2 ys) (z : xs.length + ys.length ≤ sizeLine) (q : ∀ p' H', Same H H' → SqT K H' p' (xs ++ ys) → Q (.ref p') H') : rCatA K (.ref p1) (.ref p2) H Q := by
  refine ⟨p1, p2, xs, ys, rfl, rfl, h1, h2, z, fun e => q p2 H (Same.refl _) (by rw [e]; exact h2), fun _ e => q p1 H (Same.refl _) (by rw [e, List.append_nil]; exact h1), fun _ _ p' n => q p' _ (same_new n) (SqT.of upd_same)⟩
theorem shaped_pair {s : Str} (h : PyData.strOk s = true) : SeqAt.shaped (.list [.str s, .none]) = true := by
  unfold SeqAt.shaped
  simp [PyData.canLay0, PyData.canLayAll0, PyData.depth, PyData.depthAll, h]
theorem low_ok {l : List Nat} (h : ∀ c ∈ l, c < 1000) : PyData.strOk (tx l) = true := by
  unfold PyData.strOk tx
  rw [List.all_toArray]
  exact List.all_eq_true.mpr fun c hc => decide_eq_true (Nat.lt_trans (h c hc) (by decide))
theorem alph_low {n c : Nat} (h : n ≤ 6) (hc : c ∈ alph n) : c < 1000 := by
  have key : ∀ n ≤ 6, ∀ c ∈ alph n, c < 1000 := by decide
  exact key n h c hc
/-- where the defs of the text stand -/
structure Text (P : Program) (w : World) (K : PySem.W.Frag) (mg : Str → Option Value) (base : Heap) (Pt : Addr) where
  fCell : Addr
  dCell : FuncData
  cell : Fun K "_law_cell" "_law_cell" s_law_cell fCell dCell
  gCell : mg "_law_cell" = some (.ref fCell)
  fDigits : Addr
  dDigits : FuncData
  digits : Fun K "_law_digits" "_law_digits" s_law_digits fDigits dDigits
  gDigits : mg "_law_digits" = some (.ref fDigits)
  fBox : Addr
  dBox : FuncData
  box : Fun K "_law_box" "_law_box" s_law_box fBox dBox
  gBox : mg "_law_box" = some (.ref fBox)
  fDraw : Addr
  dDraw : FuncData
  draw : Fun K "_law_draw" "_law_draw" s_law_draw fDraw dDraw
  gDraw : mg "_law_draw" = some (.ref fDraw)
  fAlpha : Addr
  dAlpha : FuncData
  alpha : Fun K "_law_alphabet" "_law_alphabet" s_law_alphabet fAlpha dAlpha
  gAlpha : mg "_law_alphabet" = some (.ref fAlpha)
  fWord : Addr
  dWord : FuncData
  word : Fun K "_law_word" "_law_word" s_law_word fWord dWord
  gWord : mg "_law_word" = some (.ref fWord)
  fFree : Addr
  dFree : FuncData
  free : Fun K "_law_free" "_law_free" s_law_free fFree dFree
  gFree : mg "_law_free" = some (.ref fFree)
  fMixed : Addr
  dMixed : FuncData
  mixed : Fun K "_law_mixed" "_law_mixed" s_law_mixed fMixed dMixed
  gMixed : mg "_law_mixed" = some (.ref fMixed)
  fSame : Addr
  dSame : FuncData
  same : Fun K "_law_same" "_law_same" s_law_same fSame dSame
  gSame : mg "_law_same" = some (.ref fSame)
  fAlike : Addr
  dAlike : FuncData
  alike : Fun K "_law_alike" "_law_alike" s_law_alike fAlike dAlike
  gAlike : mg "_law_alike" = some (.ref fAlike)
  fInv : Addr
  dInv : FuncData
  inv : Fun K "_law_inverted" "_law_inverted" s_law_inverted fInv dInv
  gInv : mg "_law_inverted" = some (.ref fInv)
  fDone : Addr
  dDone : FuncData
  done : Fun K "_law_done" "_law_done" s_law_done fDone dDone
  gDone : mg "_law_done" = some (.ref fDone)
  fPairs : Addr
  dPairs : FuncData
  pairs : Fun K "letter_pairs" "letter_pairs" s_letter_pairs fPairs dPairs
  gPairs : mg "letter_pairs" = some (.ref fPairs)
  fInd : Addr
  dInd : FuncData
  ind : Fun K "independent" "independent" s_independent fInd dInd
  gInd : mg "independent" = some (.ref fInd)
  fTaken : Addr
  dTaken : FuncData
  cTaken : Addr
  taken : FunC K "taken_out" "taken_out" s_taken_out fTaken dTaken cTaken
  gTaken : mg "taken_out" = some (.ref fTaken)
  tTaken : GxR.TabB base mg cTaken Pt
  fParts : Addr
  dParts : FuncData
  parts : Fun K "parts" "parts" s_parts fParts dParts
  gParts : mg "parts" = some (.ref fParts)
  fSwapped : Addr
  dSwapped : FuncData
  swapped : Fun K "swapped" "swapped" s_swapped fSwapped dSwapped
  gSwapped : mg "swapped" = some (.ref fSwapped)
  fCan : Addr
  dCan : FuncData
  can : Fun K "can_exchange" "can_exchange" s_can_exchange fCan dCan
  gCan : mg "can_exchange" = some (.ref fCan)
  fExchanges : Addr
  dExchanges : FuncData
  exchanges : Fun K "exchanges" "exchanges" s_exchanges fExchanges dExchanges
  gExchanges : mg "exchanges" = some (.ref fExchanges)
  fExchanged : Addr
  dExchanged : FuncData
  exchanged : Fun K "exchanged" "exchanged" s_exchanged fExchanged dExchanged
  gExchanged : mg "exchanged" = some (.ref fExchanged)
  fDistance : Addr
  dDistance : FuncData
  distance : Fun K "distance" "distance" s_distance fDistance dDistance
  gDistance : mg "distance" = some (.ref fDistance)
  D : Addr
  fInit : Addr
  dInit : FuncData
  fault : Fault K mg D fInit
  init : FnOk P w K mg base CX0 1 fInit dInit ["self", "number"] (sp_fault D)
  bInit : Binds K dInit ["self", "number"] []
  excC : ExcC K D
  noN : PySem.W.findIn K (.ref D) "number" = some none
  te : PySem.W.exmOne K (.ref D) (.ref D) = some true
  DA : Addr
  gA : mg "AlphabetFault" = some (.ref DA)
  notA : PySem.W.kitOne K (.ref D) (.ref DA) = some false
  isV : PySem.W.kitOne K (.ref D) (.type "ValueError") = some true
  mlen : mg "len" = none
  mrange : mg "range" = none
  mint : mg "int" = none
  mmin : mg "min" = none
  mmax : mg "max" = none
  msorted : mg "sorted" = none
  mtuple : mg "tuple" = none
  mbool : mg "bool" = none
  mstr : mg "str" = none
  misi : mg "isinstance" = none
  mlist : mg "list" = none
  menum : mg "enumerate" = none
  mVE : mg "ValueError" = none
section
variable {P : Program} {w : World} {K : PySem.W.Frag} {mg : Str → Option Value} {base : Heap}
def sp_law (K : PySem.W.Frag) (Pt : Addr) : Sp := fun vs H Q _ => ∃ (a : Addr) (ns : List Int), vs = [.ref a] ∧ SqL K H a (ns.map V.int) ∧ GxR.TabG H Pt ∧ ∀ H', Q (.bl true) H'
theorem ok_law {f Pt : Addr} {fd : FuncData} (F : Fun K "law" "law" s_law f fd) (T : Text P w K mg base Pt) : FnOk P w K mg base CX0 5 f fd ["script"] (sp_law K Pt) := by
  have M : SameM mg := ⟨T.misi, T.mtuple, T.mbool, T.mint, T.mstr, T.mlen, T.mrange⟩
  have GB : FnOk P w K mg base CX0 3 T.fBox T.dBox ["script", "first", "last"] (sp_box K) := ok_box T.box T.cell T.gCell T.digits T.gDigits T.mlen T.mrange T.mint
  have bB : Binds K T.dBox ["script", "first", "last"] [] := T.box.binds fun _ _ _ _ _ _ us hl => match us, hl with | [_, _, _], _ => rfl
  have GA : FnOk P w K mg base CX0 2 T.fAlpha T.dAlpha ["box", "most"] (sp_alphabet K) := ok_alphabet T.alpha T.draw T.gDraw T.mlen T.mint T.mrange T.msorted T.mtuple
  have bA : Binds K T.dAlpha ["box", "most"] [] := T.alpha.binds fun _ _ _ _ _ _ us hl => match us, hl with | [_, _], _ => rfl
  have GW : FnOk P w K mg base CX0 2 T.fWord T.dWord ["box", "alphabet", "most"] (sp_word K) := ok_word T.word T.draw T.gDraw T.mlen T.mint T.mrange
  have bW : Binds K T.dWord ["box", "alphabet", "most"] [] := T.word.binds fun _ _ _ _ _ _ us hl => match us, hl with | [_, _, _], _ => rfl
  have GM : FnOk P w K mg base CX0 2 T.fMixed T.dMixed ["box", "alphabet", "word"] (sp_mixed K) := ok_mixed T.mixed T.draw T.gDraw T.free T.gFree T.mlen T.mint T.mrange
  have bM : Binds K T.dMixed ["box", "alphabet", "word"] [] := T.mixed.binds fun _ _ _ _ _ _ us hl => match us, hl with | [_, _, _], _ => rfl
  have GD : FnOk P w K mg base CX0 1 T.fDraw T.dDraw ["box", "many"] (sp_draw K) := ok_draw T.draw T.mlen T.mint
  have bD : Binds K T.dDraw ["box", "many"] [] := T.draw.binds fun _ _ _ _ _ _ us hl => match us, hl with | [_, _], _ => rfl
  have GP : FnOk P w K mg base CX0 2 T.fParts T.dParts ["alphabet", "word", "other"] (sp_parts K Pt) := ok_parts T.parts T.pairs T.gPairs T.ind T.gInd T.taken T.gTaken T.tTaken T.mmin T.mmax
  have GX : FnOk P w K mg base CX0 3 T.fExchanges T.dExchanges ["alphabet", "word", "other"] (sp_exchanges K Pt) := ok_exchanges T.exchanges T.parts T.gParts GP T.swapped T.gSwapped T.menum T.mrange T.mtuple
  have bX : Binds K T.dExchanges ["alphabet", "word", "other"] [] := T.exchanges.binds fun _ _ _ _ _ _ us hl => match us, hl with | [_, _, _], _ => rfl
  have GN : FnOk P w K mg base CX0 4 T.fDistance T.dDistance ["alphabet", "word", "other"] (sp_distance K Pt) := ok_distance T.distance T.exchanges T.gExchanges GX T.mlen
  have bN : Binds K T.dDistance ["alphabet", "word", "other"] [] := T.distance.binds fun _ _ _ _ _ _ us hl => match us, hl with | [_, _, _], _ => rfl
  have GL : FnOk P w K mg base CX0 2 T.fAlike T.dAlike ["alphabet", "word", "other"] (sp_alike K) := ok_alike T.alike T.free T.gFree T.msorted T.mlist
  have bL : Binds K T.dAlike ["alphabet", "word", "other"] [] := T.alike.binds fun _ _ _ _ _ _ us hl => match us, hl with | [_, _, _], _ => rfl
  have GI : FnOk P w K mg base CX0 1 T.fInv T.dInv ["word", "other"] sp_inverted := ok_inverted T.inv T.mlen T.mrange
  have bI : Binds K T.dInv ["word", "other"] [] := T.inv.binds fun _ _ _ _ _ _ us hl => match us, hl with | [_, _], _ => rfl
  have GO : FnOk P w K mg base CX0 2 T.fDone T.dDone ["alphabet", "word", "places"] (sp_done K) := ok_done T.done T.free T.gFree T.mlen T.mrange
  have bO : Binds K T.dDone ["alphabet", "word", "places"] [] := T.done.binds fun _ _ _ _ _ _ us hl => match us, hl with | [_, _, _], _ => rfl
  have GC : FnOk P w K mg base CX0 2 T.fCan T.dCan ["alphabet", "word", "place"] (sp_can K) := ok_can T.can T.ind T.gInd T.mlen T.mmin T.mmax
  have GE : FnOk P w K mg base (L2N.CX P w) 3 T.fExchanged T.dExchanged ["alphabet", "word", "places"] (sp_exchanged K T.D) := ok_exchanged T.exchanged T.can T.gCan GC T.swapped T.gSwapped T.fault T.init T.bInit T.menum
  have bE : Binds K T.dExchanged ["alphabet", "word", "places"] [] := T.exchanged.binds fun _ _ _ _ _ _ us hl => match us, hl with | [_, _, _], _ => rfl
  have GS : FnOk P w K mg base CX0 2 T.fSame T.dSame ["actual", "expected"] (sp_same K 2) := ok_same T.same T.gSame M 2
  have bS : Binds K T.dSame ["actual", "expected"] [] := T.same.binds fun _ _ _ _ _ _ us hl => match us, hl with | [_, _], _ => rfl
  have GH : L2H.FnH P w K mg base CX0 1 T.fSame T.dSame ["actual", "expected"] sp_sameI := ok_sameH T.same M
  have xf : XfC K T.D := ⟨T.excC.hg, T.excC.hk, T.excC.hs, T.excC.hd⟩
  refine F.ok scx_law (fun vs H Q E h => ?_) (fun cdv A outer s H vs Q E hr h => ?_)
  · obtain ⟨a, ns, rfl, _⟩ := h
    rfl
  · obtain ⟨sc, ns, rfl, hS, tab, q⟩ := h
    have nd := scx_law.nd
    have hr3 : Room 3 _ := hr.mono (by decide)
    have hr2 : Room 2 _ := hr.mono (by decide)
    have hr1 : Room 1 _ := hr.mono (by decide)
    refine ⟨_, pss_cons (ps_set (i := 1) nd rfl (.inr rfl) (pe_call GB hr3 (by rfl) T.gBox T.box.kp bB .nil pass0 (pa_cons (pv 0) (pa_cons pe_int (pa_cons pe_int pa_nil)))))
      (pss_cons (ps_for PassesOwn.never rfl (pi_range1 (by rfl) T.mrange (pa_cons pe_int pa_nil)) (pg_name (i := 2) nd rfl (.inl rfl))
        (pss_cons (ps_set (i := 3) nd rfl (.inl rfl) (pe_call GA hr2 (by rfl) T.gAlpha T.alpha.kp bA .nil pass0 (pa_cons (pv 1) (pa_cons pe_int pa_nil))))
        (pss_cons (ps_set (i := 4) nd rfl (.inl rfl) (pe_call GW hr2 (by rfl) T.gWord T.word.kp bW .nil pass0 (pa_cons (pv 1) (pa_cons (pv 3) (pa_cons pe_int pa_nil)))))
        (pss_cons (ps_set (i := 5) nd rfl (.inl rfl) (pe_call GM hr2 (by rfl) T.gMixed T.mixed.kp bM .nil pass0 (pa_cons (pv 1) (pa_cons (pv 3) (pa_cons (pv 4) pa_nil)))))
        (C8.pss_cut (ps_if (pt_cmpR op_eq (pe_call GD hr1 (by rfl) T.gDraw T.draw.kp bD .nil pass0 (pa_cons (pv 1) (pa_cons pe_int pa_nil))) pe_int (nomark _))
            (pss_one (ps_set (i := 5) nd rfl (.inl rfl) (pe_call GW hr2 (by rfl) T.gWord T.word.kp bW .nil pass0 (pa_cons (pv 1) (pa_cons (pv 3) (pa_cons pe_int pa_nil)))))) pss_nil)
        (C8.pss_cut (ps_set (i := 6) nd rfl (.inl rfl) (pe_call GX hr3 (by rfl) T.gExchanges T.exchanges.kp bX .nil pass0 (pa_cons (pv 3) (pa_cons (pv 4) (pa_cons (pv 5) pa_nil)))))
        (C8.pss_cut (ps_if (pt_val (pe_call GL hr2 (by rfl) T.gAlike T.alike.kp bL .nil pass0 (pa_cons (pv 3) (pa_cons (pv 4) (pa_cons (pv 5) pa_nil)))))
            (pss_cons (ps_set (i := 7) nd rfl (.inl rfl) (pe_call GI hr1 (by rfl) T.gInv T.inv.kp bI .nil pass0 (pa_cons (pv 4) (pa_cons (pv 5) pa_nil))))
            (pss_cons (ps_if (PW.pt (pw_or (pt_not (pt_val (pe_isi (T := "tuple") M.isi (by rfl) (by rfl) M.tup (by decide +kernel) (pv 6))))
                (pw_or (pt_cmpR op_ne (pe_callB call_len_seq (by rfl) T.mlen PySem.boot_len (pa_cons (pv 6) pa_nil)) (pv 7) (nomark _))
                (pw_or1 (pt_cmpR (op_neD hr.units) (pe_call GO hr2 (by rfl) T.gDone T.done.kp bO .nil pass0 (pa_cons (pv 3) (pa_cons (pv 4) (pa_cons (pv 6) pa_nil)))) (pe_lst (pa_cons (pv 5) (pa_cons pe_non pa_nil))) (nomark _))))))
              (pss_one (ps_ret pe_bl)) pss_nil)
            (pss_one (ps_if (pt_not (pt_val (pe_call GS hr2 (by rfl) T.gSame T.same.kp bS .nil pass0 (pa_cons (pe_call GN hr (by rfl) T.gDistance T.distance.kp bN .nil pass0 (pa_cons (pv 3) (pa_cons (pv 4) (pa_cons (pv 5) pa_nil)))) (pa_cons (pv 7) pa_nil)))))
              (pss_one (ps_ret pe_bl)) pss_nil))))
            (pss_one (ps_if (PW.pt (pw_or (pt_cmpR op_notN (pv 6) pe_non (nomark _)) (pw_or1 (pt_cmpR op_notN (pe_call GN hr (by rfl) T.gDistance T.distance.kp bN .nil pass0 (pa_cons (pv 3) (pa_cons (pv 4) (pa_cons (pv 5) pa_nil)))) pe_non (nomark _)))))
              (pss_one (ps_ret pe_bl)) pss_nil)))
        (pss_cons (ps_set (i := 8) nd rfl (.inl rfl) (pe_callTy call_tuple_of (by rfl) T.mtuple (by decide +kernel) (pa_cons
            (pe_lc (own := [("k", 11)]) (g := gName 11) (tt := tYes) (te := tOp (rI0 fun i j => V.int (i - j)) (tCall (sp_draw K) [] E0 (tCons (tVar 1) (tCons (tC (.int 16)) tNil))) (tC (.int 1))) rfl nd
              (pi_range1 (by rfl) T.mrange (pa_cons (pe_call GD hr1 (by rfl) T.gDraw T.draw.kp bD .nil pass0 (pa_cons (pv 1) (pa_cons pe_int pa_nil))) pa_nil))
              (blkOk_by (own := [("k", 11)]) (N := ["script", "box", "turn", "alphabet", "word", "other", "found", "many", "places", "due", "e", "k"]) (sc := defScope s_law) (by decide +kernel))
              (fun _ _ _ _ _ => pg_name (i := 11) nd rfl (Or.inl rfl)) (fun _ _ _ _ _ => pts_nil)
              (fun _ _ _ _ _ => pe_op op_sub (pe_call GD hr1 (by rfl) T.gDraw T.draw.kp bD .nil pass0 (pa_cons (pv 1) (pa_cons pe_int pa_nil))) pe_int)) pa_nil)))
        (C8.pss_cut (ps_if (PW.pt (pw_and (pt_cmpR op_eq (pe_call GD hr1 (by rfl) T.gDraw T.draw.kp bD .nil pass0 (pa_cons (pv 1) (pa_cons pe_int pa_nil))) pe_int (nomark _)) (pw_and1 (pt_cmpR op_notN (pv 6) pe_non (nomark _)))))
            (pss_one (ps_set (i := 8) nd rfl (.inl rfl) (pe_op op_catA (pe_slice sl_tupA (pv 6) po_none (po_some (pe_call GD hr1 (by rfl) T.gDraw T.draw.kp bD .nil pass0 (pa_cons (pv 1) (pa_cons pe_int pa_nil)))))
              (pe_slice sl_tupA (pv 8) po_none (po_some (pe_call GD hr1 (by rfl) T.gDraw T.draw.kp bD .nil pass0 (pa_cons (pv 1) (pa_cons pe_int pa_nil)))))))) pss_nil)
        (pss_cons (ps_set (i := 9) nd rfl (.inl rfl) (pe_call GO hr2 (by rfl) T.gDone T.done.kp bO .nil pass0 (pa_cons (pv 3) (pa_cons (pv 4) (pa_cons (pv 8) pa_nil)))))
        (pss_one (L2N.ps_try_as (i := 10) rfl rfl nd rfl rfl ⟨rfl, by decide, .inl T.fault.g⟩ takesN (fun W pn xe tk _ =>
            pss_one (ps_if (PW.pt (pw_or (pt_not (pt_val (pe_call GS hr2 (by rfl) T.gSame T.same.kp bS .nil pass0 (pa_cons
                (pe_callS GE hr3 (by rfl) T.gExchanged T.exchanged.kp bE (fun σ => L2N.passAt tk σ) (pa_cons (pv 3) (pa_cons (pv 4) (pa_cons (pv 8) pa_nil)))) (pa_cons (pe_ix (r := rIxL K) ix_list (pv 9) pe_int (fun _ _ => rfl)) pa_nil)))))
              (pw_or1 (pt_cmpR op_notN (pe_ix (r := rIxL K) ix_list (pv 9) pe_int (fun _ _ => rfl)) pe_non (nomark _)))))
              (pss_one (ps_ret pe_bl)) pss_nil))
          (fun a oe cls d pn hz hf =>
            pss_one (ps_if (PW.pt (pw_or (pt_val (pe_callB (call_isD T.excC hz.zc hf) (by rfl) T.misi (by decide +kernel) (pa_cons (pv 10) (pa_cons (pe_glob (v := .ref T.DA) (by rfl) T.gA rfl) pa_nil))))
                (pw_or (pt_not (pt_val (pe_callB (call_isD T.excC hz.zc hf) (by rfl) T.misi (by decide +kernel) (pa_cons (pv 10) (pa_cons (pe_bltn (v := .ty "ValueError") (by rfl) T.mVE PyProof.Rows.Boot.«ValueError» rfl) pa_nil)))))
                (pw_or1 (pt_not (pt_val (L2H.pe_callH GH (L2H.roomH_mark hr1 _) (hot_suite hz hf) (by rfl) T.gSame T.same.kp bS (passH (fun _ => E0)) (pa_cons (pe_xf xf T.noN hz.zc hf (pv 10)) (pa_cons (pe_ix (r := rIxL K) ix_list (pv 9) pe_int (fun _ _ => rfl)) pa_nil)))))))))
              (pss_one (ps_ret pe_bl)) pss_nil))))))))))))))
      (pss_one (ps_ret pe_bl))), ?_⟩
    refine ⟨.ref sc, rfl, sc, ns, rfl, hS, fun b dl H1 sm1 nb hB1 => ?_⟩
    refine ⟨4, rfl, by decide, by decide, for_range (lo := 0) (n := 4) (fun i σ H' => ∃ y2 y3 y4 y5 y6 y7 y8 y9 y10 y11, σ = [some (.ref sc), some (.ref b), y2, y3, y4, y5, y6, y7, y8, y9, y10, y11] ∧ Box K b dl H' ∧ GxR.TabG H' Pt)
      ⟨none, none, none, none, none, none, none, none, none, none, rfl, hB1, tab_same tab sm1⟩ (fun i σ H2 hi hW => ?_) (fun σ H2 hW => ?_)⟩
    · obtain ⟨y2, y3, y4, y5, y6, y7, y8, y9, y10, y11, rfl, hB2, tab2⟩ := hW
      -- alphabet, word, other
      refine ⟨.ref b, rfl, b, dl, 6, rfl, hB2, by decide, by decide, fun al n ps H3 nle dr mv3 hB3 hA3 => ?_⟩
      have n6 : n ≤ 6 := by omega
      have l6 : (alph n).length = n := alph_len n6
      have pr := dr.pairs
      have tab3 : GxR.TabG H3 Pt := hB2.tabG mv3 tab2
      refine ⟨.ref b, rfl, .ref al, rfl, b, dl, al, 14, alph n, ps, rfl, hB3, hA3, by rw [l6]; exact dr.some, by rw [l6]; omega, by decide, by decide, fun a H4 la ia mv4 hB4 => ?_⟩
      have la14 : a.length ≤ 14 := by omega
      refine ⟨.ref b, rfl, .ref al, rfl, .str (tx a), rfl, b, dl, al, a, alph n, ps, rfl, hB4, hA3.mvB hB3 mv4, pr, by omega, fun o H5 ex mv5 hB5 => ?_⟩
      have lo : o.length = a.length := ex.perm.length_eq.symm
      have io : ∀ c ∈ o, c ∈ alph n := fun c hc => ia c (ex.perm.mem_iff.mpr hc)
      have mv35 : Mv [b] H3 H5 := mv4.trans mv5
      refine ⟨fun σ' H' => ∃ (o : List Nat), σ' = [some (.ref sc), some (.ref b), some (.int (0 + (i : Int))), some (.ref al), some (.str (tx a)), some (.str (tx o)), y6, y7, y8, y9, y10, y11] ∧ o.length ≤ 14 ∧ (∀ c ∈ o, c ∈ alph n) ∧ Mv [b] H3 H' ∧ Box K b dl H', ?_, ?_⟩
      · refine ⟨.ref b, rfl, b, dl, 4, rfl, hB5, by decide, fun kind H6 k0 k4 mv6 hB6 => ⟨rfl, _, rfl, ?_⟩⟩
        by_cases k1 : kind = 0
        · rw [decide_eq_true (show V.int kind = V.int 0 by rw [k1])]
          exact iteT ⟨.ref b, rfl, .ref al, rfl, b, dl, al, 14, alph n, ps, rfl, hB6, hA3.mvB hB3 (mv35.trans mv6), by rw [l6]; exact dr.some, by rw [l6]; omega, by decide, by decide, fun o2 H7 lo2 io2 mv7 hB7 => ⟨o2, rfl, by omega, io2, (mv35.trans mv6).trans mv7, hB7⟩⟩
        · rw [decide_eq_false (show ¬ V.int kind = V.int 0 from fun z => k1 (V.int.inj z))]
          exact iteF ⟨o, rfl, by omega, io, mv35.trans mv6, hB6⟩
      rintro σ' H6 ⟨o, rfl, lo, io, mv6, hB6⟩
      have tab6 : GxR.TabG H6 Pt := hB3.tabG mv6 tab3
      have hA6 : Alpha K H6 al (alph n) ps := hA3.mvB hB3 mv6
      clear mv35 mv3 mv4 mv5 hB5 hB4 ex
      -- found
      refine ⟨fun σ' H' => ∃ v : V, σ' = [some (.ref sc), some (.ref b), some (.int (0 + (i : Int))), some (.ref al), some (.str (tx a)), some (.str (tx o)), some v, y7, y8, y9, y10, y11] ∧ Found K H' ps a o v ∧ Box K b dl H' ∧ Alpha K H' al (alph n) ps ∧ GxR.TabG H' Pt, ?_, ?_⟩
      · refine ⟨.ref al, rfl, .str (tx a), rfl, .str (tx o), rfl, al, a, o, alph n, ps, rfl, hA6, pr, tab6, by rw [l6]; omega, by omega, by omega, ia, io, fun H7 mv7 tab7 no => ?_, fun p H7 mv7 tab7 yes hp => ?_⟩
        · exact ⟨_, rfl, .inl ⟨no, rfl⟩, hB6.mvT mv7 tab6, hA6.mvT tab6 mv7, tab7⟩
        · exact ⟨_, rfl, .inr ⟨yes, p, rfl, SqT.of hp⟩, hB6.mvT mv7 tab6, hA6.mvT tab6 mv7, tab7⟩
      rintro σ' H7 ⟨v, rfl, fd7, hB7, hA7, tab7⟩
      -- how many, and where they lead
      refine ⟨fun σ' H' => ∃ y7, σ' = [some (.ref sc), some (.ref b), some (.int (0 + (i : Int))), some (.ref al), some (.str (tx a)), some (.str (tx o)), some v, y7, y8, y9, y10, y11] ∧ Found K H' ps a o v ∧ Box K b dl H' ∧ Alpha K H' al (alph n) ps ∧ GxR.TabG H' Pt, ?_, ?_⟩
      · refine ⟨.ref al, rfl, .str (tx a), rfl, .str (tx o), rfl, al, a, o, alph n, ps, rfl, hA7, pr, ia, io, fun c hc => alph_low n6 hc, by omega, by omega, fun t H8 sm8 ht => ⟨t, rfl, ?_⟩⟩
        have fd8 := fd7.same sm8
        have hB8 := hB7.same sm8
        have hA8 := hA7.same sm8
        have tab8 := tab_same tab7 sm8
        cases t with
        | true =>
          have yes : Exs ps a o := ht.mp rfl
          rcases fd8 with ⟨no, _⟩ | ⟨_, p, rfl, hp⟩
          · exact absurd yes no
          have kp : KeepsA ps a o := yes.keepsA pr
          have least := exL_least pr o a 0 kp
          have bound : (exL 0 a o).length ≤ 14 * 15 := Nat.le_trans (exL_len o a 0) (Nat.mul_le_mul lo (by omega))
          refine iteT ⟨.str (tx a), rfl, .str (tx o), rfl, a, o, rfl, yes.perm, by omega, fun H9 sm9 => ?_⟩
          have hp9 := Same.seqT sm9 hp
          have hA9 := hA8.same sm9
          refine ⟨.ref p, rfl, .ref p, .ty "tuple", .type "tuple", _, true, rfl, .ty _, tyx_tup hp9, kitT, true, rfl, iteF ⟨.ref p, rfl, p, _, rfl, .inr hp9, .int ((inverts (spots o [] a) : Nat) : Int), rfl, rfl, _, rfl, ?_⟩⟩
          have len : (numsV (exL 0 a o)).length = inverts (spots o [] a) := by
            unfold numsV
            rw [List.length_map, least]
          rw [len, decide_eq_true rfl]
          refine iteF ⟨.ref al, rfl, .str (tx a), rfl, .ref p, rfl, al, p, a, alph n, ps, (exL 0 a o).map Int.ofNat, rfl, hA9, pr, by rw [← nums_ints]; exact hp9, by omega, by rw [List.length_map]; omega, fun r1 H10 sm10 nr1 hr1 => ?_⟩
          obtain ⟨_, run, _⟩ := run_exL pr o a [] 0 kp
          have run : runEx ps a ((exL 0 a o).map Int.ofNat) 0 = (o, none) := run
          rw [run] at hr1
          refine ⟨.str (tx o), rfl, by show 2 ≤ sizeLine; decide, fun r2 nr2 => ?_⟩
          have okO : PyData.strOk (tx o) = true := low_ok fun c hc => alph_low n6 (io c hc)
          have hr1b := same_new (o := .lst [.str (tx o), .non]) nr2 r1 _ hr1
          refine ⟨.list [.str (tx o), .none], .list [.str (tx o), .none], .lst (SqL.of hr1b) (.cons (.str _) (.cons .non .nil)), .lst (SqL.of upd_same) (.cons (.str _) (.cons .non .nil)), shaped_pair okO, shaped_pair okO, _, rfl, ?_⟩
          have ev : PyData.eqv (.list [.str (tx o), .none]) (.list [.str (tx o), .none]) = true := by simp [PyData.eqv, PyData.eqvAll]
          rw [ev]
          have sm11 : Same H8 (upd H10 r2 (.lst [.str (tx o), .non])) := sm9.trans (sm10.trans (same_new nr2))
          refine iteF ⟨.ref al, rfl, .str (tx a), rfl, .str (tx o), rfl, al, a, o, alph n, ps, rfl, hA8.same sm11, pr, tab_same tab8 sm11, by rw [l6]; omega, by omega, by omega, ia, io, fun _ _ _ no => absurd yes no, fun H12 mv12 tab12 _ => ?_⟩
          refine ⟨.int ((inverts (spots o [] a) : Nat) : Int), rfl, .int ((exL 0 a o).length : Int), .int ((inverts (spots o [] a) : Nat) : Int), rfl, .inl ⟨by rw [least], rfl⟩, true, rfl, iteF ⟨_, rfl, ?_, (hB8.same sm11).mvT mv12 (tab_same tab8 sm11), (hA8.same sm11).mvT (tab_same tab8 sm11) mv12, tab12⟩⟩
          exact .inr ⟨yes, p, rfl, tab_seqT (tab_same tab8 sm11) mv12 (Same.seqT sm11 hp)⟩
        | false =>
          have no : ¬ Exs ps a o := fun z => Bool.noConfusion (ht.mpr z)
          rcases fd8 with ⟨_, rfl⟩ | ⟨yes, _⟩
          · refine iteF ⟨.non, rfl, rfl, false, rfl, iteF ⟨.ref al, rfl, .str (tx a), rfl, .str (tx o), rfl, al, a, o, alph n, ps, rfl, hA8, pr, tab8, by rw [l6]; omega, by omega, by omega, ia, io, fun H9 mv9 tab9 _ => ?_, fun _ _ _ yes => absurd yes no⟩⟩
            exact ⟨rfl, false, rfl, iteF ⟨_, rfl, .inl ⟨no, rfl⟩, hB8.mvT mv9 tab8, hA8.mvT tab8 mv9, tab9⟩⟩
          · exact absurd yes no
      clear hB6 hB7 hA6 hA7 tab6 tab7 fd7
      rintro σ' H8 ⟨y7, rfl, fd8, hB8, hA8, tab8⟩
      -- places
      refine ⟨.ref b, rfl, b, dl, 9, rfl, hB8, by decide, fun r H9 r0 r9 mv9 hB9 => ⟨r, rfl, by omega, by omega, fun Dd nD => ?_⟩⟩
      have fd9 := fd8.box hB8 mv9
      have hA9 := hA8.mvB hB8 mv9
      have tab9 := hB8.tabG mv9 tab8
      have nbD : b ≠ Dd := by
        obtain ⟨_, _, hb, _⟩ := hB9
        exact ne_of_none hb nD
      refine lc_range (lo := 0) (n := r.toNat) (fun j H' => Mv [b] H9 H' ∧ Box K b dl H' ∧ ∃ zs : List Int, H' Dd = some (.lst (zs.map V.int)) ∧ zs.length = j)
        ⟨Mv.new nD, hB9.same (same_new nD), [], upd_same, rfl⟩ (fun j H10 hj hV => ?_) (fun H10 hV => ?_)
      · obtain ⟨mv10, hB10, zs, hD, lz⟩ := hV
        refine ⟨rfl, ?_⟩
        refine ⟨.ref b, rfl, b, dl, 16, rfl, hB10, by decide, fun z H11 z0 z16 mv11 hB11 => ⟨z, 1, rfl, rfl, zs.map V.int, mv11 Dd _ (fun y => nbD (List.mem_singleton.mp y).symm) hD, ?_, ?_⟩⟩
        · rw [List.length_map]
          exact Nat.lt_of_le_of_lt (show zs.length ≤ 9 by omega) (by decide)
        · refine ⟨fun x o nx ex => ?_, hB9.put nD hB11, zs ++ [z - 1], ?_, by rw [List.length_append, lz]; rfl⟩
          · rw [upd_ne (ne_of_none ex nD)]
            exact mv11 x o nx (mv10 x o nx ex)
          · rw [upd_same, List.map_append]
            rfl
      obtain ⟨mv10, hB10, zs, hD, lz⟩ := hV
      have fd10 := fd9.box hB9 mv10
      have hA10 := hA9.mvB hB9 mv10
      have tab10 := hB9.tabG mv10 tab9
      refine ⟨Dd, _, rfl, .inl ⟨SqL.of hD, fun p8 np8 => ?_⟩⟩
      have fd11 := fd10.same (same_new (o := .tup (zs.map V.int)) np8)
      have hA11 := hA10.same (same_new (o := .tup (zs.map V.int)) np8)
      have hB11 := hB10.same (same_new (o := .tup (zs.map V.int)) np8)
      have tab11 := tab_same tab10 (same_new (o := .tup (zs.map V.int)) np8)
      have hZ11 : SqT K (upd H10 p8 (.tup (zs.map V.int))) p8 (zs.map V.int) := SqT.of upd_same
      generalize (upd H10 p8 (.tup (zs.map V.int))) = H11 at fd11 hA11 hB11 tab11 hZ11 ⊢
      refine ⟨fun σ' H' => ∃ (p8 : Addr) (zs : List Int), σ' = [some (.ref sc), some (.ref b), some (.int (0 + (i : Int))), some (.ref al), some (.str (tx a)), some (.str (tx o)), some v, y7, some (.ref p8), y9, y10, y11] ∧ SqT K H' p8 (zs.map V.int) ∧ zs.length ≤ 50 ∧ Box K b dl H' ∧ Alpha K H' al (alph n) ps ∧ GxR.TabG H' Pt, ?_, ?_⟩
      · refine ⟨.ref b, rfl, b, dl, 2, rfl, hB11, by decide, fun k H12 k0 k2 mv12 hB12 => ⟨rfl, _, rfl, ?_⟩⟩
        have fd12 := fd11.box hB11 mv12
        have hA12 := hA11.mvB hB11 mv12
        have tab12 := hB11.tabG mv12 tab11
        have hZ12 := hB11.seqT mv12 hZ11
        by_cases k1 : k = 0
        · rw [decide_eq_true (show V.int k = V.int 0 by rw [k1])]
          refine iteT ?_
          rcases fd12 with ⟨_, rfl⟩ | ⟨yes, p, rfl, hp⟩
          · exact ⟨.non, rfl, rfl, false, rfl, iteF ⟨p8, zs, rfl, hZ12, by omega, hB12, hA12, tab12⟩⟩
          · refine ⟨.ref p, rfl, rfl, true, rfl, iteT ⟨.ref p, rfl, .ref b, rfl, b, dl, 6, rfl, hB12, by decide, fun r5 H13 r50 r56 mv13 hB13 => ⟨r5, rfl, ?_⟩⟩⟩
            have hp13 := hB12.seqT mv13 hp
            obtain ⟨j5, rfl⟩ : ∃ j : Nat, r5 = (j : Int) := ⟨r5.toNat, by omega⟩
            refine slice_any hp13 fun q1 H14 sm14 hq1 => ?_
            rw [nums_ints, cut_ints] at hq1
            have hB14 := hB13.same sm14
            refine ⟨.ref p8, rfl, .ref b, rfl, b, dl, 2, rfl, hB14, by decide, fun r2 H15 r20 r22 mv15 hB15 => ⟨r2, rfl, ?_⟩⟩
            obtain ⟨j2, rfl⟩ : ∃ j : Nat, r2 = (j : Int) := ⟨r2.toNat, by omega⟩
            have hZ15 := hB14.seqT mv15 (Same.seqT sm14 (hB12.seqT mv13 hZ12))
            refine slice_any hZ15 fun q2 H16 sm16 hq2 => ?_
            rw [cut_ints] at hq2
            have l1 : (((exL 0 a o).map Int.ofNat).take j5).length ≤ 5 := by
              rw [List.length_take]
              omega
            have l2 : (zs.take j2).length ≤ 9 := by
              rw [List.length_take]
              omega
            refine cat_any (Same.seqT sm16 (hB14.seqT mv15 hq1)) hq2 (by rw [List.length_map, List.length_map]; exact Nat.le_trans (Nat.add_le_add l1 l2) (by decide)) fun q3 H17 sm17 hq3 => ?_
            rw [← List.map_append] at hq3
            refine ⟨q3, _, rfl, hq3, by rw [List.length_append]; omega, (hB15.same sm16).same sm17, ((((hA12.mvB hB12 mv13).same sm14).mvB hB14 mv15).same sm16).same sm17, ?_⟩
            exact tab_same (tab_same (hB14.tabG mv15 (tab_same (hB12.tabG mv13 tab12) sm14)) sm16) sm17
        · rw [decide_eq_false (show ¬ V.int k = V.int 0 from fun z => k1 (V.int.inj z))]
          exact iteF (iteF ⟨p8, zs, rfl, hZ12, by omega, hB12, hA12, tab12⟩)
      clear fd8 fd9 fd10 fd11 hZ11 hB8 hB9 hB10 hB11 hA8 hA9 hA10 hA11 tab8 tab9 tab10 tab11
      rintro σ' H12 ⟨p8, zs, rfl, hZ12, lz50, hB12, hA12, tab12⟩
      -- what is due
      refine ⟨.ref al, rfl, .str (tx a), rfl, .ref p8, rfl, al, p8, a, alph n, ps, zs, rfl, hA12, pr, hZ12, by omega, by omega, fun r9 H13 sm13 nr9 hr9 => ?_⟩
      refine ⟨.ref al, rfl, .str (tx a), rfl, .ref p8, rfl, al, p8, a, alph n, ps, zs, rfl, hA12.same sm13, Same.seqT sm13 hZ12, by omega, lz50, fun non H14 sm14 => ?_, fun k hk d H14 sm14 hd => ?_⟩
      · have hr14 := sm14 _ _ hr9
        rw [non] at hr14
        refine ⟨.ref r9, rfl, r9, _, 0, .str (tx (runEx ps a zs 0).1), rfl, rfl, SqL.of hr14, atI_nat (j := 0) rfl, .str _, .str _, rfl, .inl ⟨rfl, rfl⟩, true, rfl, iteF ⟨.ref r9, rfl, r9, _, 1, .non, rfl, rfl, SqL.of hr14, atI_nat (j := 1) rfl, rfl, false, rfl, iteF ?_⟩⟩
        exact ⟨_, _, _, _, _, _, _, _, _, _, rfl, hB12.same (sm13.trans sm14), tab_same tab12 (sm13.trans sm14)⟩
      · have hr14 := sm14 _ _ hr9
        rw [hk] at hr14
        refine ⟨true, T.te, fun _ e ne => ?_, fun z => nomatch z⟩
        refine ⟨.ref e, rfl, .ref T.DA, .ref T.DA, false, d, [("number", .int (k : Int))], rfl, rfl, rfl, fun u r => r, T.notA, hd, false, rfl, iteF ?_⟩
        refine ⟨.ref e, rfl, .ty "ValueError", .type "ValueError", true, d, [("number", .int (k : Int))], rfl, rfl, rfl, fun u r => r, T.isV, hd, true, rfl, iteF ?_⟩
        refine ⟨.ref e, rfl, rfl, rfl, d, [("number", .int (k : Int))], .int (k : Int), rfl, hd, rfl, .ref r9, rfl, r9, _, 1, .int (k : Int), rfl, rfl, SqL.of hr14, atI_nat (j := 1) rfl, (k : Int), rfl, true, rfl, iteF ?_⟩
        exact ⟨_, _, _, _, _, _, _, _, _, _, rfl, hB12.same (sm13.trans sm14), tab_same tab12 (sm13.trans sm14)⟩
    · obtain ⟨_, _, _, _, _, _, _, _, _, _, rfl, _, _⟩ := hW
      exact q _
end
end Tc
/-! The end: where each def stands. -/
namespace Tc
open PySem PySem.Spec PyProof.Rows L2 TcG
open LamX in
theorem all_mk {l : PySem.W.OpenLaw} {w : World} {K : PySem.W.Frag} {h : Heap} {mg : Str → Option Value} {fa : Addr} (X : K.In h) (G : h.Ns mainGlobals mg) (hfa : mg "law" = some (.ref fa))
    {f0 : Addr} {od0 an0 : Option Addr} {sl0 : Array (Option Value)} {oc0 kV0 dc0 pm0 cd0 ct0 : Value}
    {f1 : Addr} {od1 an1 : Option Addr} {sl1 : Array (Option Value)} {oc1 kV1 dc1 pm1 cd1 ct1 : Value}
    {f2 : Addr} {od2 an2 : Option Addr} {sl2 : Array (Option Value)} {oc2 kV2 dc2 pm2 cd2 ct2 : Value}
    {f3 : Addr} {od3 an3 : Option Addr} {sl3 : Array (Option Value)} {oc3 kV3 dc3 pm3 cd3 ct3 : Value}
    {f4 : Addr} {od4 an4 : Option Addr} {sl4 : Array (Option Value)} {oc4 kV4 dc4 pm4 cd4 ct4 : Value}
    {f5 : Addr} {od5 an5 : Option Addr} {sl5 : Array (Option Value)} {oc5 kV5 dc5 pm5 cd5 ct5 : Value}
    {f6 : Addr} {od6 an6 : Option Addr} {sl6 : Array (Option Value)} {oc6 kV6 dc6 pm6 cd6 ct6 : Value}
    {f7 : Addr} {od7 an7 : Option Addr} {sl7 : Array (Option Value)} {oc7 kV7 dc7 pm7 cd7 ct7 : Value}
    {f8 : Addr} {od8 an8 : Option Addr} {sl8 : Array (Option Value)} {oc8 kV8 dc8 pm8 cd8 ct8 : Value}
    {f9 : Addr} {od9 an9 : Option Addr} {sl9 : Array (Option Value)} {oc9 kV9 dc9 pm9 cd9 ct9 : Value}
    {f10 : Addr} {od10 an10 : Option Addr} {sl10 : Array (Option Value)} {oc10 kV10 dc10 pm10 cd10 ct10 : Value}
    {f11 : Addr} {od11 an11 : Option Addr} {sl11 : Array (Option Value)} {oc11 kV11 dc11 pm11 cd11 ct11 : Value}
    {f12 : Addr} {od12 an12 : Option Addr} {sl12 : Array (Option Value)} {oc12 kV12 dc12 pm12 cd12 ct12 : Value}
    {f13 : Addr} {od13 an13 : Option Addr} {sl13 : Array (Option Value)} {oc13 kV13 dc13 pm13 cd13 ct13 : Value}
    {f14 : Addr} {od14 an14 : Option Addr} {sl14 : Array (Option Value)} {oc14 kV14 dc14 pm14 cd14 ct14 : Value}
    {f15 : Addr} {od15 an15 : Option Addr} {sl15 : Array (Option Value)} {oc15 kV15 dc15 pm15 cd15 ct15 : Value}
    {f16 : Addr} {od16 an16 : Option Addr} {sl16 : Array (Option Value)} {oc16 kV16 dc16 pm16 cd16 ct16 : Value}
    {f17 : Addr} {od17 an17 : Option Addr} {sl17 : Array (Option Value)} {oc17 kV17 dc17 pm17 cd17 ct17 : Value}
    {f18 : Addr} {od18 an18 : Option Addr} {sl18 : Array (Option Value)} {oc18 kV18 dc18 pm18 cd18 ct18 : Value}
    {f19 : Addr} {od19 an19 : Option Addr} {sl19 : Array (Option Value)} {oc19 kV19 dc19 pm19 cd19 ct19 : Value}
    {f20 : Addr} {od20 an20 : Option Addr} {sl20 : Array (Option Value)} {oc20 kV20 dc20 pm20 cd20 ct20 : Value}
    {F0 C0 P0 : Addr} {OD0 AN0 DD0 : Option Addr} {SL0 TL0 : Array (Option Value)} {OC0 KV0 DC0 PM0 CT0 E0 : Value} {VS0 : Array Value}
    {D fI cc cI DA N0c : Addr} {nmD qD : Str} {bsD bmD : List Value} {snD : List Str} {subD : List Value} {abD : Bool} {colD : Option Bool} {ddD : Option Addr} {m0 m1 m2 m3 m5 : Option Value}
    {ocI kVI docI pmI ctI : Value} {odI anI : Option Addr} {oslI : Array (Option Value)} {cclI : Value} {cddI : Option Addr} {vsI : Array Value} {ccsI : Array (Option Value)} {flI : Str} {tfI : Tok} {clI : Value} {cldI : Option Addr} {cslI : Array (Option Value)} {cdD : ClassData}
    (a0 : PySem.W.nsIn K mainGlobals "_law_cell" = some (some (.ref f0))) (l0 : K.lookup f0 = some ⟨oc0, od0, .func (PySem.W.fnOf "_law_cell" "_law_cell" (defArgs s_law_cell) (defBody s_law_cell) (defScope s_law_cell) .none kV0 dc0 pm0 an0 cd0 ct0), sl0⟩) (c0 : PySem.W.codeIn K cd0 "_law_cell" = true) (k0 : PySem.W.keepIn K (.ref f0) = true)
    (a1 : PySem.W.nsIn K mainGlobals "_law_digits" = some (some (.ref f1))) (l1 : K.lookup f1 = some ⟨oc1, od1, .func (PySem.W.fnOf "_law_digits" "_law_digits" (defArgs s_law_digits) (defBody s_law_digits) (defScope s_law_digits) .none kV1 dc1 pm1 an1 cd1 ct1), sl1⟩) (c1 : PySem.W.codeIn K cd1 "_law_digits" = true) (k1 : PySem.W.keepIn K (.ref f1) = true)
    (a2 : PySem.W.nsIn K mainGlobals "_law_box" = some (some (.ref f2))) (l2 : K.lookup f2 = some ⟨oc2, od2, .func (PySem.W.fnOf "_law_box" "_law_box" (defArgs s_law_box) (defBody s_law_box) (defScope s_law_box) .none kV2 dc2 pm2 an2 cd2 ct2), sl2⟩) (c2 : PySem.W.codeIn K cd2 "_law_box" = true) (k2 : PySem.W.keepIn K (.ref f2) = true)
    (a3 : PySem.W.nsIn K mainGlobals "_law_draw" = some (some (.ref f3))) (l3 : K.lookup f3 = some ⟨oc3, od3, .func (PySem.W.fnOf "_law_draw" "_law_draw" (defArgs s_law_draw) (defBody s_law_draw) (defScope s_law_draw) .none kV3 dc3 pm3 an3 cd3 ct3), sl3⟩) (c3 : PySem.W.codeIn K cd3 "_law_draw" = true) (k3 : PySem.W.keepIn K (.ref f3) = true)
    (a4 : PySem.W.nsIn K mainGlobals "_law_alphabet" = some (some (.ref f4))) (l4 : K.lookup f4 = some ⟨oc4, od4, .func (PySem.W.fnOf "_law_alphabet" "_law_alphabet" (defArgs s_law_alphabet) (defBody s_law_alphabet) (defScope s_law_alphabet) .none kV4 dc4 pm4 an4 cd4 ct4), sl4⟩) (c4 : PySem.W.codeIn K cd4 "_law_alphabet" = true) (k4 : PySem.W.keepIn K (.ref f4) = true)
    (a5 : PySem.W.nsIn K mainGlobals "_law_word" = some (some (.ref f5))) (l5 : K.lookup f5 = some ⟨oc5, od5, .func (PySem.W.fnOf "_law_word" "_law_word" (defArgs s_law_word) (defBody s_law_word) (defScope s_law_word) .none kV5 dc5 pm5 an5 cd5 ct5), sl5⟩) (c5 : PySem.W.codeIn K cd5 "_law_word" = true) (k5 : PySem.W.keepIn K (.ref f5) = true)
    (a6 : PySem.W.nsIn K mainGlobals "_law_free" = some (some (.ref f6))) (l6 : K.lookup f6 = some ⟨oc6, od6, .func (PySem.W.fnOf "_law_free" "_law_free" (defArgs s_law_free) (defBody s_law_free) (defScope s_law_free) .none kV6 dc6 pm6 an6 cd6 ct6), sl6⟩) (c6 : PySem.W.codeIn K cd6 "_law_free" = true) (k6 : PySem.W.keepIn K (.ref f6) = true)
    (a7 : PySem.W.nsIn K mainGlobals "_law_mixed" = some (some (.ref f7))) (l7 : K.lookup f7 = some ⟨oc7, od7, .func (PySem.W.fnOf "_law_mixed" "_law_mixed" (defArgs s_law_mixed) (defBody s_law_mixed) (defScope s_law_mixed) .none kV7 dc7 pm7 an7 cd7 ct7), sl7⟩) (c7 : PySem.W.codeIn K cd7 "_law_mixed" = true) (k7 : PySem.W.keepIn K (.ref f7) = true)
    (a8 : PySem.W.nsIn K mainGlobals "_law_same" = some (some (.ref f8))) (l8 : K.lookup f8 = some ⟨oc8, od8, .func (PySem.W.fnOf "_law_same" "_law_same" (defArgs s_law_same) (defBody s_law_same) (defScope s_law_same) .none kV8 dc8 pm8 an8 cd8 ct8), sl8⟩) (c8 : PySem.W.codeIn K cd8 "_law_same" = true) (k8 : PySem.W.keepIn K (.ref f8) = true)
    (a9 : PySem.W.nsIn K mainGlobals "letter_pairs" = some (some (.ref f9))) (l9 : K.lookup f9 = some ⟨oc9, od9, .func (PySem.W.fnOf "letter_pairs" "letter_pairs" (defArgs s_letter_pairs) (defBody s_letter_pairs) (defScope s_letter_pairs) .none kV9 dc9 pm9 an9 cd9 ct9), sl9⟩) (c9 : PySem.W.codeIn K cd9 "letter_pairs" = true) (k9 : PySem.W.keepIn K (.ref f9) = true)
    (a10 : PySem.W.nsIn K mainGlobals "independent" = some (some (.ref f10))) (l10 : K.lookup f10 = some ⟨oc10, od10, .func (PySem.W.fnOf "independent" "independent" (defArgs s_independent) (defBody s_independent) (defScope s_independent) .none kV10 dc10 pm10 an10 cd10 ct10), sl10⟩) (c10 : PySem.W.codeIn K cd10 "independent" = true) (k10 : PySem.W.keepIn K (.ref f10) = true)
    (a11 : PySem.W.nsIn K mainGlobals "parts" = some (some (.ref f11))) (l11 : K.lookup f11 = some ⟨oc11, od11, .func (PySem.W.fnOf "parts" "parts" (defArgs s_parts) (defBody s_parts) (defScope s_parts) .none kV11 dc11 pm11 an11 cd11 ct11), sl11⟩) (c11 : PySem.W.codeIn K cd11 "parts" = true) (k11 : PySem.W.keepIn K (.ref f11) = true)
    (a12 : PySem.W.nsIn K mainGlobals "_law_alike" = some (some (.ref f12))) (l12 : K.lookup f12 = some ⟨oc12, od12, .func (PySem.W.fnOf "_law_alike" "_law_alike" (defArgs s_law_alike) (defBody s_law_alike) (defScope s_law_alike) .none kV12 dc12 pm12 an12 cd12 ct12), sl12⟩) (c12 : PySem.W.codeIn K cd12 "_law_alike" = true) (k12 : PySem.W.keepIn K (.ref f12) = true)
    (a13 : PySem.W.nsIn K mainGlobals "_law_inverted" = some (some (.ref f13))) (l13 : K.lookup f13 = some ⟨oc13, od13, .func (PySem.W.fnOf "_law_inverted" "_law_inverted" (defArgs s_law_inverted) (defBody s_law_inverted) (defScope s_law_inverted) .none kV13 dc13 pm13 an13 cd13 ct13), sl13⟩) (c13 : PySem.W.codeIn K cd13 "_law_inverted" = true) (k13 : PySem.W.keepIn K (.ref f13) = true)
    (a14 : PySem.W.nsIn K mainGlobals "_law_done" = some (some (.ref f14))) (l14 : K.lookup f14 = some ⟨oc14, od14, .func (PySem.W.fnOf "_law_done" "_law_done" (defArgs s_law_done) (defBody s_law_done) (defScope s_law_done) .none kV14 dc14 pm14 an14 cd14 ct14), sl14⟩) (c14 : PySem.W.codeIn K cd14 "_law_done" = true) (k14 : PySem.W.keepIn K (.ref f14) = true)
    (a15 : PySem.W.nsIn K mainGlobals "swapped" = some (some (.ref f15))) (l15 : K.lookup f15 = some ⟨oc15, od15, .func (PySem.W.fnOf "swapped" "swapped" (defArgs s_swapped) (defBody s_swapped) (defScope s_swapped) .none kV15 dc15 pm15 an15 cd15 ct15), sl15⟩) (c15 : PySem.W.codeIn K cd15 "swapped" = true) (k15 : PySem.W.keepIn K (.ref f15) = true)
    (a16 : PySem.W.nsIn K mainGlobals "can_exchange" = some (some (.ref f16))) (l16 : K.lookup f16 = some ⟨oc16, od16, .func (PySem.W.fnOf "can_exchange" "can_exchange" (defArgs s_can_exchange) (defBody s_can_exchange) (defScope s_can_exchange) .none kV16 dc16 pm16 an16 cd16 ct16), sl16⟩) (c16 : PySem.W.codeIn K cd16 "can_exchange" = true) (k16 : PySem.W.keepIn K (.ref f16) = true)
    (a17 : PySem.W.nsIn K mainGlobals "exchanges" = some (some (.ref f17))) (l17 : K.lookup f17 = some ⟨oc17, od17, .func (PySem.W.fnOf "exchanges" "exchanges" (defArgs s_exchanges) (defBody s_exchanges) (defScope s_exchanges) .none kV17 dc17 pm17 an17 cd17 ct17), sl17⟩) (c17 : PySem.W.codeIn K cd17 "exchanges" = true) (k17 : PySem.W.keepIn K (.ref f17) = true)
    (a18 : PySem.W.nsIn K mainGlobals "exchanged" = some (some (.ref f18))) (l18 : K.lookup f18 = some ⟨oc18, od18, .func (PySem.W.fnOf "exchanged" "exchanged" (defArgs s_exchanged) (defBody s_exchanged) (defScope s_exchanged) .none kV18 dc18 pm18 an18 cd18 ct18), sl18⟩) (c18 : PySem.W.codeIn K cd18 "exchanged" = true) (k18 : PySem.W.keepIn K (.ref f18) = true)
    (a19 : PySem.W.nsIn K mainGlobals "distance" = some (some (.ref f19))) (l19 : K.lookup f19 = some ⟨oc19, od19, .func (PySem.W.fnOf "distance" "distance" (defArgs s_distance) (defBody s_distance) (defScope s_distance) .none kV19 dc19 pm19 an19 cd19 ct19), sl19⟩) (c19 : PySem.W.codeIn K cd19 "distance" = true) (k19 : PySem.W.keepIn K (.ref f19) = true)
    (a20 : PySem.W.nsIn K mainGlobals "law" = some (some (.ref f20))) (l20 : K.lookup f20 = some ⟨oc20, od20, .func (PySem.W.fnOf "law" "law" (defArgs s_law) (defBody s_law) (defScope s_law) .none kV20 dc20 pm20 an20 cd20 ct20), sl20⟩) (c20 : PySem.W.codeIn K cd20 "law" = true) (k20 : PySem.W.keepIn K (.ref f20) = true)
    (A0 : PySem.W.nsIn K mainGlobals "taken_out" = some (some (.ref F0))) (L0 : K.lookup F0 = some ⟨OC0, OD0, .func (PySem.W.fnOf "taken_out" "taken_out" (defArgs s_taken_out) (defBody s_taken_out) (defScope s_taken_out) .none KV0 DC0 PM0 AN0 (.ref C0) CT0), SL0⟩) (I0 : PySem.W.codeIn K (.ref C0) "taken_out" = true) (G0 : PySem.W.keepIn K (.ref F0) = true)
    (R0 : K.lookup C0 = some ⟨E0, DD0, .fields VS0, TL0⟩) (Q0 : VS0[11]? = some (.ref P0)) (N0 : K.lookup P0 = none) (Y0 : TabOf mg h "taken_out")
    (z0 : PySem.W.nsIn K mainGlobals "len" = some none)
    (z1 : PySem.W.nsIn K mainGlobals "range" = some none)
    (z2 : PySem.W.nsIn K mainGlobals "int" = some none)
    (z3 : PySem.W.nsIn K mainGlobals "min" = some none)
    (z4 : PySem.W.nsIn K mainGlobals "max" = some none)
    (z5 : PySem.W.nsIn K mainGlobals "sorted" = some none)
    (z6 : PySem.W.nsIn K mainGlobals "tuple" = some none)
    (z7 : PySem.W.nsIn K mainGlobals "bool" = some none)
    (z8 : PySem.W.nsIn K mainGlobals "str" = some none)
    (z9 : PySem.W.nsIn K mainGlobals "isinstance" = some none)
    (z10 : PySem.W.nsIn K mainGlobals "list" = some none)
    (z11 : PySem.W.nsIn K mainGlobals "enumerate" = some none)
    (z12 : PySem.W.nsIn K mainGlobals "ValueError" = some none)
    (x0 : PySem.W.nsIn K mainGlobals "ExchangeFault" = some (some (.ref D))) (x1 : K.lookup D = some (excClassObj nmD qD D N0c bsD bmD true snD subD abD colD ddD m0 m1 m2 m3 m5 "ValueError.__new__")) (x2 : PySem.HandSPX.refsVE bmD = true)
    (x3 : PySem.W.findIn K (.ref D) "__setattr__" = some (some (.builtin "object.__setattr__"))) (x4 : PySem.W.subIn K (.ref D) (.type "BaseException") = some true) (x5 : PySem.W.typeIn K (.ref D) = some (.type "type")) (x6 : PySem.W.keepIn K (.ref D) = true)
    (x7 : PySem.W.findIn K (.ref D) "__init__" = some (some (.ref fI))) (x8 : PySem.W.typeIn K (.ref fI) = some (.type "function"))
    (x9 : K.lookup fI = some ⟨ocI, odI, .func (PySem.W.fnX "__init__" "ExchangeFault.__init__" (defArgs s_ExchangeFault_init) (defBody s_ExchangeFault_init) (defScope s_ExchangeFault_init) [("__class__", cc)] .none kVI docI pmI anI (.ref cI) ctI), oslI⟩)
    (x10 : PySem.W.codeIn K (.ref cI) "ExchangeFault.__init__" = true) (x11 : K.lookup cI = some ⟨cclI, cddI, .fields vsI, ccsI⟩) (x12 : vsI[2]? = some (.str flI tfI)) (x13 : ((l.prog.main.file : Str) == flI) = true) (x14 : K.lookup cc = some ⟨clI, cldI, .cell (some (.ref D)), cslI⟩)
    (x15 : PySem.W.clsIn K D = some cdD) (x16 : (l.prog.main.scope.names.lookup ("super" : Str)).isSome = false) (x17 : PySem.W.nsIn K mainGlobals "super" = some none) (x18 : PySem.W.ks_superIn K D D "__init__" = some (some (.builtin "ValueError.__init__")))
    (x19 : PySem.W.subIn K (.ref D) (.type "ValueError") = some true) (x20 : PySem.W.mroIn K D (.ref D) = some true) (x21 : PySem.W.nsIn K cStatics "thirdparty.any" = some none) (x22 : PySem.W.findIn K (.ref D) "number" = some none)
    (x23 : PySem.W.findIn K (.ref D) "__getattribute__" = some (some (.builtin "BaseException.__getattribute__"))) (x24 : PySem.W.findIn K (.ref D) "__getattr__" = some none) (x25 : PySem.W.hasDictIn K D = true) (x26 : PySem.W.findIn K (.ref D) "__class__" = some (some (.builtin "object.__class__")))
    (x27 : PySem.W.specialIn K (.builtin "object.__class__") "__get__" = some (some (.builtin "getset_descriptor.__get__"))) (x28 : PySem.W.takesIn K (.builtin "object.__class__") = some true) (x29 : PySem.W.mroIn K D (.type "object") = some true) (x30 : PySem.W.isClsIn K D = true) (x31 : PySem.W.subIn K (.ref D) (.ref D) = some true)
    (x32 : PySem.W.nsIn K mainGlobals "AlphabetFault" = some (some (.ref DA))) (x33 : PySem.W.isClsIn K DA = true) (x34 : PySem.W.typeIn K (.ref DA) = some (.type "type")) (x35 : PySem.W.subIn K (.ref D) (.ref DA) = some false)
    : LawAtS l w K CX0 5 63 "script" mg fa h := by
  have e := hfa.symm.trans (PySem.W.mg_of X G a20)
  cases e
  have F100 := fun_mk (st := s_law_cell) l0 c0 k0
  have F101 := fun_mk (st := s_law_digits) l1 c1 k1
  have F102 := fun_mk (st := s_law_box) l2 c2 k2
  have F103 := fun_mk (st := s_law_draw) l3 c3 k3
  have F104 := fun_mk (st := s_law_alphabet) l4 c4 k4
  have F105 := fun_mk (st := s_law_word) l5 c5 k5
  have F106 := fun_mk (st := s_law_free) l6 c6 k6
  have F107 := fun_mk (st := s_law_mixed) l7 c7 k7
  have F108 := fun_mk (st := s_law_same) l8 c8 k8
  have F109 := fun_mk (st := s_letter_pairs) l9 c9 k9
  have F110 := fun_mk (st := s_independent) l10 c10 k10
  have F111 := fun_mk (st := s_parts) l11 c11 k11
  have F112 := fun_mk (st := s_law_alike) l12 c12 k12
  have F113 := fun_mk (st := s_law_inverted) l13 c13 k13
  have F114 := fun_mk (st := s_law_done) l14 c14 k14
  have F115 := fun_mk (st := s_swapped) l15 c15 k15
  have F116 := fun_mk (st := s_can_exchange) l16 c16 k16
  have F117 := fun_mk (st := s_exchanges) l17 c17 k17
  have F118 := fun_mk (st := s_exchanged) l18 c18 k18
  have F119 := fun_mk (st := s_distance) l19 c19 k19
  have F120 := fun_mk (st := s_law) l20 c20 k20
  have T0 := tab_at X Y0 (PySem.W.mg_of X G A0) L0 rfl R0 Q0
  have D0 := func_mk (st := s_taken_out) L0 I0 G0
  refine ⟨PySem.W.fnOf "law" "law" (defArgs s_law) (defBody s_law) (defScope s_law) .none kV20 dc20 pm20 an20 cd20 ct20, [(C0, P0)], sp_law K P0, ?_, ?_, ?_, fun s u => .of_eq rfl, ?_, ?_⟩
  · intro p hp
    rw [List.mem_singleton.mp hp]
    exact T0.2
  · intro p hp
    rw [List.mem_singleton.mp hp]
    exact N0
  · intro p hp
    rw [List.mem_singleton.mp hp]
    exact T0.1
  · intro H a ns hl _ hT hS
    exact ⟨a, ns, rfl, hS, ⟨#[], hT (C0, P0) (by simp), trivial⟩, fun _ => rfl⟩
  · intro base _ _ TB
    have z100 := TB (C0, P0) (by simp)
    have B0 : GxR.TabB base mg C0 P0 := ⟨z100.code, z100.bm, z100.gP⟩
    have oex : OexC K D := ⟨⟨nmD, qD, N0c, bsD, bmD, snD, subD, abD, colD, ddD, m0, m1, m2, m3, m5, x1, x2⟩, x3, x4, x5, x6⟩
    have inC : InitC l.prog K mg D (faultF cc cI) cc := ⟨rfl, x10, ⟨_, _, _, _, _, _, x11, x12, x13⟩, ⟨_, _, _, x14⟩, ⟨_, x15⟩, x16, PySem.W.mg_none_of X G x17, x18, x19, x20, x21, oex⟩
    exact ok_law F120 {
      D := D
      fInit := fI
      dInit := _
      fault := ⟨PySem.W.mg_of X G x0, oex, x7, x8⟩
      init := ok_fault x9 inC x22
      bInit := fun _ us _ hl => match us, hl with | [_, _], _ => .of_eq rfl
      excC := ⟨x23, x24, x4, x25, x26, x27, x28, x29⟩
      noN := x22
      te := PySem.W.exm_ref x4 x25 x5 x31
      DA := DA
      gA := PySem.W.mg_of X G x32
      notA := kit_other x33 x34 x31 x35
      isV := kit_value x19
      fCell := f0
      dCell := _
      cell := F100
      gCell := PySem.W.mg_of X G a0
      fDigits := f1
      dDigits := _
      digits := F101
      gDigits := PySem.W.mg_of X G a1
      fBox := f2
      dBox := _
      box := F102
      gBox := PySem.W.mg_of X G a2
      fDraw := f3
      dDraw := _
      draw := F103
      gDraw := PySem.W.mg_of X G a3
      fAlpha := f4
      dAlpha := _
      alpha := F104
      gAlpha := PySem.W.mg_of X G a4
      fWord := f5
      dWord := _
      word := F105
      gWord := PySem.W.mg_of X G a5
      fFree := f6
      dFree := _
      free := F106
      gFree := PySem.W.mg_of X G a6
      fMixed := f7
      dMixed := _
      mixed := F107
      gMixed := PySem.W.mg_of X G a7
      fSame := f8
      dSame := _
      same := F108
      gSame := PySem.W.mg_of X G a8
      fPairs := f9
      dPairs := _
      pairs := F109
      gPairs := PySem.W.mg_of X G a9
      fInd := f10
      dInd := _
      ind := F110
      gInd := PySem.W.mg_of X G a10
      fParts := f11
      dParts := _
      parts := F111
      gParts := PySem.W.mg_of X G a11
      fAlike := f12
      dAlike := _
      alike := F112
      gAlike := PySem.W.mg_of X G a12
      fInv := f13
      dInv := _
      inv := F113
      gInv := PySem.W.mg_of X G a13
      fDone := f14
      dDone := _
      done := F114
      gDone := PySem.W.mg_of X G a14
      fSwapped := f15
      dSwapped := _
      swapped := F115
      gSwapped := PySem.W.mg_of X G a15
      fCan := f16
      dCan := _
      can := F116
      gCan := PySem.W.mg_of X G a16
      fExchanges := f17
      dExchanges := _
      exchanges := F117
      gExchanges := PySem.W.mg_of X G a17
      fExchanged := f18
      dExchanged := _
      exchanged := F118
      gExchanged := PySem.W.mg_of X G a18
      fDistance := f19
      dDistance := _
      distance := F119
      gDistance := PySem.W.mg_of X G a19
      fTaken := F0
      dTaken := _
      cTaken := C0
      taken := D0
      gTaken := PySem.W.mg_of X G A0
      tTaken := B0
      mlen := PySem.W.mg_none_of X G z0
      mrange := PySem.W.mg_none_of X G z1
      mint := PySem.W.mg_none_of X G z2
      mmin := PySem.W.mg_none_of X G z3
      mmax := PySem.W.mg_none_of X G z4
      msorted := PySem.W.mg_none_of X G z5
      mtuple := PySem.W.mg_none_of X G z6
      mbool := PySem.W.mg_none_of X G z7
      mstr := PySem.W.mg_none_of X G z8
      misi := PySem.W.mg_none_of X G z9
      mlist := PySem.W.mg_none_of X G z10
      menum := PySem.W.mg_none_of X G z11
      mVE := PySem.W.mg_none_of X G z12 }
end Tc
open PySem PySem.W PyProof.Rows
set_option maxRecDepth 100000 in
set_option maxHeartbeats 0 in
theorem PySem.Challenge.cw_traceclasses_k02_words_are_exchanged_holds : PySem.Challenge.rw_traceclasses_k02_words_are_exchanged.Holds := by
  w_on; o_law; k_head; (case hw => w_witness2)
  k_fill
  refine TcG.walk_ofMany (l := PySem.Challenge.rw_traceclasses_k02_words_are_exchanged) (n := 63) (k := 5) (x := "script") (CX := fun _ => L2.CX0) rfl (by decide) rfl ⟨rfl, by decide, by decide⟩ (fun w h Y => PySem.W.kIn_of Y) ?F (fun _ _ _ _ _ h => h)
  case F =>
    intro w mg fa h KX G hmg tabs
    refine' Tc.all_mk KX G hmg ?a0 ?l0 ?c0 ?k0 ?a1 ?l1 ?c1 ?k1 ?a2 ?l2 ?c2 ?k2 ?a3 ?l3 ?c3 ?k3 ?a4 ?l4 ?c4 ?k4 ?a5 ?l5 ?c5 ?k5 ?a6 ?l6 ?c6 ?k6 ?a7 ?l7 ?c7 ?k7 ?a8 ?l8 ?c8 ?k8 ?a9 ?l9 ?c9 ?k9 ?a10 ?l10 ?c10 ?k10 ?a11 ?l11 ?c11 ?k11 ?a12 ?l12 ?c12 ?k12 ?a13 ?l13 ?c13 ?k13 ?a14 ?l14 ?c14 ?k14 ?a15 ?l15 ?c15 ?k15 ?a16 ?l16 ?c16 ?k16 ?a17 ?l17 ?c17 ?k17 ?a18 ?l18 ?c18 ?k18 ?a19 ?l19 ?c19 ?k19 ?a20 ?l20 ?c20 ?k20 ?A0 ?L0 ?I0 ?G0 ?R0 ?Q0 ?N0 ?Y0 ?x0 ?x1 ?x2 ?x3 ?x4 ?x5 ?x6 ?x7 ?x8 ?x9 ?x10 ?x11 ?x12 ?x13 ?x14 ?x15 ?x16 ?x17 ?x18 ?x19 ?x20 ?x21 ?x22 ?x23 ?x24 ?x25 ?x26 ?x27 ?x28 ?x29 ?x30 ?x31 ?x32 ?x33 ?x34 ?x35 ?z0 ?z1 ?z2 ?z3 ?z4 ?z5 ?z6 ?z7 ?z8 ?z9 ?z10 ?z11 ?z12
    (case a0 => k_is); (case l0 => k_is); (case c0 => k_is); (case k0 => k_is); (case a1 => k_is); (case l1 => k_is); (case c1 => k_is); (case k1 => k_is); (case a2 => k_is); (case l2 => k_is); (case c2 => k_is); (case k2 => k_is); (case a3 => k_is); (case l3 => k_is); (case c3 => k_is); (case k3 => k_is); (case a4 => k_is); (case l4 => k_is); (case c4 => k_is); (case k4 => k_is); (case a5 => k_is); (case l5 => k_is); (case c5 => k_is); (case k5 => k_is); (case a6 => k_is); (case l6 => k_is); (case c6 => k_is); (case k6 => k_is); (case a7 => k_is); (case l7 => k_is); (case c7 => k_is); (case k7 => k_is); (case a8 => k_is); (case l8 => k_is); (case c8 => k_is); (case k8 => k_is); (case a9 => k_is); (case l9 => k_is); (case c9 => k_is); (case k9 => k_is); (case a10 => k_is); (case l10 => k_is); (case c10 => k_is); (case k10 => k_is); (case a11 => k_is); (case l11 => k_is); (case c11 => k_is); (case k11 => k_is); (case a12 => k_is); (case l12 => k_is); (case c12 => k_is); (case k12 => k_is); (case a13 => k_is); (case l13 => k_is); (case c13 => k_is); (case k13 => k_is); (case a14 => k_is); (case l14 => k_is); (case c14 => k_is); (case k14 => k_is); (case a15 => k_is); (case l15 => k_is); (case c15 => k_is); (case k15 => k_is); (case a16 => k_is); (case l16 => k_is); (case c16 => k_is); (case k16 => k_is); (case a17 => k_is); (case l17 => k_is); (case c17 => k_is); (case k17 => k_is); (case a18 => k_is); (case l18 => k_is); (case c18 => k_is); (case k18 => k_is); (case a19 => k_is); (case l19 => k_is); (case c19 => k_is); (case k19 => k_is); (case a20 => k_is); (case l20 => k_is); (case c20 => k_is); (case k20 => k_is)
    (case A0 => k_is); (case L0 => k_is); (case I0 => k_is); (case G0 => k_is); (case R0 => k_is)
    (case Q0 => rfl); (case N0 => first | rfl | decide +kernel); (case Y0 => exact tabs _ (by decide +kernel))
    (case x0 => first | k_is | rfl | decide +kernel)
    (case x1 => first | k_is | rfl | decide +kernel)
    (case x2 => first | k_is | rfl | decide +kernel)
    (case x3 => first | k_is | rfl | decide +kernel)
    (case x4 => first | k_is | rfl | decide +kernel)
    (case x5 => first | k_is | rfl | decide +kernel)
    (case x6 => first | k_is | rfl | decide +kernel)
    (case x7 => first | k_is | rfl | decide +kernel)
    (case x8 => first | k_is | rfl | decide +kernel)
    (case x9 => first | k_is | rfl | decide +kernel)
    (case x10 => first | k_is | rfl | decide +kernel)
    (case x11 => first | k_is | rfl | decide +kernel)
    (case x12 => first | k_is | rfl | decide +kernel)
    (case x13 => first | k_is | rfl | decide +kernel)
    (case x14 => first | k_is | rfl | decide +kernel)
    (case x15 => first | k_is | rfl | decide +kernel)
    (case x16 => first | k_is | rfl | decide +kernel)
    (case x17 => first | k_is | rfl | decide +kernel)
    (case x18 => first | k_is | rfl | decide +kernel)
    (case x19 => first | k_is | rfl | decide +kernel)
    (case x20 => first | k_is | rfl | decide +kernel)
    (case x21 => first | k_is | rfl | decide +kernel)
    (case x22 => first | k_is | rfl | decide +kernel)
    (case x23 => first | k_is | rfl | decide +kernel)
    (case x24 => first | k_is | rfl | decide +kernel)
    (case x25 => first | k_is | rfl | decide +kernel)
    (case x26 => first | k_is | rfl | decide +kernel)
    (case x27 => first | k_is | rfl | decide +kernel)
    (case x28 => first | k_is | rfl | decide +kernel)
    (case x29 => first | k_is | rfl | decide +kernel)
    (case x30 => first | k_is | rfl | decide +kernel)
    (case x31 => first | k_is | rfl | decide +kernel)
    (case x32 => first | k_is | rfl | decide +kernel)
    (case x33 => first | k_is | rfl | decide +kernel)
    (case x34 => first | k_is | rfl | decide +kernel)
    (case x35 => first | k_is | rfl | decide +kernel)
    (case z0 => k_is); (case z1 => k_is); (case z2 => k_is); (case z3 => k_is); (case z4 => k_is); (case z5 => k_is); (case z6 => k_is); (case z7 => k_is); (case z8 => k_is); (case z9 => k_is); (case z10 => k_is); (case z11 => k_is); (case z12 => k_is)
