import PyProof.Rows.All
import Wide.All
import OpenK.AllK
import Wide.FinOn
import PyProof.EqAt
import PyProof.EqKinds
import PyProof.TupleCall
import PyProof.JoinWalk
import HandS.Base
import HandS.Call
import HandS.List
import HandS.Comp
import HandS.Text
import HandS.AnyAll
import PyProof.WalkInts
import HandS.ForMost
import HandS.EndTab
import HandS.EndOwn
import HandS.Codes
import HandS.IsInst
import HandS.Iter
import HandS.DictTup
import HandS.Dict
import KE.KDictPairs
import PyProof.TupleOfSeq
import KE.KExcSuper
import HandS.ExcInit
import HandS.FStr
import HandS.Nested
import KE.KExcIs
import HandS.Exc
import HandS.ExcOwn
import HandS.ExcCtx
import HandS.HotCalls
import HandS.ExcInitHot
import HandS.ExcIs
import HandS.ExcField
import HandS.CallSlots
import HandS.WordsExc
import KE.GoesEnum
import HandS.StrMore
import PyProof.ListStr
import KE.DataMinMax
import PyProof.Rows.SortWalkRead
import HandS.SortKw
import HandS.Replace
import HandS.GenOver
import HandS.Walk
import HandS.Words
import KE.KRevSl
import HandS.Style
import HandS.TupAny
import HandS.Set
import HandS.SetFor
import HandS.Strs
import HandS.SetTxt0
import PyProof.Rows.SortShellAny
import PyProof.StrWalks
import PyProof.EnumMake
import PyProof.Rows.StrMeet
import PyProof.CollectStr
import PyProof.StrBlock2
import HandS.ExcValue
import KE.SortKeyHeap
import KE.KLam
import HandS.Lambda
import KE.GoesZip
import HandS.Zip
import HandS.Deep
import HandS.More
import HandS.Finally
import KE.KDictKeyed
import PyProof.DictDisplay
import HandS.DictComp
import KE.KDictCopyH
import KE.SortData
import PySem.Challenge.RW_traceclasses_k46_words_that_tell_automat
set_option Elab.async false
set_option linter.all false
set_option maxRecDepth 100000
set_option maxHeartbeats 4000000
/-! Generator expressions over a text, with tests, that read names of the def around them. -/
namespace TcG
open PySem PySem.Spec PyProof.Rows L2

/-- the state in which a step of the generator runs keeps what stood when it was made, the code table aside -/
def Kept (P : Addr) (s1 s2 : Shared) : Prop := ∀ b o, b ≠ P → s1.heap.get? b = some o → s2.heap.get? b = some o

/-- the run of the tests of one clause -/
abbrev testsRun (ifs : List Expr) (cenv : Env) : Sem Bool :=
  forIn ifs true fun c r => if r = true then do let ok ← isTrue c cenv (eval c cenv); pure (ForInStep.yield ok) else pure (ForInStep.yield r)

/-- what the steps of a generator over the signs of a text do -/
structure Steps (X : Cx) (pins : List (Addr × Obj)) (σ : L2.St) (scope : Scope) (x : Str) (ifs : List Expr) (elt : Expr) (P : Addr) (a : Str) (pz : Nat → Bool) (F : Nat → Value → Prop) (s1 : Shared) : Prop where
  tests : ∀ (C : Addr) (code : Value) (bi : Addr) (A' : Around) E' (c : Nat) (t : Tok) (s2 : Shared) (m2 : Str → Option Value), A'.handled = none → c ∈ a.cps.toList → s2.heap.Ns C m2 → m2 x = some (.str ⟨#[c]⟩ t) → Kept P s1 s2 →
    wpAny (model X.prog X.w) A' (testsRun ifs (genEnv scope (cloFrom X.env.cells scope.names []) C code bi X.env)) (fun ok s3 => ok = pz c ∧ Keeps s2 s3) E' s2
  elt : ∀ (C : Addr) (code : Value) (bi : Addr) (A' : Around) E' (c : Nat) (t : Tok) (s2 : Shared) (m2 : Str → Option Value), A'.handled = none → c ∈ a.cps.toList → pz c = true → s2.heap.Ns C m2 → m2 x = some (.str ⟨#[c]⟩ t) → Kept P s1 s2 →
    wpAny (model X.prog X.w) A' (eval elt (genEnv scope (cloFrom X.env.cells scope.names []) C code bi X.env)) (fun y s3 => F c y ∧ Keeps s2 s3) E' s2

/-- the generator g, ready to be walked in s5: over the signs of a that pass -/
def ReadyT (X : Cx) (pins : List (Addr × Obj)) (σ : L2.St) (H1 : Hp) (P : Addr) (a : Str) (pz : Nat → Bool) (F : Nat → Value → Prop) (g : Addr) (s5 : Shared) : Prop :=
  ∃ (fp wr : List Addr) (G : Array GenState → Array GenState → Prop) (Fv : Nat → Value → Prop) (St : Nat → Shared → Prop),
    WalksS X.prog X.w X.A.in1.in1 g fp wr G (a.cps.toList.filter pz).length Fv St ∧ WalksS X.prog X.w X.A.in1 g fp wr G (a.cps.toList.filter pz).length Fv St ∧ St 0 s5 ∧ (∀ b ∈ fp, b < s5.heap.objs.size) ∧ g ∈ fp ∧
    (∀ i s9, St i s9 → s9.TypeIs (.ref g) "generator") ∧
    (∀ j v, Fv j v → ∃ c, (a.cps.toList.filter pz)[j]? = some c ∧ F c v) ∧
    ∀ s', Moved wr G s5 s' → ∃ H2, GxR.Tabbed P H1 H2 ∧ Inv X pins σ H2 s'

/-- the passing places of a list are the places of its filter -/
theorem passing_filter (pz : Nat → Bool) : ∀ (l : List Nat), ((List.range l.length).filter (fun i => (l[i]?.map pz).getD false)).map (fun i => l.getD i 0) = l.filter pz := by
  intro l
  have key : ∀ (r p : List Nat), ((List.range' p.length r.length).filter (fun i => ((p ++ r)[i]?.map pz).getD false)).map (fun i => (p ++ r).getD i 0) = r.filter pz := by
    intro r
    induction r with
    | nil => intro p; rfl
    | cons x r ih =>
      intro p
      have e0 : (p ++ x :: r)[p.length]? = some x := by simp
      have e1 : (p ++ x :: r).getD p.length 0 = x := by simp
      have ih2 := ih (p ++ [x])
      have ea : p ++ [x] ++ r = p ++ x :: r := by simp
      have el : (p ++ [x]).length = p.length + 1 := by simp
      rw [ea, el] at ih2
      rw [List.length_cons, List.range'_succ, List.filter_cons, List.filter_cons, e0]
      show List.map _ (if (pz x) = true then _ else _) = _
      by_cases h : pz x = true
      · rw [if_pos h, if_pos h, List.map_cons, e1, ih2]
      · rw [if_neg h, if_neg h, ih2]
  have := key l []
  rw [List.range_eq_range']
  simpa using this

theorem passing_of {pz : Nat → Bool} {l : List Nat} {j i : Nat} (h : (passing (fun i => (l[i]?.map pz).getD false) l.length 0)[j]? = some i) : ∃ c, l[i]? = some c ∧ (l.filter pz)[j]? = some c := by
  unfold passing at h
  rw [List.drop_zero] at h
  have hf := passing_filter pz l
  have hj : (l.filter pz)[j]? = some (l.getD i 0) := by
    rw [← hf, List.getElem?_map, h]
    rfl
  have hm : i ∈ List.range l.length := (List.mem_filter.mp (List.mem_of_getElem? h)).1
  have hi := List.mem_range.mp hm
  refine ⟨l[i], List.getElem?_eq_getElem hi, ?_⟩
  rw [hj]
  simp [List.getD, hi]
theorem passing_length (pz : Nat → Bool) (l : List Nat) : (passing (fun i => (l[i]?.map pz).getD false) l.length 0).length = (l.filter pz).length := by
  unfold passing
  rw [List.drop_zero, ← passing_filter pz l, List.length_map]

section
variable {X : Cx} {pins : List (Addr × Obj)} {σ : L2.St} {H : Hp} {s : Shared}

theorem gen_text {c P : Addr} {elt iter : Expr} {ifs : List Expr} {x : Str} {px gpos : Pos} {scope : Scope} {pz : Str → Nat → Bool} {F : Str → Nat → Value → Prop} {te : TE} {k : Nat} {Q' : Value → Shared → Prop} {R : Str → Hp → Prop}
    (room : Room k X.A) (TB : GxR.TabB X.base X.mg c P) (codeAt : X.env.code = .ref c) (S : GxR.GenS X.env scope x) (hi : PE X iter te)
    (plain : ∀ v, genFold iter X.env v = pure v) (I : Inv X pins σ H s) (h : te σ H fun v H1 => ∃ a : Str, v = .str a ∧ GxR.TabG H1 P ∧ R a H1)
    (hel : ∀ a H1 s1, Inv X pins σ H1 s1 → GxR.TabG H1 P → R a H1 → Steps X pins σ scope x ifs elt P a (pz a) (F a) s1)
    (goal : ∀ a H1 g s5, R a H1 → ReadyT X pins σ H1 P a (pz a) (F a) g s5 → Q' (.ref g) s5) :
    wpAny (model X.prog X.w) X.A (eval (.GeneratorExp elt [⟨.Name x px, iter, ifs, 0⟩] scope gpos) X.env) Q' X.xe s := by
  refine wpAny_GeneratorExp_walksQ room.hd S.co (closure_ok S.free) S.cell S.dot S.loc S.kind
    (by have := room.dp; omega) ?_ plain
  refine thn (hi.run pins s σ H _ I h) fun xv s1 ⟨v, H1, I1, r1, q1⟩ => ?_
  obtain ⟨a, rfl, ⟨ps, tabAt, tri⟩, q1⟩ := q1
  obtain ⟨tk0, rfl⟩ := _root_.id r1
  refine wpAny_pyIter_str fun o St W hst => ?_
  have hel := hel a H1 s1 I1 ⟨ps, tabAt, tri⟩ q1
  have tab1 : s1.heap.get? P = some { cls := .none, data := .fields ps } := I1.hok P _ tabAt
  have tabLt : P < s1.heap.objs.size := Heap.lt_size tab1
  have tab2 : (s1.heap.push o).get? P = some { cls := .none, data := .fields ps } := Heap.get?_push_of_some _ tab1
  have cd : PySem.W.CodeHd (s1.heap.push o) c P := TB.code.keeps fun b u e => Heap.get?_push_of_some _ (I1.bk b u e)
  have lim2 : (s1.heap.push o).NoLimit := I1.nolimit.push o
  have cont : ∀ (code : Value) (h3 : Heap) (tk : Nat) (ps' : Array Value), Heap.ExtBut P (s1.heap.push o) h3 → (s1.heap.push o).objs.size ≤ h3.objs.size → h3.get? P = some { cls := .none, data := .fields ps' } →
      (∃ more, ps' = ps ++ more) → TriplesOk ps'.toList →
      wpAny (model X.prog X.w) X.A (builtinsFor X.env.globals X.env.builtins) (fun bi s4 =>
        ∃ J fp wr n0 Pf St0 pz F, Value.ref s1.heap.objs.size = .ref J ∧ (∀ A' : Around, A'.handled = none → Walks X.prog X.w A' J fp wr n0 Pf St0) ∧ St0 0 s4.heap ∧ (∀ b ∈ fp, b < s4.heap.objs.size) ∧ s4.heap.NoLimit ∧ cStatics ∉ wr ∧
          (∀ href : Heap, (∀ b o, s4.heap.get? b = some o → href.get? b = some o) →
            QuietGen X.prog X.w (genEnv scope (cloFrom X.env.cells scope.names []) s4.heap.objs.size code bi X.env) x ifs elt (List.range s4.heap.objs.size) wr Pf pz F href) ∧
          (∀ a h5 tk gs, gs.bare = true → s4.heap.objs.size < a → h5.objs.size = a + 1 → (∀ b o, s4.heap.get? b = some o → h5.get? b = some o) →
            WalksS X.prog X.w X.A.in4 a (a :: s4.heap.objs.size :: List.range s4.heap.objs.size) (s4.heap.objs.size :: wr) (GenOnlyQ s4.gens.size) (passing pz n0 0).length
              (fun j y => ∃ i, (passing pz n0 0)[j]? = some i ∧ F i y) (GenAt X.prog X.w X.A.in4 a s4.gens.size s4.heap.objs.size (List.range s4.heap.objs.size) wr pz n0 F) →
            GenAt X.prog X.w X.A.in4 a s4.gens.size s4.heap.objs.size (List.range s4.heap.objs.size) wr pz n0 F 0 { s4 with gens := s4.gens.push gs, toks := tk, heap := h5 } →
            Q' (.ref a) { s4 with gens := s4.gens.push gs, toks := tk, heap := h5 })) X.xe { s1 with heap := h3, toks := tk } := by
    intro code h3 tk ps' ext size3 tab3 grown tri3
    obtain ⟨bm, ob, e1, e2, e3, e4, e5, e6, e7, e8⟩ := TB.bm
    have statP : cStatics ≠ P := fun e => by
      obtain ⟨_, stat, _⟩ := I1.nolimit
      obtain ⟨o', es, ep, ho, hd, _⟩ := stat
      rw [e, tab1] at ho
      cases ho
      cases hd
    have statLt : cStatics < s1.heap.objs.size := let ⟨_, stat, _⟩ := I1.nolimit; stat.lt
    have sz2 : (s1.heap.push o).objs.size = s1.heap.objs.size + 1 := Heap.size_push ..
    have keep3 : ∀ b u, b ≠ P → s1.heap.get? b = some u → h3.get? b = some u := fun b u hb e => ext b u hb (Heap.get?_push_of_some _ e)
    refine wpAny_builtinsFor (m := X.mg)
      (by rw [I1.ok.glob]; exact ((I1.mod.glob.keeps I1.bk).push o).extBut ext TB.gP)
      e1 e2 (keep3 _ _ e4 (I1.bk _ _ e5)) e6 e7 e8 ?_
    refine ⟨s1.heap.objs.size, [s1.heap.objs.size], [s1.heap.objs.size], a.cps.size, SignAt a, St, (fun i => (a.cps.toList[i]?.map (pz a)).getD false), (fun i y => ∃ cc, a.cps.toList[i]? = some cc ∧ F a cc y), rfl, W, ?_, ?_, lim2.extBut ext statP, ?_, ?_, ?_⟩
    · refine (W X.A room.hd).frame _ _ _ hst fun b hb u e => ext b u (fun z => ?_) e
      rcases List.mem_cons.mp hb with z2 | z2
      · exact Nat.ne_of_lt tabLt (z.symm.trans z2)
      · cases z2
    · intro b hb
      rcases List.mem_cons.mp hb with z | z
      · rw [z]
        show s1.heap.objs.size < h3.objs.size
        omega
      · cases z
    · intro z
      rcases List.mem_cons.mp z with z | z
      · exact Nat.ne_of_lt statLt z
      · cases z
    · intro href ahead
      have kept : ∀ s2 : Shared, (∀ b ∈ List.range h3.objs.size, b ∉ [s1.heap.objs.size] → ∀ o, href.get? b = some o → s2.heap.get? b = some o) → Kept P s1 s2 := fun s2 hk b u hb e => by
        have lt := Heap.lt_size e
        have lt3 : b < h3.objs.size := by
          have q : (s1.heap.push o).objs.size ≤ h3.objs.size := size3
          rw [sz2] at q
          exact Nat.lt_of_lt_of_le (Nat.lt_succ_of_lt lt) q
        refine hk b (List.mem_range.mpr lt3) (fun z => ?_) u (ahead b u (keep3 b u hb e))
        rcases List.mem_cons.mp z with z | z
        · exact Nat.ne_of_lt lt z
        · cases z
      refine ⟨fun A' E' i v s2 m2 hA hPv hn hm hk => ?_, fun A' E' i v s2 m2 hA hPv hp hn hm hk => ?_⟩
      · obtain ⟨cc, u, hcc, rfl⟩ := hPv
        have hcl : a.cps.toList[i]? = some cc := by rw [Array.getElem?_toList]; exact hcc
        refine wpAny_mono (hel.tests _ _ _ A' E' cc u s2 m2 hA (List.mem_of_getElem? hcl) hn hm (kept s2 hk)) (fun ok s3 r => ⟨?_, r.2⟩) fun _ _ e => e
        rw [r.1, hcl]
        rfl
      · obtain ⟨cc, u, hcc, rfl⟩ := hPv
        have hcl : a.cps.toList[i]? = some cc := by rw [Array.getElem?_toList]; exact hcc
        have hp2 : pz a cc = true := by
          rw [hcl] at hp
          exact hp
        exact wpAny_mono (hel.elt _ _ _ A' E' cc u s2 m2 hA (List.mem_of_getElem? hcl) hp2 hn hm (kept s2 hk)) (fun y s3 r => ⟨⟨cc, hcl, r.1⟩, r.2⟩) fun _ _ e => e
    · intro g h5 tk5 gs bare5 above5 size5 keep5 W5 at5
      have en : a.cps.size = a.cps.toList.length := by simp
      rw [en] at W5 at5
      rw [passing_length] at W5
      refine goal a H1 g _ q1 ⟨_, _, _, _, _, W5.in4_2, W5.in4_1, at5, ?_, List.mem_cons_self, fun i s9 h9 => ?_, ?_, fun s' hm => ?_⟩
      · intro b hb
        show b < h5.objs.size
        have e5 : h5.objs.size = g + 1 := size5
        have h8 : h3.objs.size < g := above5
        rw [e5]
        rcases List.mem_cons.mp hb with z | z
        · rw [z]
          exact Nat.lt_succ_self g
        · rcases List.mem_cons.mp z with z | z
          · rw [z]
            exact Nat.lt_succ_of_lt h8
          · exact Nat.lt_succ_of_lt (Nat.lt_trans (show b < h3.objs.size from List.mem_range.mp z) h8)
      · obtain ⟨isg, _⟩ := h9
        exact isg.typeIs
      · intro j v hv
        obtain ⟨i, hij, cc, hcc, hF⟩ := hv
        obtain ⟨c2, hc2, hj⟩ := passing_of hij
        rw [hcc] at hc2
        cases hc2
        exact ⟨cc, hj, hF⟩
      · obtain ⟨more, em⟩ := grown
        have nwr : ∀ b u, s1.heap.get? b = some u → b ∉ h3.objs.size :: [s1.heap.objs.size] := fun b u e hb => by
          have lt := Heap.lt_size e
          have q : s1.heap.objs.size < h3.objs.size := by
            have q0 : (s1.heap.push o).objs.size ≤ h3.objs.size := size3
            rw [sz2] at q0
            exact q0
          rcases List.mem_cons.mp hb with z | z
          · exact Nat.ne_of_lt (Nat.lt_trans lt q) z
          · rcases List.mem_cons.mp z with z | z
            · exact Nat.ne_of_lt lt z
            · cases z
        have J := GxR.inv_tab (more := more) (h' := s'.heap) (g' := s'.gens) (d' := s'.drawn) (t' := s'.toks) I1 tabAt
          (fun b u hb e => hm.heap b u (nwr b u e) (keep5 b u (keep3 b u hb e)))
          (by rw [← em]; exact hm.heap P _ (nwr P _ tab1) (keep5 P _ tab3)) (AllBare.movedS (I1.bare.push bare5) hm)
        rw [GxR.sh_eta s1 s' hm.os] at J
        exact ⟨upd H1 P (.tbl (ps ++ more)), ⟨⟨ps ++ more, upd_same, by rw [← em]; exact tri3⟩, fun b hb => upd_ne hb⟩, J⟩
  refine ⟨lim2, ?_⟩
  cases hf : codeAmong gpos ps.toList with
  | none =>
    refine wpAny_genexprCodeX codeAt (cd.code tab2 tri) (cd.tab tab2) hf fun c' h' tk ext ge lt code' _ tab' _ => ?_
    obtain ⟨o1, vs, f1, tf, fl, tg, inF, tx, tt, op, _, _, _, _, _, _, _, _, _, tri', _⟩ := code'
    exact cont _ h' tk _ ext (Nat.le_trans ge (Nat.le_of_lt lt)) tab'.2 ⟨_, rfl⟩ tri'
  | some cv =>
    refine wpAny_genexprCode_hit codeAt (cd.code tab2 tri) hf ?_
    exact cont cv (s1.heap.push o) s1.toks ps (Heap.ExtBut.refl _ _) (Nat.le_refl _) tab2 ⟨#[], by simp⟩ tri
end
end TcG
/-! ''.join(x for x in W if x in L): the signs of W that stand in L; L a name of the def around. -/
namespace TcG
open PySem PySem.Spec PyProof.Rows L2

theorem clo_look {cells : List (Str × Addr)} {names : List (Str × NameKind)} {y : Str} {c : Addr} (hf : (y, NameKind.free) ∈ names) (hc : cells.lookup y = some c) : (cloFrom cells names []).lookup y = some c := by
  have hm := cloFrom_has (cells := cells) (acc := []) hf
  rw [hc] at hm
  have hall : ∀ d, (y, d) ∈ cloFrom cells names [] → d = c := fun d hd => by
    rcases cloFrom_mem hd with z | ⟨_, z⟩
    · cases z
    · rw [z, hc]
      rfl
  cases e : (cloFrom cells names []).lookup y with
  | none =>
    exfalso
    have : ∀ (l : List (Str × Addr)), (y, c) ∈ l → l.lookup y ≠ none := by
      intro l
      induction l with
      | nil => intro h; cases h
      | cons p r ih =>
        intro h
        obtain ⟨n, d⟩ := p
        rw [List.lookup_cons]
        by_cases hn : (y == n) = true
        · rw [hn]
          intro z
          cases z
        · rw [Bool.not_eq_true] at hn
          rw [hn]
          refine ih ?_
          rcases List.mem_cons.mp h with h | h
          · cases h
            simp at hn
          · exact h
    exact this _ hm e
  | some d => rw [hall d (PySem.mem_of_lookup e)]

/-- the scope of a generator expression of one clause over the name x, in a def with these names -/
def genOk (outer : List (Str × NameKind)) (sc : Scope) (x : Str) : Bool :=
  decide (sc.kind = .function) && !sc.isCoroutine && sc.names.all (fun y => decide (y.2 ≠ .cell) && (decide (y.2 ≠ .free) || decide (outer.lookup y.1 = some .cell)))
    && decide (sc.names.lookup (".0" : Str) = some NameKind.local) && decide (sc.names.lookup x = some NameKind.local)
theorem gens_of {X : Cx} {sc : Scope} {x : Str} (ok : X.Ok) (h : genOk X.env.scope.names sc x = true) : GxR.GenS X.env sc x := by
  unfold genOk at h
  simp only [Bool.and_eq_true, List.all_eq_true, Bool.or_eq_true, decide_eq_true_eq, Bool.not_eq_true'] at h
  obtain ⟨⟨⟨⟨h1, h2⟩, h3⟩, h4⟩, h5⟩ := h
  refine ⟨h1, h2, fun y hy => (h3 y hy).1, h4, h5, fun y hy e => ?_⟩
  rcases (h3 y hy).2 with z | z
  · exact absurd e z
  · exact ok.has y.1 (.inl z)

section
variable {X : Cx} {pins : List (Addr × Obj)} {σ : L2.St} {H : Hp} {s : Shared}

/-- a name of the def around, read by a step of the generator -/
theorem ld_free {P : Addr} {scope : Scope} {y : Str} {iy : Nat} {v : V} {s1 s2 : Shared} {C : Addr} {code : Value} {bi : Addr} {A' : Around} {E' : Value → Shared → Prop} {py : Pos} {Q : Value → Shared → Prop} {ps : Array Value}
    (I1 : Inv X pins σ H s1) (tab : H P = some (.tbl ps)) (hN : X.N[iy]? = some y) (hv : σ[iy]? = some (some v)) (hk : X.env.kindOf y = some .cell) (kind : scope.kind = .function) (hl : scope.names.lookup y = some .free)
    (kept : Kept P s1 s2) (hd : (y == ("__debug__" : Str)) = false) (hcd : (y == ("__classdict__" : Str)) = false) (h : ∀ u, RelV v u → Q u s2) :
    wpAny (model X.prog X.w) A' (eval (.Name y py) (genEnv scope (cloFrom X.env.cells scope.names []) C code bi X.env)) Q E' s2 := by
  obtain ⟨m, _, look⟩ := I1.loc
  obtain ⟨u, ru, l⟩ := look iy y v hN hv (.inr (.inl hk))
  rcases l with ⟨z, _⟩ | ⟨_, c, hc, o, ho, hdat⟩
  · rw [hk] at z
    cases z
  · have tab1 : s1.heap.get? P = some { cls := .none, data := .fields ps } := I1.hok P _ tab
    have nP : c ≠ P := fun z => by
      rw [z, tab1] at ho
      cases ho
      cases hdat
    have cell2 : s2.heap.IsCell c (some u) := ⟨o, kept c o nP ho, hdat⟩
    exact wpAny_Name (wpAny_loadName_free kind hl (clo_look (PySem.mem_of_lookup hl) hc) cell2 (h u ru) hcd) hd

/-- the test «x in y» of a sign, y a text of the def around -/
theorem steps_in {P : Addr} {scope : Scope} {x y : Str} {iy : Nat} {L a : Str} {s1 : Shared} {ps : Array Value} {p1 p2 p3 p4 : Pos}
    (I1 : Inv X pins σ H s1) (tab : H P = some (.tbl ps)) (S : GxR.GenS X.env scope x) (hN : X.N[iy]? = some y) (hv : σ[iy]? = some (some (.str L))) (hk : X.env.kindOf y = some .cell) (hl : scope.names.lookup y = some .free)
    (hd : (y == ("__debug__" : Str)) = false) (hcd : (y == ("__classdict__" : Str)) = false) (hdx : (x == ("__debug__" : Str)) = false) :
    Steps X pins σ scope x [.Compare (.Name x p1) [.In] [.Name y p2] p3] (.Name x p4) P a (fun c => decide (c ∈ L.cps.toList)) (fun c v => ∃ t, v = .str ⟨#[c]⟩ t) s1 := by
  refine ⟨fun C code bi A' E' c t s2 m2 hA hc hn hm kept => ?_, fun C code bi A' E' c t s2 m2 hA hc hp hn hm kept => ?_⟩
  · unfold testsRun
    simp only [List.forIn_cons, List.forIn_nil, if_true]
    refine wpAny_bind (wpAny_bind (wpAny_isTrue_Compare1 ?_))
    refine wpAny_Name (wpAny_loadName_local (env := genEnv scope (cloFrom X.env.cells scope.names []) C code bi X.env) S.kind S.loc hn hm ?_) hdx
    refine ld_free I1 tab hN hv hk S.kind hl kept hd hcd fun u ru => ?_
    obtain ⟨t', rfl⟩ := (show ∃ t', u = Value.str L t' from ru)
    refine PyProof.Rows.in_str ?_
    refine wpAny_truthy_bool ?_
    refine wpAny_pure ?_
    show wpAny _ _ (pure _) _ _ _
    refine wpAny_pure ⟨PySem.StrLaws.found_one L c, GxR.keeps_refl _⟩
  · refine wpAny_Name (wpAny_loadName_local (env := genEnv scope (cloFrom X.env.cells scope.names []) C code bi X.env) S.kind S.loc hn hm ?_) hdx
    exact ⟨⟨t, rfl⟩, GxR.keeps_refl _⟩

/-- the reading: W, a text; L stands in the i-th slot -/
def tKept (P : Addr) (i : Nat) (te : TE) : TE := fun σ H Q => te σ H fun v H1 => ∃ a : Str, v = .str a ∧ GxR.TabG H1 P ∧ ∃ L : Str, σ[i]? = some (some (.str L)) ∧ a.cps.toList.length ≤ 1000 ∧
  ∀ H2, GxR.Tabbed P H1 H2 → Q (.str ⟨(a.cps.toList.filter fun c => decide (c ∈ L.cps.toList)).toArray⟩) H2

theorem joinOk_ones (l : List Nat) (h : l.length ≤ 1000) : JoinOk ⟨#[]⟩ (l.map fun c => (⟨#[c]⟩ : Str)) = true := by
  unfold JoinOk
  have key : ∀ (l : List Nat) (n : Nat), (l.map fun c => (⟨#[c]⟩ : Str)).foldl (fun a b => a + b.length + (⟨#[]⟩ : Str).length) n = n + l.length := by
    intro l
    induction l with
    | nil => intro n; rfl
    | cons x r ih =>
      intro n
      rw [List.map_cons, List.foldl_cons, ih, List.length_cons]
      show n + 1 + 0 + r.length = n + (r.length + 1)
      omega
  rw [List.foldl_toArray, key]
  have : PySem.Builtin.Str.tooLong (0 + l.length) = false := by
    unfold PySem.Builtin.Str.tooLong
    simp only [decide_eq_false_iff_not]
    have : sizeLine = 16777216 := rfl
    omega
  rw [this]
  rfl

theorem pe_kept {c P : Addr} {j : Nat} {iter : Expr} {x y : Str} {iy : Nat} {px p1 p2 p3 p4 p5 apos cpos gpos : Pos} {scope : Scope} {te : TE} {k : Nat}
    (room : Room k X.A) (TB : GxR.TabB X.base X.mg c P) (codeAt : X.env.code = .ref c) (gen : genOk X.env.scope.names scope x = true) (hi : PE X iter te)
    (hN : X.N[iy]? = some y) (hk : X.env.kindOf y = some .cell) (hl : scope.names.lookup y = some .free)
    (plain : ∀ v, genFold iter X.env v = pure v) (hd : (y == ("__debug__" : Str)) = false := by decide) (hcd : (y == ("__classdict__" : Str)) = false := by decide) (hdx : (x == ("__debug__" : Str)) = false := by decide)
    (base : attributeBase (.Constant (.str ⟨#[]⟩) j p5) "join" X.env (eval (.Constant (.str ⟨#[]⟩) j p5) X.env) = eval (.Constant (.str ⟨#[]⟩) j p5) X.env := by rfl)
    (few : ((backTo cpos (starEach [.GeneratorExp (.Name x p4) [⟨.Name x px, iter, [.Compare (.Name x p1) [.In] [.Name y p2] p3], 0⟩] scope gpos] X.env)).all (fun x => !x.1) && (backToKw cpos (keywordEach [] X.env)).all (fun x => x.1.isSome)
      && decide (([.GeneratorExp (.Name x p4) [⟨.Name x px, iter, [.Compare (.Name x p1) [.In] [.Name y p2] p3], 0⟩] scope gpos] : List Expr).length + ([] : List Keyword).length + (if ([] : List Keyword).isEmpty then 0 else 1) < 30)) = true := by rfl)
    (line : (apos.endLine == cpos.line) = true := by rfl)
    (each : starEach [.GeneratorExp (.Name x p4) [⟨.Name x px, iter, [.Compare (.Name x p1) [.In] [.Name y p2] p3], 0⟩] scope gpos] X.env
      = (false, eval (.GeneratorExp (.Name x p4) [⟨.Name x px, iter, [.Compare (.Name x p1) [.In] [.Name y p2] p3], 0⟩] scope gpos) X.env) :: starEach [] X.env := by rfl)
    (bare : (backTo cpos (starEach [] X.env)).any (·.1) = false := by rfl) :
    PE X (.Call (.Attribute (.Constant (.str ⟨#[]⟩) j p5) "join" apos) [.GeneratorExp (.Name x p4) [⟨.Name x px, iter, [.Compare (.Name x p1) [.In] [.Name y p2] p3], 0⟩] scope gpos] [] cpos) (tKept P iy te) := by
  refine ⟨fun pins s σ H Q I h => ?_⟩
  have S := gens_of I.ok gen
  refine wpAny_Call_method_late base few line rfl (Calls.Constant_str ?_)
  refine ⟨"str", _, PySem.F.plainAttrs_str, PySem.F.slot_str_join, PySem.F.type_str_join, typeIs_str _ _ _, (fun _ e => nomatch e), ?_⟩
  rw [each]
  refine Calls.callWith_builtin (by show (false || (backTo cpos (starEach [] X.env)).any (·.1)) = false; rw [bare] <;> rfl) (Calls.evalArgs_plain ?_)
  have I' := I.tok (s.toks + 1)
  refine Calls.spliced_cons (gen_text (pz := fun a c => match σ[iy]? with | some (some (.str L)) => decide (c ∈ L.cps.toList) | _ => false) (F := fun a c v => ∃ t, v = .str ⟨#[c]⟩ t)
    (R := fun a H1 => ∃ L : Str, σ[iy]? = some (some (.str L)) ∧ a.cps.toList.length ≤ 1000 ∧ ∀ H2, GxR.Tabbed P H1 H2 → Q (.str ⟨(a.cps.toList.filter fun c => decide (c ∈ L.cps.toList)).toArray⟩) H2)
    room TB codeAt S hi plain I' h (fun a H1 s1 I1 tb r => ?_) fun a H1 g s5 hR hG => ?_)
  · obtain ⟨ps, tab, _⟩ := tb
    obtain ⟨L, hv, _⟩ := r
    rw [hv]
    exact steps_in I1 tab S hN hv hk hl hd hcd hdx
  refine Calls.spliced_nil ?_
  obtain ⟨L, hv, small, q⟩ := hR
  rw [hv] at hG
  obtain ⟨fp, wr, G, F, St, W, _, hst, hfp, hg, hT, hstr, back⟩ := hG
  have hlen : (a.cps.toList.filter fun c => decide (c ∈ L.cps.toList)).length ≤ 1000 := Nat.le_trans (List.length_filter_le _ _) small
  refine PySem.SC.joinGen W hT hst hfp hg (fun i v hv => ?_) (fun s' l hm hio => ?_) (Nat.le_trans hlen (by decide))
  · obtain ⟨cc, _, t, e⟩ := hstr i v hv
    exact ⟨_, _, e⟩
  · have e : l.map (·.1) = (a.cps.toList.filter fun c => decide (c ∈ L.cps.toList)).map fun c => (⟨#[c]⟩ : Str) := by
      have n0 : l.length = (a.cps.toList.filter fun c => decide (c ∈ L.cps.toList)).length := by
        have e0 := hio.1
        rw [List.size_toArray] at e0
        unfold strValues at e0
        rw [List.length_map] at e0
        exact e0
      refine List.ext_getElem? fun j => ?_
      rw [List.getElem?_map, List.getElem?_map]
      cases hj : l[j]? with
      | none =>
        have h1 : (a.cps.toList.filter fun c => decide (c ∈ L.cps.toList))[j]? = none := by
          rw [List.getElem?_eq_none_iff] at hj ⊢
          omega
        rw [h1]
        rfl
      | some p =>
        have h2 : (strValues l).toArray[j]? = some (.str p.1 p.2) := by
          rw [List.getElem?_toArray]
          unfold strValues
          rw [List.getElem?_map, hj]
          rfl
        obtain ⟨cc, hc, t, ev⟩ := hstr j _ (hio.2 j _ h2)
        rw [hc]
        injection ev with ev1
        show some p.1 = some _
        rw [ev1]
    obtain ⟨H3, ht, J⟩ := back s' hm
    rw [e]
    refine ⟨joinOk_ones _ hlen, fun t' k' => ⟨.str _, H3, J.tok k', ⟨t', ?_⟩, q H3 ht⟩⟩
    have e2 := join_ones (a.cps.toList.filter fun c => decide (c ∈ L.cps.toList))
    unfold Txt.join
    rw [PySem.StrLaws.glued_eq_join, e2]
end
end TcG
/-! min, max of two texts; a text unpacked into names. -/
namespace TcG
open PySem PySem.Spec PyProof.Rows L2

/-- the text of these signs -/
def tx (l : List Nat) : Str := ⟨l.toArray⟩
theorem tx_list (l : List Nat) : (tx l).cps.toList = l := rfl
theorem tx_inj {a b : List Nat} (h : tx a = tx b) : a = b := by
  have := congrArg (fun s : Str => s.cps.toList) h
  exact this
theorem tx_of (s : Str) : s = tx s.cps.toList := by
  cases s
  rfl
theorem tx_eq {a b : List Nat} : decide (V.str (tx a) = V.str (tx b)) = decide (a = b) := by
  by_cases h : a = b
  · rw [h]
    simp
  · rw [decide_eq_false h]
    exact decide_eq_false fun z => h (tx_inj (V.str.inj z))
theorem tx_append (a b : List Nat) : tx a ++ tx b = tx (a ++ b) := by
  show Str.append _ _ = _
  unfold Str.append tx
  simp
theorem tx_length (l : List Nat) : (tx l).length = l.length := by
  show l.toArray.size = l.length
  simp

section
variable {prog : Program} {w : World} {A : Around} {E : Value → Shared → Prop} {s : Shared}

def two (p q : Str) (t u : Tok) : Array Value := #[.str p t, .str q u]

theorem cmp_two {op : CmpOp} {p q : Str} {t u : Tok} {r : Str → Str → Bool}
    (h : ∀ (x y : Str) (t u : Tok) (A' : Around) (s : Shared) (Q : Value → Shared → Prop) (E : Value → Shared → Prop), Q (.bool (r x y)) s → wpAny (model prog w) A' (richCompare op (.str x t) (.str y u)) Q E s) :
    CmpOf prog w A op (fun i v => (two p q t u)[i]? = some v) (fun i j => match i, j with | 1, 0 => r q p | 0, 1 => r p q | 0, 0 => r p p | _, _ => r q q) := by
  intro i j a b s Q E ha hb hQ
  match i, j with
  | 0, 0 => cases ha; cases hb; exact h _ _ _ _ _ _ _ _ hQ
  | 0, 1 => cases ha; cases hb; exact h _ _ _ _ _ _ _ _ hQ
  | 1, 0 => cases ha; cases hb; exact h _ _ _ _ _ _ _ _ hQ
  | 1, 1 => cases ha; cases hb; exact h _ _ _ _ _ _ _ _ hQ
  | i + 2, _ => simp [two] at ha
  | 0, j + 2 => simp [two] at hb
  | 1, j + 2 => simp [two] at hb

theorem min_two_texts {p q : Str} {t u : Tok} {Q : Value → Shared → Prop} (hh : A.handled = none)
    (h : ∀ h' tk t', (∀ c o, s.heap.get? c = some o → h'.get? c = some o) → Q (.str (if q.cps.toList < p.cps.toList then q else p) t') { s with heap := h', toks := tk }) :
    wpAny (model prog w) A (call (.builtin "min") [.str p t, .str q u]) Q E s := by
  have tupAt : (s.heap.push { cls := .type "tuple", data := .seq #[.str p t, .str q u] }).IsTuple s.heap.objs.size (two p q t u) := ⟨_, Heap.get?_push_size _ rfl, rfl, 0, by rfl⟩
  refine call_min_two (wpAny_pyIter_tuple tupAt ?_)
  have sz : (s.heap.push { cls := .type "tuple", data := .seq #[.str p t, .str q u] }).objs.size = s.heap.objs.size + 1 := Heap.size_push ..
  refine ⟨_, [_, s.heap.objs.size], [_], _, _, _, _, rfl,
    Walks.tuple (A := A.in1) hh _ s.heap.objs.size (by rw [sz]; exact Nat.ne_of_lt (Nat.lt_succ_self _)) (two p q t u),
    ⟨⟨_, Heap.get?_push_size _ rfl, rfl, rfl⟩, tupAt.push _⟩, fun c hc => ?_, (by decide : 0 < 2), cmp_two (r := fun x y => decide (x.cps.toList < y.cps.toList)) (fun x y t u A' s Q E hq => PyProof.Rows.lt_str hq), fun v h' tk hP hk => ?_⟩
  · show c < ((s.heap.push _).push _).objs.size
    rw [Heap.size_push, sz]
    rcases List.mem_cons.mp hc with z | z
    · rw [z, sz]
      exact Nat.lt_succ_self _
    · rcases List.mem_cons.mp z with z | z
      · rw [z]
        exact Nat.lt_succ_of_lt (Nat.lt_succ_self _)
      · cases z
  · have old : ∀ c o, s.heap.get? c = some o → h'.get? c = some o := fun c o e => by
      refine hk c o (fun hm => ?_) (Heap.get?_push_of_some _ (Heap.get?_push_of_some _ e))
      rcases List.mem_cons.mp hm with z | z
      · have lt := Heap.lt_size e
        rw [z, sz] at lt
        exact Nat.lt_irrefl _ (Nat.lt_of_succ_lt lt)
      · cases z
    by_cases hba : q.cps.toList < p.cps.toList
    · have e : v = .str q u := by
        have hP2 : (two p q t u)[argBest (fun i j => match i, j with | 1, 0 => decide (q.cps.toList < p.cps.toList) | 0, 1 => decide (p.cps.toList < q.cps.toList) | 0, 0 => decide (p.cps.toList < p.cps.toList) | _, _ => decide (q.cps.toList < q.cps.toList)) 1]? = some v := hP
        simp [argBest, hba, two] at hP2
        exact hP2.symm
      have := h h' tk u old
      rw [if_pos hba] at this
      rw [e]
      exact this
    · have e : v = .str p t := by
        have hP2 : (two p q t u)[argBest (fun i j => match i, j with | 1, 0 => decide (q.cps.toList < p.cps.toList) | 0, 1 => decide (p.cps.toList < q.cps.toList) | 0, 0 => decide (p.cps.toList < p.cps.toList) | _, _ => decide (q.cps.toList < q.cps.toList)) 1]? = some v := hP
        simp [argBest, hba, two] at hP2
        exact hP2.symm
      have := h h' tk t old
      rw [if_neg hba] at this
      rw [e]
      exact this

theorem max_two_texts {p q : Str} {t u : Tok} {Q : Value → Shared → Prop} (hh : A.handled = none)
    (h : ∀ h' tk t', (∀ c o, s.heap.get? c = some o → h'.get? c = some o) → Q (.str (if p.cps.toList < q.cps.toList then q else p) t') { s with heap := h', toks := tk }) :
    wpAny (model prog w) A (call (.builtin "max") [.str p t, .str q u]) Q E s := by
  have tupAt : (s.heap.push { cls := .type "tuple", data := .seq #[.str p t, .str q u] }).IsTuple s.heap.objs.size (two p q t u) := ⟨_, Heap.get?_push_size _ rfl, rfl, 0, by rfl⟩
  refine call_max_two (wpAny_pyIter_tuple tupAt ?_)
  have sz : (s.heap.push { cls := .type "tuple", data := .seq #[.str p t, .str q u] }).objs.size = s.heap.objs.size + 1 := Heap.size_push ..
  refine ⟨_, [_, s.heap.objs.size], [_], _, _, _, _, rfl,
    Walks.tuple (A := A.in1) hh _ s.heap.objs.size (by rw [sz]; exact Nat.ne_of_lt (Nat.lt_succ_self _)) (two p q t u),
    ⟨⟨_, Heap.get?_push_size _ rfl, rfl, rfl⟩, tupAt.push _⟩, fun c hc => ?_, (by decide : 0 < 2), cmp_two (r := fun x y => decide (y.cps.toList < x.cps.toList)) (fun x y t u A' s Q E hq => PySem.P.gt_str hq), fun v h' tk hP hk => ?_⟩
  · show c < ((s.heap.push _).push _).objs.size
    rw [Heap.size_push, sz]
    rcases List.mem_cons.mp hc with z | z
    · rw [z, sz]
      exact Nat.lt_succ_self _
    · rcases List.mem_cons.mp z with z | z
      · rw [z]
        exact Nat.lt_succ_of_lt (Nat.lt_succ_self _)
      · cases z
  · have old : ∀ c o, s.heap.get? c = some o → h'.get? c = some o := fun c o e => by
      refine hk c o (fun hm => ?_) (Heap.get?_push_of_some _ (Heap.get?_push_of_some _ e))
      rcases List.mem_cons.mp hm with z | z
      · have lt := Heap.lt_size e
        rw [z, sz] at lt
        exact Nat.lt_irrefl _ (Nat.lt_of_succ_lt lt)
      · cases z
    by_cases hba : p.cps.toList < q.cps.toList
    · have e : v = .str q u := by
        have hP2 : (two p q t u)[argBest (fun i j => match i, j with | 1, 0 => decide (p.cps.toList < q.cps.toList) | 0, 1 => decide (q.cps.toList < p.cps.toList) | 0, 0 => decide (p.cps.toList < p.cps.toList) | _, _ => decide (q.cps.toList < q.cps.toList)) 1]? = some v := hP
        simp [argBest, hba, two] at hP2
        exact hP2.symm
      have := h h' tk u old
      rw [if_pos hba] at this
      rw [e]
      exact this
    · have e : v = .str p t := by
        have hP2 : (two p q t u)[argBest (fun i j => match i, j with | 1, 0 => decide (p.cps.toList < q.cps.toList) | 0, 1 => decide (q.cps.toList < p.cps.toList) | 0, 0 => decide (p.cps.toList < p.cps.toList) | _, _ => decide (q.cps.toList < q.cps.toList)) 1]? = some v := hP
        simp [argBest, hba, two] at hP2
        exact hP2.symm
      have := h h' tk t old
      rw [if_neg hba] at this
      rw [e]
      exact this

/-- n items of a walk from i on -/
theorem draw_walk {I : Addr} {fp wr : List Addr} {N : Nat} {P : Nat → Value → Prop} {St : Nat → Heap → Prop} (W : Walks prog w A I fp wr N P St) : ∀ (n i : Nat) (s : Shared) (Q : List Value → Shared → Prop), St i s.heap → i + n ≤ N →
    (∀ vs h' tk, vs.length = n → (∀ j v, vs[j]? = some v → P (i + j) v) → St (i + n) h' → (∀ b o, b ∉ wr → s.heap.get? b = some o → h'.get? b = some o) → Q vs { s with heap := h', toks := tk }) → wpAny (model prog w) A (draw (.ref I) n) Q E s
  | 0, i, s, Q, st, _, hQ => by
    show wpAny _ _ (pure []) Q E s
    exact wpAny_pure (hQ [] s.heap s.toks rfl (fun j v hj => by simp at hj) st fun _ _ _ e => e)
  | n + 1, i, s, Q, st, hle, hQ => by
    show wpAny _ _ (pyNext (.ref I) >>= _) Q E s
    refine wpAny_bind (W.item i s _ _ (by omega) st fun v h1 tk1 hv st1 k1 => ?_)
    refine wpAny_bind (wpAny_holding (draw_walk W n (i + 1) _ _ st1 (by omega) fun vs h2 tk2 hl hvs st2 k2 => wpAny_pure ?_))
    refine hQ (v :: vs) h2 tk2 (by rw [List.length_cons, hl]) (fun j x hj => ?_) ?_ fun b o hb e => k2 b o hb (k1 b o hb e)
    · cases j with
      | zero =>
        cases hj
        exact hv
      | succ j =>
        have := hvs j x (by simpa using hj)
        rw [show i + (j + 1) = i + 1 + j by omega]
        exact this
    · rw [show i + (n + 1) = i + 1 + n by omega]
      exact st2

theorem items_text {x : Str} {t : Tok} {n : Nat} {Q : List Value → Shared → Prop} (hh : A.handled = none) (hn : n = x.cps.size)
    (hQ : ∀ vs h' tk, vs.length = n → (∀ (j : Nat) v, vs[j]? = some v → SignAt x j v) → (∀ b o, s.heap.get? b = some o → h'.get? b = some o) → Q vs { s with heap := h', toks := tk }) :
    wpAny (model prog w) A (unpackItems (.str x t) n none) Q E s := by
  unfold unpackItems
  refine wpAny_bind ?_
  · unfold notIterableAtAll
    refine wpAny_bind (wpAny_specialOf (typeIs_str s x t) PySem.F.slot_str_iter.lookup ?_)
    refine wpAny_pure ?_
    simp only [Bool.false_eq_true, if_false]
    refine wpAny_bind (wpAny_holding (wpAny_pyIter_str fun o St W hst => ?_))
    have W := W A hh
    refine wpAny_bind (wpAny_holding (draw_walk W n 0 _ _ hst (by omega) fun vs h1 tk1 hl hvs st1 k1 => ?_))
    rw [if_neg (by omega)]
    have st1 : St x.cps.size h1 := by
      rw [← hn]
      simpa using st1
    refine wpAny_bind (wpAny_holding (W.done _ _ _ st1 fun h2 tk2 k2 => ?_))
    simp only [Option.isSome_none, Bool.false_eq_true, if_false]
    refine wpAny_pure (hQ vs h2 tk2 hl (fun j v hj => by simpa using hvs j v hj) fun b o e => ?_)
    have nb : b ∉ [s.heap.objs.size] := fun z => by
      rcases List.mem_cons.mp z with z | z
      · exact Nat.ne_of_lt (Heap.lt_size e) z
      · cases z
    exact k2 b o nb (k1 b o nb (Heap.get?_push_of_some _ e))
end

section
variable {X : Cx} {pos : Pos}
theorem call_minT (hc : X.calm = true) : CallR X (.builtin "min") (fun xs H Q => ∃ p q : Str, xs = [.str p, .str q] ∧ Q (.str (if q.cps.toList < p.cps.toList then q else p)) H) := by
  intro pins s σ H xs us Q I r h
  obtain ⟨p, q, rfl, hq⟩ := h
  obtain ⟨u, w', rfl, ⟨t, rfl⟩, ⟨t', rfl⟩⟩ := vals2 r
  exact min_two_texts (I.ok.hd hc) fun h' tk t2 k => ⟨.str _, H, I.kept k, ⟨t2, rfl⟩, hq⟩
theorem call_maxT (hc : X.calm = true) : CallR X (.builtin "max") (fun xs H Q => ∃ p q : Str, xs = [.str p, .str q] ∧ Q (.str (if p.cps.toList < q.cps.toList then q else p)) H) := by
  intro pins s σ H xs us Q I r h
  obtain ⟨p, q, rfl, hq⟩ := h
  obtain ⟨u, w', rfl, ⟨t, rfl⟩, ⟨t', rfl⟩⟩ := vals2 r
  exact max_two_texts (I.ok.hd hc) fun h' tk t2 k => ⟨.str _, H, I.kept k, ⟨t2, rfl⟩, hq⟩

/-- (a, b, ..) = a text of as many signs -/
def gUnT (n : Nat) (t : TGs) : TG := fun v σ H Q => ∃ l : List Nat, v = .str (tx l) ∧ l.length = n ∧ t (l.map fun c => .str (tx [c])) σ H Q
theorem pg_unT {es : List Expr} {k : Nat} {t : TGs} {n : Nat} (hc : X.calm = true) (h : PGs X es t)
    (hn : (assignEach es X.env).length = n := by rfl) (hst : (assignEach es X.env).findIdx? (·.1) = none := by rfl) : PG X (.Tuple es k pos) (gUnT n t) := by
  refine ⟨fun pins s σ H v u Q I r hw => ?_⟩
  obtain ⟨l, rfl, hl, hw⟩ := hw
  obtain ⟨tk, rfl⟩ := (show ∃ tk, u = Value.str (tx l) tk from r)
  rw [PyProof.Rows.assign_Tuple]
  refine wpAny_bind (wpAny_standAt ?_)
  unfold unpack
  rw [hn, hst]
  have sz : (tx l).cps.size = l.length := tx_length l
  refine wpAny_bind (wpAny_holding (items_text (I.ok.hd hc) (by rw [sz, hl]) fun vs h' tk' hvl hvs kp => ?_))
  have I1 : Inv X pins σ H { s with heap := h', toks := tk' } := I.kept kp
  refine h.run pins _ σ H _ _ Q I1 ?_ hw
  have key : ∀ (l : List Nat) (vs : List Value), vs.length = l.length → (∀ (j : Nat) v, vs[j]? = some v → ∃ c u, l[j]? = some c ∧ v = .str ⟨#[c]⟩ u) → Vals (l.map fun c => .str (tx [c])) vs := by
    intro l
    induction l with
    | nil =>
      intro vs e _
      cases vs with
      | nil => exact .nil
      | cons _ _ => cases e
    | cons c r ih =>
      intro vs e h
      cases vs with
      | nil => cases e
      | cons v vs =>
        obtain ⟨c', u, e1, rfl⟩ := h 0 v rfl
        cases e1
        exact .cons ⟨u, rfl⟩ (ih vs (Nat.succ.inj e) fun j v hj => h (j + 1) v hj)
  refine key l vs (by rw [hvl, hl]) fun j v hj => ?_
  obtain ⟨c, u, e1, e2⟩ := hvs j v hj
  exact ⟨c, u, by simpa [tx] using e1, e2⟩
end
end TcG
/-! Defs whose code object is known; the end of a law in which several defs hold generator expressions. -/
namespace TcG
open PySem PySem.Spec PyProof.Rows L2

/-- a def of the text whose code object stands at c -/
structure FunC (K : PySem.W.Frag) (x qual : Str) (st : Stmt) (f : Addr) (fd : FuncData) (c : Addr) : Prop where
  ex : ∃ (oc : Value) (od : Option Addr) (kV doc pm : Value) (an : Option Addr) (ct : Value) (osl : Array (Option Value)),
    fd = PySem.W.fnOf x qual (defArgs st) (defBody st) (defScope st) .none kV doc pm an (.ref c) ct ∧ K.lookup f = some ⟨oc, od, .func fd, osl⟩ ∧ PySem.W.codeIn K (.ref c) qual = true
  kp : PySem.W.keepIn K (.ref f) = true
section
variable {P : Program} {w : World} {K : PySem.W.Frag} {mg : Str → Option Value} {base : Heap}
theorem FunC.fun {x qual : Str} {st : Stmt} {f : Addr} {fd : FuncData} {c : Addr} (F : FunC K x qual st f fd c) : Fun K x qual st f fd := by
  obtain ⟨oc, od, kV, doc, pm, an, ct, osl, h1, h2, h3⟩ := F.ex
  exact ⟨⟨oc, od, kV, doc, pm, an, .ref c, ct, osl, h1, h2, h3⟩, F.kp⟩
theorem FunC.ok {x qual : Str} {st : Stmt} {f : Addr} {fd : FuncData} {c : Addr} {N ps : List Str} {k : Nat} {sp : Sp} (F : FunC K x qual st f fd c) (S : FnScope N ps (defScope st)) (len : ∀ vs H Q E, sp vs H Q E → vs.length = ps.length)
    (body : ∀ (A : Around) (outer : List Env) (s : Shared) (H : Hp) (vs : List V) (Q : VK) (E : XK), Room k (A.deeper (envOfC qual (defScope st) s.heap.objs.size f (.ref c))) → sp vs H Q E →
      ∃ t, PSs (cxOf CX0 P w K mg base N qual (defScope st) f (.ref c) A outer s H E).nox (defBody st) t ∧ t { nx := fun _ H' => Q .non H', rt := Q } (start N vs) H) : FnOk P w K mg base CX0 (k + 1) f fd ps sp := by
  obtain ⟨oc, od, kV, doc, pm, an, ct, osl, rfl, lk, code⟩ := F.ex
  refine fn_of lk code S len fun A outer s H vs Q E hr h => ?_
  obtain ⟨t, ht, q⟩ := body A outer s H vs Q E hr h
  exact ⟨t, ht.nox, q⟩
theorem func_mk {x qual : Str} {st : Stmt} {f c : Addr} {oc : Value} {od an : Option Addr} {osl : Array (Option Value)} {kV doc pm ct : Value} (l : K.lookup f = some ⟨oc, od, .func (PySem.W.fnOf x qual (defArgs st) (defBody st) (defScope st) .none kV doc pm an (.ref c) ct), osl⟩)
    (i : PySem.W.codeIn K (.ref c) qual = true) (k : PySem.W.keepIn K (.ref f) = true) : FunC K x qual st f (PySem.W.fnOf x qual (defArgs st) (defBody st) (defScope st) .none kV doc pm an (.ref c) ct) c := ⟨⟨oc, od, kV, doc, pm, an, ct, osl, rfl, l, i⟩, k⟩
end

/-- what the end knows of a def of the view: its code object and the empty table -/
def TabOf (mg : Str → Option Value) (h : Heap) (x : Str) : Prop :=
  ∃ (f : Addr) (o : Obj) (fd : FuncData) (c P : Addr), mg x = some (.ref f) ∧ h.get? f = some o ∧ o.data = .func fd ∧ fd.code = .ref c ∧ PySem.W.CodeHd h c P ∧ h.get? P = some { cls := .none, data := .fields #[] }
open LamX in
theorem walk_ofMany {l : PySem.W.OpenLaw} {n k : Nat} {q : Program} {loose : List Str} {XP : (Str → Option Value) → Heap → Prop} {YP : World → Heap → Prop} {d : DefRec} {K : Params → PySem.W.Frag} {CX : World → CXT} {x : Str}
    (most : l.most = some n) (size : n ≤ sizeLine) (plain : d.params.defaults = []) (room : Room k callerA) (hY : ∀ (w : World) (h : Heap), YP w h → (K w.params).In h)
    (F : ∀ (w : World) (mg : Str → Option Value) (fa : Addr) (h : Heap), (K w.params).In h → h.Ns mainGlobals mg → mg d.name = some (.ref fa) → (∀ y : Str, ((recsOf q).any fun e => e.name == y) = true → TabOf mg h y) → LawAtS l w (K w.params) (CX w) k n x mg fa h)
    (hCX : ∀ (w : World) (H : Hp) (s : Shared) (e : Value) (s' : Shared), CX w [] H s (fun _ _ _ => False) e s' → False) :
    PySem.W.WalkO q loose XP YP l.row.toRowW d [] (fun f vs => PySem.call f vs) := by
  refine Att.attach_callB most plain fun w s0 s1 mg mb fa o pm cd doc a vs ns G Y ho hd hcd hmg hobj hints hlen hbits hg => ?_
  have KX := hY w _ Y
  have tabs : ∀ y : Str, ((recsOf q).any fun e => e.name == y) = true → TabOf mg s1.heap y := fun y hy => by
    obtain ⟨e, he, en⟩ := List.any_eq_true.mp hy
    have en : e.name = y := beq_iff_eq.mp en
    obtain ⟨f', o', fd', c', P', g1, g2, g3, g4, g5, g6⟩ := G.T.tab e he
    rw [en] at g1
    exact ⟨f', o', fd', c', P', g1, g2, g3, g4, PySem.W.CodeHd.of g5 g6, g6.2⟩
  obtain ⟨fd, cs, sp, hT, nT, C, hb, hsp, hF⟩ := F w mg fa _ KX G.T.g hmg tabs
  exact law_callTs KX G.T.g G.T.b G.T.builtins G.T.nolimit hg hT nT C G.T.bmain hobj hints (Nat.le_trans hlen size) room hF hb (fun H hH hS => hsp H a ns hlen hbits hH hS) fun H e s' => hCX w H s1 e s'

/-- the table of a def, by what the written part tells -/
theorem tab_at {K : PySem.W.Frag} {mg : Str → Option Value} {h : Heap} {x : Str} {f c P : Addr} {oc e : Value} {od dd : Option Addr} {fd : FuncData} {osl sl : Array (Option Value)} {vs : Array Value} (KX : K.In h) (T : TabOf mg h x)
    (m : mg x = some (.ref f)) (l : K.lookup f = some ⟨oc, od, .func fd, osl⟩) (hc : fd.code = .ref c) (lc : K.lookup c = some ⟨e, dd, .fields vs, sl⟩) (hP : vs[11]? = some (.ref P)) :
    PySem.W.CodeHd h c P ∧ h.get? P = some { cls := .none, data := .fields #[] } := by
  obtain ⟨f', o', fd', c', P', g1, g2, g3, g4, g5, g6⟩ := T
  rw [m] at g1
  cases g1
  rw [KX _ _ l] at g2
  cases g2
  cases g3
  rw [hc] at g4
  cases g4
  have g5' := g5
  obtain ⟨o2, vs2, file, tf, flags, tg, inF, text, tt, e1, e2, e3, e4, _⟩ := g5'
  rw [KX _ _ lc] at e1
  cases e1
  cases e3
  rw [hP] at e4
  cases e4
  exact ⟨g5, g6⟩
end TcG
/-! What a call leaves as it was. -/
namespace TcG
open PySem PySem.Spec PyProof.Rows L2

theorem same_new {H : Hp} {p : Addr} {o : HO} (h : H p = none) : Same H (upd H p o) := fun b x e => by
  rw [upd_ne (ne_of_none e h)]
  exact e

/-- all but what stands at S is as it was -/
def Mv (S : List Addr) (H H' : Hp) : Prop := ∀ a o, a ∉ S → H a = some o → H' a = some o
theorem Mv.refl (S : List Addr) (H : Hp) : Mv S H H := fun _ _ _ e => e
theorem Mv.trans {S : List Addr} {H H1 H2 : Hp} (a : Mv S H H1) (b : Mv S H1 H2) : Mv S H H2 := fun c o n e => b c o n (a c o n e)
theorem Mv.of_same {S : List Addr} {H H1 : Hp} (a : Same H H1) : Mv S H H1 := fun c o _ e => a c o e
theorem Mv.wide {S T : List Addr} {H H1 : Hp} (a : Mv S H H1) (h : ∀ x ∈ S, x ∈ T) : Mv T H H1 := fun c o n e => a c o (fun z => n (h c z)) e
theorem Mv.new {S : List Addr} {H : Hp} {p : Addr} {o : HO} (h : H p = none) : Mv S H (upd H p o) := .of_same (same_new h)
theorem Mv.put {H : Hp} {p : Addr} {o : HO} : Mv [p] H (upd H p o) := fun a u n e => by
  rw [upd_ne (fun z => n (by rw [z]; exact List.mem_cons_self))]
  exact e
theorem Mv.tabbed {P : Addr} {H H' : Hp} (h : GxR.Tabbed P H H') : Mv [P] H H' := fun a o n e => by
  rw [h.2 a fun z => n (by rw [z]; exact List.mem_cons_self)]
  exact e
/-- an object of another kind stands elsewhere -/
theorem Mv.seqT {K : PySem.W.Frag} {S : List Addr} {H H' : Hp} {a : Addr} {xs : List V} (m : Mv S H H') (h : SqT K H a xs) (n : ∀ p ∈ S, ∀ u, Rd H p u → ∀ ys, u ≠ .tup ys) : SqT K H' a xs := by
  rcases h with h | h
  · have nS : a ∉ S := fun z => n a z _ h _ rfl
    rcases h with h | ⟨o, h⟩
    · exact .inl (.inl (m a _ nS h))
    · exact .inl (.inr ⟨o, m a _ nS h⟩)
  · exact .inr h
theorem Mv.seqL {K : PySem.W.Frag} {S : List Addr} {H H' : Hp} {a : Addr} {xs : List V} (m : Mv S H H') (h : SqL K H a xs) (n : ∀ p ∈ S, ∀ u, Rd H p u → u ≠ .lst xs) : SqL K H' a xs := by
  rcases h with h | h
  · have nS : a ∉ S := fun z => n a z _ h rfl
    rcases h with h | ⟨o, h⟩
    · exact .inl (.inl (m a _ nS h))
    · exact .inl (.inr ⟨o, m a _ nS h⟩)
  · exact .inr h
theorem Same.seqT {K : PySem.W.Frag} {H H' : Hp} {a : Addr} {xs : List V} (m : Same H H') (h : SqT K H a xs) : SqT K H' a xs :=
  (Mv.of_same (S := []) m).seqT h fun p hp => nomatch hp
theorem rd_of {H : Hp} {p : Addr} {o u : HO} (h : H p = some o) (hf : ∀ q v, o ≠ .frz q v) (r : Rd H p u) : u = o := by
  rcases r with r | ⟨q, r⟩
  · rw [h] at r
    cases r
    rfl
  · rw [h] at r
    cases r
    exact absurd rfl (hf _ _)
theorem fmod_range {x m : Int} (h : 0 < m) : 0 ≤ x.fmod m ∧ x.fmod m < m := by
  rw [Int.fmod_eq_emod_of_nonneg x (by omega)]
  exact ⟨Int.emod_nonneg _ (by omega), Int.emod_lt_of_pos _ h⟩

/-- the box of numbers that the law draws from: its digits stand at dl -/
def Box (K : PySem.W.Frag) (b dl : Addr) (H : Hp) : Prop := ∃ (ds : List Int) (n : Int), H b = some (.lst [.ref dl, .int n]) ∧ 0 ≤ n ∧ SqL K H dl (ds.map V.int)
theorem box_list_ne {dl : Addr} {n : Int} (ds : List Int) : HO.lst [V.ref dl, .int n] ≠ .lst (ds.map V.int) := fun z => by
  cases ds with
  | nil => cases z
  | cons x r => cases z
/-- the table grows, the box stays -/
theorem Box.mvT {K : PySem.W.Frag} {b dl P : Addr} {H H' : Hp} (h : Box K b dl H) (m : Mv [P] H H') (t : GxR.TabG H P) : Box K b dl H' := by
  obtain ⟨ds, n, hb, hn, hd⟩ := h
  obtain ⟨ps, tab, _⟩ := t
  have rd : ∀ u, Rd H P u → u = .tbl ps := fun u r => rd_of tab (fun _ _ z => by cases z) r
  refine ⟨ds, n, m b _ (fun z => ?_) hb, hn, m.seqL hd fun p hp u r => ?_⟩
  · rw [List.mem_singleton.mp z, tab] at hb
    cases hb
  · rw [List.mem_singleton.mp hp] at r
    rw [rd u r]
    intro z
    cases z
theorem Box.same {K : PySem.W.Frag} {b dl : Addr} {H H' : Hp} (h : Box K b dl H) (m : Same H H') : Box K b dl H' := by
  obtain ⟨ds, n, hb, hn, hd⟩ := h
  exact ⟨ds, n, m _ _ hb, hn, m.seq hd⟩
/-- what was made behind the box is changed -/
theorem Box.put {K : PySem.W.Frag} {b dl p : Addr} {o : HO} {H0 H : Hp} (h0 : Box K b dl H0) (np : H0 p = none) (h : Box K b dl H) : Box K b dl (upd H p o) := by
  obtain ⟨ds0, n0, hb0, _, hd0⟩ := h0
  obtain ⟨ds, n, hb, hn, hd⟩ := h
  have bp : b ≠ p := ne_of_none hb0 np
  rcases hd0 with hd0 | hd0
  · have dp : dl ≠ p := by
      rcases hd0 with z | ⟨q, z⟩
      · exact ne_of_none z np
      · exact ne_of_none z np
    refine ⟨ds, n, by rw [upd_ne bp]; exact hb, hn, ?_⟩
    rcases hd with (z | ⟨q, z⟩) | z
    · exact .inl (.inl (by rw [upd_ne dp]; exact z))
    · exact .inl (.inr ⟨q, by rw [upd_ne dp]; exact z⟩)
    · exact .inr z
  · exact ⟨ds0, n, by rw [upd_ne bp]; exact hb, hn, .inr hd0⟩
theorem Box.tabG {b dl P : Addr} {H H' : Hp} {K : PySem.W.Frag} (h : Box K b dl H) (m : Mv [b] H H') (t : GxR.TabG H P) : GxR.TabG H' P := by
  obtain ⟨ds, n, hb, hn, hd⟩ := h
  obtain ⟨ps, tab, tri⟩ := t
  refine ⟨ps, m P _ (fun z => ?_) tab, tri⟩
  rw [List.mem_singleton.mp z, hb] at tab
  cases tab
theorem Box.seqT {K : PySem.W.Frag} {b dl a : Addr} {H H' : Hp} {xs : List V} (h : Box K b dl H) (m : Mv [b] H H') (t : SqT K H a xs) : SqT K H' a xs := by
  obtain ⟨ds, n, hb, hn, hd⟩ := h
  refine m.seqT t fun p hp u r => ?_
  rw [List.mem_singleton.mp hp] at r
  rw [rd_of hb (fun _ _ z => by cases z) r]
  intro ys z
  cases z
theorem tab_seqT {K : PySem.W.Frag} {P a : Addr} {H H' : Hp} {xs : List V} (h : GxR.TabG H P) (m : Mv [P] H H') (t : SqT K H a xs) : SqT K H' a xs := by
  obtain ⟨ps, tab, _⟩ := h
  refine m.seqT t fun p hp u r => ?_
  rw [List.mem_singleton.mp hp] at r
  rw [rd_of tab (fun _ _ z => by cases z) r]
  intro ys z
  cases z
end TcG
/-! Loops and comprehensions over the signs of a text; alphabets. -/
namespace TcG
open PySem PySem.Spec PyProof.Rows L2

theorem its_go {l : List Nat} {i : Nat} {H : Hp} : (Its (tx l)).go i H ↔ i < l.length := by
  show i < (tx l).cps.size ↔ _
  rw [show (tx l).cps.size = l.length from tx_length l]
theorem its_stop {l : List Nat} {i : Nat} {H : Hp} : (Its (tx l)).stop i H ↔ l.length ≤ i := by
  show (tx l).cps.size ≤ i ↔ _
  rw [show (tx l).cps.size = l.length from tx_length l]
theorem its_yld {l : List Nat} {i : Nat} {H H' : Hp} {v : V} (h : (Its (tx l)).yld i H v H') : H' = H ∧ ∃ c, l[i]? = some c ∧ v = .str (tx [c]) := by
  obtain ⟨e, c, h1, h2⟩ := h
  exact ⟨e, c, by simpa [tx] using h1, h2⟩

/-- for c in a text -/
theorem for_text {l : List Nat} {g : TG} {tb : TS} {D : Ends} {σ : L2.St} {H : Hp} (Pv : Nat → L2.St → Hp → Prop) (h0 : Pv 0 σ H)
    (turn : ∀ i c σ H, l[i]? = some c → Pv i σ H → g (.str (tx [c])) σ H fun σ2 H2 => tb { D with nx := Pv (i + 1), ct := Pv (i + 1), bk := D.nx } σ2 H2) (out : ∀ σ H, Pv l.length σ H → D.nx σ H) :
    ∃ W : Nat → Nat → L2.St → Hp → Prop, (∃ m, W 0 m σ H) ∧ ∀ i m σ H, W i m σ H →
      ((Its (tx l)).stop i H ∧ D.nx σ H) ∨ ((Its (tx l)).go i H ∧ ∃ N : L2.St → Hp → Prop, (∀ σ' H', N σ' H' → ∃ m', m' < m ∧ W (i + 1) m' σ' H') ∧ ∀ x H', (Its (tx l)).yld i H x H' → g x σ H' fun σ2 H2 => tb { D with nx := N, ct := N, bk := D.nx } σ2 H2) := by
  refine ⟨fun i m σ H => m = l.length - i ∧ i ≤ l.length ∧ Pv i σ H, ⟨l.length, by simp, Nat.zero_le _, h0⟩, ?_⟩
  rintro i m σ H ⟨rfl, hi, p⟩
  by_cases lt : i < l.length
  · refine .inr ⟨its_go.mpr lt, Pv (i + 1), fun σ' H' p' => ⟨l.length - (i + 1), by omega, rfl, lt, p'⟩, fun x H' y => ?_⟩
    obtain ⟨e, c, hc, rfl⟩ := its_yld y
    subst e
    exact turn i c σ _ hc p
  · have e : i = l.length := by omega
    subst e
    exact .inl ⟨its_stop.mpr (Nat.le_refl _), out σ H p⟩

/-- [.. for c in a text if ..] -/
theorem lc_text {l : List Nat} {g : TG} {tt : TT} {te : TE} {vs : List Nat} {σ : L2.St} {H1 : Hp} {D : Addr} {Qd : Hp → Prop} (Pv : Nat → Hp → Prop) (h0 : Pv 0 (upd H1 D (.lst [])))
    (turn : ∀ i c H, l[i]? = some c → Pv i H → g (.str (tx [c])) (wipe σ vs) H fun σ2 H2 => wipe σ2 vs = wipe σ vs ∧ tt σ2 H2 fun b H3 =>
      if b = true then te σ2 H3 fun y H4 => ∃ acc, H4 D = some (.lst acc) ∧ acc.length < sizeLine ∧ Pv (i + 1) (upd H4 D (.lst (acc ++ [y]))) else Pv (i + 1) H3) (out : ∀ H, Pv l.length H → Qd H) :
    ∃ W : Nat → Nat → Hp → Prop, (∃ m, W 0 m (upd H1 D (.lst []))) ∧ ∀ i m H, W i m H →
      ((Its (tx l)).stop i H ∧ Qd H) ∨ ((Its (tx l)).go i H ∧ ∃ Nx : Hp → Prop, (∀ H', Nx H' → ∃ m', m' < m ∧ W (i + 1) m' H') ∧ ∀ x H', (Its (tx l)).yld i H x H' → g x (wipe σ vs) H' fun σ2 H2 => wipe σ2 vs = wipe σ vs ∧ tt σ2 H2 fun b H3 =>
        if b = true then te σ2 H3 fun y H4 => ∃ acc, H4 D = some (.lst acc) ∧ acc.length < sizeLine ∧ Nx (upd H4 D (.lst (acc ++ [y]))) else Nx H3) := by
  refine ⟨fun i m H => m = l.length - i ∧ i ≤ l.length ∧ Pv i H, ⟨l.length, by simp, Nat.zero_le _, h0⟩, ?_⟩
  rintro i m H ⟨rfl, hi, p⟩
  by_cases lt : i < l.length
  · refine .inr ⟨its_go.mpr lt, Pv (i + 1), fun H' p' => ⟨l.length - (i + 1), by omega, rfl, lt, p'⟩, fun x H' y => ?_⟩
    obtain ⟨e, c, hc, rfl⟩ := its_yld y
    subst e
    exact turn i c _ hc p
  · have e : i = l.length := by omega
    subst e
    exact .inl ⟨its_stop.mpr (Nat.le_refl _), out H p⟩

/-- the second clause of a comprehension, over a text -/
theorem lc2_text {l : List Nat} {g1 : TG} {tt1 : TT} {te : TE} {vs1 : List Nat} {σ2 : L2.St} {D : Addr} {H4 : Hp} {Nx : Hp → Prop} (Pv : Nat → Hp → Prop) (h0 : Pv 0 H4)
    (turn : ∀ i c H, l[i]? = some c → Pv i H → g1 (.str (tx [c])) (wipe σ2 vs1) H fun σ3 H5 => wipe σ3 vs1 = wipe σ2 vs1 ∧ tt1 σ3 H5 fun b H6 =>
        if b = true then te σ3 H6 fun y H7 => ∃ acc, H7 D = some (.lst acc) ∧ acc.length < sizeLine ∧ Pv (i + 1) (upd H7 D (.lst (acc ++ [y]))) else Pv (i + 1) H6) (out : ∀ H, Pv l.length H → Nx H) :
    ∃ W1 : Nat → Nat → Hp → Prop, (∃ m, W1 0 m H4) ∧ ∀ j k H, W1 j k H →
      ((Its (tx l)).stop j H ∧ Nx H) ∨ ((Its (tx l)).go j H ∧ ∃ Nx1 : Hp → Prop, (∀ H', Nx1 H' → ∃ k', k' < k ∧ W1 (j + 1) k' H') ∧ ∀ x H', (Its (tx l)).yld j H x H' → g1 x (wipe σ2 vs1) H' fun σ3 H5 => wipe σ3 vs1 = wipe σ2 vs1 ∧ tt1 σ3 H5 fun b H6 =>
        if b = true then te σ3 H6 fun y H7 => ∃ acc, H7 D = some (.lst acc) ∧ acc.length < sizeLine ∧ Nx1 (upd H7 D (.lst (acc ++ [y]))) else Nx1 H6) := by
  refine ⟨fun i m H => m = l.length - i ∧ i ≤ l.length ∧ Pv i H, ⟨l.length, by simp, Nat.zero_le _, h0⟩, ?_⟩
  rintro i m H ⟨rfl, hi, p⟩
  by_cases lt : i < l.length
  · refine .inr ⟨its_go.mpr lt, Pv (i + 1), fun H' p' => ⟨l.length - (i + 1), by omega, rfl, lt, p'⟩, fun x H' y => ?_⟩
    obtain ⟨e, c, hc, rfl⟩ := its_yld y
    subst e
    exact turn i c _ hc p
  · have e : i = l.length := by omega
    subst e
    exact .inl ⟨its_stop.mpr (Nat.le_refl _), out H p⟩
/-- .. and the first one -/
theorem lc2_first {l : List Nat} {n : Nat} {R : L2.St → Hp → (Hp → Prop) → Prop} {vs : List Nat} {σ : L2.St} {H1 : Hp} {D : Addr} {Qd : Hp → Prop} (Pv : Nat → Hp → Prop) (h0 : Pv 0 (upd H1 D (.lst [])))
    (turn : ∀ i c H, l[i]? = some c → Pv i H → wipe ((wipe σ vs).set n (some (.str (tx [c])))) vs = wipe σ vs ∧ R ((wipe σ vs).set n (some (.str (tx [c])))) H (Pv (i + 1))) (out : ∀ H, Pv l.length H → Qd H) :
    ∃ W : Nat → Nat → Hp → Prop, (∃ m, W 0 m (upd H1 D (.lst []))) ∧ ∀ i m H, W i m H →
      ((Its (tx l)).stop i H ∧ Qd H) ∨ ((Its (tx l)).go i H ∧ ∃ Nx : Hp → Prop, (∀ H', Nx H' → ∃ m', m' < m ∧ W (i + 1) m' H') ∧ ∀ x H', (Its (tx l)).yld i H x H' → gName n x (wipe σ vs) H' fun σ2 H2 => wipe σ2 vs = wipe σ vs ∧ tYes σ2 H2 fun b H3 =>
        if b = true then R σ2 H3 Nx else Nx H3) := by
  refine ⟨fun i m H => m = l.length - i ∧ i ≤ l.length ∧ Pv i H, ⟨l.length, by simp, Nat.zero_le _, h0⟩, ?_⟩
  rintro i m H ⟨rfl, hi, p⟩
  by_cases lt : i < l.length
  · refine .inr ⟨its_go.mpr lt, Pv (i + 1), fun H' p' => ⟨l.length - (i + 1), by omega, rfl, lt, p'⟩, fun x H' y => ?_⟩
    obtain ⟨e, c, hc, rfl⟩ := its_yld y
    subst e
    exact turn i c _ hc p
  · have e : i = l.length := by omega
    subst e
    exact .inl ⟨its_stop.mpr (Nat.le_refl _), out H p⟩

theorem take_next {α : Type} {l : List α} {i : Nat} {x : α} (h : l[i]? = some x) : l.take (i + 1) = l.take i ++ [x] := by
  rw [List.take_add_one, h]
  rfl

/-! ### rows of texts, alphabets -/
def txs (ps : List (List Nat)) : List V := ps.map fun p => .str (tx p)
theorem txs_flat (ps : List (List Nat)) : (txs ps).all flatV = true := by
  unfold txs
  rw [List.all_map, List.all_eq_true]
  intro p _
  rfl
theorem inV_txs (p : List Nat) (ps : List (List Nat)) : inV (.str (tx p)) (txs ps) = decide (p ∈ ps) := by
  unfold inV txs
  rw [List.any_map]
  have key : ∀ q : List Nat, ((fun y => eqV y (.str (tx p))) ∘ fun q => V.str (tx q)) q = decide (q = p) := fun q => by
    show (tx q == tx p) = _
    by_cases h : q = p
    · rw [h]
      simp
    · rw [decide_eq_false h]
      exact beq_eq_false_iff_ne.mpr fun z => h (tx_inj z)
  rw [Bool.eq_iff_iff, List.any_eq_true, decide_eq_true_eq]
  constructor
  · intro ⟨q, hq, e⟩
    rw [key] at e
    rw [← of_decide_eq_true e]
    exact hq
  · intro h
    exact ⟨p, h, by rw [key]; exact decide_eq_true rfl⟩
/-- the alphabet at a: letters ls, pairs ps -/
def Alpha (K : PySem.W.Frag) (H : Hp) (a : Addr) (ls : List Nat) (ps : List (List Nat)) : Prop :=
  ∃ pt, SqT K H a [.str "alphabet", .str (tx ls), .ref pt] ∧ SqT K H pt (txs ps)
theorem Alpha.same {K : PySem.W.Frag} {H H' : Hp} {a : Addr} {ls : List Nat} {ps : List (List Nat)} (h : Alpha K H a ls ps) (m : Same H H') : Alpha K H' a ls ps := by
  obtain ⟨pt, h1, h2⟩ := h
  exact ⟨pt, Same.seqT m h1, Same.seqT m h2⟩
theorem Alpha.mvB {K : PySem.W.Frag} {H H' : Hp} {a b dl : Addr} {ls : List Nat} {ps : List (List Nat)} (h : Alpha K H a ls ps) (bx : Box K b dl H) (m : Mv [b] H H') : Alpha K H' a ls ps := by
  obtain ⟨pt, h1, h2⟩ := h
  exact ⟨pt, bx.seqT m h1, bx.seqT m h2⟩
theorem Alpha.mvT {K : PySem.W.Frag} {H H' : Hp} {a P : Addr} {ls : List Nat} {ps : List (List Nat)} (h : Alpha K H a ls ps) (t : GxR.TabG H P) (m : Mv [P] H H') : Alpha K H' a ls ps := by
  obtain ⟨pt, h1, h2⟩ := h
  exact ⟨pt, tab_seqT t m h1, tab_seqT t m h2⟩
/-- whether two letters are independent -/
def ind (ps : List (List Nat)) (x y : Nat) : Bool := decide ([min x y, max x y] ∈ ps)
theorem ind_comm (ps : List (List Nat)) (x y : Nat) : ind ps x y = ind ps y x := by
  unfold ind
  rw [Nat.min_comm, Nat.max_comm]
/-- pairs tell the lesser letter first -/
def Pairs (ls : List Nat) (ps : List (List Nat)) : Prop := ∀ p ∈ ps, ∃ x y, p = [x, y] ∧ x < y ∧ x ∈ ls ∧ y ∈ ls
theorem ind_self {ls : List Nat} {ps : List (List Nat)} (h : Pairs ls ps) (x : Nat) : ind ps x x = false := by
  unfold ind
  refine decide_eq_false fun z => ?_
  obtain ⟨a, b, e, lt, _⟩ := h _ z
  simp at e
  omega
theorem ind_either {ls : List Nat} {ps : List (List Nat)} (h : Pairs ls ps) (x y : Nat) : (decide ([x, y] ∈ ps) || decide ([y, x] ∈ ps)) = ind ps x y := by
  unfold ind
  rw [Bool.eq_iff_iff, Bool.or_eq_true, decide_eq_true_eq, decide_eq_true_eq, decide_eq_true_eq]
  constructor
  · rintro (z | z)
    · obtain ⟨a, b, e, lt, _⟩ := h _ z
      simp at e
      rw [Nat.min_eq_left (by omega), Nat.max_eq_right (by omega)]
      exact z
    · obtain ⟨a, b, e, lt, _⟩ := h _ z
      simp at e
      rw [Nat.min_eq_right (by omega), Nat.max_eq_left (by omega)]
      exact z
  · intro z
    by_cases le : x ≤ y
    · rw [Nat.min_eq_left le, Nat.max_eq_right le] at z
      exact .inl z
    · rw [Nat.min_eq_right (by omega), Nat.max_eq_left (by omega)] at z
      exact .inr z
theorem tx_lt (a b : Nat) : decide ((tx [a]).cps.toList < (tx [b]).cps.toList) = decide (a < b) := by
  show decide ([a] < [b]) = _
  by_cases h : a < b
  · rw [decide_eq_true h]
    exact decide_eq_true (List.Lex.rel h)
  · rw [decide_eq_false h]
    refine decide_eq_false fun z => h ?_
    cases z with
    | rel r => exact r
    | cons r => cases r
theorem min_tx (x y : Nat) : (if (tx [y]).cps.toList < (tx [x]).cps.toList then tx [y] else tx [x]) = tx [min x y] := by
  have e := tx_lt y x
  by_cases h : y < x
  · rw [decide_eq_true h] at e
    rw [if_pos (of_decide_eq_true e), Nat.min_eq_right (by omega)]
  · rw [decide_eq_false h] at e
    rw [if_neg (of_decide_eq_false e), Nat.min_eq_left (by omega)]
theorem max_tx (x y : Nat) : (if (tx [x]).cps.toList < (tx [y]).cps.toList then tx [y] else tx [x]) = tx [max x y] := by
  have e := tx_lt x y
  by_cases h : x < y
  · rw [decide_eq_true h] at e
    rw [if_pos (of_decide_eq_true e), Nat.max_eq_right (by omega)]
  · rw [decide_eq_false h] at e
    rw [if_neg (of_decide_eq_false e), Nat.max_eq_left (by omega)]
end TcG
/-! What a def that only reads leaves: all that stood, but that tables have grown. -/
namespace TcG
open PySem PySem.Spec PyProof.Rows L2
def Tabs (S : List Addr) (H : Hp) : Prop := ∀ P ∈ S, GxR.TabG H P
/-- all that stood stands, tables and what stands at W aside -/
def Kp (W : List Addr) (H H' : Hp) : Prop := ∀ a o, a ∉ W → (∀ ps, o ≠ .tbl ps) → H a = some o → H' a = some o
/-- nothing is taken away, and tables that S does not tell stay as they are -/
structure Th (S : List Addr) (H H' : Hp) : Prop where
  back : ∀ a, H' a = none → H a = none
  out : ∀ a ps, a ∉ S → H a = some (.tbl ps) → H' a = some (.tbl ps)
structure Gr (S : List Addr) (H H' : Hp) : Prop where
  tab : Tabs S H'
  keep : Kp [] H H'
  there : Th S H H'
theorem Th.refl (S : List Addr) (H : Hp) : Th S H H := ⟨fun _ h => h, fun _ _ _ h => h⟩
theorem Th.trans {S : List Addr} {H H1 H2 : Hp} (a : Th S H H1) (b : Th S H1 H2) : Th S H H2 := ⟨fun x h => a.back x (b.back x h), fun x ps n h => b.out x ps n (a.out x ps n h)⟩
theorem there_same {S : List Addr} {H H' : Hp} (s : Same H H') : Th S H H' := by
  refine ⟨fun a h => ?_, fun a ps _ h => s a _ h⟩
  cases e : H a with
  | none => rfl
  | some o =>
    rw [s a o e] at h
    cases h
theorem there_put {S : List Addr} {H H' : Hp} {p : Addr} {o : HO} (n : ∀ ps, H' p ≠ some (.tbl ps)) (t : Th S H H') : Th S H (upd H' p o) := by
  refine ⟨fun a h => ?_, fun a ps m h => ?_⟩
  · by_cases e : a = p
    · rw [e, upd_same] at h
      cases h
    · rw [upd_ne e] at h
      exact t.back a h
  · have h1 := t.out a ps m h
    rw [upd_ne fun z => n ps (by rw [← z]; exact h1)]
    exact h1
theorem there_new {S : List Addr} {H H' : Hp} {p : Addr} {o : HO} (n : H' p = none) (t : Th S H H') : Th S H (upd H' p o) := there_put (fun ps z => by rw [n] at z; cases z) t
theorem Kp.refl (W : List Addr) (H : Hp) : Kp W H H := fun _ _ _ _ e => e
theorem Kp.trans {W : List Addr} {H H1 H2 : Hp} (a : Kp W H H1) (b : Kp W H1 H2) : Kp W H H2 := fun c o n t e => b c o n t (a c o n t e)
theorem Kp.wide {W V : List Addr} {H H1 : Hp} (a : Kp W H H1) (h : ∀ x ∈ W, x ∈ V) : Kp V H H1 := fun c o n t e => a c o (fun z => n (h c z)) t e
theorem Kp.same {W : List Addr} {H H1 : Hp} (a : Same H H1) : Kp W H H1 := fun c o _ _ e => a c o e
theorem Kp.mv {W : List Addr} {H H1 : Hp} (a : Mv W H H1) : Kp W H H1 := fun c o n _ e => a c o n e
theorem Kp.new {W : List Addr} {H : Hp} {p : Addr} {o : HO} (n : H p = none) : Kp W H (upd H p o) := .same (same_new n)
/-- what was new is written -/
theorem Kp.put {W : List Addr} {H H1 : Hp} {p : Addr} {o : HO} (k : Kp W H H1) (n : H p = none) : Kp W H (upd H1 p o) := fun a u h t e => by
  rw [upd_ne (ne_of_none e n)]
  exact k a u h t e
theorem Tabs.same {S : List Addr} {H H1 : Hp} (t : Tabs S H) (s : Same H H1) : Tabs S H1 := fun P hP => let ⟨ps, e, r⟩ := t P hP; ⟨ps, s _ _ e, r⟩
theorem Tabs.put {S : List Addr} {H : Hp} {p : Addr} {o : HO} (t : Tabs S H) (n : ∀ ps, H p ≠ some (.tbl ps)) : Tabs S (upd H p o) := fun P hP => by
  obtain ⟨ps, e, r⟩ := t P hP
  refine ⟨ps, ?_, r⟩
  rw [upd_ne fun z => n ps (by rw [← z]; exact e)]
  exact e
theorem Tabs.new {S : List Addr} {H : Hp} {p : Addr} {o : HO} (t : Tabs S H) (n : H p = none) : Tabs S (upd H p o) := t.put fun ps z => by rw [n] at z; cases z
theorem Tabs.tabbed {S : List Addr} {P : Addr} {H H1 : Hp} (t : Tabs S H) (h : GxR.Tabbed P H H1) : Tabs S H1 := fun Q hQ => by
  by_cases e : Q = P
  · rw [e]
    exact h.1
  · obtain ⟨ps, e1, r⟩ := t Q hQ
    exact ⟨ps, by rw [h.2 Q e]; exact e1, r⟩
theorem Gr.refl {S : List Addr} {H : Hp} (t : Tabs S H) : Gr S H H := ⟨t, .refl _ _, .refl _ _⟩
theorem Gr.trans {S : List Addr} {H H1 H2 : Hp} (a : Gr S H H1) (b : Gr S H1 H2) : Gr S H H2 := ⟨b.tab, a.keep.trans b.keep, a.there.trans b.there⟩
theorem Gr.same {S : List Addr} {H H1 : Hp} (t : Tabs S H) (s : Same H H1) : Gr S H H1 := ⟨t.same s, .same s, there_same s⟩
theorem Gr.new {S : List Addr} {H : Hp} {p : Addr} {o : HO} (t : Tabs S H) (n : H p = none) : Gr S H (upd H p o) := .same t (same_new n)
theorem Gr.tabbed {S : List Addr} {P : Addr} {H H1 : Hp} (t : Tabs S H) (hP : P ∈ S) (h : GxR.Tabbed P H H1) : Gr S H H1 := ⟨t.tabbed h, fun a o _ n e => by
  obtain ⟨ps, e1, _⟩ := t P hP
  rw [h.2 a fun z => by rw [z, e1] at e; cases e; exact n ps rfl]
  exact e, by
  refine ⟨fun a n => ?_, fun a ps m e => ?_⟩
  · by_cases e : a = P
    · obtain ⟨ps, e1, _⟩ := h.1
      rw [e, e1] at n
      cases n
    · rw [← h.2 a e]
      exact n
  · rw [h.2 a fun z => m (by rw [z]; exact hP)]
    exact e⟩
/-- what was new is written -/
theorem Gr.put {S : List Addr} {H H1 : Hp} {p : Addr} {o u : HO} (g : Gr S H H1) (n : H p = none) (hp : H1 p = some u) (nt : ∀ ps, u ≠ .tbl ps) : Gr S H (upd H1 p o) :=
  ⟨g.tab.put fun ps z => by rw [hp] at z; exact nt ps (Option.some.inj z), g.keep.put n, there_put (fun ps z => by rw [hp] at z; exact nt ps (Option.some.inj z)) g.there⟩
theorem Kp.seqL {K : PySem.W.Frag} {W : List Addr} {H H' : Hp} {a : Addr} {xs : List V} (m : Kp W H H') (h : SqL K H a xs) (n : ∀ p ∈ W, ∀ u, Rd H p u → u ≠ .lst xs) : SqL K H' a xs := by
  rcases h with h | h
  · have nW : a ∉ W := fun z => n a z _ h rfl
    rcases h with h | ⟨o, h⟩
    · exact .inl (.inl (m a _ nW (fun _ z => by cases z) h))
    · exact .inl (.inr ⟨o, m a _ nW (fun _ z => by cases z) h⟩)
  · exact .inr h
theorem Kp.seqT {K : PySem.W.Frag} {W : List Addr} {H H' : Hp} {a : Addr} {xs : List V} (m : Kp W H H') (h : SqT K H a xs) (n : ∀ p ∈ W, ∀ u, Rd H p u → ∀ ys, u ≠ .tup ys) : SqT K H' a xs := by
  rcases h with h | h
  · have nW : a ∉ W := fun z => n a z _ h _ rfl
    rcases h with h | ⟨o, h⟩
    · exact .inl (.inl (m a _ nW (fun _ z => by cases z) h))
    · exact .inl (.inr ⟨o, m a _ nW (fun _ z => by cases z) h⟩)
  · exact .inr h
theorem Gr.seqL {K : PySem.W.Frag} {S : List Addr} {H H' : Hp} {a : Addr} {xs : List V} (g : Gr S H H') (h : SqL K H a xs) : SqL K H' a xs := g.keep.seqL h fun _ hp => nomatch hp
theorem Gr.seqT {K : PySem.W.Frag} {S : List Addr} {H H' : Hp} {a : Addr} {xs : List V} (g : Gr S H H') (h : SqT K H a xs) : SqT K H' a xs := g.keep.seqT h fun _ hp => nomatch hp
theorem Gr.lst {S : List Addr} {H H' : Hp} {a : Addr} {xs : List V} (g : Gr S H H') (h : H a = some (.lst xs)) : H' a = some (.lst xs) := g.keep a _ (by simp) (fun _ z => by cases z) h
theorem Gr.tup {S : List Addr} {H H' : Hp} {a : Addr} {xs : List V} (g : Gr S H H') (h : H a = some (.tup xs)) : H' a = some (.tup xs) := g.keep a _ (by simp) (fun _ z => by cases z) h
theorem Gr.dK {S : List Addr} {H H' : Hp} {a : Addr} {xs : List (Key × V)} (g : Gr S H H') (h : H a = some (.dK xs)) : H' a = some (.dK xs) := g.keep a _ (by simp) (fun _ z => by cases z) h
theorem Gr.frz {S : List Addr} {H H' : Hp} {a : Addr} {o : Obj} {u : HO} (g : Gr S H H') (h : H a = some (.frz o u)) : H' a = some (.frz o u) := g.keep a _ (by simp) (fun _ z => by cases z) h
theorem Alpha.gr {K : PySem.W.Frag} {S : List Addr} {H H' : Hp} {a : Addr} {ls : List Nat} {ps : List (List Nat)} (h : Alpha K H a ls ps) (g : Gr S H H') : Alpha K H' a ls ps := by
  obtain ⟨pt, h1, h2⟩ := h
  exact ⟨pt, g.seqT h1, g.seqT h2⟩
theorem Box.gr {K : PySem.W.Frag} {S : List Addr} {b dl : Addr} {H H' : Hp} (h : Box K b dl H) (g : Gr S H H') : Box K b dl H' := by
  obtain ⟨ds, n, hb, hn, hd⟩ := h
  exact ⟨ds, n, g.lst hb, hn, g.seqL hd⟩
/-- the box is drawn from -/
theorem Box.tabs {K : PySem.W.Frag} {S : List Addr} {b dl : Addr} {H H' : Hp} (h : Box K b dl H) (m : Mv [b] H H') (t : Tabs S H) : Tabs S H' := fun P hP => h.tabG m (t P hP)
end TcG
/-! Tuples that have no dict of their own: dict(tuple of pairs), tuple(d.items()); an expression whose value is locked. -/
namespace TcG
open PySem PySem.Spec PyProof.Rows L2
/-- a tuple without a dict of its own -/
def TupP (H : Hp) (p : Addr) (xs : List V) : Prop := ∃ o : Obj, o.dict = none ∧ H p = some (.frz o (.tup xs))
theorem TupP.seq {K : PySem.W.Frag} {H : Hp} {p : Addr} {xs : List V} (h : TupP H p xs) : SqT K H p xs := by
  obtain ⟨o, _, e⟩ := h
  exact .inl (.inr ⟨o, e⟩)
theorem TupP.same {H H' : Hp} {p : Addr} {xs : List V} (h : TupP H p xs) (s : Same H H') : TupP H' p xs := by
  obtain ⟨o, d, e⟩ := h
  exact ⟨o, d, s _ _ e⟩
section
variable {X : Cx}
/-- what an expression gives is locked from then on -/
def tLockR (t : TE) : TE := fun σ H Q => t σ H fun x H1 => ∃ d u, x = .ref d ∧ H1 d = some u ∧ Mut (some u) ∧ ∀ od, Q x (upd H1 d (.frz od u))
theorem pe_lockR {e : Expr} {t : TE} (h : PE X e t) : PE X e (tLockR t) := by
  refine ⟨fun pins s σ H Q I hw => ?_⟩
  refine thn (h.run pins s σ H _ I hw) fun v s1 ⟨x, H1, I1, r, d, u, ex, hd, mu, q⟩ => ?_
  obtain ⟨od, I2⟩ := I1.lock hd mu
  exact ⟨x, _, I2, r, q od⟩
/-- tuple(list): what is made has no dict -/
theorem call_tupleP : CallR X (.type "tuple") (fun xs H Q => ∃ p ys, xs = [.ref p] ∧ SqL X.K H p ys ∧ ∀ (l : Addr) (o : Obj), o.dict = none → H l = none → Q (.ref l) (upd H l (.frz o (.tup ys)))) := by
  intro pins s σ H xs us Q I r h
  obtain ⟨p, ys, rfl, hq, q⟩ := h
  obtain ⟨u, rfl, rx⟩ := vals1 r
  cases rx
  obtain ⟨its, r', pl, hz⟩ := I.list hq
  have hlen := r'.length
  refine PySem.call_tuple_list pl.isList (fun h' kp => ?_) (by simp only [List.size_toArray] <;> omega)
  have I1 : Inv X pins σ H { s with heap := h' } := I.kept (t' := s.toks) kp
  have new : (h'.push { cls := .type "tuple", data := .seq its.toArray }).get? h'.objs.size = some { cls := .type "tuple", data := .seq its.toArray } := Heap.get?_push_size _ rfl
  exact ⟨.ref h'.objs.size, _, I1.laid (t' := s.toks) (fun b o e => Heap.get?_push_of_some _ e) (Nat.le_refl _) (o := .frz { cls := .type "tuple", data := .seq its.toArray } (.tup ys)) ⟨new, hz, its, r', _, new, rfl, 0, rfl⟩, rfl, q _ _ rfl (I1.hok.fresh (Nat.le_refl _))⟩
theorem pairs_ofV {pins : List (Addr × Obj)} {σ : L2.St} {H : Hp} {s : Shared} (I : Inv X pins σ H s) : ∀ {ps : List Addr} {kvs : List (Key × V)}, Paired (fun p kv => SqT X.K H p [kV kv.1, kv.2]) ps kvs →
    ∃ (vs : List (Key × Value)) (ws : List (Value × Value)), KV kvs vs ∧ vs.length = ps.length ∧ ws.length = ps.length ∧ ∀ (j : Nat) (k v : Value), ws[j]? = some (k, v) → ∃ b kk, ps[j]? = some b ∧ IsTup s.heap b #[k, v] ∧ vs[j]? = some (kk, v) ∧ keyIs kk k = true
  | _, _, .nil => ⟨[], [], .nil, rfl, rfl, fun j k v e => by simp at e⟩
  | _, _, .cons (a := p) (b := kv) h t => by
    obtain ⟨vs, ws, r, l1, l2, each⟩ := pairs_ofV I t
    obtain ⟨its, rv, ht, _⟩ := I.tuple h
    obtain ⟨u, y, rfl, ru, ry⟩ := vals2 rv
    refine ⟨(kv.1, y) :: vs, (u, y) :: ws, .cons ⟨rfl, ry⟩ r, by rw [List.length_cons, List.length_cons, l1], by rw [List.length_cons, List.length_cons, l2], fun j k v e => ?_⟩
    cases j with
    | zero =>
      cases e
      exact ⟨p, kv.1, rfl, ht, rfl, kV_is (P := X.prog) (w := X.w) ru⟩
    | succ j =>
      obtain ⟨b, kk, e1, e2, e3, e4⟩ := each j k v (by simpa using e)
      exact ⟨b, kk, by simpa using e1, e2, by simpa using e3, e4⟩
/-- dict(tuple of pairs) -/
def rDictPT (K : PySem.W.Frag) : List V → Hp → VK → Prop := fun xs H Q => ∃ (a : Addr) (ps : List Addr) (kvs : List (Key × V)), xs = [.ref a] ∧ TupP H a (ps.map V.ref) ∧ Paired (fun p kv => SqT K H p [kV kv.1, kv.2]) ps kvs ∧
  ∀ p, H p = none → Q (.ref p) (upd H p (.dK (mergeK [] kvs)))
theorem call_dictPT (calm : X.calm = true) : CallR X (.type "dict") (rDictPT X.K) := by
  intro pins s σ H xs us Q I r h
  obtain ⟨a, ps, kvs, rfl, ⟨o, od, ha⟩, hp, q⟩ := h
  obtain ⟨u, rfl, rx⟩ := vals1 r
  cases rx
  obtain ⟨hget, hz, its, rv, o2, ho2, hc, n, hd⟩ := (show ObjOk X.prog X.w H s.heap a (.frz o (.tup (ps.map V.ref))) from I.hok a _ ha)
  rw [hget] at ho2
  cases ho2
  have ei := refs_at rv
  subst ei
  rw [List.length_map] at hz
  obtain ⟨vs, ws, rel, l1, l2, each⟩ := pairs_ofV I hp
  have ok : PySem.PlainSeq "tuple" s.heap a (ps.map Value.ref).toArray ∧ PySem.PairItems s.heap (ps.map Value.ref).toArray (fun j => ps.getD j 0) ws := by
    refine ⟨⟨o, n, hget, hc, od, hd⟩, by simp [l2], fun j k v e => ?_⟩
    obtain ⟨b, kk, e1, e2, _, _⟩ := each j k v e
    have eb : ps.getD j 0 = b := by
      rw [List.getD_eq_getElem?_getD, e1]
      rfl
    dsimp only
    rw [eb]
    exact ⟨by simp [e1], .inl e2⟩
  refine PySem.call_dict_pairs (knd := mixKind X.prog X.w) (kvs := vs) (PySem.PairArg.tuple a _ (fun j => ps.getD j 0) ws) (I.ok.hd calm) ok ⟨by rw [l1, l2], fun i key v e => ?_⟩ (by rw [l2]; exact hz) fun h' tk hd' kp => ?_
  · obtain ⟨b, kk, _, _, e3, e4⟩ := each i key v e
    exact ⟨kk, e3, e4⟩
  · have far : (s.heap.objs.size == sysModules) = false := beq_eq_false_iff_ne.mpr (Nat.ne_of_gt I.big)
    have few : (mergeK [] kvs).length ≤ sizeLine := by
      have m := length_mergeK kvs []
      have l := rel.length
      rw [List.length_nil] at m
      omega
    exact ⟨.ref s.heap.objs.size, _, I.laid (t' := tk) (fun b u e => kp b u (fun z => nomatch z) e) (Nat.le_refl _) (o := .dK (mergeK [] kvs)) ⟨few, far, merged [] vs, KV.merge rel .nil, hd'⟩, rfl, q _ (I.hok.fresh (Nat.le_refl _))⟩
/-! tuple(d.items()) -/
def rItemsK : V → List V → Hp → VK → Prop := fun x xs H Q => ∃ (a : Addr) (kvs : List (Key × V)), x = .ref a ∧ xs = [] ∧ H a = some (.dK kvs) ∧ ∀ p, H p = none → Q (.ref p) (upd H p (L2.DX.itemsO p a))
theorem mt_itemsK : MtR X "dict.items" rItemsK := by
  intro pins s σ H x xs v us Q I rx rxs h
  obtain ⟨a, kvs, rfl, rfl, ha, q⟩ := h
  cases rx
  cases rxs
  obtain ⟨z, hd, vs, rel, o, es, ep, ho, hx, hdat, _⟩ := dk_of I.hok ha
  exact DT.callItems (es := es) (ep := ep) hd ⟨o, ho, hx, hdat⟩ ⟨.ref s.heap.objs.size, _, I.laid (t' := s.toks) (fun b u e => Heap.get?_push_of_some _ e) (Nat.le_refl _) (L2.DX.itemsO_ok (Heap.get?_push_size _ rfl)), rfl, q _ (I.hok.fresh (Nat.le_refl _))⟩
theorem pairs_at {knd : KeyKind X.prog X.w Key} : ∀ {es : List DictEntry} {vs : List (Key × Value)}, PySem.Pairs knd es vs → ∀ (j : Nat) (e : DictEntry), es[j]? = some e → ∃ v, vs[j]? = some v ∧ knd.is v.1 e.key = true ∧ e.val = v.2
  | _, _, .nil, j, e, h => by simp at h
  | _, _, .cons a b t, 0, e, h => by cases h; exact ⟨_, rfl, a, b⟩
  | _, _, .cons a b t, j + 1, e, h => by
    obtain ⟨v, h1, h2⟩ := pairs_at t j e (by simpa using h)
    exact ⟨v, by simpa using h1, h2⟩
theorem code_tuple_items {r d : Addr} {es : Array DictEntry} {ep : Nat} {A : Around} {E Q : Value → Shared → Prop} {s : Shared} {prog : Program} {w : World} (hh : A.handled = none) (hv : s.heap.IsItemsView r d) (hm : DT.Raw s.heap d es ep) (hn : es.size ≤ sizeLine)
    (fin : ∀ (h' : Heap) (tk : Nat) (as : List Addr), (∀ b o, s.heap.get? b = some o → h'.get? b = some o) → s.heap.objs.size < h'.objs.size → as.length = es.size → DT.Made es s.heap.objs.size h' as →
      Q (.ref h'.objs.size) { s with heap := h'.push { cls := .type "tuple", data := .seq (as.map Value.ref).toArray }, toks := tk }) :
    codeAny (model prog w) A (.call (.builtin "tuple.__new__") ⟨[.type "tuple", .ref r], []⟩) (wants Q E) s := by
  refine codeAny_of_tree ?_
  show wpAny _ A.in1 (do checkBuiltinCall "tuple.__new__" ⟨[.type "tuple", .ref r], []⟩; again (.builtin "tuple.__new__" ⟨[.type "tuple", .ref r], []⟩)) _ _ s
  refine wpAny_bind (wpAny_of_eq (PySem.F.newCall_tuple_1 _) (wpAny_pure ⟨plainId_quiet PySem.F.plain_tuple_new _, codeAny_builtin PySem.F.entry_tuple_new ?_⟩))
  rw [Around.under_plainId PySem.F.plain_tuple_new _]
  have k1 := PySem.sub_tuple_self
  have k2 := PySem.init_tuple_lookup
  have k3 := PySem.madeHere_tuple
  have k4 : s.TypeIs (.ref r) "dict_items" := hv.typeIs
  wp_walk using wpAny_typeOf k4, DT.collectI (es := es) (ep := ep) (by simp [hh]) hv hm hn
  intro h' tk as kp lt la made
  show wpAny _ _ (Builtin.Tuple.tupleExact (as.map Value.ref).toArray >>= fun v => ret v) _ _ _
  unfold Builtin.Tuple.tupleExact
  refine wpAny_bind (wpAny_newObj_type ?_ (by show (as.map Value.ref).toArray.size ≤ sizeLine; simpa [la] using hn))
  exact wpAny_pure (fin h' tk as kp lt la made)
theorem call_tuple_items {r d : Addr} {es : Array DictEntry} {ep : Nat} {A : Around} {E Q : Value → Shared → Prop} {s : Shared} {prog : Program} {w : World} (hh : A.handled = none) (hv : s.heap.IsItemsView r d) (hm : DT.Raw s.heap d es ep) (hn : es.size ≤ sizeLine)
    (fin : ∀ (h' : Heap) (tk : Nat) (as : List Addr), (∀ b o, s.heap.get? b = some o → h'.get? b = some o) → s.heap.objs.size < h'.objs.size → as.length = es.size → DT.Made es s.heap.objs.size h' as →
      Q (.ref h'.objs.size) { s with heap := h'.push { cls := .type "tuple", data := .seq (as.map Value.ref).toArray }, toks := tk }) : wpAny (model prog w) A (call (.type "tuple") [.ref r]) Q E s := by
  refine callType_codes (Q₁ := fun obj s₁ => s₁.TypeIs obj "tuple" ∧ Q obj s₁) PySem.F.called_tuple (PySem.F.typeCall_tuple_1 _) PySem.F.entry_object_init
    (code_tuple_items (A := A.in1) (by simp [hh]) hv hm hn fun h' tk as kp lt la made => ⟨⟨_, Heap.get?_push_size _ rfl, rfl⟩, fin h' tk as kp lt la made⟩) fun obj s₁ h₁ => ?_
  exact ⟨h₁.1, PySem.F.args_object_init_2 obj _, PySem.object_init_meets PySem.F.called_tuple.init.lookup PySem.F.called_tuple.made (by decide) prog w A.in1 _ s₁ ⟨h₁.1, rfl, h₁.2⟩⟩
theorem paired_of {α β : Type} {R : α → β → Prop} : ∀ {as : List α} {bs : List β}, as.length = bs.length → (∀ (j : Nat) (a : α), as[j]? = some a → ∃ b, bs[j]? = some b ∧ R a b) → Paired R as bs
  | [], [], _, _ => .nil
  | [], b :: bs, h, _ => by simp at h
  | a :: as, [], h, _ => by simp at h
  | a :: as, b :: bs, h, g => by
    obtain ⟨b', e, r⟩ := g 0 a rfl
    cases e
    exact .cons r (paired_of (by simpa using h) fun j c e => by
      obtain ⟨d, e2, r2⟩ := g (j + 1) c (by simpa using e)
      exact ⟨d, by simpa using e2, r2⟩)
def rTupItems : List V → Hp → VK → Prop := fun xs H Q => ∃ (p a : Addr) (kvs : List (Key × V)), xs = [.ref p] ∧ H p = some (L2.DX.itemsO p a) ∧ H a = some (.dK kvs) ∧
  ∀ (H' : Hp) (l : Addr) (ps : List Addr), Same H H' → H l = none → TupP H' l (ps.map V.ref) → Paired (fun p kv => H' p = some (.tup [kV kv.1, kv.2])) ps kvs → Q (.ref l) H'
theorem cr_tupleItems (calm : X.calm = true) : CallR X (.type "tuple") rTupItems := by
  intro pins s σ H xs us Q I r h
  obtain ⟨p, a, kvs, rfl, hp, ha, q⟩ := h
  obtain rfl := Vals.ref1 r
  have view : s.heap.IsItemsView p a := (show ObjOk X.prog X.w H s.heap p (L2.DX.itemsO p a) from I.hok p _ hp).1
  obtain ⟨z, hd, vs, rel, o, es, ep, ho, hx, hdat, hk, hes, nd⟩ := dk_of I.hok ha
  have l1 : kvs.length = vs.length := rel.length
  have l2 : es.size = vs.length := by
    have l := hes.length
    rw [Array.length_toList] at l
    exact l
  refine call_tuple_items (es := es) (ep := ep) (I.ok.hd calm) view ⟨o, ho, hx, hdat⟩ (by omega) fun h' tk as kp lt la made => ?_
  have kp2 : ∀ b o, s.heap.get? b = some o → (h'.push { cls := .type "tuple", data := .seq (as.map Value.ref).toArray }).get? b = some o := fun b o e => Heap.get?_push_of_some _ (kp b o e)
  have new : (h'.push { cls := .type "tuple", data := .seq (as.map Value.ref).toArray }).get? h'.objs.size = some { cls := .type "tuple", data := .seq (as.map Value.ref).toArray } := Heap.get?_push_size _ rfl
  have kp3 : ∀ b o, h'.get? b = some o → (h'.push { cls := .type "tuple", data := .seq (as.map Value.ref).toArray }).get? b = some o := fun b o e => Heap.get?_push_of_some _ e
  generalize hh2 : h'.push { cls := .type "tuple", data := .seq (as.map Value.ref).toArray } = h2 at kp2 new kp3 ⊢
  have nodup : as.Nodup := made.rise.imp fun h => Nat.ne_of_lt h
  have I1 : Inv X pins σ H { s with heap := h2, toks := tk } := I.kept (t' := tk) kp2
  have hn0 : H h'.objs.size = none := I.hok.fresh (Nat.le_of_lt lt)
  have z2 : (as.map V.ref).length ≤ sizeLine := by rw [List.length_map]; omega
  have rv : Vals (as.map V.ref) (as.map Value.ref) := vals_maps (fun b : Addr => V.ref b) (fun b => Value.ref b) as fun _ _ => rfl
  have I2 : Inv X pins σ (upd H h'.objs.size (.frz { cls := .type "tuple", data := .seq (as.map Value.ref).toArray } (.tup (as.map V.ref)))) { s with heap := h2, toks := tk } :=
    I1.take (h' := h2) (t' := tk) (fun b ob _ e => e) (I.fpOk (Nat.le_of_lt lt) hn0) ⟨new, z2, _, rv, _, new, rfl, 0, rfl⟩
  obtain ⟨H2, I3, g, qt⟩ := L2.DX.takeT (P := fun b ws => ∃ (j : Nat) (kv : Key × V), as[j]? = some b ∧ kvs[j]? = some kv ∧ ws = [kV kv.1, kv.2]) I as _ I2 nodup fun b hb => by
    obtain ⟨j, hj⟩ := List.mem_iff_getElem?.mp hb
    obtain ⟨en, he, hg⟩ := made.pairs j b hj
    obtain ⟨v, hv, k1, k2⟩ := pairs_at hes j en (by rw [Array.getElem?_toList]; exact he)
    have jl : j < kvs.length := by rw [l1]; exact (List.getElem?_eq_some_iff.mp hv).1
    have hkv : kvs[j]? = some kvs[j] := List.getElem?_eq_getElem jl
    generalize kvs[j] = kv at hkv
    obtain ⟨q0, hq0, r1, r2⟩ : ∃ q0, vs[j]? = some q0 ∧ kv.1 = q0.1 ∧ RelV kv.2 q0.2 := by
      obtain ⟨u, hu, ru⟩ := kv_get rel (show kvs[j]? = some (kv.1, kv.2) from hkv)
      exact ⟨_, hu, rfl, ru⟩
    rw [hv] at hq0
    cases hq0
    have above := made.above b hb
    have bl : b < h'.objs.size := made.there hb
    refine ⟨Nat.le_of_lt above, ?_, _, ⟨j, kv, hj, hkv, rfl⟩, fun H3 => ⟨by show 2 ≤ sizeLine; decide, [en.key, en.val], .cons (relV_key (by rw [r1]; exact k1)) (.cons (by rw [k2]; exact r2) .nil), _, kp3 _ _ hg, rfl, _, rfl⟩⟩
    rw [upd_ne (Nat.ne_of_lt bl)]
    exact I.hok.fresh (Nat.le_of_lt above)
  have gl : H2 h'.objs.size = some (.frz { cls := .type "tuple", data := .seq (as.map Value.ref).toArray } (.tup (as.map V.ref))) := g _ _ upd_same
  refine ⟨.ref h'.objs.size, H2, I3, rfl, q H2 h'.objs.size as (fun b o e => g b o (by rw [upd_ne (ne_of_none e hn0)]; exact e)) hn0 ⟨_, rfl, gl⟩ (paired_of (by omega) fun j b hj => ?_)⟩
  obtain ⟨ws, ⟨j2, kv, h1, h2, rfl⟩, h3⟩ := qt b (List.mem_of_getElem? hj)
  have jj : j = j2 := by
    have e1 := List.getElem?_eq_some_iff.mp hj
    have e2 := List.getElem?_eq_some_iff.mp h1
    rcases Nat.lt_trichotomy j j2 with l | l | l
    · have := List.pairwise_iff_getElem.mp made.rise j j2 e1.1 e2.1 l; rw [e1.2, e2.2] at this; exact absurd this (Nat.lt_irrefl _)
    · exact l
    · have := List.pairwise_iff_getElem.mp made.rise j2 j e2.1 e1.1 l; rw [e1.2, e2.2] at this; exact absurd this (Nat.lt_irrefl _)
  subst jj
  exact ⟨kv, h2, h3⟩
end
end TcG
/-! What parts two words, as a function; numbers of letters in texts. -/
namespace TcG
open PySem PySem.Spec PyProof.Rows L2

theorem count_tx (a : List Nat) (c : Nat) : Txt.count (tx a) (tx [c]) = (a.count c : Int) := by
  have h := count_is (tx a) c
  rw [countIn_signs_sum] at h
  rw [show (tx [c]) = (⟨#[c]⟩ : Str) from rfl, h, tx_list]
  clear h
  induction a with
  | nil => rfl
  | cons x r ih =>
    rw [List.map_cons, List.sum_cons, ih, List.count_cons]
    by_cases e : x = c
    · subst e
      simp
      omega
    · simp [e]

theorem find_at {α : Type} {l : List α} {p : α → Bool} {i : Nat} {x : α} (h : l[i]? = some x) (before : ∀ y ∈ l.take i, p y = false) (here : p x = true) : l.find? p = some x := by
  have e : l = l.take i ++ x :: l.drop (i + 1) := by
    have hi := (List.getElem?_eq_some_iff.mp h)
    obtain ⟨lt, hx⟩ := hi
    rw [← hx, ← List.drop_eq_getElem_cons lt, List.take_append_drop]
  rw [e, List.find?_append]
  have n : (l.take i).find? p = none := List.find?_eq_none.mpr fun y hy z => by
    rw [before y hy] at z
    cases z
  rw [n, List.find?_cons, here]
  rfl
theorem find_no {α : Type} {l : List α} {p : α → Bool} (h : ∀ y ∈ l, p y = false) : l.find? p = none := List.find?_eq_none.mpr fun y hy z => by
  rw [h y hy] at z
  cases z

inductive Paper where
  | count (x : Nat)
  | order (x y : Nat)
def keepM (l a : List Nat) : List Nat := a.filter fun c => decide (c ∈ l)
/-- the pairs of letters of ls, the lesser one first -/
def pairsWith (ls : List Nat) (x : Nat) : List (List Nat) := (ls.filter fun y => decide (x < y)).map fun y => [x, y]
def pairsOf (ls : List Nat) : List (List Nat) := ls.flatMap (pairsWith ls)
def parted (ps : List (List Nat)) (a b : List Nat) : List Nat → Bool
  | [x, y] => !ind ps x y && decide (keepM [x, y] a ≠ keepM [x, y] b)
  | _ => false
theorem parted_two (ps : List (List Nat)) (a b : List Nat) (x y : Nat) : parted ps a b [x, y] = (!ind ps x y && decide (keepM [x, y] a ≠ keepM [x, y] b)) := rfl
def orderOf : Option (List Nat) → Option Paper
  | some [x, y] => some (.order x y)
  | _ => none
def countsApart (a b : List Nat) (c : Nat) : Bool := decide (a.count c ≠ b.count c)
def partsM (ls : List Nat) (ps : List (List Nat)) (a b : List Nat) : Option Paper := match ls.find? (countsApart a b) with
  | some c => some (.count c)
  | none => orderOf ((pairsOf ls).find? (parted ps a b))
theorem partsM_count {ls : List Nat} {ps : List (List Nat)} {a b : List Nat} {c : Nat} (h : ls.find? (countsApart a b) = some c) : partsM ls ps a b = some (.count c) := by
  unfold partsM
  rw [h]
theorem partsM_order {ls : List Nat} {ps : List (List Nat)} {a b : List Nat} (h : ls.find? (countsApart a b) = none) : partsM ls ps a b = orderOf ((pairsOf ls).find? (parted ps a b)) := by
  unfold partsM
  rw [h]
theorem pairsOf_mem {ls p : List Nat} (h : p ∈ pairsOf ls) : ∃ x y, p = [x, y] ∧ x ∈ ls ∧ y ∈ ls ∧ x < y := by
  unfold pairsOf at h
  obtain ⟨x, hx, hp⟩ := List.mem_flatMap.mp h
  unfold pairsWith at hp
  obtain ⟨y, hy, e⟩ := List.mem_map.mp hp
  obtain ⟨h1, h2⟩ := List.mem_filter.mp hy
  exact ⟨x, y, e.symm, hx, h1, of_decide_eq_true h2⟩
/-- the paper as a value -/
def PaperV (H : Hp) (v : V) : Option Paper → Prop
  | none => v = .non
  | some (.count x) => ∃ p, v = .ref p ∧ H p = some (.tup [.str "count", .str (tx [x])])
  | some (.order x y) => ∃ p, v = .ref p ∧ H p = some (.tup [.str "order", .str (tx [x]), .str (tx [y])])
end TcG
/-! Slices of texts; exchanges of neighbours. -/
namespace TcG
open PySem PySem.Spec PyProof.Rows L2
theorem cut_to (l : List Nat) (k : Nat) : cutS (tx l) none (some (k : Int)) = tx (l.take k) := by
  unfold cutS
  rw [HT.sIx_none, HT.sIx_nat, tx_length]
  show (⟨((l.drop 0).take (min k l.length - 0)).toArray⟩ : Str) = tx (l.take k)
  rw [List.drop_zero, Nat.sub_zero]
  unfold tx
  by_cases h : k ≤ l.length
  · rw [Nat.min_eq_left h]
  · rw [Nat.min_eq_right (by omega), List.take_length, List.take_of_length_le (by omega)]
theorem cut_from (l : List Nat) (k : Nat) : cutS (tx l) (some (k : Int)) none = tx (l.drop k) := by
  unfold cutS
  rw [HT.sIx_none, HT.sIx_nat, tx_length]
  show (⟨((l.drop (min k l.length)).take (l.length - min k l.length)).toArray⟩ : Str) = tx (l.drop k)
  unfold tx
  by_cases h : k ≤ l.length
  · rw [Nat.min_eq_left h, List.take_of_length_le (by rw [List.length_drop]; omega)]
  · rw [Nat.min_eq_right (by omega), List.drop_length, List.drop_of_length_le (show l.length ≤ k by omega)]
    simp
/-- the signs at k and behind it have changed places -/
def swapAt (l : List Nat) (k : Nat) : List Nat := l.take k ++ (match l[k + 1]?, l[k]? with | some y, some x => [y, x] | _, _ => []) ++ l.drop (k + 2)
theorem swapAt_eq {l : List Nat} {k x y : Nat} (hx : l[k]? = some x) (hy : l[k + 1]? = some y) : swapAt l k = l.take k ++ [y] ++ [x] ++ l.drop (k + 2) := by
  unfold swapAt
  rw [hx, hy]
  simp
/-- one exchange of neighbouring independent letters -/
inductive Ex1 (ps : List (List Nat)) : List Nat → List Nat → Prop
  | mk (p q : List Nat) (x y : Nat) (h : ind ps x y = true) : Ex1 ps (p ++ x :: y :: q) (p ++ y :: x :: q)
/-- some exchanges, one behind the other -/
inductive Exs (ps : List (List Nat)) : List Nat → List Nat → Prop
  | refl (a : List Nat) : Exs ps a a
  | step {a b c : List Nat} (h : Exs ps a b) (e : Ex1 ps b c) : Exs ps a c
theorem Exs.one {ps : List (List Nat)} {a b : List Nat} (e : Ex1 ps a b) : Exs ps a b := .step (.refl a) e
theorem Exs.trans {ps : List (List Nat)} {a b c : List Nat} (h : Exs ps a b) (g : Exs ps b c) : Exs ps a c := by
  induction g with
  | refl => exact h
  | step _ e ih => exact .step ih e
theorem split_two {l : List Nat} {k x y : Nat} (hx : l[k]? = some x) (hy : l[k + 1]? = some y) : l = l.take k ++ x :: y :: l.drop (k + 2) := by
  obtain ⟨h1, e1⟩ := List.getElem?_eq_some_iff.mp hx
  obtain ⟨h2, e2⟩ := List.getElem?_eq_some_iff.mp hy
  have d1 : l.drop k = x :: l.drop (k + 1) := by rw [List.drop_eq_getElem_cons h1, e1]
  have d2 : l.drop (k + 1) = y :: l.drop (k + 2) := by rw [List.drop_eq_getElem_cons h2, e2]
  rw [← d2, ← d1, List.take_append_drop]
theorem swap_ex {ps : List (List Nat)} {l : List Nat} {k x y : Nat} (hx : l[k]? = some x) (hy : l[k + 1]? = some y) (h : ind ps x y = true) : Ex1 ps l (swapAt l k) := by
  have e := split_two hx hy
  rw [swapAt_eq hx hy]
  have s : l.take k ++ [y] ++ [x] ++ l.drop (k + 2) = l.take k ++ y :: x :: l.drop (k + 2) := by simp
  rw [s]
  have g := Ex1.mk (l.take k) (l.drop (k + 2)) x y h
  rw [← e] at g
  exact g
theorem Ex1.swap {ps : List (List Nat)} {a b : List Nat} (h : Ex1 ps a b) : ∃ k x y, a[k]? = some x ∧ a[k + 1]? = some y ∧ ind ps x y = true ∧ b = swapAt a k := by
  obtain ⟨p, q, x, y, hi⟩ := h
  have hx : (p ++ x :: y :: q)[p.length]? = some x := by simp
  have hy : (p ++ x :: y :: q)[p.length + 1]? = some y := by simp
  refine ⟨p.length, x, y, hx, hy, hi, ?_⟩
  rw [swapAt_eq hx hy]
  simp [List.drop_append]
theorem Ex1.perm {ps : List (List Nat)} {a b : List Nat} (h : Ex1 ps a b) : a.Perm b := by
  obtain ⟨p, q, x, y, _⟩ := h
  exact List.Perm.append_left p (List.Perm.swap y x q)
theorem Exs.perm {ps : List (List Nat)} {a b : List Nat} (h : Exs ps a b) : a.Perm b := by
  induction h with
  | refl => exact List.Perm.refl _
  | step _ e ih => exact ih.trans e.perm
end TcG
/-! The letters from a on, and drawn pairs of them. -/
namespace TcG
open PySem PySem.Spec PyProof.Rows L2
def alph (n : Nat) : List Nat := [97, 98, 99, 100, 101, 102].take n
theorem alph_len {n : Nat} (h : n ≤ 6) : (alph n).length = n := by
  unfold alph
  rw [List.length_take]
  exact Nat.min_eq_left h
theorem alph_at {n j : Nat} (h : n ≤ 6) (hj : j < n) : (alph n)[j]? = some (97 + j) := by
  have key : ∀ n ≤ 6, ∀ j < n, (alph n)[j]? = some (97 + j) := by decide
  exact key n h j hj
theorem alph_pairs {n j : Nat} (h : n ≤ 6) (hj : j < n) : pairsWith (alph n) (97 + j) = ((alph n).drop (j + 1)).map fun y => [97 + j, y] := by
  have key : ∀ n ≤ 6, ∀ j < n, pairsWith (alph n) (97 + j) = ((alph n).drop (j + 1)).map fun y => [97 + j, y] := by decide
  exact key n h j hj
theorem alph_nodup {n : Nat} (h : n ≤ 6) : (pairsOf (alph n)).Nodup := by
  have key : ∀ n ≤ 6, (pairsOf (alph n)).Nodup := by decide
  exact key n h
theorem alph_count {n : Nat} (h : n ≤ 6) : (pairsOf (alph n)).length ≤ 15 := by
  have key : ∀ n ≤ 6, (pairsOf (alph n)).length ≤ 15 := by decide
  exact key n h
theorem alph_rising {n : Nat} (h : n ≤ 6) : (alph n).Pairwise (· < ·) := by
  have key : ∀ n ≤ 6, (alph n).Pairwise (· < ·) := by decide
  exact key n h
theorem at_eq {α : Type} {xs : List α} {z : Int} {j : Nat} {v : α} (e : z = (j : Int)) (h : xs[j]? = some v) : atI xs z = some v := by
  rw [e]
  exact atI_nat h
/-- an alphabet that was drawn -/
structure Drawn (n : Nat) (ps : List (List Nat)) : Prop where
  big : n ≤ 6
  some : 1 ≤ n
  sub : ∀ p ∈ ps, p ∈ pairsOf (alph n)
  nodup : ps.Nodup
  sorted : sortedS (ps.map tx) = true
theorem Drawn.pairs {n : Nat} {ps : List (List Nat)} (d : Drawn n ps) : Pairs (alph n) ps := fun p hp => by
  obtain ⟨x, y, e, hx, hy, lt⟩ := pairsOf_mem (d.sub p hp)
  exact ⟨x, y, e, lt, hx, hy⟩
theorem map_tx_inj {a b : List (List Nat)} (h : a.map tx = b.map tx) : a = b := by
  have e : ∀ l : List (List Nat), (l.map tx).map (fun s => s.cps.toList) = l := fun l => by
    rw [List.map_map]
    exact List.map_id _
  rw [← e a, ← e b, h]
theorem txs_map (ps : List (List Nat)) : txs ps = (ps.map tx).map V.str := by
  unfold txs
  rw [List.map_map]
  rfl
/-- the texts of a row, back as rows of signs -/
theorem rows_of (ys : List Str) : ys = (ys.map fun s => s.cps.toList).map tx := by
  rw [List.map_map]
  exact (List.map_id _).symm
theorem drawn_of {n : Nat} {prs : List (List Nat)} {ys : List Str} (h : n ≤ 6) (h1 : 1 ≤ n) (sub : prs.Sublist (pairsOf (alph n))) (pm : ys.Perm (prs.map tx)) (so : sortedS ys = true) : ∃ ps, ys = ps.map tx ∧ Drawn n ps := by
  refine ⟨ys.map fun s => s.cps.toList, rows_of ys, h, h1, fun p hp => ?_, ?_, by rw [← rows_of]; exact so⟩
  · obtain ⟨s, hs, e⟩ := List.mem_map.mp hp
    obtain ⟨q, hq, eq⟩ := List.mem_map.mp (pm.mem_iff.mp hs)
    rw [← e, ← eq]
    exact sub.subset hq
  · have e : (prs.map tx).map (fun s => s.cps.toList) = prs := by
      rw [List.map_map]
      exact List.map_id _
    have pm2 := pm.map (fun s : Str => s.cps.toList)
    rw [e] at pm2
    exact pm2.nodup_iff.mpr ((alph_nodup h).sublist sub)
end TcG
/-! Values that the law calls the same. -/
namespace TcG
open PySem PySem.Spec PyProof.Rows L2
theorem tyx_tup {K : PySem.W.Frag} {H : Hp} {p : Addr} {xs : List V} (h : SqT K H p xs) : TyX K H (.ref p) (.type "tuple") := by
  rcases h with (h | ⟨o, h⟩) | ⟨o, its, n, hk, hc, _⟩
  · exact .base (.tup h)
  · exact .fTuple h
  · exact .kTuple hk hc
/-- the same up to n tuples deep -/
def SameR (K : PySem.W.Frag) (H : Hp) : Nat → V → V → Prop
  | 0, _, _ => False
  | n + 1, x, y => (x = y ∧ flatV x = true) ∨ ∃ p q xs ys, x = .ref p ∧ y = .ref q ∧ SqT K H p xs ∧ SqT K H q ys ∧ xs.length = ys.length ∧ xs.length ≤ 4000000 ∧ ∀ (i : Nat) a b, xs[i]? = some a → ys[i]? = some b → SameR K H n a b
end TcG
/-! Words that exchanges lead to, searched breadth first. -/
namespace TcG
open PySem PySem.Spec PyProof.Rows L2
theorem len_le_of_mem {α : Type} [DecidableEq α] : ∀ {F G : List α}, F.Nodup → (∀ x ∈ F, x ∈ G) → F.length ≤ G.length
  | [], _, _, _ => Nat.zero_le _
  | x :: r, G, nd, h => by
    have hx : x ∈ G := h x List.mem_cons_self
    obtain ⟨nx, nr⟩ := List.nodup_cons.mp nd
    have ih := len_le_of_mem (F := r) (G := G.erase x) nr fun y hy => (List.mem_erase_of_ne (show y ≠ x from fun e => nx (by rw [← e]; exact hy))).mpr (h y (List.mem_cons_of_mem _ hy))
    have hl := List.length_erase_of_mem hx
    have pos : 0 < G.length := List.length_pos_of_mem hx
    rw [List.length_cons]
    omega
/-- all words of n letters of ls -/
def wordsOf (ls : List Nat) : Nat → List (List Nat)
  | 0 => [[]]
  | n + 1 => ls.flatMap fun c => (wordsOf ls n).map (c :: ·)
theorem wordsOf_mem (ls : List Nat) : ∀ (f : List Nat), (∀ c ∈ f, c ∈ ls) → f ∈ wordsOf ls f.length
  | [], _ => List.mem_singleton.mpr rfl
  | c :: r, h => List.mem_flatMap.mpr ⟨c, h c List.mem_cons_self, List.mem_map.mpr ⟨r, wordsOf_mem ls r fun d hd => h d (List.mem_cons_of_mem _ hd), rfl⟩⟩
theorem flat_const {α β : Type} (k : Nat) (f : α → List β) (h : ∀ x, (f x).length = k) : ∀ l : List α, (l.flatMap f).length = l.length * k
  | [] => by simp
  | x :: r => by rw [List.flatMap_cons, List.length_append, h, flat_const k f h r, List.length_cons, Nat.succ_mul, Nat.add_comm]
theorem wordsOf_len (ls : List Nat) : ∀ n, (wordsOf ls n).length = ls.length ^ n
  | 0 => rfl
  | n + 1 => by
    show (ls.flatMap fun c => (wordsOf ls n).map (c :: ·)).length = _
    rw [flat_const (ls.length ^ n) _ (fun x => by rw [List.length_map, wordsOf_len ls n]), Nat.pow_succ, Nat.mul_comm]
/-- what is found so far -/
structure Grown (ps : List (List Nat)) (a : List Nat) (F : List (List Nat)) : Prop where
  nd : F.Nodup
  has : a ∈ F
  sound : ∀ f ∈ F, Exs ps a f
theorem Grown.bound {ps : List (List Nat)} {a ls : List Nat} {F : List (List Nat)} (g : Grown ps a F) (h : ∀ c ∈ a, c ∈ ls) (hl : ls.length ≤ 5) (ha : a.length ≤ 7) : F.length ≤ 78125 := by
  have h1 : F.length ≤ (wordsOf ls a.length).length := len_le_of_mem g.nd fun f hf => by
    have pm := (g.sound f hf).perm
    have := wordsOf_mem ls f fun c hc => h c (pm.mem_iff.mpr hc)
    rw [← pm.length_eq] at this
    exact this
  rw [wordsOf_len] at h1
  have h2 : ls.length ^ a.length ≤ 5 ^ a.length := Nat.pow_le_pow_left hl _
  have h3 : 5 ^ a.length ≤ 5 ^ 7 := Nat.pow_le_pow_right (by decide) ha
  exact Nat.le_trans h1 (Nat.le_trans h2 (Nat.le_trans h3 (by decide)))
def ClosedTo (ps : List (List Nat)) (F : List (List Nat)) (n : Nat) : Prop := ∀ i, i < n → ∀ f, F[i]? = some f → ∀ g, Ex1 ps f g → g ∈ F
theorem Grown.all {ps : List (List Nat)} {a : List Nat} {F : List (List Nat)} (g : Grown ps a F) (c : ClosedTo ps F F.length) (v : List Nat) : v ∈ F ↔ Exs ps a v := by
  refine ⟨g.sound v, fun h => ?_⟩
  induction h with
  | refl => exact g.has
  | step _ e ih =>
    obtain ⟨i, hi⟩ := List.mem_iff_getElem?.mp ih
    exact c i (List.getElem?_eq_some_iff.mp hi).1 _ hi _ e
theorem Grown.put {ps : List (List Nat)} {a f g : List Nat} {F : List (List Nat)} (h : Grown ps a F) (hf : f ∈ F) (e : Ex1 ps f g) (n : g ∉ F) : Grown ps a (F ++ [g]) where
  nd := List.nodup_append.mpr ⟨h.nd, by simp, fun x hx y hy => by
    rw [List.mem_singleton.mp hy]
    exact fun z => n (z ▸ hx)⟩
  has := List.mem_append_left _ h.has
  sound := fun x hx => by
    rcases List.mem_append.mp hx with hx | hx
    · exact h.sound x hx
    · rw [List.mem_singleton.mp hx]
      exact .step (h.sound f hf) e
theorem ClosedTo.put {ps : List (List Nat)} {F : List (List Nat)} {g : List Nat} {n : Nat} (h : ClosedTo ps F n) (hn : n ≤ F.length) : ClosedTo ps (F ++ [g]) n := fun i hi f hf x e => by
  rw [List.getElem?_append_left (by omega)] at hf
  exact List.mem_append_left _ (h i hi f hf x e)
/-- the known words as a dict's pairs -/
def knownOf (F : List (List Nat)) : List (Key × V) := F.map fun f => (Sum.inr (tx f), .bl true)
theorem known_find (F : List (List Nat)) (g : List Nat) : (valV (knownOf F) (Sum.inr (tx g))).isSome = decide (g ∈ F) := by
  induction F with
  | nil => rfl
  | cons f r ih =>
    show (valV ((Sum.inr (tx f), V.bl true) :: knownOf r) (Sum.inr (tx g))).isSome = _
    by_cases e : f = g
    · rw [valV_pos (by rw [e])]
      simp [e]
    · rw [valV_neg (fun z => e (tx_inj (Sum.inr.inj z))), ih]
      have : g ≠ f := fun z => e z.symm
      simp [this]
theorem known_put {F : List (List Nat)} {g : List Nat} (h : g ∉ F) : putK (knownOf F) (Sum.inr (tx g)) (.bl true) = knownOf (F ++ [g]) := by
  unfold putK
  have : ((knownOf F).any fun kv => decide (kv.1 = Sum.inr (tx g))) = false := by
    rw [List.any_eq_false]
    intro kv hk z
    obtain ⟨f, hf, e⟩ := List.mem_map.mp hk
    rw [← e] at z
    exact h (tx_inj (Sum.inr.inj (of_decide_eq_true z)) ▸ hf)
  rw [this, if_neg Bool.false_ne_true]
  unfold knownOf
  rw [List.map_append]
  rfl
end TcG
/-! Words are alike exactly if nothing parts them. -/
namespace TcG
open PySem PySem.Spec PyProof.Rows L2
variable {ps : List (List Nat)} {ls : List Nat}
theorem Ex1.pre {a b : List Nat} (r : List Nat) (h : Ex1 ps a b) : Ex1 ps (r ++ a) (r ++ b) := by
  obtain ⟨p, q, x, y, hi⟩ := h
  have := Ex1.mk (r ++ p) q x y hi
  rw [List.append_assoc, List.append_assoc] at this
  exact this
theorem Ex1.post {a b : List Nat} (r : List Nat) (h : Ex1 ps a b) : Ex1 ps (a ++ r) (b ++ r) := by
  obtain ⟨p, q, x, y, hi⟩ := h
  have := Ex1.mk p (q ++ r) x y hi
  simpa using this
theorem Exs.pre {a b : List Nat} (r : List Nat) (h : Exs ps a b) : Exs ps (r ++ a) (r ++ b) := by
  induction h with
  | refl => exact .refl _
  | step _ e ih => exact .step ih (e.pre r)
theorem Exs.post {a b : List Nat} (r : List Nat) (h : Exs ps a b) : Exs ps (a ++ r) (b ++ r) := by
  induction h with
  | refl => exact .refl _
  | step _ e ih => exact .step ih (e.post r)
theorem Ex1.symm {a b : List Nat} (h : Ex1 ps a b) : Ex1 ps b a := by
  obtain ⟨p, q, x, y, hi⟩ := h
  exact .mk p q y x (by rw [ind_comm]; exact hi)
theorem Exs.symm {a b : List Nat} (h : Exs ps a b) : Exs ps b a := by
  induction h with
  | refl => exact .refl _
  | step _ e ih => exact (Exs.one e.symm).trans ih
/-- a letter passes letters that are independent of it -/
theorem bubble (x : Nat) (q : List Nat) : ∀ p : List Nat, (∀ y ∈ p, ind ps y x = true) → Exs ps (p ++ x :: q) (x :: (p ++ q))
  | [], _ => .refl _
  | y :: p, h => by
    have ih := bubble x q p fun z hz => h z (List.mem_cons_of_mem _ hz)
    have h1 : Exs ps (y :: (p ++ x :: q)) (y :: x :: (p ++ q)) := ih.pre [y]
    exact .step h1 (Ex1.mk [] (p ++ q) y x (h y List.mem_cons_self))

theorem keepM_append (l a b : List Nat) : keepM l (a ++ b) = keepM l a ++ keepM l b := by
  unfold keepM
  rw [List.filter_append]
theorem keepM_cons_in {l : List Nat} {c : Nat} (h : c ∈ l) (a : List Nat) : keepM l (c :: a) = c :: keepM l a := by
  unfold keepM
  rw [List.filter_cons, if_pos (decide_eq_true h)]
theorem keepM_cons_out {l : List Nat} {c : Nat} (h : c ∉ l) (a : List Nat) : keepM l (c :: a) = keepM l a := by
  unfold keepM
  rw [List.filter_cons, if_neg (by rw [decide_eq_false h]; exact Bool.false_ne_true)]
theorem keepM_none {l a : List Nat} (h : ∀ c ∈ a, c ∉ l) : keepM l a = [] := by
  unfold keepM
  rw [List.filter_eq_nil_iff]
  intro c hc z
  exact h c hc (of_decide_eq_true z)
theorem keepM_swap (u v : Nat) (a : List Nat) : keepM [u, v] a = keepM [v, u] a := by
  unfold keepM
  refine List.filter_congr fun c _ => ?_
  rw [Bool.eq_iff_iff, decide_eq_true_eq, decide_eq_true_eq]
  simp only [List.mem_cons, List.not_mem_nil, or_false]
  exact Or.comm

/-- the words of all dependent letters are the same in both -/
def KeepsM (ls : List Nat) (ps : List (List Nat)) (a b : List Nat) : Prop := ∀ u v, u ∈ ls → v ∈ ls → u ≠ v → ind ps u v = false → keepM [u, v] a = keepM [u, v] b

theorem split_first {x : Nat} : ∀ {a : List Nat}, x ∈ a → ∃ p q, a = p ++ x :: q ∧ x ∉ p
  | [], h => nomatch h
  | c :: r, h => by
    by_cases e : c = x
    · exact ⟨[], r, by rw [e]; rfl, by simp⟩
    · have hr : x ∈ r := by
        rcases List.mem_cons.mp h with z | z
        · exact absurd z.symm e
        · exact z
      obtain ⟨p, q, e1, e2⟩ := split_first hr
      refine ⟨c :: p, q, by rw [e1]; rfl, fun z => ?_⟩
      rcases List.mem_cons.mp z with z | z
      · exact e z.symm
      · exact e2 z

theorem alike_of_keeps : ∀ (b a : List Nat), (∀ c ∈ a, c ∈ ls) → (∀ c ∈ b, c ∈ ls) → a.Perm b → KeepsM ls ps a b → Exs ps a b
  | [], a, _, _, pm, _ => by
    rw [pm.eq_nil]
    exact .refl _
  | x :: b, a, ia, ib, pm, kp => by
    have hx : x ∈ a := pm.mem_iff.mpr List.mem_cons_self
    obtain ⟨p, q, rfl, nx⟩ := split_first hx
    have xl : x ∈ ls := ib x List.mem_cons_self
    have free : ∀ y ∈ p, ind ps y x = true := fun y hy => by
      cases e : ind ps y x with
      | true => rfl
      | false =>
        exfalso
        have ne : y ≠ x := fun z => nx (z ▸ hy)
        have k := kp y x (ia y (List.mem_append_left _ hy)) xl ne e
        rw [keepM_append, keepM_cons_in (by simp) b] at k
        -- the first of both letters in p is y
        have hk : ∀ c ∈ keepM [y, x] p, c = y := fun c hc => by
          obtain ⟨h1, h2⟩ := List.mem_filter.mp hc
          have h2 := of_decide_eq_true h2
          rcases List.mem_cons.mp h2 with z | z
          · exact z
          · rw [List.mem_singleton.mp z] at h1
            exact absurd h1 nx
        have hy2 : y ∈ keepM [y, x] p := List.mem_filter.mpr ⟨hy, decide_eq_true List.mem_cons_self⟩
        cases ek : keepM [y, x] p with
        | nil =>
          rw [ek] at hy2
          cases hy2
        | cons c r =>
          rw [ek] at k hk
          have := hk c List.mem_cons_self
          rw [List.cons_append] at k
          have k1 := (List.cons.inj k).1
          exact ne (this ▸ k1)
    have go : Exs ps (p ++ x :: q) (x :: (p ++ q)) := bubble x q p free
    have pm2 : (p ++ q).Perm b := by
      have h1 : (x :: (p ++ q)).Perm (x :: b) := go.perm.symm.trans pm
      exact h1.cons_inv
    have kp2 : KeepsM ls ps (p ++ q) b := fun u v hu hv ne hi => by
      have k := kp u v hu hv ne hi
      by_cases hm : x ∈ [u, v]
      · have none : keepM [u, v] p = [] := keepM_none fun c hc z => by
          have f := free c hc
          have cx : c ≠ x := fun z => nx (z ▸ hc)
          have : ind ps c x = false := by
            rcases List.mem_cons.mp hm with m | m
            · rcases List.mem_cons.mp z with z | z
              · exact absurd (z.trans m.symm) cx
              · rw [List.mem_singleton.mp z, m, ind_comm]
                exact hi
            · have m := List.mem_singleton.mp m
              rcases List.mem_cons.mp z with z | z
              · rw [z, m]
                exact hi
              · exact absurd ((List.mem_singleton.mp z).trans m.symm) cx
          rw [f] at this
          cases this
        rw [keepM_append, none, keepM_cons_in hm, keepM_cons_in hm] at k
        rw [keepM_append, none]
        exact (List.cons.inj k).2
      · rw [keepM_append, keepM_cons_out hm, keepM_cons_out hm] at k
        rw [keepM_append]
        exact k
    have ih := alike_of_keeps b (p ++ q) (fun c hc => ia c (by
      rcases List.mem_append.mp hc with h | h
      · exact List.mem_append_left _ h
      · exact List.mem_append_right _ (List.mem_cons_of_mem _ h))) (fun c hc => ib c (List.mem_cons_of_mem _ hc)) pm2 kp2
    exact go.trans (ih.pre [x])

theorem Ex1.keeps (pr : Pairs ls ps) {a b : List Nat} (h : Ex1 ps a b) {u v : Nat} (hi : ind ps u v = false) : keepM [u, v] a = keepM [u, v] b := by
  obtain ⟨p, q, x, y, hxy⟩ := h
  rw [keepM_append, keepM_append]
  congr 1
  by_cases hx : x ∈ [u, v]
  · by_cases hy : y ∈ [u, v]
    · exfalso
      have ne : x ≠ y := fun z => by
        rw [z, ind_self pr] at hxy
        cases hxy
      simp only [List.mem_cons, List.not_mem_nil, or_false] at hx hy
      rcases hx with hx | hx <;> rcases hy with hy | hy
      · exact ne (hx.trans hy.symm)
      · rw [hx, hy, hi] at hxy
        cases hxy
      · rw [hx, hy, ind_comm, hi] at hxy
        cases hxy
      · exact ne (hx.trans hy.symm)
    · rw [keepM_cons_in hx, keepM_cons_out hy, keepM_cons_out hy, keepM_cons_in hx]
  · rw [keepM_cons_out hx]
    by_cases hy : y ∈ [u, v]
    · rw [keepM_cons_in hy, keepM_cons_in hy, keepM_cons_out hx]
    · rw [keepM_cons_out hy, keepM_cons_out hy, keepM_cons_out hx]
theorem Exs.keeps (pr : Pairs ls ps) {a b : List Nat} (h : Exs ps a b) {u v : Nat} (hi : ind ps u v = false) : keepM [u, v] a = keepM [u, v] b := by
  induction h with
  | refl => rfl
  | step _ e ih => exact ih.trans (e.keeps pr hi)

theorem orderOf_none {o : Option (List Nat)} (h : ∀ p, o = some p → ∃ x y, p = [x, y]) (e : orderOf o = none) : o = none := by
  cases o with
  | none => rfl
  | some p =>
    obtain ⟨x, y, rfl⟩ := h p rfl
    cases e
theorem mem_pairsOf {x y : Nat} (hx : x ∈ ls) (hy : y ∈ ls) (lt : x < y) : [x, y] ∈ pairsOf ls :=
  List.mem_flatMap.mpr ⟨x, hx, List.mem_map.mpr ⟨y, List.mem_filter.mpr ⟨hy, decide_eq_true lt⟩, rfl⟩⟩
/-- THE PROMISE [e2]: nothing parts two words exactly if they are alike -/
theorem partsM_none (pr : Pairs ls ps) {a b : List Nat} (ia : ∀ c ∈ a, c ∈ ls) (ib : ∀ c ∈ b, c ∈ ls) : partsM ls ps a b = none ↔ Exs ps a b := by
  constructor
  · intro h
    have h1 : ls.find? (countsApart a b) = none := by
      cases e : ls.find? (countsApart a b) with
      | none => rfl
      | some c =>
        rw [partsM_count e] at h
        cases h
    rw [partsM_order h1] at h
    have h2 : (pairsOf ls).find? (parted ps a b) = none := orderOf_none (fun p hp => by
      obtain ⟨x, y, e, _⟩ := pairsOf_mem (List.mem_of_find?_eq_some hp)
      exact ⟨x, y, e⟩) h
    have pm : a.Perm b := List.perm_iff_count.mpr fun c => by
      by_cases hc : c ∈ ls
      · have := List.find?_eq_none.mp h1 c hc
        unfold countsApart at this
        simpa using this
      · rw [List.count_eq_zero_of_not_mem fun z => hc (ia c z), List.count_eq_zero_of_not_mem fun z => hc (ib c z)]
    refine alike_of_keeps b a ia ib pm fun u v hu hv ne hi => ?_
    have key : ∀ x y, x ∈ ls → y ∈ ls → x < y → ind ps x y = false → keepM [x, y] a = keepM [x, y] b := fun x y hx hy lt hi => by
      have := List.find?_eq_none.mp h2 [x, y] (mem_pairsOf hx hy lt)
      rw [parted_two, hi] at this
      simpa using this
    by_cases lt : u < v
    · exact key u v hu hv lt hi
    · rw [keepM_swap u v a, keepM_swap u v b]
      exact key v u hv hu (by omega) (by rw [ind_comm]; exact hi)
  · intro h
    have h1 : ls.find? (countsApart a b) = none := find_no fun c _ => decide_eq_false fun z => z (h.perm.count_eq c)
    rw [partsM_order h1]
    have h2 : (pairsOf ls).find? (parted ps a b) = none := find_no fun d hd => by
      obtain ⟨x, y, rfl, _⟩ := pairsOf_mem hd
      rw [parted_two]
      cases e : ind ps x y with
      | true => rfl
      | false =>
        rw [h.keeps pr e]
        simp
    rw [h2]
    rfl
end TcG
/-! Rows of exchanges; as few as can be. -/
namespace TcG
open PySem PySem.Spec PyProof.Rows L2
variable {ps : List (List Nat)} {ls : List Nat}
def canAt (ps : List (List Nat)) (w : List Nat) (z : Int) : Bool := decide (0 ≤ z) && (decide (z < (w.length : Int) - 1) && (match w[z.toNat]?, w[z.toNat + 1]? with | some x, some y => ind ps x y | _, _ => false))
/-- the word behind exchanges at these places, and the number of the first that is not possible -/
def runEx (ps : List (List Nat)) : List Nat → List Int → Nat → List Nat × Option Nat
  | w, [], _ => (w, none)
  | w, z :: r, k => if canAt ps w z = true then runEx ps (swapAt w z.toNat) r (k + 1) else (w, some k)
theorem runEx_go {w : List Nat} {z : Int} (r : List Int) (k : Nat) (h : canAt ps w z = true) : runEx ps w (z :: r) k = runEx ps (swapAt w z.toNat) r (k + 1) := by
  rw [runEx, if_pos h]
theorem runEx_no {w : List Nat} {z : Int} (r : List Int) (k : Nat) (h : canAt ps w z = false) : runEx ps w (z :: r) k = (w, some k) := by
  rw [runEx, if_neg (by rw [h]; exact Bool.false_ne_true)]
def desc (n : Nat) : Nat → List Nat
  | 0 => []
  | j + 1 => (n + j) :: desc n j
theorem desc_len (n : Nat) : ∀ j, (desc n j).length = j
  | 0 => rfl
  | j + 1 => by
    show (desc n j).length + 1 = j + 1
    rw [desc_len n j]
/-- the places of exchanges that lead from the one to the other, letter by letter -/
def exL : Nat → List Nat → List Nat → List Nat
  | _, _, [] => []
  | n, rest, x :: b => desc n (rest.idxOf x) ++ exL (n + 1) (rest.erase x) b
def KeepsA (ps : List (List Nat)) (a b : List Nat) : Prop := ∀ u v, ind ps u v = false → keepM [u, v] a = keepM [u, v] b
theorem Exs.keepsA (pr : Pairs ls ps) {a b : List Nat} (h : Exs ps a b) : KeepsA ps a b := fun u v hi => h.keeps pr hi
theorem keepsA_step (pr : Pairs ls ps) {a b : List Nat} {x : Nat} (kp : KeepsA ps a (x :: b)) : ∃ p q, a = p ++ x :: q ∧ x ∉ p ∧ (∀ y ∈ p, ind ps y x = true) ∧ KeepsA ps (p ++ q) b := by
  have hx : x ∈ a := by
    have k := kp x x (ind_self pr x)
    have m : x ∈ keepM [x, x] (x :: b) := List.mem_filter.mpr ⟨List.mem_cons_self, decide_eq_true List.mem_cons_self⟩
    rw [← k] at m
    exact (List.mem_filter.mp m).1
  obtain ⟨p, q, rfl, nx⟩ := split_first hx
  have free : ∀ y ∈ p, ind ps y x = true := fun y hy => by
    cases e : ind ps y x with
    | true => rfl
    | false =>
      exfalso
      have k := kp y x e
      rw [keepM_append, keepM_cons_in (by simp) b] at k
      have only : ∀ c ∈ keepM [y, x] p, c = y := fun c hc => by
        obtain ⟨h1, h2⟩ := List.mem_filter.mp hc
        rcases List.mem_cons.mp (of_decide_eq_true h2) with z | z
        · exact z
        · rw [List.mem_singleton.mp z] at h1
          exact absurd h1 nx
      have hy2 : y ∈ keepM [y, x] p := List.mem_filter.mpr ⟨hy, decide_eq_true List.mem_cons_self⟩
      cases ek : keepM [y, x] p with
      | nil =>
        rw [ek] at hy2
        cases hy2
      | cons c r =>
        rw [ek] at k only
        have ec := only c List.mem_cons_self
        rw [List.cons_append] at k
        have k1 := (List.cons.inj k).1
        exact nx (by rw [← k1, ec]; exact hy)
  refine ⟨p, q, rfl, nx, free, fun u v hi => ?_⟩
  have k := kp u v hi
  by_cases hm : x ∈ [u, v]
  · have none : keepM [u, v] p = [] := keepM_none fun c hc z => by
      have f := free c hc
      have bad : ind ps c x = false := by
        rcases List.mem_cons.mp hm with m | m
        · rcases List.mem_cons.mp z with z | z
          · rw [z, m]
            exact ind_self pr u
          · rw [List.mem_singleton.mp z, m, ind_comm]
            exact hi
        · have m := List.mem_singleton.mp m
          rcases List.mem_cons.mp z with z | z
          · rw [z, m]
            exact hi
          · rw [List.mem_singleton.mp z, m]
            exact ind_self pr v
      rw [f] at bad
      cases bad
    rw [keepM_append, none, keepM_cons_in hm, keepM_cons_in hm] at k
    rw [keepM_append, none]
    exact (List.cons.inj k).2
  · rw [keepM_append, keepM_cons_out hm, keepM_cons_out hm] at k
    rw [keepM_append]
    exact k
theorem keepsA_nil (pr : Pairs ls ps) {a : List Nat} (kp : KeepsA ps a []) : a = [] := by
  cases a with
  | nil => rfl
  | cons x r =>
    have k := kp x x (ind_self pr x)
    rw [keepM_cons_in List.mem_cons_self] at k
    cases k
theorem idx_first {x : Nat} {p q : List Nat} (nx : x ∉ p) : (p ++ x :: q).idxOf x = p.length := by
  induction p with
  | nil => exact List.idxOf_cons_self
  | cons y p ih =>
    have ne : ¬ y = x := fun z => nx (by rw [z]; exact List.mem_cons_self)
    have e := ih fun z => nx (List.mem_cons_of_mem _ z)
    rw [List.cons_append, List.idxOf_cons, e]
    have : (y == x) = false := by simpa using ne
    rw [this]
    rfl
theorem erase_first {x : Nat} {p q : List Nat} (nx : x ∉ p) : (p ++ x :: q).erase x = p ++ q := by
  rw [List.erase_append_right _ nx, List.erase_cons_head]
/-- a letter goes ahead of the letters of p -/
theorem run_move (pre : List Nat) (x : Nat) (more : List Nat) : ∀ (n : Nat) (p q : List Nat) (k : Nat), p.length = n → (∀ y ∈ p, ind ps y x = true) →
    runEx ps (pre ++ (p ++ x :: q)) ((desc pre.length n ++ more).map Int.ofNat) k = runEx ps (pre ++ x :: (p ++ q)) (more.map Int.ofNat) (k + n)
  | 0, p, q, k, hl, _ => by
    obtain rfl : p = [] := List.eq_nil_of_length_eq_zero hl
    rfl
  | n + 1, p, q, k, hl, free => by
    obtain ⟨r, y, rfl⟩ : ∃ r y, p = r ++ [y] := ⟨p.dropLast, p.getLast (fun z => by rw [z] at hl; cases hl), (List.dropLast_concat_getLast _).symm⟩
    have lr : r.length = n := by simpa using hl
    have ew : pre ++ ((r ++ [y]) ++ x :: q) = (pre ++ r) ++ y :: x :: q := by simp
    have lpr : (pre ++ r).length = pre.length + n := by rw [List.length_append, lr]
    have hy : ((pre ++ r) ++ y :: x :: q)[pre.length + n]? = some y := by rw [← lpr]; simp
    have hx : ((pre ++ r) ++ y :: x :: q)[pre.length + n + 1]? = some x := by
      rw [← lpr, List.getElem?_append_right (by omega), show (pre ++ r).length + 1 - (pre ++ r).length = 1 by omega]
      rfl
    have can : canAt ps ((pre ++ r) ++ y :: x :: q) (Int.ofNat (pre.length + n)) = true := by
      unfold canAt
      rw [show (Int.ofNat (pre.length + n)).toNat = pre.length + n from rfl, hy, hx]
      have e1 : decide (0 ≤ Int.ofNat (pre.length + n)) = true := decide_eq_true (Int.natCast_nonneg _)
      have e2 : decide (Int.ofNat (pre.length + n) < ((((pre ++ r) ++ y :: x :: q).length : Nat) : Int) - 1) = true := decide_eq_true (by
        rw [List.length_append, lpr, List.length_cons, List.length_cons]
        show ((pre.length + n : Nat) : Int) < _
        omega)
      rw [e1, e2]
      exact free y (by simp)
    have sw : swapAt ((pre ++ r) ++ y :: x :: q) (pre.length + n) = pre ++ (r ++ x :: (y :: q)) := by
      rw [swapAt_eq hy hx, ← lpr, List.take_left]
      have : ((pre ++ r) ++ y :: x :: q).drop ((pre ++ r).length + 2) = q := by
        rw [← List.drop_drop, List.drop_left]
        rfl
      rw [this]
      simp
    show runEx ps (pre ++ ((r ++ [y]) ++ x :: q)) (Int.ofNat (pre.length + n) :: (desc pre.length n ++ more).map Int.ofNat) k = _
    rw [ew, runEx_go _ k can, show (Int.ofNat (pre.length + n)).toNat = pre.length + n from rfl, sw, run_move pre x more n r (y :: q) (k + 1) lr fun z hz => free z (List.mem_append_left _ hz)]
    have e3 : r ++ [y] ++ q = r ++ y :: q := by simp
    rw [e3, show k + 1 + n = k + (n + 1) by omega]
theorem run_exL (pr : Pairs ls ps) : ∀ (b a pre : List Nat) (k : Nat), KeepsA ps a b → ∃ n, runEx ps (pre ++ a) ((exL pre.length a b).map Int.ofNat) k = (pre ++ b, none) ∧ n = k
  | [], a, pre, k, kp => by
    rw [keepsA_nil pr kp]
    exact ⟨k, rfl, rfl⟩
  | x :: b, a, pre, k, kp => by
    obtain ⟨p, q, rfl, nx, free, kp2⟩ := keepsA_step pr kp
    unfold exL
    rw [idx_first nx, erase_first nx, run_move pre x _ p.length p q k rfl free]
    obtain ⟨n, h, _⟩ := run_exL pr b (p ++ q) (pre ++ [x]) (k + p.length) kp2
    have el : (pre ++ [x]).length = pre.length + 1 := by simp
    rw [el] at h
    refine ⟨k, ?_, rfl⟩
    have e1 : pre ++ x :: (p ++ q) = pre ++ [x] ++ (p ++ q) := by simp
    have e2 : pre ++ x :: b = pre ++ [x] ++ b := by simp
    rw [e1, e2]
    exact h

/-! how many pairs stand the other way round -/
/-- the place of the letter c of which n stand before it -/
def nth : List Nat → Nat → Nat → Nat
  | [], _, _ => 0
  | x :: b, c, n => if x = c then (match n with | 0 => 0 | n + 1 => nth b c n + 1) else nth b c n + 1
theorem nth_first (b : List Nat) (x : Nat) : nth (x :: b) x 0 = 0 := by simp [nth]
theorem nth_hit (b : List Nat) (x n : Nat) : nth (x :: b) x (n + 1) = nth b x n + 1 := by simp [nth]
theorem nth_miss {x c : Nat} (b : List Nat) (n : Nat) (h : ¬ x = c) : nth (x :: b) c n = nth b c n + 1 := by simp [nth, h]
def spots (b : List Nat) : List Nat → List Nat → List Nat
  | _, [] => []
  | seen, c :: r => nth b c (seen.count c) :: spots b (c :: seen) r
def inverts : List Nat → Nat
  | [] => 0
  | x :: r => (r.filter fun y => decide (y < x)).length + inverts r
theorem spots_len (b : List Nat) : ∀ a seen, (spots b seen a).length = a.length
  | [], _ => rfl
  | c :: r, seen => by
    show (spots b (c :: seen) r).length + 1 = r.length + 1
    rw [spots_len b r]
theorem spots_append (b : List Nat) : ∀ p seen q, spots b seen (p ++ q) = spots b seen p ++ spots b (p.reverse ++ seen) q
  | [], _, _ => rfl
  | c :: p, seen, q => by
    show nth b c (seen.count c) :: spots b (c :: seen) (p ++ q) = nth b c (seen.count c) :: (spots b (c :: seen) p ++ _)
    rw [spots_append b p (c :: seen) q, List.reverse_cons, List.append_assoc]
    rfl
/-- behind the first x: what was counted for x is one more -/
theorem spots_behind {b : List Nat} {x : Nat} : ∀ (q S T : List Nat), (∀ c, c ≠ x → S.count c = T.count c) → S.count x = T.count x + 1 → spots (x :: b) S q = (spots b T q).map (· + 1)
  | [], _, _, _, _ => rfl
  | c :: q, S, T, h1, h2 => by
    have ih := spots_behind (b := b) q (c :: S) (c :: T) (fun d hd => by rw [List.count_cons, List.count_cons, h1 d hd]) (by rw [List.count_cons, List.count_cons, h2]; omega)
    show nth (x :: b) c (S.count c) :: spots (x :: b) (c :: S) q = (nth b c (T.count c) + 1) :: (spots b (c :: T) q).map (· + 1)
    rw [ih]
    congr 1
    by_cases e : x = c
    · rw [← e, h2, nth_hit]
    · rw [nth_miss _ _ e, h1 c fun z => e z.symm]
theorem spots_ahead {b : List Nat} {x : Nat} : ∀ (p S : List Nat), x ∉ p → spots (x :: b) S p = (spots b S p).map (· + 1)
  | [], _, _ => rfl
  | c :: p, S, nx => by
    have ne : ¬ x = c := fun z => nx (by rw [z]; exact List.mem_cons_self)
    have ih := spots_ahead (b := b) p (c :: S) fun z => nx (List.mem_cons_of_mem _ z)
    show nth (x :: b) c (S.count c) :: spots (x :: b) (c :: S) p = (nth b c (S.count c) + 1) :: (spots b (c :: S) p).map (· + 1)
    rw [ih]
    congr 1
    rw [nth_miss _ _ ne]
theorem spots_same {b : List Nat} : ∀ (q S T : List Nat), (∀ c, S.count c = T.count c) → spots b S q = spots b T q
  | [], _, _, _ => rfl
  | c :: q, S, T, h => by
    show nth b c (S.count c) :: spots b (c :: S) q = nth b c (T.count c) :: spots b (c :: T) q
    rw [h c, spots_same q (c :: S) (c :: T) fun d => by rw [List.count_cons, List.count_cons, h d]]
theorem inverts_put : ∀ u v : List Nat, inverts (u.map (· + 1) ++ 0 :: v.map (· + 1)) = u.length + inverts (u ++ v)
  | [], v => by
    show (List.filter (fun y => decide (y < 0)) (v.map (· + 1))).length + inverts (v.map (· + 1)) = 0 + inverts v
    have e0 : List.filter (fun y => decide (y < 0)) (v.map (· + 1)) = [] := List.filter_eq_nil_iff.mpr fun y _ z => absurd (of_decide_eq_true z) (Nat.not_lt_zero y)
    have e1 : ∀ v : List Nat, inverts (v.map (· + 1)) = inverts v := fun v => by
      induction v with
      | nil => rfl
      | cons y r ih =>
        show (List.filter (fun z => decide (z < y + 1)) (r.map (· + 1))).length + inverts (r.map (· + 1)) = (List.filter (fun z => decide (z < y)) r).length + inverts r
        rw [ih, List.filter_map, List.length_map]
        congr 2
        refine List.filter_congr fun z _ => ?_
        simp
    rw [e0, e1]
    rfl
  | t :: u, v => by
    show (List.filter (fun y => decide (y < t + 1)) (u.map (· + 1) ++ 0 :: v.map (· + 1))).length + inverts (u.map (· + 1) ++ 0 :: v.map (· + 1)) = u.length + 1 + ((List.filter (fun y => decide (y < t)) (u ++ v)).length + inverts (u ++ v))
    rw [inverts_put u v, List.filter_append, List.filter_append, List.filter_cons, if_pos (by simp), List.filter_map, List.filter_map, List.length_append, List.length_cons, List.length_map, List.length_map, List.length_append]
    have e : ∀ l : List Nat, List.filter ((fun y => decide (y < t + 1)) ∘ (· + 1)) l = List.filter (fun y => decide (y < t)) l := fun l => List.filter_congr fun z _ => by simp
    rw [e u, e v]
    omega
/-- as many exchanges as pairs stand the other way round -/
theorem exL_least (pr : Pairs ls ps) : ∀ (b a : List Nat) (n : Nat), KeepsA ps a b → (exL n a b).length = inverts (spots b [] a)
  | [], a, n, kp => by
    rw [keepsA_nil pr kp]
    rfl
  | x :: b, a, n, kp => by
    obtain ⟨p, q, rfl, nx, free, kp2⟩ := keepsA_step pr kp
    unfold exL
    rw [idx_first nx, erase_first nx, List.length_append, desc_len, exL_least pr b (p ++ q) (n + 1) kp2, spots_append, spots_append]
    have e0 : spots (x :: b) (p.reverse ++ []) (x :: q) = 0 :: spots (x :: b) (x :: (p.reverse ++ [])) q := by
      show nth (x :: b) x ((p.reverse ++ []).count x) :: _ = _
      have z : (p.reverse ++ []).count x = 0 := List.count_eq_zero_of_not_mem (by simpa using nx)
      rw [z, nth_first]
    rw [e0, spots_ahead p [] nx, spots_behind q (x :: (p.reverse ++ [])) (p.reverse ++ []) (fun c hc => by rw [List.count_cons, if_neg (by simpa using fun z : x = c => hc z.symm)]; rfl) (by rw [List.count_cons, if_pos (by simp)]), inverts_put, spots_len]
theorem exL_len : ∀ (b a : List Nat) (n : Nat), (exL n a b).length ≤ b.length * (a.length + 1)
  | [], a, n => Nat.zero_le _
  | x :: b, a, n => by
    unfold exL
    have ih := exL_len b (a.erase x) (n + 1)
    have h1 : (a.erase x).length ≤ a.length := List.length_erase_le
    have h2 : a.idxOf x ≤ a.length := List.idxOf_le_length
    have h3 : b.length * ((a.erase x).length + 1) ≤ b.length * (a.length + 1) := Nat.mul_le_mul_left _ (by omega)
    rw [List.length_append, desc_len, List.length_cons, Nat.succ_mul]
    omega
theorem swapAt_len {l : List Nat} {k : Nat} (h : k + 1 < l.length) : (swapAt l k).length = l.length := by
  rw [swapAt_eq (List.getElem?_eq_getElem (by omega : k < l.length)) (List.getElem?_eq_getElem h)]
  simp only [List.length_append, List.length_take, List.length_drop, List.length_cons, List.length_nil]
  omega
theorem canAt_bounds {w : List Nat} {z : Int} (h : canAt ps w z = true) : ∃ k : Nat, z = (k : Int) ∧ k + 1 < w.length := by
  unfold canAt at h
  obtain ⟨h1, h2⟩ := Bool.and_eq_true_iff.mp h
  obtain ⟨h2, _⟩ := Bool.and_eq_true_iff.mp h2
  have a := of_decide_eq_true h1
  have b := of_decide_eq_true h2
  exact ⟨z.toNat, by omega, by omega⟩
theorem canAt_in {w : List Nat} {k x y : Nat} (hx : w[k]? = some x) (hy : w[k + 1]? = some y) : canAt ps w (k : Int) = ind ps x y := by
  obtain ⟨lt, _⟩ := List.getElem?_eq_some_iff.mp hy
  unfold canAt
  rw [show ((k : Int)).toNat = k from rfl, hx, hy, decide_eq_true (by omega : (0 : Int) ≤ (k : Int)), decide_eq_true (by omega : (k : Int) < (w.length : Int) - 1)]
  rfl
theorem canAt_out {w : List Nat} {z : Int} (h : ¬ (0 ≤ z ∧ z < (w.length : Int) - 1)) : canAt ps w z = false := by
  unfold canAt
  by_cases a : (0 : Int) ≤ z
  · rw [decide_eq_false (fun b : z < (w.length : Int) - 1 => h ⟨a, b⟩)]
    simp
  · rw [decide_eq_false a]
    rfl
theorem canAt_mem {w : List Nat} {z : Int} (h : canAt ps w z = true) {c : Nat} (hc : c ∈ swapAt w z.toNat) : c ∈ w := by
  obtain ⟨k, rfl, lt⟩ := canAt_bounds h
  rw [show ((k : Int)).toNat = k from rfl, swapAt_eq (List.getElem?_eq_getElem (by omega : k < w.length)) (List.getElem?_eq_getElem lt)] at hc
  simp only [List.mem_append, List.mem_singleton] at hc
  rcases hc with ((hc | hc) | hc) | hc
  · exact List.mem_of_mem_take hc
  · rw [hc]
    exact List.getElem_mem lt
  · rw [hc]
    exact List.getElem_mem _
  · exact List.mem_of_mem_drop hc
end TcG
/-! The __init__ of an own error below ValueError: super().__init__(text); self.x = y. -/
namespace TcG
open PySem PySem.Spec PyProof.Rows L2 NdefX
/-- what the written part says of the class D and its __init__ -/
structure InitC (P : Program) (K : PySem.W.Frag) (mg : Str → Option Value) (D : Addr) (F : NF) (cc : Addr) : Prop where
  cl : F.cl = [(("__class__" : Str), cc)]
  code : PySem.W.codeIn K (.ref F.c) F.qual = true
  file : ∃ (ccl : Value) (cdd : Option Addr) (vs : Array Value) (ccs : Array (Option Value)) (fl : Str) (tf : Tok), K.lookup F.c = some ⟨ccl, cdd, .fields vs, ccs⟩ ∧ vs[2]? = some (.str fl tf) ∧ ((P.main.file : Str) == fl) = true
  cell : ∃ (cl : Value) (cld : Option Addr) (csl : Array (Option Value)), K.lookup cc = some ⟨cl, cld, .cell (some (.ref D)), csl⟩
  clsD : ∃ cd, PySem.W.clsIn K D = some cd
  top : (P.main.scope.names.lookup ("super" : Str)).isSome = false
  sup : mg "super" = none
  init : PySem.W.ks_superIn K D D "__init__" = some (some (.builtin "ValueError.__init__"))
  below : PySem.W.subIn K (.ref D) (.type "ValueError") = some true
  self : PySem.W.mroIn K D (.ref D) = some true
  opaq : PySem.W.nsIn K cStatics "thirdparty.any" = some none
  oex : OexC K D

section
variable {P : Program} {w : World} {K : PySem.W.Frag} {mg : Str → Option Value} {base : Heap}
theorem fn_super {D f cc : Addr} {F : NF} {N ps : List Str} {k : Nat} {sp : Sp} {e : Expr} {rest : List Stmt} {p0 p1 p2 p3 p4 : Pos} {self : Str} {ar : Arg} {pl : Env → Sem Bool}
    {oc kV doc pm ct : Value} {od an : Option Addr} {osl : Array (Option Value)} (lk : K.lookup f = some ⟨oc, od, .func (PySem.W.fnX F.name F.qual F.params F.body F.scope F.cl .none kV doc pm an (.ref F.c) ct), osl⟩)
    (C : InitC P K mg D F cc) (S : NScope N (self :: ps) ["__class__"] F.scope)
    (hbd : F.body = .Expr (.Call (.Attribute (.Call (.Name "super" p0) [] [] p1) "__init__" p2) [e] [] p3) p4 :: rest) (hpar : (F.params.posonlyargs ++ F.params.args).head? = some ar) (har : ar.arg = self) (hks : F.scope.names.lookup ("super" : Str) = some .globalImplicit)
    (len : ∀ vs H Q E, sp vs H Q E → vs.length = (self :: ps).length)
    (hstar : ∀ env : Env, starEach [e] env = [(false, eval e env)])
    (hform : ∀ env : Env, eval (.Call (.Attribute (.Call (.Name "super" p0) [] [] p1) "__init__" p2) [e] [] p3) env = (do
      let ov ← attributeBase (.Call (.Name "super" p0) [] [] p1) "__init__" env (eval (.Call (.Name "super" p0) [] [] p1) env)
      standAt p2.atName
      let (f, first) ← holding [ov] (getMethod ov "__init__" (pl env))
      callWith p3 f first (backTo p3 (starEach [e] env)) []))
    (hs : ∀ env : Env, swapsWith (.Call (.Attribute (.Call (.Name "super" p0) [] [] p1) "__init__" p2) [e] [] p3) none p4.line env = pure false) (hint : ∀ env : Env, env.scope = F.scope → interactive env = false)
    (body : ∀ (A : Around) (outer : List Env) (s : Shared) (H : Hp) (vs : List V) (Q : VK) (E : XK), Room k (A.deeper (envF F f s.heap.objs.size)) → sp vs H Q E →
      ∃ (a : Addr) (te : TE) (t : TS), PE (ncx CX0 P w K mg base N F f A outer s H E) e te ∧ PSs (ncx CX0 P w K mg base N F f A outer s H E) rest t ∧ vs[0]? = some (.ref a) ∧
        te (startF N vs [none]) H (fun v H1 => H1 a = some (exo a D none) ∧ t { nx := fun _ H' => Q .non H', rt := Q } (startF N vs [none]) H1) ∧ H a = some (exo a D none)) :
    FnOk P w K mg base CX0 (k + 1) f (PySem.W.fnX F.name F.qual F.params F.body F.scope F.cl .none kV doc pm an (.ref F.c) ct) (self :: ps) sp := by
  refine ⟨len, fun A outer s H args us vs Q E hr e0 hb r hsp => ?_⟩
  have hl := len _ _ _ _ hsp
  have KX : K.In s.heap := e0.mod.kin.keeps fun b o e => (e0.bs b o e).1
  have KB : K.In base := e0.mod.kin
  have lim : s.heap.NoLimit := e0.mod.nolimit.keeps fun b o e => (e0.bs b o e).1
  obtain ⟨cl0, cld, csl, hcell⟩ := C.cell
  have cells : CellsAt F.cl ["__class__"] [none] s.heap H := by
    rw [C.cl]
    refine ⟨rfl, fun y c h => ?_, fun x y c h1 h2 => ?_, fun i y hy => ?_⟩
    · have ec : c = cc := by
        have := PySem.mem_of_lookup h
        simpa using (List.mem_singleton.mp this) |> (fun z => congrArg Prod.snd z)
      rw [ec]
      exact ⟨(e0.bs _ _ (KB _ _ hcell)).2, _, _, KX _ _ hcell, rfl⟩
    · have e1 := congrArg Prod.fst (List.mem_singleton.mp (PySem.mem_of_lookup h1))
      have e2 := congrArg Prod.fst (List.mem_singleton.mp (PySem.mem_of_lookup h2))
      exact e1.trans e2.symm
    · cases i with
      | zero =>
        cases hy
        exact ⟨cc, rfl, fun v hv => by cases hv⟩
      | succ i => simp at hy
  refine PySem.ks_codeAny_call_defAt (fd := PySem.W.fnX F.name F.qual F.params F.body F.scope F.cl .none kV doc pm an (.ref F.c) ct) (body := F.body) (binds := (self :: ps).zip us) hr.depth (KX _ _ lk) rfl lim (PySem.W.codeRec_of KX C.code) rfl hb S.nocell
    (fun ⟨n, _⟩ hy => S.par n (List.of_mem_zip hy).1) (fun h1 hns kp => ?_) S.co S.gen S.kind
  obtain ⟨a, te, t, he, ht, ha0, q, ea⟩ := body A outer s H vs Q E (hr.deeper _) hsp
  have I : Inv (ncx CX0 P w K mg base N F f A outer s H E) [] (startF N vs [none]) H { s with heap := h1, toks := s.toks + ((self :: ps).zip us).length } := inv_startN S hr.hd e0 hl r cells hns kp
  generalize hs0 : ({ s with heap := h1, toks := s.toks + ((self :: ps).zip us).length } : Shared) = s0 at I ⊢
  have run : _root_.PySem.wpAt (model P w) (A.deeper (envF F f s.heap.objs.size)) (.func F.body (envF F f s.heap.objs.size)) (execs F.body (envF F f s.heap.objs.size))
      (SP (ncx CX0 P w K mg base N F f A outer s H E) [] { nx := fun _ H' => Q .non H', rt := Q, bk := fun _ _ => False, ct := fun _ _ => False })
      (ncx CX0 P w K mg base N F f A outer s H E).xe s0 := by
    subst hs0
    obtain ⟨cdD, hD⟩ := C.clsD
    obtain ⟨ccl, cdd, vs2, ccs, fl, tf, hcode, hvs, hfile⟩ := C.file
    have KI : K.In h1 := KX.keeps kp
    obtain ⟨oD, hD1, hD2⟩ : ∃ oD, h1.get? D = some oD ∧ oD.data = .cls cdD := by
      have hD := hD
      unfold PySem.W.clsIn at hD
      split at hD
      · rename_i c d cd' sl ho
        cases hD
        exact ⟨_, KI _ _ ho, rfl⟩
      · cases hD
    obtain ⟨t1, hx⟩ := exo_at I.hok ea
    have inst : PySem.W.InstAt h1 a { cls := .ref D, dict := none, data := .fields #[.ref t1, .none, .none, .none, .bool false, .none] } D none := ⟨hx, rfl, rfl, trivial⟩
    have kself : (envF F f s.heap.objs.size).kindOf self = some .local := S.par self List.mem_cons_self
    have ndN : N[0]? = some self := by
      have e1 := S.pre
      cases N with
      | nil => simp at e1
      | cons n r =>
        have : n = self := by
          have := congrArg (fun l => l[0]?) e1
          simpa using this
        rw [this]
        rfl
    have hself : ∃ m, h1.Ns s.heap.objs.size m ∧ m self = some (.ref a) := by
      obtain ⟨m, hn, look⟩ := I.loc
      have h0 : (startF N vs [none])[0]? = some (some (.ref a)) := by
        unfold startF
        cases vs with
        | nil => cases ha0
        | cons v r =>
          cases ha0
          rfl
      obtain ⟨u, ru, l⟩ := look 0 self (.ref a) ndN h0 (.inl kself)
      cases ru
      rcases l with ⟨_, l⟩ | ⟨l, _⟩
      · exact ⟨m, hn, l⟩
      · rcases l with l | l
        · rw [show (ncx CX0 P w K mg base N F f A outer s H E).env.kindOf self = some .local from kself] at l
          cases l
        · rw [show (ncx CX0 P w K mg base N F f A outer s H E).env.kindOf self = some .local from kself] at l
          cases l
    obtain ⟨m, hns2, hm2⟩ := hself
    obtain ⟨mb, hb1, hb2⟩ := I.mod.blt
    rw [hbd]
    have frk : F.scope.names.lookup ("__class__" : Str) = some .free := S.frk _ (List.mem_singleton.mpr rfl)
    have hkl : (envF F f s.heap.objs.size).scope.kind = .function := S.kind
    refine PySem.ks_wpAt_execs_cons (PySem.ks_wpAt_Expr_any (PySem.ks_wpAt_MethodCall (pl := pl (envF F f s.heap.objs.size)) ?_ (hform _)) (hint _ rfl) (hs _))
    refine PySem.ks_wpAt_super_base hks frk (by decide) rfl (kp _ _ (KX _ _ lk)) rfl hpar rfl (KI _ _ hcode) rfl hvs hfile C.top ?_
    refine PySem.W.ks_loadName_global hkl hks (Calls.loadGlobal_builtin (env := envF F f s.heap.objs.size) (I.mod.glob.keeps I.bk) C.sup (hb1.keeps I.bk) ((hb2 _ (by decide)).trans (by decide +kernel)) ⟨rfl, ?_⟩)
    refine wpAny_loadName_free hkl frk (by rw [show (envF F f s.heap.objs.size).cells = F.cl from rfl, C.cl]; rfl) ⟨_, KI _ _ hcell, rfl⟩ ?_
    rw [har]
    refine wpAny_loadName_local hkl kself hns2 hm2 ?_
    refine PySem.ks_wpAny_isType_cls hD1 hD2 ⟨rfl, ?_⟩
    refine PySem.ks_wpAny_call_super hD1 hD2 hx rfl (fun c z => by cases z) (PySem.W.looks_mroIn KI C.self) (fun h2 so2 kp2 => ?_)
    -- the __init__ of ValueError, bound
    have KI2 : K.In h2 := KI.keeps kp2
    have hx2 := kp2 _ _ hx
    have hDa : a ≠ D := fun z => by
      rw [z, hD1] at hx
      cases hx
      cases hD2
    have isVE : PySem.W.Looks (model P w) h2 (isInstance (.ref a) (.type "ValueError")) true :=
      (show PySem.W.InstAt h2 a { cls := .ref D, dict := none, data := .fields #[.ref t1, .none, .none, .none, .bool false, .none] } D none from ⟨hx2, rfl, rfl, trivial⟩).type.andThen (PySem.W.looks_subIn KI2 C.below)
    have hal : PySem.W.alongIn K "__init__" ((cdD.mro.dropWhile (· != .ref D)).drop 1) = some (some (.builtin "ValueError.__init__")) := by
      have := C.init
      unfold PySem.W.ks_superIn at this
      rw [hD] at this
      exact this
    refine PySem.W.kxs_getMethod PySem.W.kxs_ValueError so2 (PySem.W.looks_opaque KI2 C.opaq) (l₀ := cdD.mro) (fun A Q E s k q => wpAny_bind ((PySem.W.looks_clsIn KI2 hD) A _ E s k (wpAny_pure q))) rfl KI2 hal isVE hDa (by decide) ?_
    -- its call
    generalize hu : h2.objs.size = u
    have kp3 : ∀ b o, h1.get? b = some o → (h2.push (PySem.W.kxs_mw "ValueError.__init__" a)).get? b = some o := fun b o e => Heap.get?_push_of_some _ (kp2 b o e)
    have hw : (h2.push (PySem.W.kxs_mw "ValueError.__init__" a)).get? u = some (PySem.W.kxs_mw "ValueError.__init__" a) := by
      rw [← hu]
      exact Heap.get?_push_size _ rfl
    have I3 := I.kept (h' := h2.push (PySem.W.kxs_mw "ValueError.__init__" a)) (t' := s.toks + ((self :: ps).zip us).length + 1) kp3
    have new : ∀ b o, h1.get? b = some o → b ≠ u := fun b o e z => by
      have := Heap.lt_size (kp2 b o e)
      rw [z, ← hu] at this
      exact Nat.lt_irrefl _ this
    have lt2 : h1.objs.size ≤ u := by
      rw [← hu]
      exact Nat.le_of_lt (Nat.lt_of_lt_of_le (Heap.lt_size so2) (Nat.le_refl _))
    have nH : H u = none := I.hok.fresh lt2
    have I4 : Inv (ncx CX0 P w K mg base N F f A outer s H E) [(u, PySem.W.kxs_mw "ValueError.__init__" a)] (startF N vs [none]) H { s with heap := h2.push (PySem.W.kxs_mw "ValueError.__init__" a), toks := s.toks + ((self :: ps).zip us).length + 1 } :=
      I3.pins_of fun p hp => by
        rw [List.mem_singleton.mp hp]
        refine ⟨hw, nH, fun z => ?_, I.nofs lt2, fun v z => by cases z⟩
        have := I.lt
        rw [← z] at this
        exact absurd (Nat.lt_of_lt_of_le this lt2) (Nat.lt_irrefl _)
    refine PySem.W.kxs_callWith (i := "ValueError.__init__") (x := a) ?_ ?_
    · rw [hstar]
      rfl
    rw [hstar]
    refine Calls.evalArgs_plain (Calls.spliced_cons ?_)
    refine thn (he.run _ _ _ H _ I4 q) fun v s3 ⟨x, H1, I5, r1, ea1, q1⟩ => Calls.spliced_nil ?_
    have hw5 := (I5.pin (u, PySem.W.kxs_mw "ValueError.__init__" a) (List.mem_append_right _ List.mem_cons_self)).1
    refine ⟨hw5, ?_⟩
    obtain ⟨t2, hx5⟩ := exo_at I5.hok ea1
    obtain ⟨nm, qn, nN, bs, bm, sn, sub, ab, col, dd, k0, k1, k2, k3, k5, hcls, _⟩ := C.oex.cls
    have I6 : Inv (ncx CX0 P w K mg base N F f A outer s H E) [] (startF N vs [none]) H1 s3 := I5.pins_of fun p hp => nomatch hp
    have hC := I6.kIn _ _ hcls
    obtain ⟨hh, g, d, tk, os⟩ := s3
    refine wpAny_call (codeAny_of_tree ?_)
    show wpAny _ (A.deeper (envF F f s.heap.objs.size)).in1 (callAny (.ref u) ⟨[v], []⟩) _ _ _
    simp only [callAny]
    refine wpAny_bind (wpAny_load hw5 ?_)
    simp only [PySem.W.kxs_mw, show (Value.type "method-wrapper" == Value.type "method" || Value.type "method-wrapper" == Value.type "builtin_function_or_method" || Value.type "method-wrapper" == Value.type "method-wrapper") = true by decide, if_true]
    refine PySem.W.KFB.if_so (by decide) ?_
    refine wpAny_bind (PySem.W.check_bound_init PySem.F.excBase_ValueError.toExcCallFacts hC hx5 rfl ?_)
    refine wpAny_bind (wpAny_pure (wpAny_pure ?_))
    refine ⟨PySem.plainId_quiet PySem.F.excBase_ValueError.init.plain _, codeAny_builtin PySem.F.excBase_ValueError.initEntry ?_⟩
    refine PySem.W.exc_init_tree (cls := .ref D) (t0 := t2) (dv := none) (c2 := .none) (c3 := .none) (b4 := .bool false) hx5 (by show 1 ≤ sizeLine; decide) fun h' k e' _ => ?_
    have J := I6.write (t' := tk) (x := a) (e := a) (o := exo a D none) (by rw [ea1]; exact True.intro) (.inl rfl) k ⟨_, e'⟩ (exo_ok e')
    have eu : upd H1 a (exo a D none) = H1 := by
      funext b
      by_cases hb : b = a
      · rw [hb, upd_same, ea1]
      · rw [upd_ne hb]
    rw [eu] at J
    exact PySem.wpAt_of_wpAny (ht.run [] _ _ _ _ J q1)
  refine PySem.ks_wpAt_mono run (fun fl s' hs => ?_) fun e s' hs => hs
  have fin : ∀ {σ' : L2.St} {H' : Hp} {v : V} {u : Value}, Inv (ncx CX0 P w K mg base N F f A outer s H E) [] σ' H' s' → L2.RelV v u → Q v H' → CE outer P w H s Q u s' :=
    fun {σ' H' v u} J rv q => ⟨v, H', J.os, J.bare, J.base, J.hok, rv, q⟩
  cases fl with
  | ret u =>
    obtain ⟨v, σ', H', J, rv, q⟩ := hs
    exact fin J rv q
  | next =>
    obtain ⟨σ', H', J, q⟩ := hs
    exact fin (v := V.non) (u := Value.none) J rfl q
  | brk =>
    obtain ⟨_, _, _, q⟩ := hs
    exact False.elim q
  | cont =>
    obtain ⟨_, _, _, q⟩ := hs
    exact False.elim q
end
end TcG
/-! Own errors with a dict: raised, caught, asked for their class; defs called while one is handled. -/
namespace TcG
open PySem PySem.Spec PyProof.Rows L2

section
variable {X : Cx}
/-- C(e, ..): what is made has no context -/
theorem pmk_fresh {x : Str} {C fI : Addr} {k : Nat} {fd : FuncData} {ps : List Str} {sp : Sp} {e : Expr} {es : List Expr} {ta : TA} {p pos : Pos} (T : OexC X.K C)
    (hi : PySem.W.findIn X.K (.ref C) "__init__" = some (some (.ref fI))) (ht : PySem.W.typeIn X.K (.ref fI) = some (.type "function"))
    (F : FnOk X.prog X.w X.K X.mg X.base L2.CX0 k fI fd ps sp) (room : Room (k + 1) X.A) (binds : Binds X.K fd ps []) (glob : Gl X x) (there : X.mg x = some (.ref C)) (ha : PA X (e :: es) ta)
    (hdb : (x == ("__debug__" : Str)) = false := by decide) (he : starEach (e :: es) X.env = (false, eval e X.env) :: starEach es X.env := by rfl) (hpl : (backTo pos (starEach es X.env)).any (·.1) = false := by rfl) :
    L2N.PMk X (.Call (.Name x p) (e :: es) [] pos) (tMkO C sp [] ta) := by
  intro pins s σ H Q I h
  obtain ⟨c1, c2, c3, c4, mro, c6, c7, c8, c9, c10, c11, c12, c13, c14, c15, clsAt, mroOk⟩ := T.cls
  refine wpAny_Call_Name_kw (ld_glob I glob there ?_ hdb)
  refine PySem.W.callWith_K (h₀ := X.base) I.ok.mod.kin T.kC ?_ he hpl
  refine thn (ha.run pos pins s σ H _ I h) fun us s1 ⟨vs, H1, I1, r1, few, made⟩ => ⟨I1.kIn, ?_⟩
  change wpAny _ _ (call (.ref C) us) _ _ _
  obtain ⟨h0, gens, dr, tk, os⟩ := s1
  have next : h0.objs.size ≤ h0.objs.size + 1 := Nat.le_succ _
  have goal := made (h0.objs.size + 1) (I1.hok.fresh next)
  rw [List.append_nil] at goal
  let h1 := (h0.push (PySem.W.kdv_tup us)).push (PySem.HandSPX.excO C h0.objs.size)
  have old : ∀ b o, h0.get? b = some o → h1.get? b = some o := fun b o e => Heap.get?_push_of_some _ (Heap.get?_push_of_some _ e)
  have self : h1.get? (h0.objs.size + 1) = some (PySem.HandSPX.excO C h0.objs.size) := by
    show ((h0.push (PySem.W.kdv_tup us)).push (PySem.HandSPX.excO C h0.objs.size)).get? (h0.objs.size + 1) = _
    heap_get
  have I2 : Inv X pins σ (upd H1 (h0.objs.size + 1) (exo (h0.objs.size + 1) C none)) ⟨h1, gens, dr, tk, os⟩ := I1.laid (t' := tk) old next (exo_ok self)
  have vals : Vals (V.ref (h0.objs.size + 1) :: vs) (Value.ref (h0.objs.size + 1) :: us) := .cons rfl r1
  have many : (Value.ref (h0.objs.size + 1) :: us ++ []).length = ps.length := by
    rw [List.append_nil, ← vals.length]
    exact F.len _ _ _ _ goal
  have line : us.length ≤ sizeLine := by
    rw [← Paired.length r1]
    exact Nat.le_trans few (by decide)
  have bs := binds _ (Value.ref (h0.objs.size + 1) :: us) I2.kIn many
  rw [List.append_nil] at bs
  refine wpAny_call (PySem.HandSPX.call_own PySem.F.excBase_ValueError (fun Y => PySem.HandSPX.refsVE_contains Y mro mroOk) (I1.kIn _ _ clsAt) (PySem.W.looks_findIn I1.kIn hi)
    (fun y => PySem.W.bind_fn I1.kIn y ht) line (codeAny_mono (F.run _ X.stack _ _ ⟨Value.ref (h0.objs.size + 1) :: us, []⟩ (Value.ref (h0.objs.size + 1) :: us) _ _
      (fun _ _ _ => False) (room.make C us []) (I2.env0.make C us []) bs vals goal) fun r s' end' => ?_))
  match r, end' with
  | .error _, z => exact False.elim z
  | .ok (.ret u), ⟨v, H2, os2, bare2, un2, hok2, rv, ev, d, fs, ea, ed, hd1, q2⟩ =>
    subst ev
    obtain ⟨h2, g2, d2, t2, os'⟩ := s'
    obtain ⟨t0, G, J, kG, ge, oeAt, na⟩ := mk_end0 (d2 := d2) (t2 := t2) I1 next old un2 hok2 os2 bare2 ea ed hd1
    refine ⟨rv, h0.objs.size + 1, _, _, ⟨G, g2, d2, t2, os'⟩, _, .ref C, some d, rfl, J, kG, ge, oeAt, ⟨rfl, rfl, fun vs hv => ?_⟩, rfl, rfl, na, rfl, bare2, raises_own T.exC T.tyC, q2⟩
    cases hv
    rfl
  | .ok .next, z => exact False.elim z
  | .ok .brk, z => exact False.elim z
  | .ok .cont, z => exact False.elim z
/-- what is caught is what is handled, and has no context -/
theorem hot_suite {a : Addr} {oe : Obj} {cls : Value} {d : Option Addr} {pn : List (Addr × Obj)} (hz : L2N.Zn cls d oe) (hf : ∃ vs, oe.data = .fields vs) : L2H.HotC (X.suite a ((a, oe) :: pn)) := by
  obtain ⟨vs, e⟩ := hf
  exact ⟨(a, oe), ⟨rfl, vs, e, hz.2.2 vs e⟩, List.mem_cons_self⟩
/-- around a body nothing is let out -/
theorem takesN : L2N.Takes X (fun _ _ _ _ => False) := fun _ _ x => by
  obtain ⟨_, _, _, _, _, _, _, _, _, _, _, _, _, _, _, _, z⟩ := x
  exact z.elim
theorem passH (E : L2.St → XK) : ∀ σ, PassesAt L2.CX0 X σ (E σ) := fun _ _ _ _ _ _ _ h => h.elim
/-- isinstance(e, c), e what is caught, with its dict -/
def rIsD (K : PySem.W.Frag) (D a : Addr) (cls : Value) (d : Option Addr) : List V → Hp → VK → Prop := fun xs H Q =>
  ∃ (c : V) (cv : Value) (b : Bool) (dd : Addr) (fs : List (Str × V)), xs = [.ref a, c] ∧ cls = .ref D ∧ d = some dd ∧ (∀ u, RelV c u → u = cv) ∧ PySem.W.kitOne K (.ref D) cv = some b ∧ H dd = some (.xd fs) ∧ Q (.bl b) H
theorem call_isD {a D : Addr} {cls : Value} {d : Option Addr} {oe : Obj} {pn : List (Addr × Obj)} (C : ExcC X.K D) (hz : Zc cls d oe) (hf : ∃ vs, oe.data = .fields vs) : CallR (X.suite a ((a, oe) :: pn)) (.builtin "isinstance") (rIsD X.K D a cls d) := by
  intro pins s σ H xs us Q I r h
  obtain ⟨c, cv, b, dd, fs, rfl, rfl, rfl, hcv, e, ed, q⟩ := h
  obtain ⟨u1, u2, rfl, r1, r2⟩ := vals2 r
  obtain rfl : u1 = Value.ref a := r1
  have ec := hcv _ r2
  subst ec
  obtain ⟨hget, _⟩ := I.pin (a, oe) (List.mem_append.mpr (.inl List.mem_cons_self))
  obtain ⟨vs, hv⟩ := hf
  have hx : ObjOk X.prog X.w H s.heap dd (.xd fs) := I.hok dd _ ed
  obtain ⟨mA, hns, _⟩ := hx
  obtain ⟨od, ho, _⟩ := lookIn_ns hns
  have J : PySem.W.InstAt s.heap a oe D (some od) := ⟨hget, hz.1, by unfold PySem.W.notCls; rw [hv] <;> rfl, by rw [hz.2]; exact ho⟩
  have hcl : (PySem.W.clsIn X.K D).isSome = true := by
    obtain ⟨cd, hc, _⟩ := PySem.W.any_some C.hd
    rw [hc]
    rfl
  exact PySem.W.kia_one (PySem.W.kitx_exc (od := some od) hcl C.hg C.hk C.hs C.ha C.hn C.ht C.hm) I.kIn J e (fun z => nomatch z) fun tk => ⟨.bl b, H, I.kept (t' := tk) fun _ _ z => z, rfl, q⟩
end
section
variable {P : Program} {w : World} {K : PySem.W.Frag} {mg : Str → Option Value} {base : Heap}
/-- a def that raises what has no context -/
theorem fun_okN {x qual : Str} {st : Stmt} {f : Addr} {fd : FuncData} {N ps : List Str} {k : Nat} {sp : Sp} (F : Fun K x qual st f fd) (S : FnScope N ps (defScope st)) (len : ∀ vs H Q E, sp vs H Q E → vs.length = ps.length)
    (walk : ∀ (cdv : Value) (A : Around) (outer : List Env) (s : Shared) (H : Hp) (vs : List V) (Q : VK) (E : XK), Room k (A.deeper (envOfC qual (defScope st) s.heap.objs.size f cdv)) → sp vs H Q E →
      ∃ t, PSs (cxOf (L2N.CX P w) P w K mg base N qual (defScope st) f cdv A outer s H E) (defBody st) t ∧ t { nx := fun _ H' => Q .non H', rt := Q } (start N vs) H) : FnOk P w K mg base (L2N.CX P w) (k + 1) f fd ps sp := by
  obtain ⟨oc, od, kV, doc, pm, an, cdv, ct, osl, rfl, lk, code⟩ := F.ex
  exact fn_of lk code S len (walk cdv)
/-- a def that is called while something is handled -/
theorem fun_hot {x qual : Str} {st : Stmt} {f : Addr} {fd : FuncData} {N ps : List Str} {k : Nat} {sp : Sp} (F : Fun K x qual st f fd) (S : FnScope N ps (defScope st)) (len : ∀ vs H Q E, sp vs H Q E → vs.length = ps.length)
    (walk : ∀ (cdv : Value) (A : Around) (outer : List Env) (s : Shared) (H : Hp) (vs : List V) (Q : VK) (E : XK) (p : Addr × Obj), L2H.Hot1 A p → L2H.RoomH k (A.deeper (envOfC qual (defScope st) s.heap.objs.size f cdv)) → sp vs H Q E →
      ∃ t, PSs (L2H.cxH L2.CX0 P w K mg base N qual (defScope st) f cdv A outer s H E p) (defBody st) t ∧ t { nx := fun _ H' => Q .non H', rt := Q } (start N vs) H) : L2H.FnH P w K mg base L2.CX0 (k + 1) f fd ps sp := by
  obtain ⟨oc, od, kV, doc, pm, an, cdv, ct, osl, rfl, lk, code⟩ := F.ex
  exact L2H.fn_ofH lk code S len (walk cdv)
end
/-- isinstance of a class of the text that is none of its own, and of ValueError -/
theorem kit_other {K : PySem.W.Frag} {D C : Addr} (h1 : PySem.W.isClsIn K C = true) (h2 : PySem.W.typeIn K (.ref C) = some (.type "type")) (own : PySem.W.subIn K (.ref D) (.ref D) = some true) (h3 : PySem.W.subIn K (.ref D) (.ref C) = some false) : PySem.W.kitOne K (.ref D) (.ref C) = some false := by
  have ne : D ≠ C := fun z => by
    rw [← z, own] at h3
    cases h3
  have e1 : (Value.ref D == Value.ref C) = false := by simpa using ne
  have e2 : ((PySem.W.clsIn K C).isSome && PySem.W.typeIn K (.ref C) == some (.type "type")) = true := by
    have h1' : (PySem.W.clsIn K C).isSome = true := h1
    rw [h1', h2]
    rfl
  unfold PySem.W.kitOne PySem.W.kitCls
  rw [e1, if_neg Bool.false_ne_true]
  show (if ((PySem.W.clsIn K C).isSome && PySem.W.typeIn K (.ref C) == some (.type "type")) = true then PySem.W.subIn K (.ref D) (.ref C) else none) = some false
  rw [if_pos e2]
  exact h3
theorem kit_value {K : PySem.W.Frag} {D : Addr} (h : PySem.W.subIn K (.ref D) (.type "ValueError") = some true) : PySem.W.kitOne K (.ref D) (.type "ValueError") = some true := by
  have e1 : (Value.ref D == Value.type "ValueError") = false := rfl
  have e2 : PySem.W.kitMeta "ValueError" = true := by decide +kernel
  unfold PySem.W.kitOne PySem.W.kitCls
  rw [e1, if_neg Bool.false_ne_true]
  show (if PySem.W.kitMeta "ValueError" = true then PySem.W.subIn K (.ref D) (.type "ValueError") else none) = some true
  rw [if_pos e2]
  exact h
end TcG
/-! for i, x in enumerate(..), over a text and over a tuple. -/
namespace TcG
open PySem PySem.Spec PyProof.Rows L2

theorem meets_enum1 {v : Value} {o : Obj} {H : Heap → Prop} (B : Begins v o H) :
    Meets (Builtin.«enumerate.__new__» ⟨[.type "enumerate", v], []⟩) (fun _ R s => H s.heap ∧ R (.ok (.ret (.ref (s.heap.push o).objs.size)))
      { s with heap := (s.heap.push o).push { cls := .type "enumerate", data := .fields #[.none, .bool false, .ref s.heap.objs.size, rawInt 0, .none, .none] } }) :=
  .of_wp fun prog w A R s both => by
    obtain ⟨h0, gens, dr, tk, os⟩ := s
    obtain ⟨stands, goal⟩ := both
    have sub := sub_enumerate
    have start : ∀ {A' : Around} {E : Value → Shared → Prop} {Q : Value → Shared → Prop}, Q (.ref h0.objs.size) ⟨h0.push o, gens, dr, tk, os⟩ → wpAny (model prog w) A' (pyIter v) Q E ⟨h0, gens, dr, tk, os⟩ :=
      fun q => B.iter prog w _ _ _ _ stands q
    wp_walk using start
    refine wpAny_stack_any fun _ => wpAny_pure ?_
    split
    · rename_i c _ _ _ _ _
      cases (c == Value.type "enumerate") <;> (wp_walk using start) <;> exact ⟨_, rfl, goal⟩
    · wp_walk using start
      exact ⟨_, rfl, goal⟩
theorem enum1 {prog : Program} {w : World} {A : Around} {E : Value → Shared → Prop} {s : Shared} {v : Value} {o : Obj} {H : Heap → Prop} {Q : Value → Shared → Prop} (B : Begins v o H) (stands : H s.heap)
    (h : ∀ h', IsEnum h' (s.heap.objs.size + 1) s.heap.objs.size 0 .none → h'.get? s.heap.objs.size = some o → (∀ b u, s.heap.get? b = some u → h'.get? b = some u) → Q (.ref (s.heap.objs.size + 1)) { s with heap := h' }) :
    wpAny (model prog w) A (call (.type "enumerate") [v]) Q E s := by
  refine callType_new PySem.F.called_enumerate (by decide) (PySem.F.typeCall_enumerate_1 _) (PySem.F.newCall_enumerate_1 _) (fun obj => PySem.F.args_object_init_2 obj _) PySem.F.entry_enumerate_new (meets_enum1 B) ⟨stands, ?_⟩
  have size : (s.heap.push o).objs.size = s.heap.objs.size + 1 := Heap.size_push ..
  show _ ∧ _
  rw [size]
  have last := Heap.get?_push_size (s.heap.push o) (o := { cls := .type "enumerate", data := .fields #[.none, .bool false, .ref s.heap.objs.size, rawInt 0, .none, .none] }) rfl
  rw [size] at last
  exact ⟨⟨_, last, rfl⟩, h _ last (Heap.get?_push_of_some _ (Heap.get?_push_size _ B.free)) fun b u x => Heap.get?_push_of_some _ (Heap.get?_push_of_some _ x)⟩

/-- the numbered items of the tuple at a -/
def IteT (K : PySem.W.Frag) (a : Addr) (xs : List V) : It :=
  ⟨fun i H => i < xs.length ∧ SqT K H a xs, fun i H v H' => ∃ T x, xs[i]? = some x ∧ v = .ref T ∧ H T = none ∧ H' = upd H T (.tup [.int (i : Nat), x]), fun i H => xs.length ≤ i ∧ SqT K H a xs⟩
/-- the numbered signs of a text -/
def IteS (z : Str) : It :=
  ⟨fun i _ => i < z.cps.size, fun i H v H' => ∃ T c, z.cps[i]? = some c ∧ v = .ref T ∧ H T = none ∧ H' = upd H T (.tup [.int (i : Nat), .str ⟨#[c]⟩]), fun i _ => z.cps.size ≤ i⟩

end TcG
namespace TcG
open PySem PySem.Spec PyProof.Rows L2
section
variable {P : Program} {w : World} {K : PySem.W.Frag} {elts : List Expr} {kk : Nat} {tpos : Pos}
/-- one turn, told by what the inner iterator draws -/
theorem enum_step {X : Cx} {pins : List (Addr × Obj)} {σ : L2.St} {H : Hp} {s : Shared} {E : Value → Shared → Prop} {e it : Addr} {fp : List Addr} {n i : Nat} {Pv : Nat → Value → Prop} {St : Nat → Heap → Prop} {old : Value} {J : It} {tn : Nat → Heap → Prop}
    (I : Inv X pins σ H s) (D : Draws X.prog X.w X.A.in1 it fp n Pv St) (he : IsEnum s.heap e it ((i : Nat) : Int) old) (st : St i s.heap) (lt : i < n) (ne : e ≠ it) (ef : e ∉ fp) (hf : ∀ b ∈ [e, it], FpOk X pins H b)
    (item : ∀ u, Pv i u → ∃ x, RelV x u ∧ ∀ T, H T = none → J.yld i H (.ref T) (upd H T (.tup [.int (i : Nat), x])))
    (next : ∀ h' u, IsEnum h' e it ((i : Nat) + 1 : Int) u → St (i + 1) h' → tn (i + 1) h') :
    wpAny (model X.prog X.w) X.A (pyNext (.ref e)) (fun r s1 => ∃ u, r = some u ∧ wpAny (model X.prog X.w) X.A (letOwnedTupleGo (.Tuple elts kk tpos) (.ref e) u)
      (fun _ s2 => ∃ x H', Inv X pins σ H' s2 ∧ RelV x u ∧ J.yld i H x H' ∧ tn (i + 1) s2.heap ∧ ∀ b ∈ [e, it], H' b = none) E s1) E s := by
  have le : e < s.heap.objs.size := Heap.lt_size he
  have li : it < s.heap.objs.size := by
    obtain ⟨_, q⟩ := D.live _ _ st
    exact Heap.lt_size q
  refine wpAny_pyNext_enum_itemD D he st lt ne ef fun u h' tk hu out st' hT size keep => ?_
  obtain ⟨x, rx, yl⟩ := item u hu
  refine ⟨_, rfl, wpAny_letOwnedTupleGo_enum (s := { s with heap := h', toks := tk + 1 }) out fun h2 he2 same => ?_⟩
  have hT2 : h2.get? s.heap.objs.size = some { cls := .type "tuple", data := .seq #[.int i tk, u] } := (same.2 _ (Nat.ne_of_gt le)).trans hT
  have new : ObjOk X.prog X.w (upd H s.heap.objs.size (.tup [.int (i : Nat), x])) h2 s.heap.objs.size (.tup [.int (i : Nat), x]) :=
    ⟨by show 2 ≤ sizeLine; decide, [.int i tk, u], .cons ⟨_, rfl⟩ (.cons rx .nil), ⟨_, hT2, rfl, _, rfl⟩⟩
  have I1 : Inv X pins σ (upd H s.heap.objs.size (.tup [.int (i : Nat), x])) { s with heap := h2, toks := tk + 1 } :=
    I.turnedNew (ch := [e, it]) (fun b ob hb q => (same.2 b fun z => hb (by simp [z])).trans (keep b ob (fun z => hb (by simp [z])) (fun z => hb (by simp [z])) q)) hf (Nat.le_refl _) new
  have st2 : St (i + 1) h2 := D.frame _ _ _ st' fun b hb o q => (same.2 b fun z => ef (z ▸ hb)).trans q
  refine ⟨.ref s.heap.objs.size, _, I1, rfl, yl _ (I.hok.fresh (Nat.le_refl _)), next _ _ he2 st2, fun b hb => ?_⟩
  have lb : b < s.heap.objs.size := by
    rcases List.mem_cons.mp hb with z | z
    · rw [z]
      exact le
    · rw [List.mem_singleton.mp z]
      exact li
  rw [upd_ne (Nat.ne_of_lt lb)]
  exact (hf b hb).1
theorem enum_over {X : Cx} {pins : List (Addr × Obj)} {σ : L2.St} {H : Hp} {s : Shared} {E : Value → Shared → Prop} {e it : Addr} {fp : List Addr} {n : Nat} {i : Int} {Pv : Nat → Value → Prop} {St : Nat → Heap → Prop} {old : Value}
    (I : Inv X pins σ H s) (D : Draws X.prog X.w X.A.in1 it fp n Pv St) (he : IsEnum s.heap e it i old) (st : St n s.heap) (hf : ∀ b ∈ [e, it], FpOk X pins H b) :
    wpAny (model X.prog X.w) X.A (pyNext (.ref e)) (fun r s1 => r = none ∧ Inv X pins σ H s1) E s := by
  obtain ⟨f0, f1, f2, f3, f4, f5⟩ := hf it (by simp)
  exact wpAny_pyNext_enum_endD D he st fun h' eb => ⟨rfl, I.turned (t' := s.toks) (fun b o hb q => eb b o hb q) f0 f1 f3 f4 f5⟩
theorem turn_enumS (z : Str) (t : Tok) (e it : Addr) :
    Turn P w K (.Tuple elts kk tpos) (IteS z) [e, it] e (fun i h => (∃ old, IsEnum h e it ((i : Nat) : Int) old) ∧ h.IsStrIter it (strIterType z) z t i ∧ e ≠ it ∧ i ≤ z.cps.size) where
  mem := by simp
  obj := fun i h st b hb => by
    obtain ⟨⟨old, he⟩, ⟨o, ho, hc, hd⟩, _⟩ := st
    rcases List.mem_cons.mp hb with y | y
    · exact ⟨_, by rw [y]; exact he, fun v q => by cases q⟩
    · exact ⟨o, by rw [List.mem_singleton.mp y]; exact ho, fun v q => by rw [hd] at q; cases q⟩
  keep := fun i h h' st k => by
    obtain ⟨⟨old, he⟩, ⟨o, ho, r⟩, ne, le⟩ := st
    exact ⟨⟨old, k e (by simp) _ he⟩, ⟨o, k it (by simp) o ho, r⟩, ne, le⟩
  item := by
    intro X hP hw hK hc i pins s σ H E I hf st hg
    subst hP hw hK
    obtain ⟨⟨old, he⟩, hit, ne, le⟩ := st
    have hg : i < z.cps.size := hg
    have hh : X.A.in1.handled = none := I.ok.hd hc
    have D := Draws.text (prog := X.prog) (w := X.w) hh it z t
    refine enum_step (J := IteS z) (tn := fun i h => (∃ old, IsEnum h e it ((i : Nat) : Int) old) ∧ h.IsStrIter it (strIterType z) z t i ∧ e ≠ it ∧ i ≤ z.cps.size) I D he hit hg ne (fun y => ne (List.mem_singleton.mp y)) hf (fun u hu => ?_) fun h' u he' st' => ⟨⟨u, ?_⟩, st', ne, hg⟩
    · obtain ⟨c, t2, hc2, rfl⟩ := hu
      exact ⟨.str ⟨#[c]⟩, ⟨t2, rfl⟩, fun T hT => ⟨T, c, hc2, rfl, hT, rfl⟩⟩
    · rw [show ((i + 1 : Nat) : Int) = (i : Int) + 1 by omega]
      exact he'
  done := by
    intro X hP hw hK hc i pins s σ H E I hf st hg
    subst hP hw hK
    obtain ⟨⟨old, he⟩, hit, ne, le⟩ := st
    have hg : z.cps.size ≤ i := hg
    obtain rfl : i = z.cps.size := by omega
    have hh : X.A.in1.handled = none := I.ok.hd hc
    have D := Draws.text (prog := X.prog) (w := X.w) hh it z t
    exact enum_over I D he hit hf
  self := fun A i s Q E st h => by
    obtain ⟨⟨_, he⟩, _⟩ := st
    exact wpAny_pyIter_enum he h
end
end TcG
namespace TcG
open PySem PySem.Spec PyProof.Rows L2
section
variable {P : Program} {w : World} {K : PySem.W.Frag} {elts : List Expr} {kk : Nat} {tpos : Pos}
theorem turn_enumT (a : Addr) (xs : List V) (e it : Addr) :
    Turn P w K (.Tuple elts kk tpos) (IteT K a xs) [e, it] e (fun i h => (∃ old, IsEnum h e it ((i : Nat) : Int) old) ∧ h.IsTupleIter it a i ∧ e ≠ it ∧ i ≤ xs.length) where
  mem := by simp
  obj := fun i h st b hb => by
    obtain ⟨⟨old, he⟩, ⟨o, ho, hc, hd⟩, _⟩ := st
    rcases List.mem_cons.mp hb with y | y
    · exact ⟨_, by rw [y]; exact he, fun v q => by cases q⟩
    · exact ⟨o, by rw [List.mem_singleton.mp y]; exact ho, fun v q => by rw [hd] at q; cases q⟩
  keep := fun i h h' st k => by
    obtain ⟨⟨old, he⟩, ⟨o, ho, r⟩, ne, le⟩ := st
    exact ⟨⟨old, k e (by simp) _ he⟩, ⟨o, k it (by simp) o ho, r⟩, ne, le⟩
  item := by
    intro X hP hw hK hc i pins s σ H E I hf st hg
    subst hP hw hK
    obtain ⟨⟨old, he⟩, hit, ne, le⟩ := st
    obtain ⟨lt, ht⟩ := hg
    obtain ⟨its, rv, p, _⟩ := I.tuple ht
    have hp : s.heap.IsTuple a its.toArray := p
    have ae : a ≠ e := fun z => by
      obtain ⟨o, ho, hc2, _⟩ := hp
      rw [z, he] at ho
      cases ho
      have hc2 : Value.type "enumerate" = .type "tuple" := hc2
      exact absurd (Value.type.inj hc2) (by decide)
    have ai : a ≠ it := fun z => by
      obtain ⟨o, ho, hc2, _⟩ := hp
      obtain ⟨o2, ho2, hc3, _⟩ := hit
      rw [z, ho2] at ho
      cases ho
      have hc2 : Value.type "tuple_iterator" = .type "tuple" := hc3.symm.trans hc2
      exact absurd (Value.type.inj hc2) (by decide)
    have hh : X.A.in1.handled = none := I.ok.hd hc
    have D := Draws.tuple (prog := X.prog) (w := X.w) hh it a ai its.toArray
    have len : its.toArray.size = xs.length := by
      rw [List.size_toArray]
      exact rv.length.symm
    refine enum_step (J := IteT X.K a xs) (tn := fun i h => (∃ old, IsEnum h e it ((i : Nat) : Int) old) ∧ h.IsTupleIter it a i ∧ e ≠ it ∧ i ≤ xs.length) I D he ⟨hit, hp⟩ (by rw [len]; exact lt) ne (fun y => ?_) hf (fun u hu => ?_) fun h' u he' st' => ⟨⟨u, ?_⟩, st'.1, ne, lt⟩
    · rcases List.mem_cons.mp y with y | y
      · exact ne y
      · exact ae (List.mem_singleton.mp y).symm
    · have hx : xs[i]? = some xs[i] := List.getElem?_eq_getElem lt
      obtain ⟨u2, hu2, ru⟩ := rv.get hx
      have e2 : its[i]? = some u := by simpa using hu
      rw [hu2] at e2
      cases e2
      exact ⟨xs[i], ru, fun T hT => ⟨T, xs[i], hx, rfl, hT, rfl⟩⟩
    · rw [show ((i + 1 : Nat) : Int) = (i : Int) + 1 by omega]
      exact he'
  done := by
    intro X hP hw hK hc i pins s σ H E I hf st hg
    subst hP hw hK
    obtain ⟨⟨old, he⟩, hit, ne, le⟩ := st
    obtain ⟨ge, ht⟩ := hg
    obtain rfl : i = xs.length := by omega
    obtain ⟨its, rv, p, _⟩ := I.tuple ht
    have hp : s.heap.IsTuple a its.toArray := p
    have ai : a ≠ it := fun z => by
      obtain ⟨o, ho, hc2, _⟩ := hp
      obtain ⟨o2, ho2, hc3, _⟩ := hit
      rw [z, ho2] at ho
      cases ho
      have hc2 : Value.type "tuple_iterator" = .type "tuple" := hc3.symm.trans hc2
      exact absurd (Value.type.inj hc2) (by decide)
    have hh : X.A.in1.handled = none := I.ok.hd hc
    have D := Draws.tuple (prog := X.prog) (w := X.w) hh it a ai its.toArray
    have len : its.toArray.size = xs.length := by
      rw [List.size_toArray]
      exact rv.length.symm
    refine enum_over I D he ⟨?_, hp⟩ hf
    rw [len]
    exact hit
  self := fun A i s Q E st h => by
    obtain ⟨⟨_, he⟩, _⟩ := st
    exact wpAny_pyIter_enum he h
end
end TcG
namespace TcG
open PySem PySem.Spec PyProof.Rows L2
section
variable {X : Cx} {e : Expr} {ta : TA} {p pos tpos : Pos} {elts : List Expr} {kk : Nat}
def iEnumT (K : PySem.W.Frag) (ta : TA) : TI := fun σ H R => ta σ H fun vs H1 => ∃ a xs, vs = [.ref a] ∧ SqT K H1 a xs ∧ R (IteT K a xs) H1
def iEnumS (ta : TA) : TI := fun σ H R => ta σ H fun vs H1 => ∃ z : Str, vs = [.str z] ∧ R (IteS z) H1
theorem pi_enumT (hg : Gl X "enumerate") (hm : X.mg "enumerate" = none) (ha : PA X [e] ta) (hs : starEach [e] X.env = [(false, eval e X.env)] := by rfl) :
    PI X (.Tuple elts kk tpos) (.Call (.Name "enumerate" p) [e] [] pos) (iEnumT X.K ta) := by
  refine ⟨fun pins s σ H R I h => ?_⟩
  refine Call_ (ld_blt I hg hm boot_enumerate (PyProof.Rows.callWith_type1 (thn (ha.run pos pins s σ H _ I h) fun us s1 ⟨vs, H1, I1, r1, q1⟩ => ?_) hs rfl))
  obtain ⟨a, xs, rfl, ht, q⟩ := q1
  obtain ⟨u, rfl, r⟩ := vals1 r1
  obtain rfl : u = Value.ref a := r
  obtain ⟨its, rv, pt, _⟩ := I1.tuple ht
  refine enum1 (begins_tuple a its.toArray) pt fun h' hen hit keep => wpAny_pyIter_enum hen ?_
  have I2 : Inv X pins σ H1 { s1 with heap := h' } := I1.kept (t' := s1.toks) keep
  refine ⟨s1.heap.objs.size + 1, [s1.heap.objs.size + 1, s1.heap.objs.size], _, _, H1, rfl, I2, turn_enumT a xs (s1.heap.objs.size + 1) s1.heap.objs.size, ⟨⟨.none, hen⟩, ⟨_, hit, rfl, rfl⟩, Nat.succ_ne_self _, Nat.zero_le _⟩, fun b hb => ?_, q⟩
  have le : s1.heap.objs.size ≤ b := by
    rcases List.mem_cons.mp hb with z | z
    · rw [z]
      exact Nat.le_succ _
    · rw [List.mem_singleton.mp z]
      exact Nat.le_refl _
  exact I1.fpOk le (I1.hok.fresh le)
theorem pi_enumS (hg : Gl X "enumerate") (hm : X.mg "enumerate" = none) (ha : PA X [e] ta) (hs : starEach [e] X.env = [(false, eval e X.env)] := by rfl) :
    PI X (.Tuple elts kk tpos) (.Call (.Name "enumerate" p) [e] [] pos) (iEnumS ta) := by
  refine ⟨fun pins s σ H R I h => ?_⟩
  refine Call_ (ld_blt I hg hm boot_enumerate (PyProof.Rows.callWith_type1 (thn (ha.run pos pins s σ H _ I h) fun us s1 ⟨vs, H1, I1, r1, q1⟩ => ?_) hs rfl))
  obtain ⟨z, rfl, q⟩ := q1
  obtain ⟨u, rfl, r⟩ := vals1 r1
  obtain ⟨t, rfl⟩ := (show ∃ t, u = Value.str z t from r)
  refine enum1 (begins_text z t) trivial fun h' hen hit keep => wpAny_pyIter_enum hen ?_
  have I2 : Inv X pins σ H1 { s1 with heap := h' } := I1.kept (t' := s1.toks) keep
  refine ⟨s1.heap.objs.size + 1, [s1.heap.objs.size + 1, s1.heap.objs.size], _, _, H1, rfl, I2, turn_enumS z t (s1.heap.objs.size + 1) s1.heap.objs.size, ⟨⟨.none, hen⟩, ⟨_, hit, rfl, rfl⟩, Nat.succ_ne_self _, Nat.zero_le _⟩, fun b hb => ?_, q⟩
  have le : s1.heap.objs.size ≤ b := by
    rcases List.mem_cons.mp hb with z | z
    · rw [z]
      exact Nat.le_succ _
    · rw [List.mem_singleton.mp z]
      exact Nat.le_refl _
  exact I1.fpOk le (I1.hok.fresh le)
end
end TcG
namespace TcG
open PySem PySem.Spec PyProof.Rows L2
/-- the turns over the numbered items of a tuple -/
theorem for_enumT {K : PySem.W.Frag} {a : Addr} {xs : List V} {g : TG} {tb : TS} {D : Ends} {σ : L2.St} {H : Hp} (Pv : Nat → L2.St → Hp → Prop) (h0 : Pv 0 σ H) (stays : ∀ i σ H, Pv i σ H → SqT K H a xs)
    (turn : ∀ i x σ H T, xs[i]? = some x → Pv i σ H → H T = none → g (.ref T) σ (upd H T (.tup [.int (i : Nat), x])) fun σ2 H2 => tb { D with nx := Pv (i + 1), ct := Pv (i + 1), bk := D.nx } σ2 H2) (out : ∀ σ H, Pv xs.length σ H → D.nx σ H) :
    ∃ W : Nat → Nat → L2.St → Hp → Prop, (∃ m, W 0 m σ H) ∧ ∀ i m σ H, W i m σ H →
      ((IteT K a xs).stop i H ∧ D.nx σ H) ∨ ((IteT K a xs).go i H ∧ ∃ N : L2.St → Hp → Prop, (∀ σ' H', N σ' H' → ∃ m', m' < m ∧ W (i + 1) m' σ' H') ∧ ∀ x H', (IteT K a xs).yld i H x H' → g x σ H' fun σ2 H2 => tb { D with nx := N, ct := N, bk := D.nx } σ2 H2) := by
  refine ⟨fun i m σ H => m = xs.length - i ∧ i ≤ xs.length ∧ Pv i σ H, ⟨xs.length, by simp, Nat.zero_le _, h0⟩, ?_⟩
  rintro i m σ H ⟨rfl, hi, p⟩
  by_cases lt : i < xs.length
  · refine .inr ⟨⟨lt, stays i σ H p⟩, Pv (i + 1), fun σ' H' p' => ⟨xs.length - (i + 1), by omega, rfl, lt, p'⟩, fun x H' y => ?_⟩
    obtain ⟨T, x', hx, rfl, hT, rfl⟩ := y
    exact turn i x' σ H T hx p hT
  · obtain rfl : i = xs.length := by omega
    exact .inl ⟨⟨Nat.le_refl _, stays _ σ H p⟩, out σ H p⟩
/-- the turns over the numbered signs of a text -/
theorem for_enumS {l : List Nat} {g : TG} {tb : TS} {D : Ends} {σ : L2.St} {H : Hp} (Pv : Nat → L2.St → Hp → Prop) (h0 : Pv 0 σ H)
    (turn : ∀ i c σ H T, l[i]? = some c → Pv i σ H → H T = none → g (.ref T) σ (upd H T (.tup [.int (i : Nat), .str (tx [c])])) fun σ2 H2 => tb { D with nx := Pv (i + 1), ct := Pv (i + 1), bk := D.nx } σ2 H2) (out : ∀ σ H, Pv l.length σ H → D.nx σ H) :
    ∃ W : Nat → Nat → L2.St → Hp → Prop, (∃ m, W 0 m σ H) ∧ ∀ i m σ H, W i m σ H →
      ((IteS (tx l)).stop i H ∧ D.nx σ H) ∨ ((IteS (tx l)).go i H ∧ ∃ N : L2.St → Hp → Prop, (∀ σ' H', N σ' H' → ∃ m', m' < m ∧ W (i + 1) m' σ' H') ∧ ∀ x H', (IteS (tx l)).yld i H x H' → g x σ H' fun σ2 H2 => tb { D with nx := N, ct := N, bk := D.nx } σ2 H2) := by
  have size : (tx l).cps.size = l.length := tx_length l
  refine ⟨fun i m σ H => m = l.length - i ∧ i ≤ l.length ∧ Pv i σ H, ⟨l.length, by simp, Nat.zero_le _, h0⟩, ?_⟩
  rintro i m σ H ⟨rfl, hi, p⟩
  by_cases lt : i < l.length
  · refine .inr ⟨by show i < (tx l).cps.size; rw [size]; exact lt, Pv (i + 1), fun σ' H' p' => ⟨l.length - (i + 1), by omega, rfl, lt, p'⟩, fun x H' y => ?_⟩
    obtain ⟨T, c, hc, rfl, hT, rfl⟩ := y
    exact turn i c σ H T (by simpa [tx] using hc) p hT
  · obtain rfl : i = l.length := by omega
    exact .inl ⟨by show (tx l).cps.size ≤ l.length; rw [size]; exact Nat.le_refl _, out σ H p⟩
end TcG
/-! s.index(c, i); list(s). -/
namespace TcG
open PySem PySem.Spec PyProof.Rows L2
open Builtin.Str StrLaws
theorem occ_full (s sub : Str) (hi : Nat) : ∀ (l : List Nat) (st : Array Nat × Nat), 1 ≤ st.fst.size → (forIn (m := Id) l st (occBody s sub hi 1)).run = st
  | [], _, _ => rfl
  | a :: l, st, h => by
    have no : ¬ (((st.fst.size < 1 ∧ st.snd ≤ a) ∧ a + sub.length ≤ hi) ∧ subAt s sub a = true) := fun z => by have := z.1.1.1; omega
    rw [List.forIn_cons]
    unfold occBody
    rw [if_neg no]
    exact occ_full s sub hi l st h
theorem occ_until (s sub : Str) (hi i free : Nat) (B : List Nat) (here : i + sub.length ≤ hi ∧ subAt s sub i = true) (le : free ≤ i) : ∀ A : List Nat, (∀ a ∈ A, ¬ (a + sub.length ≤ hi ∧ subAt s sub a = true)) →
    (forIn (m := Id) (A ++ i :: B) ((#[] : Array Nat), free) (occBody s sub hi 1)).run.fst = #[i]
  | [], _ => by
    rw [List.nil_append, List.forIn_cons]
    have yes : (((#[] : Array Nat).size < 1 ∧ free ≤ i) ∧ i + sub.length ≤ hi) ∧ subAt s sub i = true := ⟨⟨⟨by decide, le⟩, here.1⟩, here.2⟩
    have e : occBody s sub hi 1 i ((#[] : Array Nat), free) = pure (ForInStep.yield (#[i], i + sub.length)) := by
      unfold occBody
      rw [if_pos yes]
      rfl
    rw [e]
    show (forIn (m := Id) B ((#[i] : Array Nat), i + sub.length) (occBody s sub hi 1)).run.fst = #[i]
    rw [occ_full s sub hi B _ (by show 1 ≤ (#[i] : Array Nat).size; simp)]
  | a :: A, h => by
    have no : ¬ ((((#[] : Array Nat).size < 1 ∧ free ≤ a) ∧ a + sub.length ≤ hi) ∧ subAt s sub a = true) := fun z => h a List.mem_cons_self ⟨z.1.2, z.2⟩
    rw [List.cons_append, List.forIn_cons]
    have e : occBody s sub hi 1 a ((#[] : Array Nat), free) = pure (ForInStep.yield (#[], free)) := by
      unfold occBody
      rw [if_neg no]
    rw [e]
    exact occ_until s sub hi i free B here le A fun b hb => h b (List.mem_cons_of_mem _ hb)
theorem index_from {pre p q : List Nat} {c : Nat} (nc : c ∉ p) : Txt.indexFrom (tx (pre ++ (p ++ c :: q))) (tx [c]) (pre.length : Int) = some (pre.length + p.length) := by
  unfold Txt.indexFrom
  have len : (tx (pre ++ (p ++ c :: q))).length = pre.length + p.length + 1 + q.length := by
    rw [tx_length]
    simp
    omega
  have lo : fromIndex (tx (pre ++ (p ++ c :: q))).length (pre.length : Int) = pre.length := by
    first
      | rfl
      | (rw [len]; unfold fromIndex; split <;> omega)
      | (rw [len]; unfold fromIndex; simp; omega)
  rw [lo, occ_eq]
  have one : ∀ i, (i + (tx [c]).length ≤ (tx (pre ++ (p ++ c :: q))).length ∧ subAt (tx (pre ++ (p ++ c :: q))) (tx [c]) i = true) ↔ (pre ++ (p ++ c :: q))[i]? = some c := fun i => subAt_one (tx (pre ++ (p ++ c :: q))) c i
  have split : List.range' pre.length ((tx (pre ++ (p ++ c :: q))).length + 1 - pre.length) = List.range' pre.length p.length ++ (pre.length + p.length) :: List.range' (pre.length + p.length + 1) (q.length + 1) := by
    rw [len, show pre.length + p.length + 1 + q.length + 1 - pre.length = p.length + (1 + (q.length + 1)) by omega, ← List.range'_append_1, ← List.range'_append_1]
    rfl
  rw [split, occ_until _ _ _ _ _ _ ((one _).mpr ?_) (by omega) _ fun a ha => ?_]
  · rfl
  · rw [List.getElem?_append_right (by omega), List.getElem?_append_right (by omega)]
    rw [show pre.length + p.length - pre.length - p.length = 0 by omega]
    rfl
  · rw [one]
    obtain ⟨j, hj, rfl⟩ := List.mem_range'.mp ha
    intro z
    rw [List.getElem?_append_right (by omega), show pre.length + 1 * j - pre.length = j by omega, List.getElem?_append_left hj] at z
    exact nc (List.mem_of_getElem? z)
section
variable {X : Cx}
/-- list(s) -/
theorem call_listT (hc : X.calm = true) : CallR X (.type "list") (fun xs H Q => ∃ l : List Nat, xs = [.str (tx l)] ∧ l.length ≤ 1000 ∧ ∀ p, H p = none → Q (.ref p) (upd H p (.lst (l.map fun c => .str (tx [c]))))) := by
  intro pins s σ H xs us Q I r h
  obtain ⟨l, rfl, few, q⟩ := h
  obtain ⟨u, rfl, rx⟩ := vals1 r
  obtain ⟨t, rfl⟩ := (show ∃ t, u = Value.str (tx l) t from rx)
  have size : (tx l).cps.size = l.length := tx_length l
  refine PySem.call_list_str (I.ok.hd hc) (tx l) t (fun h' tk acc c' keep at' items => ?_) (by rw [size]; exact Nat.le_trans few (by decide))
  have vals : ∀ (l : List Nat) (vs : List Value), vs.length = l.length → (∀ (j : Nat) v, vs[j]? = some v → ∃ c u, l[j]? = some c ∧ v = .str ⟨#[c]⟩ u) → Vals (l.map fun c => V.str (tx [c])) vs := by
    intro l
    induction l with
    | nil =>
      intro vs e _
      cases vs with
      | nil => exact .nil
      | cons _ _ => cases e
    | cons c r ih =>
      intro vs e h
      cases vs with
      | nil => cases e
      | cons v vs =>
        obtain ⟨c', u, e1, rfl⟩ := h 0 v rfl
        cases e1
        exact .cons ⟨u, rfl⟩ (ih vs (Nat.succ.inj e) fun j v hj => h (j + 1) v hj)
  have V1 : Vals (l.map fun c => V.str (tx [c])) acc.toList := vals l acc.toList (by
      have e := items.1
      rw [size] at e
      simpa using e) fun j v hj => by
    have hj2 : acc[j]? = some v := by simpa using hj
    obtain ⟨c, u, e1, e2⟩ := items.2 j v hj2
    exact ⟨c, u, by simpa [tx] using e1, e2⟩
  have J := I.laid (t' := tk) (a := s.heap.objs.size) (o := .lst (l.map fun c => V.str (tx [c]))) keep (Nat.le_refl _)
    (show ObjOk X.prog X.w _ h' _ (.lst _) from ⟨by rw [List.length_map]; exact Nat.le_trans few (by decide), acc.toList, c', V1, by simpa using at'⟩)
  exact ⟨.ref s.heap.objs.size, _, J, rfl, q _ (I.hok.fresh (Nat.le_refl _))⟩
end
end TcG
namespace TcG
open PySem PySem.Spec PyProof.Rows L2
theorem pairsWith_len (ls : List Nat) (x : Nat) : (pairsWith ls x).length ≤ ls.length := by
  unfold pairsWith
  rw [List.length_map]
  exact List.length_filter_le _ _
theorem flat_len (ls : List Nat) : ∀ l : List Nat, (l.flatMap (pairsWith ls)).length ≤ l.length * ls.length
  | [] => by simp
  | x :: r => by
    rw [List.flatMap_cons, List.length_append, List.length_cons]
    have h1 := pairsWith_len ls x
    have h2 := flat_len ls r
    rw [Nat.succ_mul]
    omega
end TcG
namespace TcG
open PySem PySem.Spec PyProof.Rows L2
theorem sorted_one : ∀ l m : List Nat, l.Pairwise (· ≤ ·) → m.Pairwise (· ≤ ·) → l.Perm m → l = m
  | [], m, _, _, p => p.nil_eq
  | x :: l, m, h1, h2, p => by
    cases m with
    | nil => exact absurd p.symm.nil_eq (by simp)
    | cons y m =>
      have a1 := (List.pairwise_cons.mp h1).1
      have a2 := (List.pairwise_cons.mp h2).1
      have xy : x = y := by
        have i1 : y ∈ x :: l := p.mem_iff.mpr List.mem_cons_self
        have i2 : x ∈ y :: m := p.mem_iff.mp List.mem_cons_self
        rcases List.mem_cons.mp i1 with z | z
        · exact z.symm
        · rcases List.mem_cons.mp i2 with u | u
          · exact u
          · have := a1 y z
            have := a2 x u
            omega
      subst xy
      rw [sorted_one l m (List.pairwise_cons.mp h1).2 (List.pairwise_cons.mp h2).2 p.cons_inv]
def ones (l : List Nat) : List Str := l.map fun c => tx [c]
theorem ones_inj {a b : List Nat} (h : ones a = ones b) : a = b := by
  have e : ∀ l, (ones l).map (fun s => s.cps.toList.headD 0) = l := fun l => by
    unfold ones
    rw [List.map_map]
    exact List.map_id _
  rw [← e a, ← e b, h]
theorem ones_of {l : List Nat} {ys : List Str} (p : ys.Perm (ones l)) : ∃ m, ys = ones m ∧ m.Perm l := by
  refine ⟨ys.map fun s => s.cps.toList.headD 0, ?_, ?_⟩
  · unfold ones
    rw [List.map_map]
    refine (List.map_id ys).symm.trans (List.map_congr_left fun s hs => ?_)
    obtain ⟨c, _, e⟩ := List.mem_map.mp (p.mem_iff.mp hs)
    rw [← e]
    rfl
  · have q := p.map fun s : Str => s.cps.toList.headD 0
    have e : (ones l).map (fun s => s.cps.toList.headD 0) = l := by
      unfold ones
      rw [List.map_map]
      exact List.map_id _
    rw [e] at q
    exact q
theorem ones_rising : ∀ (l : List Nat), sortedS (ones l) = true → l.Pairwise (· ≤ ·) := by
  have step : ∀ (l : List Nat) (x : Nat), risingS (tx [x]) (ones l) = true → (x :: l).Pairwise (· ≤ ·) := by
    intro l
    induction l with
    | nil => intro x _; exact List.pairwise_singleton ..
    | cons y r ih =>
      intro x h
      have h' : (_ && risingS (tx [y]) (ones r)) = true := h
      obtain ⟨h1, h2⟩ := Bool.and_eq_true_iff.mp h'
      have le : x ≤ y := by
        have h1 : (!(decide (y < x) || (y == x && false))) = true := h1
        rw [Bool.and_false, Bool.or_false, Bool.not_eq_true', decide_eq_false_iff_not] at h1
        omega
      have pr := ih y h2
      refine List.pairwise_cons.mpr ⟨fun z hz => ?_, pr⟩
      rcases List.mem_cons.mp hz with e | hz
      · rw [e]
        exact le
      · exact Nat.le_trans le ((List.pairwise_cons.mp pr).1 z hz)
  intro l h
  cases l with
  | nil => exact List.Pairwise.nil
  | cons x r => exact step r x h
theorem eqv_strs : ∀ (a b : List Str), PyData.eqvAll (a.map .str) (b.map .str) = decide (a = b)
  | [], [] => by simp [PyData.eqvAll]
  | [], y :: b => by simp [PyData.eqvAll]
  | x :: a, [] => by simp [PyData.eqvAll]
  | x :: a, y :: b => by
    have ih := eqv_strs a b
    rw [List.map_cons, List.map_cons, PyData.eqvAll, ih]
    show ((x == y) && decide (a = b)) = _
    by_cases e : x = y
    · subst e
      simp
    · simp [e]
theorem lay_strs : ∀ a : List Str, (∀ s ∈ a, PyData.strOk s = true) → PyData.canLayAll0 (a.map .str) = true
  | [], _ => by rw [List.map_nil, PyData.canLayAll0]
  | x :: a, h => by
    rw [List.map_cons, PyData.canLayAll0, lay_strs a fun s hs => h s (List.mem_cons_of_mem _ hs), PyData.canLay0, h x List.mem_cons_self]
    rfl
theorem deep_strs : ∀ a : List Str, PyData.depthAll (a.map .str) = 0
  | [] => by rw [List.map_nil, PyData.depthAll]
  | x :: a => by
    rw [List.map_cons, PyData.depthAll, deep_strs a, PyData.depth]
    rfl
theorem shaped_strs (a : List Str) (h : ∀ s ∈ a, PyData.strOk s = true) : SeqAt.shaped (.list (a.map .str)) = true := by
  unfold SeqAt.shaped
  rw [PyData.canLay0, lay_strs a h, PyData.depth, deep_strs a]
  rfl
theorem dp_strs {K : PySem.W.Frag} {H : Hp} : ∀ a : List Str, DpAll K H (a.map V.str) (a.map .str)
  | [] => .nil
  | x :: a => .cons (.str x) (dp_strs a)
end TcG
/-! The letters with which alike words begin; all alike words by their first letters. -/
namespace TcG
open PySem PySem.Spec PyProof.Rows L2
variable {ps : List (List Nat)} {ls : List Nat}

/-! ### sorted lists of numbers -/
def sortN (l : List Nat) : List Nat := l.mergeSort fun a b => decide (a ≤ b)
theorem sortN_perm (l : List Nat) : (sortN l).Perm l := List.mergeSort_perm l _
theorem sortN_sorted (l : List Nat) : (sortN l).Pairwise (· ≤ ·) := by
  have := List.pairwise_mergeSort (le := fun a b : Nat => decide (a ≤ b)) (fun a b c h1 h2 => by simp at *; omega) (fun a b => by simp; omega) l
  exact this.imp fun h => by simpa using h
theorem sortN_of {l m : List Nat} (p : m.Perm l) (h : m.Pairwise (· ≤ ·)) : m = sortN l := sorted_one _ _ h (sortN_sorted l) (p.trans (sortN_perm l).symm)
theorem lt_of_sorted {l : List Nat} (h : l.Pairwise (· ≤ ·)) (nd : l.Nodup) : l.Pairwise (· < ·) := by
  induction l with
  | nil => exact .nil
  | cons x r ih =>
    obtain ⟨h1, h2⟩ := List.pairwise_cons.mp h
    obtain ⟨n1, n2⟩ := List.nodup_cons.mp nd
    refine List.pairwise_cons.mpr ⟨fun y hy => ?_, ih h2 n2⟩
    have := h1 y hy
    have ne : x ≠ y := fun z => n1 (z ▸ hy)
    omega

/-! ### first letters -/
def Lead (ps : List (List Nat)) (w : List Nat) (c : Nat) : Prop := ∃ p q, w = p ++ c :: q ∧ c ∉ p ∧ ∀ y ∈ p, ind ps y c = true
def leads (ps : List (List Nat)) : List Nat → List Nat → List Nat
  | _, [] => []
  | seen, c :: r => if c ∈ seen then leads ps seen r else if (seen.all fun y => ind ps c y) = true then c :: leads ps (seen ++ [c]) r else leads ps (seen ++ [c]) r
theorem leads_cons (seen : List Nat) (c : Nat) (r : List Nat) : leads ps seen (c :: r) = if c ∈ seen then leads ps seen r else if (seen.all fun y => ind ps c y) = true then c :: leads ps (seen ++ [c]) r else leads ps (seen ++ [c]) r := rfl
theorem lead_cons {c d : Nat} {r : List Nat} (ne : c ≠ d) : Lead ps (d :: r) c ↔ ind ps d c = true ∧ Lead ps r c := by
  constructor
  · rintro ⟨p, q, e, n, h⟩
    cases p with
    | nil => exact absurd (List.cons.inj e).1.symm ne
    | cons x p =>
      obtain ⟨rfl, rfl⟩ := List.cons.inj e
      exact ⟨h _ List.mem_cons_self, p, q, rfl, fun z => n (List.mem_cons_of_mem _ z), fun y hy => h y (List.mem_cons_of_mem _ hy)⟩
  · rintro ⟨i, p, q, rfl, n, h⟩
    refine ⟨d :: p, q, rfl, fun z => ?_, fun y hy => ?_⟩
    · rcases List.mem_cons.mp z with z | z
      · exact ne z
      · exact n z
    · rcases List.mem_cons.mp hy with z | z
      · rw [z]
        exact i
      · exact h y z
theorem lead_self {c : Nat} {r : List Nat} : Lead ps (c :: r) c := ⟨[], r, rfl, by simp, by simp⟩
theorem mem_leads : ∀ (r seen : List Nat) (c : Nat), c ∈ leads ps seen r ↔ c ∉ seen ∧ (∀ y ∈ seen, ind ps c y = true) ∧ Lead ps r c
  | [], seen, c => by
    show c ∈ ([] : List Nat) ↔ _
    constructor
    · intro h
      cases h
    · rintro ⟨_, _, p, q, e, _⟩
      cases p <;> cases e
  | d :: r, seen, c => by
    have ih := fun s => mem_leads r s c
    unfold leads
    by_cases hd : d ∈ seen
    · rw [if_pos hd, ih]
      constructor
      · rintro ⟨h1, h2, h3⟩
        exact ⟨h1, h2, (lead_cons (show c ≠ d from fun z => h1 (z ▸ hd))).mpr ⟨by rw [ind_comm]; exact h2 d hd, h3⟩⟩
      · rintro ⟨h1, h2, h3⟩
        exact ⟨h1, h2, ((lead_cons (show c ≠ d from fun z => h1 (z ▸ hd))).mp h3).2⟩
    · rw [if_neg hd]
      by_cases e : c = d
      · subst e
        have no : c ∉ leads ps (seen ++ [c]) r := fun z => ((ih _).mp z).1 (List.mem_append_right _ List.mem_cons_self)
        by_cases ha : (seen.all fun y => ind ps c y) = true
        · rw [if_pos ha]
          exact ⟨fun _ => ⟨hd, List.all_eq_true.mp ha, lead_self⟩, fun _ => List.mem_cons_self⟩
        · rw [if_neg ha]
          exact ⟨fun z => absurd z no, fun z => absurd (List.all_eq_true.mpr z.2.1) ha⟩
      · have key : c ∈ leads ps (seen ++ [d]) r ↔ c ∉ seen ∧ (∀ y ∈ seen, ind ps c y = true) ∧ Lead ps (d :: r) c := by
          rw [ih, lead_cons e]
          constructor
          · rintro ⟨h1, h2, h3⟩
            refine ⟨fun z => h1 (List.mem_append_left _ z), fun y hy => h2 y (List.mem_append_left _ hy), ?_, h3⟩
            rw [ind_comm]
            exact h2 d (List.mem_append_right _ List.mem_cons_self)
          · rintro ⟨h1, h2, h3, h4⟩
            refine ⟨fun z => ?_, fun y hy => ?_, h4⟩
            · rcases List.mem_append.mp z with z | z
              · exact h1 z
              · exact e (List.mem_singleton.mp z)
            · rcases List.mem_append.mp hy with z | z
              · exact h2 y z
              · rw [List.mem_singleton.mp z, ind_comm]
                exact h3
        by_cases ha : (seen.all fun y => ind ps d y) = true
        · rw [if_pos ha, List.mem_cons]
          rw [key]
          exact ⟨fun z => z.elim (fun z => absurd z e) id, .inr⟩
        · rw [if_neg ha]
          exact key
theorem leads_nodup : ∀ (r seen : List Nat), (leads ps seen r).Nodup
  | [], _ => List.nodup_nil
  | d :: r, seen => by
    unfold leads
    split
    · exact leads_nodup r seen
    · split
      · refine List.nodup_cons.mpr ⟨fun z => ((mem_leads r _ d).mp z).1 (List.mem_append_right _ List.mem_cons_self), leads_nodup r _⟩
      · exact leads_nodup r _
def firstsM (ps : List (List Nat)) (w : List Nat) : List Nat := sortN (leads ps [] w)
theorem mem_firsts {w : List Nat} {c : Nat} : c ∈ firstsM ps w ↔ Lead ps w c := by
  unfold firstsM
  rw [(sortN_perm _).mem_iff, mem_leads]
  simp
theorem firsts_lt (w : List Nat) : (firstsM ps w).Pairwise (· < ·) := lt_of_sorted (sortN_sorted _) ((sortN_perm _).nodup_iff.mpr (leads_nodup _ _))
theorem lead_mem {w : List Nat} {c : Nat} (h : Lead ps w c) : c ∈ w := by
  obtain ⟨p, q, rfl, _⟩ := h
  simp
theorem firsts_ne {w : List Nat} (h : w ≠ []) : firstsM ps w ≠ [] := by
  cases w with
  | nil => exact absurd rfl h
  | cons c r =>
    intro z
    have := (mem_firsts (ps := ps)).mpr (lead_self (ps := ps) (c := c) (r := r))
    rw [z] at this
    cases this
theorem lead_erase {w : List Nat} {c : Nat} (h : Lead ps w c) : Exs ps w (c :: w.erase c) := by
  obtain ⟨p, q, rfl, n, i⟩ := h
  rw [List.erase_append_right _ n, List.erase_cons_head]
  exact bubble c q p i

/-! ### by first letters -/
theorem exs_in {a b : List Nat} (h : Exs ps a b) (ia : ∀ c ∈ a, c ∈ ls) : ∀ c ∈ b, c ∈ ls := fun c hc => ia c (h.perm.mem_iff.mpr hc)
theorem keeps_of (pr : Pairs ls ps) {a b : List Nat} (h : Exs ps a b) : KeepsM ls ps a b := fun u v _ _ _ hi => h.keeps pr hi
theorem exs_cancel (pr : Pairs ls ps) {c : Nat} {a b : List Nat} (ia : ∀ x ∈ c :: a, x ∈ ls) (h : Exs ps (c :: a) (c :: b)) : Exs ps a b := by
  have ib := exs_in h ia
  refine alike_of_keeps b a (fun x hx => ia x (List.mem_cons_of_mem _ hx)) (fun x hx => ib x (List.mem_cons_of_mem _ hx)) h.perm.cons_inv fun u v hu hv ne hi => ?_
  have k := h.keeps pr hi
  by_cases hc : c ∈ [u, v]
  · rw [keepM_cons_in hc, keepM_cons_in hc] at k
    exact (List.cons.inj k).2
  · rw [keepM_cons_out hc, keepM_cons_out hc] at k
    exact k
theorem lead_of (pr : Pairs ls ps) {w v : List Nat} {c : Nat} (iw : ∀ x ∈ w, x ∈ ls) (h : Exs ps w (c :: v)) : Lead ps w c := by
  have hc : c ∈ w := h.perm.mem_iff.mpr List.mem_cons_self
  obtain ⟨p, q, rfl, n⟩ := split_first hc
  refine ⟨p, q, rfl, n, fun y hy => ?_⟩
  cases e : ind ps y c with
  | true => rfl
  | false =>
    exfalso
    have k := h.keeps pr e
    rw [keepM_append, keepM_cons_in (show c ∈ [y, c] by simp) v] at k
    have hk : ∀ x ∈ keepM [y, c] p, x = y := fun x hx => by
      obtain ⟨h1, h2⟩ := List.mem_filter.mp hx
      have h2 := of_decide_eq_true h2
      rcases List.mem_cons.mp h2 with z | z
      · exact z
      · rw [List.mem_singleton.mp z] at h1
        exact absurd h1 n
    have hy2 : y ∈ keepM [y, c] p := List.mem_filter.mpr ⟨hy, decide_eq_true List.mem_cons_self⟩
    cases ek : keepM [y, c] p with
    | nil =>
      rw [ek] at hy2
      cases hy2
    | cons x r =>
      rw [ek] at k hk
      rw [List.cons_append] at k
      have := hk x List.mem_cons_self
      have k1 := (List.cons.inj k).1
      exact n (by rw [← k1, this]; exact hy)
/-- c :: v is alike w exactly if w can begin with c, and v is alike the rest -/
theorem exs_cons (pr : Pairs ls ps) {w v : List Nat} {c : Nat} (iw : ∀ x ∈ w, x ∈ ls) : Exs ps w (c :: v) ↔ Lead ps w c ∧ Exs ps (w.erase c) v := by
  constructor
  · intro h
    have l := lead_of pr iw h
    have h2 := (lead_erase l).symm.trans h
    exact ⟨l, exs_cancel pr (fun x hx => iw x ((lead_erase l).perm.mem_iff.mpr hx)) h2⟩
  · rintro ⟨l, h⟩
    exact (lead_erase l).trans (h.pre [c])
theorem erase_in {w : List Nat} {c : Nat} (iw : ∀ x ∈ w, x ∈ ls) : ∀ x ∈ w.erase c, x ∈ ls := fun x hx => iw x (List.mem_of_mem_erase hx)
theorem lead_alike (pr : Pairs ls ps) {w v : List Nat} {c : Nat} (iw : ∀ x ∈ w, x ∈ ls) (h : Exs ps w v) (l : Lead ps w c) : Lead ps v c ∧ Exs ps (w.erase c) (v.erase c) := by
  have iv := exs_in h iw
  have l2 : Lead ps v c := lead_of pr iv (h.symm.trans (lead_erase l))
  refine ⟨l2, ?_⟩
  have h3 : Exs ps (c :: w.erase c) (c :: v.erase c) := (lead_erase l).symm.trans (h.trans (lead_erase l2))
  exact exs_cancel pr (fun x hx => iw x ((lead_erase l).perm.mem_iff.mpr hx)) h3
theorem firsts_alike (pr : Pairs ls ps) {w v : List Nat} (iw : ∀ x ∈ w, x ∈ ls) (h : Exs ps w v) : firstsM ps w = firstsM ps v := by
  refine sortN_of ((List.perm_ext_iff_of_nodup ((sortN_perm _).nodup_iff.mpr (leads_nodup _ _)) (leads_nodup _ _)).mpr fun c => ?_) (sortN_sorted _)
  have e : c ∈ leads ps [] v ↔ Lead ps v c := by rw [mem_leads]; simp
  rw [e, show c ∈ sortN (leads ps [] w) ↔ Lead ps w c from mem_firsts]
  exact ⟨fun l => (lead_alike pr iw h l).1, fun l => (lead_alike pr (exs_in h iw) h.symm l).1⟩

/-- all words alike w, of n letters, in order -/
def allM (ps : List (List Nat)) : Nat → List Nat → List (List Nat)
  | 0, _ => [[]]
  | n + 1, w => (firstsM ps w).flatMap fun c => (allM ps n (w.erase c)).map (c :: ·)
theorem erase_len {w : List Nat} {c n : Nat} (h : c ∈ w) (e : w.length = n + 1) : (w.erase c).length = n := by rw [List.length_erase_of_mem h, e]; rfl
theorem mem_all (pr : Pairs ls ps) : ∀ (n : Nat) (w v : List Nat), w.length = n → (∀ x ∈ w, x ∈ ls) → (v ∈ allM ps n w ↔ Exs ps w v)
  | 0, w, v, hn, iw => by
    have hw : w = [] := List.length_eq_zero_iff.mp hn
    subst hw
    show v ∈ [[]] ↔ _
    rw [List.mem_singleton]
    constructor
    · rintro rfl
      exact .refl _
    · intro h
      exact h.perm.nil_eq.symm
  | n + 1, w, v, hn, iw => by
    show v ∈ (firstsM ps w).flatMap _ ↔ _
    rw [List.mem_flatMap]
    constructor
    · rintro ⟨c, hc, hv⟩
      obtain ⟨v', hv', rfl⟩ := List.mem_map.mp hv
      have l := mem_firsts.mp hc
      exact (exs_cons pr iw).mpr ⟨l, (mem_all pr n _ v' (erase_len (lead_mem l) hn) (erase_in iw)).mp hv'⟩
    · intro h
      cases v with
      | nil =>
        have := h.perm.length_eq
        rw [hn] at this
        cases this
      | cons c v' =>
        obtain ⟨l, h2⟩ := (exs_cons pr iw).mp h
        exact ⟨c, mem_firsts.mpr l, List.mem_map.mpr ⟨v', (mem_all pr n _ v' (erase_len (lead_mem l) hn) (erase_in iw)).mpr h2, rfl⟩⟩
theorem all_len : ∀ (n : Nat) (w : List Nat), w.length = n → ∀ v ∈ allM ps n w, v.length = n
  | 0, _, _, v, h => by
    have h : v ∈ [[]] := h
    rw [List.mem_singleton.mp h]
    rfl
  | n + 1, w, hn, v, h => by
    obtain ⟨c, hc, hv⟩ := List.mem_flatMap.mp h
    obtain ⟨v', hv', rfl⟩ := List.mem_map.mp hv
    rw [List.length_cons, all_len n _ (erase_len (lead_mem (mem_firsts.mp hc)) hn) v' hv']
theorem all_rising : ∀ (n : Nat) (w : List Nat), (allM ps n w).Pairwise (· < ·)
  | 0, _ => List.pairwise_singleton ..
  | n + 1, w => by
    have ih := fun w => all_rising n w
    show ((firstsM ps w).flatMap fun c => (allM ps n (w.erase c)).map (c :: ·)).Pairwise (· < ·)
    have up := firsts_lt (ps := ps) w
    generalize firstsM ps w = f at up ⊢
    induction f with
    | nil => exact .nil
    | cons c r ihr =>
      obtain ⟨h1, h2⟩ := List.pairwise_cons.mp up
      rw [List.flatMap_cons]
      refine List.pairwise_append.mpr ⟨?_, ihr h2, fun a ha b hb => ?_⟩
      · rw [List.pairwise_map]
        exact (ih _).imp fun h => List.Lex.cons h
      · obtain ⟨a', _, rfl⟩ := List.mem_map.mp ha
        obtain ⟨d, hd, hb⟩ := List.mem_flatMap.mp hb
        obtain ⟨b', _, rfl⟩ := List.mem_map.mp hb
        exact List.Lex.rel (h1 d hd)
theorem all_ne : ∀ (n : Nat) (w : List Nat), w.length = n → allM ps n w ≠ []
  | 0, _, _ => by simp [allM]
  | n + 1, w, hn => by
    have hw : w ≠ [] := fun z => by rw [z] at hn; cases hn
    have f := firsts_ne (ps := ps) hw
    intro z
    have z : (firstsM ps w).flatMap (fun c => (allM ps n (w.erase c)).map (c :: ·)) = [] := z
    rw [List.flatMap_eq_nil_iff] at z
    obtain ⟨c, r, e⟩ := List.exists_cons_of_ne_nil f
    have hc : c ∈ firstsM ps w := by rw [e]; exact List.mem_cons_self
    have := z c hc
    rw [List.map_eq_nil_iff] at this
    exact all_ne n _ (erase_len (lead_mem (mem_firsts.mp hc)) hn) this

/-! ### the least and the greatest -/
def pick (which : Bool) (l : List Nat) : Nat := if which then l.getLast?.getD 0 else l.head?.getD 0
/-- letter by letter the first one (or the last one) of those that can come next -/
def turnM (ps : List (List Nat)) (which : Bool) : Nat → List Nat → List Nat
  | 0, _ => []
  | n + 1, w => pick which (firstsM ps w) :: turnM ps which n (w.erase (pick which (firstsM ps w)))
theorem pick_mem {which : Bool} {l : List Nat} (h : l ≠ []) : pick which l ∈ l := by
  unfold pick
  cases which with
  | true =>
    rw [if_pos rfl, List.getLast?_eq_some_getLast h]
    exact List.getLast_mem h
  | false =>
    obtain ⟨c, r, rfl⟩ := List.exists_cons_of_ne_nil h
    exact List.mem_cons_self
theorem turn_len (which : Bool) : ∀ (n : Nat) (w : List Nat), (turnM ps which n w).length = n
  | 0, _ => rfl
  | n + 1, w => by
    show (_ :: turnM ps which n _).length = _
    rw [List.length_cons, turn_len which n]
theorem least_head : ∀ (n : Nat) (w : List Nat), w.length = n → (allM ps n w).head? = some (turnM ps false n w)
  | 0, _, _ => rfl
  | n + 1, w, hn => by
    have hw : w ≠ [] := fun z => by rw [z] at hn; cases hn
    obtain ⟨c, r, e⟩ := List.exists_cons_of_ne_nil (firsts_ne (ps := ps) hw)
    have hc : c ∈ firstsM ps w := by rw [e]; exact List.mem_cons_self
    have ih := least_head n (w.erase c) (erase_len (lead_mem (mem_firsts.mp hc)) hn)
    show ((firstsM ps w).flatMap fun c => (allM ps n (w.erase c)).map (c :: ·)).head? = some (pick false (firstsM ps w) :: turnM ps false n (w.erase (pick false (firstsM ps w))))
    rw [e, List.flatMap_cons, List.head?_append, List.head?_map, ih]
    rfl
theorem greatest_last : ∀ (n : Nat) (w : List Nat), w.length = n → (allM ps n w).getLast? = some (turnM ps true n w)
  | 0, _, _ => rfl
  | n + 1, w, hn => by
    have hw : w ≠ [] := fun z => by rw [z] at hn; cases hn
    have hne := firsts_ne (ps := ps) hw
    have e : firstsM ps w = (firstsM ps w).dropLast ++ [pick true (firstsM ps w)] := by
      unfold pick
      rw [if_pos rfl, List.getLast?_eq_some_getLast hne]
      exact (List.dropLast_concat_getLast hne).symm
    have hc := pick_mem (which := true) hne
    have ih := greatest_last n (w.erase (pick true (firstsM ps w))) (erase_len (lead_mem (mem_firsts.mp hc)) hn)
    show ((firstsM ps w).flatMap fun c => (allM ps n (w.erase c)).map (c :: ·)).getLast? = some (pick true (firstsM ps w) :: turnM ps true n (w.erase (pick true (firstsM ps w))))
    generalize pick true (firstsM ps w) = d at e ih ⊢
    rw [e, List.flatMap_append, List.flatMap_cons, List.flatMap_nil, List.append_nil, List.getLast?_append, List.getLast?_map, ih]
    rfl
theorem rising_one {α : Type} {R : α → α → Prop} (irr : ∀ x, ¬ R x x) (tr : ∀ x y z, R x y → R y z → R x z) : ∀ (l m : List α), l.Pairwise R → m.Pairwise R → (∀ x, x ∈ l ↔ x ∈ m) → l = m
  | [], m, _, _, h => by
    cases m with
    | nil => rfl
    | cons y m => exact absurd ((h y).mpr List.mem_cons_self) (by simp)
  | x :: l, m, h1, h2, h => by
    cases m with
    | nil => exact absurd ((h x).mp List.mem_cons_self) (by simp)
    | cons y m =>
      obtain ⟨a1, a2⟩ := List.pairwise_cons.mp h1
      obtain ⟨b1, b2⟩ := List.pairwise_cons.mp h2
      have xy : x = y := by
        rcases List.mem_cons.mp ((h x).mp List.mem_cons_self) with z | z
        · exact z
        · rcases List.mem_cons.mp ((h y).mpr List.mem_cons_self) with u | u
          · exact u.symm
          · exact absurd (tr _ _ _ (b1 x z) (a1 y u)) (irr _)
      subst xy
      rw [rising_one irr tr l m a2 b2 fun z => ?_]
      constructor
      · intro hz
        rcases List.mem_cons.mp ((h z).mp (List.mem_cons_of_mem _ hz)) with e | e
        · exact absurd (e ▸ a1 z hz) (irr _)
        · exact e
      · intro hz
        rcases List.mem_cons.mp ((h z).mpr (List.mem_cons_of_mem _ hz)) with e | e
        · exact absurd (e ▸ b1 z hz) (irr _)
        · exact e
theorem all_alike (pr : Pairs ls ps) {w v : List Nat} (iw : ∀ x ∈ w, x ∈ ls) (h : Exs ps w v) : allM ps w.length w = allM ps v.length v :=
  rising_one (fun x => List.lt_irrefl x) (fun x y z => List.lt_trans) _ _ (all_rising _ _) (all_rising _ _) fun x => by
    rw [mem_all pr _ _ _ rfl iw, mem_all pr _ _ _ rfl (exs_in h iw)]
    exact ⟨fun e => h.symm.trans e, fun e => h.trans e⟩
def leastM (ps : List (List Nat)) (w : List Nat) : List Nat := turnM ps false w.length w
theorem least_alike (pr : Pairs ls ps) {w v : List Nat} (iw : ∀ x ∈ w, x ∈ ls) (h : Exs ps w v) : leastM ps w = leastM ps v := by
  have a := least_head (ps := ps) w.length w rfl
  have b := least_head (ps := ps) v.length v rfl
  rw [all_alike pr iw h, b] at a
  exact (Option.some.inj a).symm
theorem least_exs (pr : Pairs ls ps) {w : List Nat} (iw : ∀ x ∈ w, x ∈ ls) : Exs ps w (leastM ps w) :=
  (mem_all pr _ _ _ rfl iw).mp (List.mem_of_mem_head? (by rw [least_head _ _ rfl]; rfl))
end TcG
/-! Levels of letters, and the steps of a word. -/
namespace TcG
variable {ls : List Nat} {ps : List (List Nat)}
abbrev Lvs := List (Nat × Nat)
def nearL (ps : List (List Nat)) (st : Lvs) (c : Nat) : List Nat := (st.filter fun p => !ind ps p.1 c).map (·.2)
def topN (l : List Nat) : Nat := l.foldl max 0
theorem topN_app (l m : List Nat) : topN (l ++ m) = max (topN l) (topN m) := by
  have h : ∀ (m : List Nat) (k : Nat), m.foldl max k = max k (topN m) := by
    intro m
    induction m with
    | nil => intro k; show k = max k 0; omega
    | cons x r ih =>
      intro k
      show r.foldl max (max k x) = max k (r.foldl max (max 0 x))
      rw [ih, ih (max 0 x)]
      omega
  unfold topN
  rw [List.foldl_append, h]
  rfl
theorem topN_one (x : Nat) : topN [x] = x := by show max 0 x = x; omega
theorem topN_cons (x : Nat) (l : List Nat) : topN (x :: l) = max x (topN l) := by
  have := topN_app [x] l
  rw [topN_one] at this
  exact this
theorem topN_le {l : List Nat} {x : Nat} (h : x ∈ l) : x ≤ topN l := by
  induction l with
  | nil => cases h
  | cons y r ih =>
    rw [topN_cons]
    rcases List.mem_cons.mp h with e | e
    · omega
    · have := ih e
      omega
theorem topN_mem {l : List Nat} (h : topN l ≠ 0) : topN l ∈ l := by
  induction l with
  | nil => exact absurd rfl h
  | cons y r ih =>
    rw [topN_cons] at h ⊢
    by_cases e : topN r ≤ y
    · rw [Nat.max_eq_left e]
      exact List.mem_cons_self
    · rw [Nat.max_eq_right (by omega)]
      exact List.mem_cons_of_mem _ (ih (by omega))
theorem topN_perm {l m : List Nat} (p : l.Perm m) : topN l = topN m := by
  induction p with
  | nil => rfl
  | cons x _ ih => rw [topN_cons, topN_cons, ih]
  | swap x y l =>
    rw [topN_cons, topN_cons, topN_cons, topN_cons]
    omega
  | trans _ _ a b => exact a.trans b
/-- the level of one letter more -/
def nextL (ps : List (List Nat)) (st : Lvs) (c : Nat) : Nat := topN (nearL ps st c) + 1
def putL (ps : List (List Nat)) (st : Lvs) (c : Nat) : Lvs := st ++ [(c, nextL ps st c)]
def levL (ps : List (List Nat)) (w : List Nat) : Lvs := w.foldl (putL ps) []
theorem levL_snoc (w : List Nat) (c : Nat) : levL ps (w ++ [c]) = putL ps (levL ps w) c := by
  unfold levL
  rw [List.foldl_append]
  rfl
theorem levL_fst (w : List Nat) : (levL ps w).map (·.1) = w := by
  have h : ∀ (w : List Nat) (st : Lvs), (w.foldl (putL ps) st).map (·.1) = st.map (·.1) ++ w := by
    intro w
    induction w with
    | nil => intro st; simp
    | cons c r ih =>
      intro st
      rw [List.foldl_cons, ih]
      unfold putL
      simp
  have := h w []
  exact this
theorem levL_len (w : List Nat) : (levL ps w).length = w.length := by
  rw [← List.length_map (f := (·.1)), levL_fst]
def heightM (ps : List (List Nat)) (w : List Nat) : Nat := topN ((levL ps w).map (·.2))
/-- the letters of one level -/
def rowL (st : Lvs) (k : Nat) : List Nat := (st.filter fun p => decide (p.2 = k)).map (·.1)
def stepsM (ps : List (List Nat)) (w : List Nat) : List (List Nat) := (List.range (heightM ps w)).map fun i => sortN (rowL (levL ps w) (i + 1))
theorem stepsM_len (w : List Nat) : (stepsM ps w).length = heightM ps w := by unfold stepsM; rw [List.length_map, List.length_range]
theorem rowL_app (st m : Lvs) (k : Nat) : rowL (st ++ m) k = rowL st k ++ rowL m k := by
  unfold rowL
  rw [List.filter_append, List.map_append]
theorem rowL_one (c l k : Nat) : rowL [(c, l)] k = if l = k then [c] else [] := by
  unfold rowL
  by_cases h : l = k
  · simp [h]
  · simp [h]
theorem mem_row {st : Lvs} {k c : Nat} : c ∈ rowL st k ↔ (c, k) ∈ st := by
  unfold rowL
  rw [List.mem_map]
  constructor
  · rintro ⟨p, hp, rfl⟩
    obtain ⟨h1, h2⟩ := List.mem_filter.mp hp
    have : p.2 = k := of_decide_eq_true h2
    rw [← this]
    exact h1
  · intro h
    exact ⟨(c, k), List.mem_filter.mpr ⟨h, by simp⟩, rfl⟩
/-! ### alike words have the same steps -/
theorem nearL_perm {st st' : Lvs} (p : st.Perm st') (c : Nat) : nextL ps st c = nextL ps st' c := by
  unfold nextL nearL
  rw [topN_perm ((p.filter _).map _)]
theorem putL_perm {st st' : Lvs} (p : st.Perm st') (w : List Nat) : (w.foldl (putL ps) st).Perm (w.foldl (putL ps) st') := by
  induction w generalizing st st' with
  | nil => exact p
  | cons c r ih =>
    refine ih ?_
    unfold putL
    rw [nearL_perm p]
    exact p.append_right _
theorem nextL_skip {st : Lvs} {a la b : Nat} (h : ind ps a b = true) : nextL ps (st ++ [(a, la)]) b = nextL ps st b := by
  unfold nextL nearL
  rw [List.filter_append]
  have : List.filter (fun p : Nat × Nat => !ind ps p.1 b) [(a, la)] = [] := by
    rw [List.filter_cons, if_neg (by simp [h])]
    rfl
  rw [this, List.append_nil]
theorem lev_alike {w v : List Nat} (h : Exs ps w v) : (levL ps w).Perm (levL ps v) := by
  induction h with
  | refl => exact List.Perm.refl _
  | step _ e ih =>
    refine ih.trans ?_
    obtain ⟨p, q, x, y, hi⟩ := e
    unfold levL
    rw [List.foldl_append, List.foldl_append]
    show (q.foldl (putL ps) (putL ps (putL ps (p.foldl (putL ps) []) x) y)).Perm (q.foldl (putL ps) (putL ps (putL ps (p.foldl (putL ps) []) y) x))
    refine putL_perm ?_ q
    generalize p.foldl (putL ps) [] = st
    unfold putL
    rw [nextL_skip hi, nextL_skip (by rw [ind_comm]; exact hi), List.append_assoc, List.append_assoc]
    exact List.Perm.append_left _ (List.Perm.swap _ _ _)
theorem height_alike {w v : List Nat} (h : Exs ps w v) : heightM ps w = heightM ps v := topN_perm ((lev_alike h).map _)
theorem height_le (w : List Nat) : heightM ps w ≤ w.length := by
  have h : ∀ (w : List Nat) (st : Lvs), topN ((w.foldl (putL ps) st).map (·.2)) ≤ topN (st.map (·.2)) + w.length := by
    intro w
    induction w with
    | nil => intro st; exact Nat.le_refl _
    | cons c r ih =>
      intro st
      have := ih (putL ps st c)
      have e : topN ((putL ps st c).map (·.2)) ≤ topN (st.map (·.2)) + 1 := by
        unfold putL
        rw [List.map_append, topN_app]
        have e1 : topN (List.map (fun x : Nat × Nat => x.2) [(c, nextL ps st c)]) = nextL ps st c := topN_one _
        rw [e1]
        have : nextL ps st c ≤ topN (st.map (·.2)) + 1 := by
          unfold nextL
          by_cases z : topN (nearL ps st c) = 0
          · omega
          · have m := topN_mem z
            unfold nearL at m
            obtain ⟨p, hp, e⟩ := List.mem_map.mp m
            have := topN_le (List.mem_map.mpr ⟨p, (List.mem_filter.mp hp).1, rfl⟩ : p.2 ∈ st.map (·.2))
            have e : p.2 = topN (nearL ps st c) := e
            omega
        omega
      show topN ((r.foldl (putL ps) (putL ps st c)).map (·.2)) ≤ topN (st.map (·.2)) + (r.length + 1)
      omega
  have := h w []
  have e : topN (([] : Lvs).map (·.2)) = 0 := rfl
  unfold heightM levL
  omega
theorem steps_alike {w v : List Nat} (h : Exs ps w v) : stepsM ps w = stepsM ps v := by
  unfold stepsM
  rw [height_alike h]
  refine List.map_congr_left fun i _ => ?_
  exact (sortN_of ((sortN_perm _).trans (((lev_alike h).filter _).map _)) (sortN_sorted _))
/-! ### the steps are the word -/
/-- each letter is at the level above those that it depends on, and each level is reached -/
structure Lev (ps : List (List Nat)) (st : Lvs) : Prop where
  pos : ∀ p ∈ st, 1 ≤ p.2
  full : ∀ p ∈ st, ∀ k, 1 ≤ k → k ≤ p.2 → ∃ c, (c, k) ∈ st
  below : ∀ p ∈ st, 2 ≤ p.2 → ∃ c, (c, p.2 - 1) ∈ st ∧ ind ps c p.1 = false
  apart : st.Pairwise fun p q => p.2 = q.2 → ind ps p.1 q.1 = true
theorem mem_near {st : Lvs} {c k : Nat} : k ∈ nearL ps st c ↔ ∃ x, (x, k) ∈ st ∧ ind ps x c = false := by
  unfold nearL
  rw [List.mem_map]
  constructor
  · rintro ⟨p, hp, rfl⟩
    obtain ⟨h1, h2⟩ := List.mem_filter.mp hp
    exact ⟨p.1, h1, by simpa using h2⟩
  · rintro ⟨x, h1, h2⟩
    exact ⟨(x, k), List.mem_filter.mpr ⟨h1, by simp [h2]⟩, rfl⟩
theorem Lev.put {st : Lvs} (L : Lev ps st) (c : Nat) : Lev ps (putL ps st c) := by
  have cases' : ∀ {p}, p ∈ putL ps st c → p ∈ st ∨ p = (c, nextL ps st c) := fun {p} hp => by
    rcases List.mem_append.mp hp with h | h
    · exact .inl h
    · exact .inr (List.mem_singleton.mp h)
  have old : ∀ {p}, p ∈ st → p ∈ putL ps st c := fun h => List.mem_append_left _ h
  have low : 2 ≤ nextL ps st c → ∃ x, (x, nextL ps st c - 1) ∈ st ∧ ind ps x c = false := fun h => by
    have : topN (nearL ps st c) ≠ 0 := fun z => by unfold nextL at h; rw [z] at h; omega
    have := mem_near.mp (topN_mem this)
    exact this
  refine ⟨fun p hp => ?_, fun p hp k h1 h2 => ?_, fun p hp h => ?_, ?_⟩
  · rcases cases' hp with h | rfl
    · exact L.pos p h
    · exact Nat.succ_le_succ (Nat.zero_le _)
  · rcases cases' hp with h | rfl
    · obtain ⟨x, hx⟩ := L.full p h k h1 h2
      exact ⟨x, old hx⟩
    · by_cases e : k = nextL ps st c
      · exact ⟨c, by rw [e]; exact List.mem_append_right _ (List.mem_singleton.mpr rfl)⟩
      · have h2 : k ≤ nextL ps st c := h2
        obtain ⟨x, hx, _⟩ := low (by omega)
        obtain ⟨y, hy⟩ := L.full _ hx k h1 (by show k ≤ nextL ps st c - 1; omega)
        exact ⟨y, old hy⟩
  · rcases cases' hp with h' | rfl
    · obtain ⟨x, hx, hi⟩ := L.below p h' h
      exact ⟨x, old hx, hi⟩
    · obtain ⟨x, hx, hi⟩ := low h
      exact ⟨x, old hx, hi⟩
  · refine List.pairwise_append.mpr ⟨L.apart, List.pairwise_singleton .., fun p hp q hq e => ?_⟩
    rw [List.mem_singleton.mp hq] at e ⊢
    have e : p.2 = nextL ps st c := e
    cases h : ind ps p.1 c with
    | true => rfl
    | false =>
      have : p.2 ≤ topN (nearL ps st c) := topN_le (mem_near.mpr ⟨p.1, hp, h⟩)
      unfold nextL at e
      omega
theorem lev_ok (w : List Nat) : Lev ps (levL ps w) := by
  have h : ∀ (w : List Nat) (st : Lvs), Lev ps st → Lev ps (w.foldl (putL ps) st) := by
    intro w
    induction w with
    | nil => intro st L; exact L
    | cons c r ih => intro st L; exact ih _ (L.put c)
  exact h w [] ⟨fun p hp => (nomatch hp), fun p hp => (nomatch hp), fun p hp => (nomatch hp), List.Pairwise.nil⟩
/-- row behind row -/
def flatL (st : Lvs) (n : Nat) : List Nat := (List.range n).flatMap fun i => rowL st (i + 1)
theorem flatL_next (st : Lvs) (n : Nat) : flatL st (n + 1) = flatL st n ++ rowL st (n + 1) := by
  unfold flatL
  rw [List.range_succ, List.flatMap_append]
  simp
theorem flatL_less {st : Lvs} {c l : Nat} : ∀ n, n < l → flatL (st ++ [(c, l)]) n = flatL st n
  | 0, _ => rfl
  | n + 1, h => by
    rw [flatL_next, flatL_next, flatL_less n (by omega), rowL_app, rowL_one, if_neg (by omega), List.append_nil]
theorem flatL_put {st : Lvs} {c l : Nat} (hl : 1 ≤ l) (far : ∀ p ∈ st, l ≤ p.2 → ind ps p.1 c = true) : ∀ n, l ≤ n → ∃ A B, flatL (st ++ [(c, l)]) n = A ++ c :: B ∧ flatL st n = A ++ B ∧ ∀ x ∈ B, ind ps x c = true
  | 0, h => by omega
  | n + 1, h => by
    by_cases e : l = n + 1
    · refine ⟨flatL st (n + 1), [], ?_, by simp, by simp⟩
      rw [flatL_next, flatL_next, flatL_less n (by omega), rowL_app, rowL_one, if_pos e, List.append_assoc]
    · obtain ⟨A, B, h1, h2, h3⟩ := flatL_put hl far n (by omega)
      refine ⟨A, B ++ rowL st (n + 1), ?_, ?_, fun x hx => ?_⟩
      · rw [flatL_next, h1, rowL_app, rowL_one, if_neg e]
        simp
      · rw [flatL_next, h2, List.append_assoc]
      · rcases List.mem_append.mp hx with hx | hx
        · exact h3 x hx
        · exact far (x, n + 1) (mem_row.mp hx) (by show l ≤ n + 1; omega)
theorem flatL_more {st : Lvs} {h : Nat} (top : ∀ p ∈ st, p.2 ≤ h) : ∀ n, h ≤ n → flatL st n = flatL st h
  | 0, e => by
    have : h = 0 := by omega
    rw [this]
  | n + 1, e => by
    by_cases z : h = n + 1
    · rw [z]
    · rw [flatL_next, flatL_more top n (by omega)]
      have : rowL st (n + 1) = [] := List.eq_nil_iff_forall_not_mem.mpr fun x hx => by
        have := top _ (mem_row.mp hx)
        have : n + 1 ≤ h := this
        omega
      rw [this, List.append_nil]
theorem top_lev {st : Lvs} : ∀ p ∈ st, p.2 ≤ topN (st.map (·.2)) := fun p hp => topN_le (List.mem_map.mpr ⟨p, hp, rfl⟩)
theorem flat_alike : ∀ (r : List Nat), Exs ps r.reverse (flatL (levL ps r.reverse) (heightM ps r.reverse))
  | [] => .refl _
  | c :: r => by
    have ih := flat_alike r
    rw [List.reverse_cons]
    generalize r.reverse = w at ih
    unfold heightM at ih ⊢
    rw [levL_snoc]
    have far : ∀ p ∈ levL ps w, nextL ps (levL ps w) c ≤ p.2 → ind ps p.1 c = true := fun p hp h => by
      cases e : ind ps p.1 c with
      | true => rfl
      | false =>
        have := topN_le (mem_near.mpr ⟨p.1, hp, e⟩)
        unfold nextL at h
        omega
    unfold putL
    rw [List.map_append, topN_app]
    have e1 : topN (List.map (fun x : Nat × Nat => x.2) [(c, nextL ps (levL ps w) c)]) = nextL ps (levL ps w) c := topN_one _
    rw [e1]
    obtain ⟨A, B, h1, h2, h3⟩ := flatL_put (ps := ps) (st := levL ps w) (c := c) (l := nextL ps (levL ps w) c) (Nat.succ_le_succ (Nat.zero_le _)) far (max (topN ((levL ps w).map (·.2))) (nextL ps (levL ps w) c)) (Nat.le_max_right _ _)
    rw [flatL_more top_lev _ (Nat.le_max_left _ _)] at h2
    rw [h1]
    refine (ih.post [c]).trans ?_
    rw [h2, List.append_assoc]
    have := (bubble (ps := ps) c [] B h3).pre A
    rw [List.append_nil] at this
    exact this
/-- letters of which each two are independent may stand in any order -/
theorem exs_perm {l m : List Nat} (p : l.Perm m) (h : l.Pairwise fun x y => ind ps x y = true) : Exs ps l m := by
  induction p with
  | nil => exact .refl _
  | cons x _ ih => exact (ih (List.pairwise_cons.mp h).2).pre [x]
  | swap x y l => exact .one (.mk [] l y x ((List.pairwise_cons.mp h).1 x List.mem_cons_self))
  | trans p q a b => exact (a h).trans (b ((p.pairwise_iff (fun {x y} h => by rw [ind_comm]; exact h)).mp h))
theorem row_apart {st : Lvs} (L : Lev ps st) (k : Nat) : (rowL st k).Pairwise fun x y => ind ps x y = true := by
  unfold rowL
  rw [List.pairwise_map]
  have h := L.apart.filter (fun p : Nat × Nat => decide (p.2 = k))
  refine (List.Pairwise.and_mem.mp h).imp fun {p q} hpq => ?_
  obtain ⟨hp, hq, i⟩ := hpq
  have e1 : p.2 = k := of_decide_eq_true (List.mem_filter.mp hp).2
  have e2 : q.2 = k := of_decide_eq_true (List.mem_filter.mp hq).2
  exact i (e1.trans e2.symm)
theorem flat_sorted {st : Lvs} (L : Lev ps st) (n : Nat) : Exs ps (flatL st n) ((List.range n).flatMap fun i => sortN (rowL st (i + 1))) := by
  induction n with
  | zero => exact .refl _
  | succ n ih =>
    rw [flatL_next, List.range_succ, List.flatMap_append]
    have e : (List.flatMap (fun i => sortN (rowL st (i + 1))) [n]) = sortN (rowL st (n + 1)) := by simp
    rw [e]
    exact (ih.post _).trans ((exs_perm (sortN_perm _).symm (row_apart L _)).pre _)
/-- the steps, one behind the other, are alike the word -/
theorem steps_exs (w : List Nat) : Exs ps w (stepsM ps w).flatten := by
  have h := flat_alike (ps := ps) w.reverse
  rw [List.reverse_reverse] at h
  have g := flat_sorted (ps := ps) (lev_ok w) (heightM ps w)
  unfold stepsM
  rw [← List.flatMap_def]
  exact h.trans g
/-- what each step holds -/
theorem steps_iff {w v : List Nat} : stepsM ps w = stepsM ps v ↔ Exs ps w v := by
  constructor
  · intro h
    have h1 := steps_exs (ps := ps) w
    rw [h] at h1
    exact h1.trans (steps_exs v).symm
  · exact steps_alike
end TcG
/-! max(xs, default=d), xs a list of ints. -/
namespace TcG
open PySem PySem.Spec PyProof.Rows L2
theorem readsAll_ints {h : Heap} : ∀ {vs : List Value} {ns : List Int}, IntsAre vs ns → ∃ as, ReadsAll h vs (ns.map .int) as
  | _, _, .nil => ⟨_, .nil⟩
  | _, _, .cons i t r => let ⟨_, q⟩ := readsAll_ints r; ⟨_, .cons (.int i t) q⟩
theorem alike_ints (ns : List Int) : PySem.W.AlikeAll (ns.map .int) := by
  refine ⟨fun x hx y hy => ?_, fun x hx => ?_⟩
  · obtain ⟨i, _, rfl⟩ := List.mem_map.mp hx
    obtain ⟨j, _, rfl⟩ := List.mem_map.mp hy
    rfl
  · obtain ⟨i, _, rfl⟩ := List.mem_map.mp hx
    exact fun z => nomatch z
def rMaxD (K : PySem.W.Frag) : List V → List V → Hp → VK → Prop := fun vs zs H Q => ∃ (a : Addr) (ns : List Int) (d : V), vs = [.ref a] ∧ zs = [d] ∧ SqL K H a (ns.map V.int) ∧ (ns = [] → Q d H) ∧ ∀ y ys, ns = y :: ys → Q (.int (ys.foldl max y)) H
theorem cr_maxD {X : Cx} (hc : X.calm = true) (hu : X.A.units + 1 < cLine) : CallRK X (.builtin "max") [Str.ofString "default"] (rMaxD X.K) := by
  intro pins s σ H xs zs us ws Q I rx rz h
  obtain ⟨a, ns, d, rfl, rfl, hs, h0, h1⟩ := h
  obtain ⟨u, rfl, rd⟩ := vals1 rz
  obtain ⟨its, rv, hl, _⟩ := I.list hs
  rw [Vals.ref1 rx]
  obtain ⟨as, ra⟩ := readsAll_ints (h := s.heap) rv.ints
  refine PySem.W.max_list_default (I.ok.hd hc) hl.isList ra (alike_ints ns) (by rw [depthAll_ints]; exact hu) (fun e h' tk hk => ?_) (fun y ys i v h' tk bs e hv hr hk => ?_)
  · have e : ns = [] := List.map_eq_nil_iff.mp e
    exact ⟨d, H, I.kept hk, rd, h0 e⟩
  · cases ns with
    | nil => cases e
    | cons n r =>
      injection e with e1 e2
      subst e1
      subst e2
      rw [PySem.W.maxD_ints] at hr
      cases hr
      exact ⟨.int (r.foldl max n), H, I.kept hk, ⟨_, rfl⟩, h1 n r rfl⟩
end TcG
/-! word.replace(letter, "", 1), the letter's token known. -/
namespace TcG
open PySem PySem.Spec PyProof.Rows L2
open Builtin.Str StrLaws
theorem occ_first1 {p q : List Nat} {c : Nat} (nc : c ∉ p) : occurrences (tx (p ++ c :: q)) (tx [c]) 0 (tx (p ++ c :: q)).length 1 = [p.length] := by
  have len : (tx (p ++ c :: q)).length = p.length + 1 + q.length := by
    rw [tx_length]
    simp
    omega
  rw [occ_eq]
  have one : ∀ i, (i + (tx [c]).length ≤ (tx (p ++ c :: q)).length ∧ subAt (tx (p ++ c :: q)) (tx [c]) i = true) ↔ (p ++ c :: q)[i]? = some c := fun i => subAt_one (tx (p ++ c :: q)) c i
  have split : List.range' 0 ((tx (p ++ c :: q)).length + 1 - 0) = List.range' 0 p.length ++ p.length :: List.range' (p.length + 1) (q.length + 1) := by
    rw [len, show p.length + 1 + q.length + 1 - 0 = p.length + (1 + (q.length + 1)) by omega, ← List.range'_append_1, ← List.range'_append_1]
    rw [Nat.zero_add]
    rfl
  rw [split, occ_until _ _ _ _ _ _ ((one _).mpr ?_) (Nat.zero_le _) _ fun a ha => ?_]
  · rw [List.getElem?_append_right (Nat.le_refl _), Nat.sub_self]
    rfl
  · rw [one]
    obtain ⟨j, hj, rfl⟩ := List.mem_range'.mp ha
    intro z
    rw [Nat.zero_add, Nat.one_mul, List.getElem?_append_left hj] at z
    exact nc (List.mem_of_getElem? z)
theorem glued_off {p q : List Nat} {c : Nat} : glued (tx []) (partsBetween (tx (p ++ c :: q)) [p.length] (tx [c]).length) = tx (p ++ q) := by
  have e1 : (tx [c]).length = 1 := rfl
  rw [e1]
  have h1 : strSub (tx (p ++ c :: q)) 0 p.length = tx p := by
    unfold strSub tx
    simp
  have h2 : strSub (tx (p ++ c :: q)) (p.length + 1) (tx (p ++ c :: q)).length = tx q := by
    rw [tx_length]
    unfold strSub tx
    simp
    exact List.take_of_length_le (by omega)
  show glued (tx []) [strSub (tx (p ++ c :: q)) 0 p.length, strSub (tx (p ++ c :: q)) (p.length + 1) (tx (p ++ c :: q)).length] = _
  rw [h1, h2]
  unfold glued tx
  simp
theorem gives_rep1 (x y z : Str) (t u v r : Tok) {cuts : List Nat} (h : occurrences x y 0 x.length 1 = cuts) (hc : cuts.isEmpty = false) (hy : (y.length == 0) = false) (hu : (u == 0 || v == 0) = false) (huv : (u == v) = false) (hyz : (y == z) = false)
    (hl : tooLong (x.length + cuts.length * z.length) = false) : Gives (Builtin.«str.replace» ⟨[.str x t, .str y u, .str z v, .int 1 r], []⟩) (.str (glued z (partsBetween x cuts y.length))) := by
  show Gives (if ((occurrences x y 0 x.length 1).isEmpty || (y.length == 0 && z.length == 0)) = true then (do rule "str.replace.nothing"; ret (.str x t)) else
          (do let same ← isSame (.str y u) (.str z v)
              if same = true then (do rule "str.replace.old-is-new"; ret (.str x t)) else
              if tooLong (x.length + (occurrences x y 0 x.length 1).length * z.length) = true then unsupported "str.replace:memory" else
              retStr (glued z (partsBetween x (occurrences x y 0 x.length 1) y.length)))) _
  rw [h, hc, hy, isSame_str_other y z u v hu huv hyz, hl]
  exact .of_eq rfl
theorem call_rep1 {prog : Program} {w : World} {A : Around} {E : Value → Shared → Prop} {s : Shared} {Q : Value → Shared → Prop} {a : List Nat} {c : Nat} {t u v r : Tok} (hc : c ∈ a) (small : a.length ≤ 1000) (hu : u ≠ 0) (hv : v ≠ 0) (huv : u ≠ v)
    (hq : ∀ t' k, Q (.str (tx (a.erase c)) t') { s with toks := k }) : wpAny (model prog w) A (call (.builtin "str.replace") [.str (tx a) t, .str (tx [c]) u, .str (tx []) v, .int 1 r]) Q E s := by
  obtain ⟨p, q, rfl, nc⟩ := split_first hc
  have er : (p ++ c :: q).erase c = p ++ q := by
    rw [List.erase_append_right _ nc, List.erase_cons_head]
  rw [er] at hq
  have len : (tx (p ++ c :: q)).length = (p ++ c :: q).length := tx_length _
  have fits : (tx (p ++ q)).length ≤ sizeLine := by
    rw [tx_length]
    refine Nat.le_trans ?_ (show 1000 ≤ sizeLine by decide)
    simp at small ⊢
    omega
  refine call_gives PySem.F.slot_str_replace (typeIs_str _ _ _) PySem.F.entry_str_replace (PySem.F.args_str_replace_4 _ _ _ _)
    (gives_rep1 (tx (p ++ c :: q)) (tx [c]) (tx []) t u v r (occ_first1 nc) rfl rfl (by simp [hu, hv]) (by simp [huv]) (by
      rw [beq_eq_false_iff_ne]
      intro e
      have := tx_inj e
      cases this) ?_) ?_
  · unfold tooLong
    refine decide_eq_false ?_
    rw [len, show (tx ([] : List Nat)).length = 0 from rfl, Nat.mul_zero, Nat.add_zero]
    have : (p ++ c :: q).length ≤ sizeLine := Nat.le_trans small (by decide)
    omega
  · rw [glued_off]
    exact ⟨fits, hq _ _⟩
end TcG
/-! The context of a generator's own frame, in the hand layer's words. -/
namespace TcG
open PySem PySem.Spec PyProof.Rows L2 GenW

/-- the scope of a generator expression in a def with these names, in this order: what it captures is a cell of the def, none of the def's names is its own -/
def genFit (N : List Str) (outer : List (Str × NameKind)) (gs : Scope) : Bool :=
  decide (gs.kind = .function) && !gs.isCoroutine && gs.names.all (fun y => decide (y.2 ≠ .cell) && (decide (y.2 ≠ .free) || decide (outer.lookup y.1 = some .cell)))
    && decide (gs.names.lookup (".0" : Str) = some NameKind.local) && N.all (fun x => decide (gs.names.lookup x ≠ some NameKind.local))
structure GenF (N : List Str) (env : Env) (gs : Scope) : Prop where
  kind : gs.kind = .function
  co : gs.isCoroutine = false
  cell : ∀ y ∈ gs.names, y.2 ≠ .cell
  free : ∀ y ∈ gs.names, y.2 = .free → env.kindOf y.1 = some .cell
  dot : gs.names.lookup (".0" : Str) = some NameKind.local
  own : ∀ x ∈ N, gs.names.lookup x ≠ some NameKind.local
theorem genF_of {N : List Str} {env : Env} {gs : Scope} (h : genFit N env.scope.names gs = true) : GenF N env gs := by
  unfold genFit at h
  simp only [Bool.and_eq_true, List.all_eq_true, Bool.or_eq_true, decide_eq_true_eq, Bool.not_eq_true'] at h
  obtain ⟨⟨⟨⟨h1, h2⟩, h3⟩, h4⟩, h5⟩ := h
  refine ⟨h1, h2, fun y hy => (h3 y hy).1, fun y hy e => ?_, h4, h5⟩
  rcases (h3 y hy).2 with z | z
  · exact absurd e z
  · exact z

abbrev genE (X : Cx) (gs : Scope) (code : Value) (C : Addr) : Env := genEnv gs (cloFrom X.env.cells gs.names []) C code builtinsNs X.env
def genX (X : Cx) (own : List Str) (gs : Scope) (code : Value) (C : Addr) (s0 : Shared) (H0 : Hp) (fp : List Addr) (Ag : Around) : Cx where
  prog := X.prog
  w := X.w
  K := X.K
  mg := X.mg
  base := X.base
  A := Ag
  N := X.N ++ own
  s_0 := s0
  H_0 := H0
  env := genE X gs code C
  outer := X.stack
  stack := genE X gs code C :: X.stack
  ex := fp
  fn := fun _ => false
  calm := true
  pn := []
  xe := fun _ _ => False

section
variable {X : Cx} {pins : List (Addr × Obj)} {σ : L2.St} {H : Hp} {s : Shared}

theorem clo_of {gs : Scope} (F : GenF X.N X.env gs) (ok : X.Ok) {y : Str} {c : Addr} (h : (cloFrom X.env.cells gs.names []).lookup y = some c) : X.env.kindOf y = some .cell ∧ X.env.cells.lookup y = some c := by
  rcases cloFrom_mem (PySem.mem_of_lookup h) with z | ⟨z, e⟩
  · cases z
  · have k := F.free _ z rfl
    obtain ⟨d, hd⟩ := ok.has y (.inl k)
    rw [hd] at e
    exact ⟨k, by rw [hd, e]; rfl⟩

/-- the slots at the generator's entry -/
abbrev gSt (σ : L2.St) (own : List Str) : L2.St := σ ++ own.map fun _ => none
theorem gSt_get {own : List Str} {i : Nat} {v : V} (h : (gSt σ own)[i]? = some (some v)) : i < σ.length ∧ σ[i]? = some (some v) := by
  unfold gSt at h
  by_cases hi : i < σ.length
  · rw [List.getElem?_append_left hi] at h
    exact ⟨hi, h⟩
  · rw [List.getElem?_append_right (by omega), List.getElem?_map] at h
    cases e : own[i - σ.length]? with
    | none => rw [e] at h; cases h
    | some a => rw [e] at h; cases h

theorem inv_gen {own : List Str} {gs : Scope} {code : Value} {fp : List Addr} {Ag : Around} {m : Str → Option Value} {h5 : Heap} {g5 : Array GenState} {tk : Nat} {a C : Addr} {oa : Obj} (F : GenF X.N X.env gs) (I : Inv X pins σ H s) (hf : ∀ b ∈ fp, FpOk X pins H b)
    (hob : ∀ b ∈ fp, ∃ o, s.heap.get? b = some o) (hh : Ag.handled = none) (hfr : Ag.frames = some (genE X gs code C :: X.stack)) (hC : C = s.heap.objs.size) (ns : h5.Ns C m) (keep : ∀ b o, s.heap.get? b = some o → h5.get? b = some o) (bare : AllBare g5)
    (ha : h5.get? a = some oa) (haC : C < a) (hd : ∀ v, oa.data ≠ .cell v) :
    Inv (genX X own gs code C s H fp Ag) [(a, oa)] (gSt σ own) H { s with heap := h5, gens := g5, toks := tk } := by
  have hlt : ∀ b ∈ fp, b < s.heap.objs.size := fun b hb => let ⟨o, e⟩ := hob b hb; Heap.lt_size e
  have cl : ∀ {y : Str} {c : Addr}, (genE X gs code C).cells.lookup y = some c → X.env.kindOf y = some .cell ∧ X.env.cells.lookup y = some c := fun h => clo_of F I.ok h
  have nstk : ∀ b, s.heap.objs.size ≤ b → b ∉ frs X.stack := fun b hb z => by
    rcases List.mem_cons.mp (I.stkSub b z) with e | z
    · rw [e] at hb
      exact Nat.lt_irrefl _ (Nat.lt_of_lt_of_le I.lt hb)
    · exact I.nofs hb z
  refine ⟨⟨I.ok.mod, F.kind, I.ok.glob, rfl, Nat.le_of_eq hC.symm, fun x y c h1 h2 => I.ok.inj x y c (cl h1).2 (cl h2).2, fun x hx => ?_, fun x c h => (nomatch h), fun _ => hh, hfr, .inr ⟨rfl, rfl⟩, fun b hb => ⟨?_, fun x c h => ?_⟩, I.bs, Nat.le_trans I.ok.bsz I.sz, fun b o e hb => ?_, fun b hb z => ?_, I.stack, I.stkFree⟩,
    rfl, bare, Un.kept keep, ⟨m, ns, fun i x v e1 e2 e3 => ?_⟩, fun x c h => ?_, ?_, fun x c h => I.freeC x c (cl h).2, fun p hp => ?_, I.hok.kept keep, ?_⟩
  · have hx : gs.names.lookup x = some .cell ∨ gs.names.lookup x = some .free := hx
    rcases hx with hx | hx
    · exact absurd rfl (F.cell _ (PySem.mem_of_lookup hx))
    · have hm := PySem.mem_of_lookup hx
      obtain ⟨c, hc⟩ := I.ok.has x (.inl (F.free _ hm rfl))
      exact ⟨c, clo_look hm hc⟩
  · rw [show (genX X own gs code C s H fp Ag).env.locals = C from rfl, hC]
    exact Nat.ne_of_lt (hlt b hb)
  · exact (hf b hb).2.2.2.2.1 x c (cl h).2
  · rcases (hf b hb).2.2.2.1 with z | z
    · exact I.ok.noex b o e z
    · exact absurd (Nat.lt_of_lt_of_le (Heap.lt_size e) (Nat.le_trans I.ok.bsz z)) (Nat.lt_irrefl _)
  · have z : b ∈ frs X.stack := z
    rcases List.mem_cons.mp (I.stkSub b z) with e | z
    · exact (hf b hb).2.1 e
    · exact (hf b hb).2.2.1 z
  · obtain ⟨hi, e2⟩ := gSt_get e2
    have e1 : X.N[i]? = some x := by
      have : (X.N ++ own)[i]? = some x := e1
      rw [List.getElem?_append_left (by rw [← I.len]; exact hi)] at this
      exact this
    have e3 : gs.names.lookup x = some .local ∨ gs.names.lookup x = some .cell ∨ gs.names.lookup x = some .free := e3
    rcases e3 with e3 | e3 | e3
    · exact absurd e3 (F.own x (List.mem_of_getElem? e1))
    · exact absurd rfl (F.cell _ (PySem.mem_of_lookup e3))
    · have hm := PySem.mem_of_lookup e3
      have k := F.free _ hm rfl
      obtain ⟨m0, _, look⟩ := I.loc
      obtain ⟨u, ru, l⟩ := look i x v e1 e2 (.inr (.inl k))
      refine ⟨u, ru, .inr ⟨.inr e3, ?_⟩⟩
      rcases l with ⟨z, _⟩ | ⟨_, c, hc, o, ho, hdat⟩
      · rw [k] at z
        cases z
      · exact ⟨c, clo_look hm hc, o, keep c o ho, hdat⟩
  · obtain ⟨v, o, ho, hdat⟩ := I.cell x c (cl h).2
    exact ⟨v, o, keep c o ho, hdat⟩
  · exact I.hok.fresh (by rw [show (genX X own gs code C s H fp Ag).env.locals = C from rfl, hC]; exact Nat.le_refl _)
  · have hp : p = (a, oa) := by simpa [genX] using hp
    subst hp
    have ge : s.heap.objs.size ≤ a := by rw [← hC]; exact Nat.le_of_lt haC
    exact ⟨ha, I.hok.fresh ge, Nat.ne_of_gt haC, nstk a ge, hd⟩
  · show (gSt σ own).length = (X.N ++ own).length
    rw [List.length_append, List.length_append, List.length_map, I.len]

theorem fp_gen {own : List Str} {gs : Scope} {code : Value} {fp : List Addr} {Ag : Around} {a C : Addr} {oa : Obj} {H' : Hp} (F : GenF X.N X.env gs) (I : Inv X pins σ H s) (hf : ∀ b ∈ fp, FpOk X pins H b) (hob : ∀ b ∈ fp, ∃ o, s.heap.get? b = some o) (hC : C = s.heap.objs.size) (haC : C < a) (hn : ∀ b ∈ fp, H' b = none) :
    ∀ b ∈ fp, FpOk (genX X own gs code C s H fp Ag) [(a, oa)] H' b := fun b hb => by
  have lt : b < s.heap.objs.size := let ⟨o, e⟩ := hob b hb; Heap.lt_size e
  refine ⟨hn b hb, by rw [show (genX X own gs code C s H fp Ag).env.locals = C from rfl, hC]; exact Nat.ne_of_lt lt, fun z => ?_, .inl hb, fun x c h => (hf b hb).2.2.2.2.1 x c (clo_of F I.ok h).2, fun p hp => ?_⟩
  · have z : b ∈ frs X.stack := z
    rcases List.mem_cons.mp (I.stkSub b z) with e | z
    · exact (hf b hb).2.1 e
    · exact (hf b hb).2.2.1 z
  · have hp : p = (a, oa) := by simpa [genX] using hp
    subst hp
    exact Nat.ne_of_gt (Nat.lt_trans (by rw [hC]; exact lt) haC)

/-- the generator is done with: back in the def -/
theorem inv_back {own : List Str} {gs : Scope} {code : Value} {fp : List Addr} {Ag : Around} {C : Addr} {pins' : List (Addr × Obj)} {σ' : L2.St} {H' : Hp} {s' : Shared} (I : Inv X pins σ H s) (hf : ∀ b ∈ fp, FpOk X pins H b) (J : Inv (genX X own gs code C s H fp Ag) pins' σ' H' s') : Inv X pins σ H' s' :=
  I.call' (ch := fp) J.os J.base J.hok J.bare fun b hb => ⟨(hf b hb).2.2.2.1, (hf b hb).2.1, (hf b hb).2.2.2.2.1, (hf b hb).2.2.2.2.2⟩
end

/-- the state in which a generator is woken keeps what stood when it fell asleep -/
structure Woken (s s' : Shared) : Prop where
  os : s'.os = s.os
  bare : AllBare s.gens → AllBare s'.gens
  keep : ∀ b o, s.heap.get? b = some o → s'.heap.get? b = some o
theorem Woken.refl (s : Shared) : Woken s s := ⟨rfl, fun h => h, fun _ _ e => e⟩
theorem Woken.trans {s s' s'' : Shared} (x : Woken s s') (y : Woken s' s'') : Woken s s'' := ⟨y.os.trans x.os, fun h => y.bare (x.bare h), fun b o e => y.keep b o (x.keep b o e)⟩
theorem bare_set {gs : Array GenState} {g : Nat} {x : GenState} (h : AllBare gs) (hx : x.bare = true) : AllBare (gs.setIfInBounds g x) := fun y hy => by
  obtain ⟨i, hi, rfl⟩ := Array.mem_iff_getElem.mp hy
  by_cases e : i = g
  · subst e
    rw [Array.getElem_setIfInBounds_self]
    exact hx
  · have hi2 : i < gs.size := by simpa using hi
    rw [Array.getElem_setIfInBounds_ne hi2 (Ne.symm e)]
    exact h _ (Array.getElem_mem hi2)
theorem Woken.set {s : Shared} {g : Nat} {x : GenState} (hx : x.bare = true) : Woken s (s.setGen g x) := ⟨rfl, fun h => bare_set h hx, fun _ _ e => e⟩
theorem Inv.woken {X : Cx} {pins : List (Addr × Obj)} {σ : L2.St} {H : Hp} {s s' : Shared} (I : Inv X pins σ H s) (w : Woken s s') : Inv X pins σ H s' :=
  I.call' (ch := []) w.os (Un.kept w.keep) (I.hok.kept w.keep) (w.bare I.bare) fun _ z => nomatch z
end TcG
/-! Names whose own value is known, with its token. -/
namespace TcG
open PySem PySem.Spec PyProof.Rows L2

/-- the name x holds the value u itself -/
def Raw (X : Cx) (s : Shared) (x : Str) (u : Value) : Prop := ∃ m, s.heap.Ns X.env.locals m ∧ Look X.env s.heap m x u
/-- a text whose token was given out -/
def Good (s : Shared) (u : Value) : Prop := ∃ z t, u = .str z t ∧ t ≠ 0 ∧ t < s.toks
theorem Good.later {s s' : Shared} {u : Value} (g : Good s u) (h : s.toks ≤ s'.toks) : Good s' u := let ⟨z, t, e, h0, hl⟩ := g; ⟨z, t, e, h0, Nat.lt_of_lt_of_le hl h⟩

section
variable {X : Cx} {pins : List (Addr × Obj)} {σ : L2.St} {H : Hp} {s : Shared}

theorem ev_raw {M : Model} {A : Around} {x : Str} {u : Value} {pos : Pos} {Q E : Value → Shared → Prop} (I : Inv X pins σ H s) (h : Raw X s x u) (fin : Q u s)
    (hd : (x == ("__debug__" : Str)) = false := by decide) (hcd : (x == ("__classdict__" : Str)) = false := by decide) : wpAny M A (eval (.Name x pos) X.env) Q E s := by
  obtain ⟨m, hn, l⟩ := h
  rcases l with ⟨hk, hm⟩ | ⟨hk, c, hc, cell⟩
  · exact wpAny_Name (wpAny_loadName_local I.ok.kind hk hn hm fin) hd
  · rcases hk with hk | hk
    · exact wpAny_Name (wpAny_loadName_cell I.ok.kind hk hc cell fin) hd
    · exact wpAny_Name (wpAny_loadName_free I.ok.kind hk hc cell fin hcd) hd
theorem raw_of {i : Nat} {x : Str} {v : V} (I : Inv X pins σ H s) (hN : X.N[i]? = some x) (hv : Vis X.env.scope x) (e : σ[i]? = some (some v)) : ∃ u, RelV v u ∧ Raw X s x u := by
  obtain ⟨m, hn, hl⟩ := I.loc
  obtain ⟨u, r, l⟩ := hl i x v hN e hv
  exact ⟨u, r, m, hn, l⟩

/-- one object of ours is written: the frame's own, or a cell of its -/
theorem inv_put {i : Nat} {x : Str} {v : V} {u : Value} {a : Addr} {h' : Heap} {tk : Nat} (I : Inv X pins σ H s) (hN : X.N.Nodup) (hi : X.N[i]? = some x) (r : RelV v u) (sb : Heap.SameBut a s.heap h')
    (ha : (a = X.env.locals ∧ X.env.kindOf x = some .local ∧ ∃ m, s.heap.Ns X.env.locals m ∧ h'.Ns X.env.locals fun y => if y = x then some u else m y) ∨
      (X.env.kindOf x = some .cell ∧ X.fn x = true ∧ X.env.cells.lookup x = some a ∧ h'.IsCell a (some u))) : Inv X pins (σ.set i (some v)) H { s with heap := h', toks := tk } ∧ Raw X { s with heap := h', toks := tk } x u ∧
      ∀ y w, y ≠ x → Raw X s y w → Raw X { s with heap := h', toks := tk } y w := by
  have hiσ : i < σ.length := by rw [I.len]; exact (List.getElem?_eq_some_iff.mp hi).1
  have below : ∀ b o, X.s_0.heap.get? b = some o → b ≠ a := fun b o e => by
    have lt := Heap.lt_size e
    rcases ha with ⟨rfl, _⟩ | ⟨_, hf, hc, _⟩
    · exact Nat.ne_of_lt (Nat.lt_of_lt_of_le lt I.ok.above)
    · exact Nat.ne_of_lt (Nat.lt_of_lt_of_le lt (I.ok.cab x a hf hc))
  obtain ⟨oa, hoa, hda⟩ : ∃ oa, s.heap.get? a = some oa ∧ H a = none := by
    rcases ha with ⟨rfl, _, m, ⟨o, _, _, ho, _⟩, _⟩ | ⟨_, _, hc, _⟩
    · exact ⟨o, ho, I.free⟩
    · obtain ⟨_, o, ho, _⟩ := I.cell x a hc
      exact ⟨o, ho, I.freeC x a hc⟩
  have look : ∀ m, s.heap.Ns X.env.locals m → ∃ m', h'.Ns X.env.locals m' ∧ Look X.env h' m' x u ∧ ∀ y w, y ≠ x → Look X.env s.heap m y w → Look X.env h' m' y w := by
    intro m hn
    rcases ha with ⟨rfl, hk, m0, hn0, hn'⟩ | ⟨hk, hf, hc, hcell⟩
    · refine ⟨_, hn', .inl ⟨hk, by simp⟩, fun y w ne l => ?_⟩
      rcases l with ⟨k, e⟩ | ⟨k, c, e, z⟩
      · refine .inl ⟨k, ?_⟩
        simp only [ne, if_false]
        rw [Heap.Ns.agree hn0 hn y]
        exact e
      · exact .inr ⟨k, c, e, z.sameBut sb (I.cne y c e)⟩
    · refine ⟨m, hn.sameBut sb (Ne.symm (I.cne x a hc)), .inr ⟨.inl hk, a, hc, hcell⟩, fun y w ne l => ?_⟩
      rcases l with l | ⟨k, c, e, z⟩
      · exact .inl l
      · refine .inr ⟨k, c, e, z.sameBut sb fun q => ?_⟩
        rw [q] at e
        exact ne (I.ok.inj y x a e hc)
  refine ⟨⟨I.ok, I.os, I.bare, ⟨fun b o e n hb hx => (sb.2 b (below b o e)).trans (I.base.keep b o e n hb hx), fun b o e n hb hx => ?_, I.base.free, fun b o e hx => ?_, I.base.tups, I.base.frzs, I.base.tbls⟩, ?_, fun y c e => ?_, I.free, I.freeC, fun p hp => ?_, fun b ob e => ?_, by simpa using I.len⟩, ?_, fun y w ne h => ?_⟩
  · obtain ⟨sl, e1⟩ := I.base.slot b o e n hb hx
    exact ⟨sl, (sb.2 b (below b o e)).trans e1⟩
  · obtain ⟨o', e1⟩ := I.base.there b o e hx
    exact ⟨o', (sb.2 b (below b o e)).trans e1⟩
  · obtain ⟨m, hn, hl⟩ := I.loc
    obtain ⟨m', hn', here, others⟩ := look m hn
    refine ⟨m', hn', fun j y v' e1 e2 e3 => ?_⟩
    by_cases hj : j = i
    · subst hj
      rw [hi] at e1
      cases e1
      rw [List.getElem?_set_self hiσ] at e2
      cases e2
      exact ⟨u, r, here⟩
    · rw [List.getElem?_set_ne (Ne.symm hj)] at e2
      obtain ⟨w, rw', l⟩ := hl j y v' e1 e2 e3
      exact ⟨w, rw', others y w (fun z => hj (nodup_ix hN e1 (by rw [z]; exact hi))) l⟩
  · by_cases hc : c = a
    · subst hc
      rcases ha with ⟨z, _⟩ | ⟨_, _, _, hcell⟩
      · exact absurd z (I.cne y c e)
      · exact ⟨_, hcell⟩
    · obtain ⟨w', z⟩ := I.cell y c e
      exact ⟨w', z.sameBut sb hc⟩
  · obtain ⟨e, n, ne, nf, d⟩ := I.pin p hp
    refine ⟨(sb.2 p.1 fun q => ?_).trans e, n, ne, nf, d⟩
    rcases ha with ⟨z, _⟩ | ⟨_, _, hc, _⟩
    · exact ne (q.trans z)
    · obtain ⟨v0, o0, ho0, hd0⟩ := I.cell x a hc
      rw [q, ho0] at e
      exact d v0 (by rw [← Option.some.inj e]; exact hd0)
  · refine (I.hok b ob e).stay (fun c w' hc q => (sb.2 c ?_).trans q) (fun _ q => q) fun _ _ q => q
    rintro rfl
    rcases hc with rfl | hc
    · rw [hda] at e
      cases e
    · rw [hda] at hc
      cases hc
  · obtain ⟨m, hn, _⟩ := I.loc
    obtain ⟨m', hn', here, _⟩ := look m hn
    exact ⟨m', hn', here⟩
  · obtain ⟨m, hn, l⟩ := h
    obtain ⟨m', hn', _, others⟩ := look m hn
    exact ⟨m', hn', others y w ne l⟩

/-- a name is stored: its own value is known, the others' stay -/
theorem store_raw {M : Model} {A : Around} {E : Value → Shared → Prop} {i : Nat} {x : Str} {v : V} {u : Value} {Q : Unit → Shared → Prop} (I : Inv X pins σ H s) (hN : X.N.Nodup) (hi : X.N[i]? = some x) (hx : Loc X.env.scope x) (r : RelV v u)
    (h : ∀ s', Inv X pins (σ.set i (some v)) H s' → Raw X s' x u → s.toks ≤ s'.toks → (X.env.scope.names.lookup x = some .local → s.toks + 1 ≤ s'.toks) → (∀ y w, y ≠ x → Raw X s y w → Raw X s' y w) → Q () s')
    (hf : X.fn x = true ∨ X.env.scope.names.lookup x = some .local := by first | exact .inl rfl | exact .inr rfl | assumption) : wpAny M A (storeName X.env x u) Q E s := by
  have hcls : (X.env.scope.kind == .class || (X.env.scope.kind == .module && X.env.locals != X.env.globals)) = false := by rw [I.ok.kind]; rfl
  obtain ⟨m, hn, hl⟩ := id I.loc
  rcases hx with hk | hk
  · refine wpAny_storeName_local hk hn (fun h' hn' sb => ?_) hcls
    obtain ⟨J, rw1, rw2⟩ := inv_put (tk := s.toks + 1) I hN hi r sb (.inl ⟨rfl, hk, m, hn, hn'⟩)
    exact h _ J rw1 (Nat.le_succ _) (fun _ => Nat.le_refl _) rw2
  · have hfn : X.fn x = true := by
      rcases hf with z | z
      · exact z
      · rw [z] at hk
        cases hk
    obtain ⟨c, hc⟩ := I.ok.has x (.inl hk)
    obtain ⟨w', z⟩ := I.cell x c hc
    refine wpAny_storeName_cell I.ok.kind hk hc z fun h' hcell sb => ?_
    obtain ⟨J, rw1, rw2⟩ := inv_put (tk := s.toks) I hN hi r sb (.inr ⟨hk, hfn, hc, hcell⟩)
    exact h _ J rw1 (Nat.le_refl _) (fun e => by rw [e] at hk; cases hk) rw2

/-- behind a call the names hold what they held -/
theorem raw_un {s' : Shared} {H' : Hp} {x : Str} {u : Value} (I : Inv X pins σ H s) (un : Un (frs X.stack) [] H H' s.heap s'.heap) (h : Raw X s x u) : Raw X s' x u := by
  obtain ⟨m, hn, l⟩ := h
  obtain ⟨o, es, ep, ho, r⟩ := id hn
  obtain ⟨sl, hL⟩ := un.any ho I.free (by simp)
  refine ⟨m, ⟨_, es, ep, hL, r⟩, ?_⟩
  rcases l with l | ⟨k, c, e, oc, hoc, hd⟩
  · exact .inl l
  · obtain ⟨sl', hc⟩ := un.any hoc (I.freeC x c e) (by simp)
    exact .inr ⟨k, c, e, _, hc, hd⟩
end
end TcG
/-! def first_off(word, letter): return word.replace(letter, "", 1), its arguments' own values known. -/
namespace TcG
open PySem PySem.Spec PyProof.Rows L2
/-- its promise: the letter's token was given out, the letter is there -/
def OffRun (P : Program) (w : World) (K : PySem.W.Frag) (mg : Str → Option Value) (base : Heap) (k : Nat) (f : Addr) : Prop :=
  ∀ (A : Around) (outer : List Env) (s : Shared) (H : Hp) (a : List Nat) (c : Nat) (ta tc : Tok) (Q : VK), Room k A → Env0 P w K mg base A outer s H → tc ≠ 0 → tc < s.toks → c ∈ a → a.length ≤ 1000 → Q (.str (tx (a.erase c))) H →
    codeAny (model P w) A (.call (.ref f) ⟨[.str (tx a) ta, .str (tx [c]) tc], []⟩) (CR CX0 outer P w H s Q E0) s
section
variable {P : Program} {w : World} {K : PySem.W.Frag} {mg : Str → Option Value} {base : Heap}
theorem off_run {st : Stmt} {f : Addr} {fd : FuncData} {k : Nat} {x0 x1 qual : Str} {p1 p2 apos cpos rpos c0 c1 : Pos} {j0 j1 : Nat} (F : Fun K qual qual st f fd) (S : FnScope [x0, x1] [x0, x1] (defScope st))
    (body : defBody st = [.Return (some (.Call (.Attribute (.Name x0 p1) "replace" apos) [.Name x1 p2, .Constant (.str (tx [])) j0 c0, .Constant (.int 1) j1 c1] [] cpos)) rpos])
    (hb : ∀ (kV doc pm : Value) (an : Option Addr) (cdv ct : Value) (us : List Value), us.length = 2 → bindArgs (PySem.W.fnOf qual qual (defArgs st) (defBody st) (defScope st) .none kV doc pm an cdv ct) ⟨us, []⟩ = pure ([x0, x1].zip us))
    (h0 : (defScope st).names.lookup x0 = some .local) (h1 : (defScope st).names.lookup x1 = some .local) (d0 : (x0 == ("__debug__" : Str)) = false) (d1 : (x1 == ("__debug__" : Str)) = false) (e0 : (x0 == ("__classdict__" : Str)) = false) (e1 : (x1 == ("__classdict__" : Str)) = false) (hline : (apos.endLine == cpos.line) = true) :
    OffRun P w K mg base (k + 1) f := by
  intro A outer s H a c ta tc Q hr env0 ht hlt hc small q
  obtain ⟨oc, od, kV, doc, pm, an, cdv, ct, osl, rfl, lk, hcd⟩ := F.ex
  have KX : K.In s.heap := env0.mod.kin.keeps fun b o e => (env0.bs b o e).1
  have lim : s.heap.NoLimit := env0.mod.nolimit.keeps fun b o e => (env0.bs b o e).1
  have hkind : ∀ v ∈ [x0, x1].zip [Value.str (tx a) ta, .str (tx [c]) tc], (defScope st).names.lookup v.1 = some .local ∨ ((defScope st).names.lookup v.1 = some .cell ∧ ((cellsFrom (s.heap.objs.size + 1) (defScope st).names []).lookup v.1).isSome = true) := fun ⟨n, v⟩ hy => by
    have hy := (List.of_mem_zip hy).1
    rcases List.mem_cons.mp hy with rfl | hy
    · exact .inl h0
    · rw [List.mem_singleton.mp hy]
      exact .inl h1
  refine codeAny_call_function hr.depth (KX _ _ lk) rfl S.co S.gen rfl (PySem.W.codeRec_of KX hcd) (BindsTo.of_eq (hb kV doc pm an cdv ct [.str (tx a) ta, .str (tx [c]) tc] rfl) _ _ _ _ ?_)
  refine wpAny_mono (wpAny_toks_of (n := s.toks) (Nat.le_refl _) (wpAny_newFunctionEnv_cells (Q := fun env s1 => env = envOfC qual (defScope st) s.heap.objs.size f cdv ∧
      InCallC s env.locals (bindL env.kindOf ([x0, x1].zip [Value.str (tx a) ta, .str (tx [c]) tc]) fun _ => none) env.cells (bindC env.kindOf ([x0, x1].zip [Value.str (tx a) ta, .str (tx [c]) tc]) fun _ => none) s1) S.kind hkind fun env he s1 xx => ⟨he, xx⟩))
    (fun env s1 hh => ?_) fun _ _ z => z.2
  obtain ⟨grown, he, xx⟩ := hh
  subst he
  refine ⟨lim.keeps xx.toInCall.keep, codeAny_func ?_⟩
  have rv : Vals [V.str (tx a), .str (tx [c])] [Value.str (tx a) ta, .str (tx [c]) tc] := .cons ⟨ta, rfl⟩ (.cons ⟨tc, rfl⟩ .nil)
  have I : Inv (cxOf CX0 P w K mg base [x0, x1] qual (defScope st) f cdv A outer s H E0) [] (start [x0, x1] [.str (tx a), .str (tx [c])]) H s1 := inv_start S hr.hd env0 rfl rv xx
  have nd : [x0, x1].Nodup := S.nd
  have m0 := bindL_get (kindOf := (envOfC qual (defScope st) s.heap.objs.size f cdv).kindOf) (x := x0) (v := Value.str (tx a) ta) (P := [x0, x1]) (vs := [.str (tx a) ta, .str (tx [c]) tc]) (i := 0) (m := fun _ => none) nd rfl rfl h0
  have m1 := bindL_get (kindOf := (envOfC qual (defScope st) s.heap.objs.size f cdv).kindOf) (x := x1) (v := Value.str (tx [c]) tc) (P := [x0, x1]) (vs := [.str (tx a) ta, .str (tx [c]) tc]) (i := 1) (m := fun _ => none) nd rfl rfl h1
  have r0 : Raw (cxOf CX0 P w K mg base [x0, x1] qual (defScope st) f cdv A outer s H E0) s1 x0 (.str (tx a) ta) := ⟨_, xx.toInCall.ns, .inl ⟨h0, m0⟩⟩
  have r1 : Raw (cxOf CX0 P w K mg base [x0, x1] qual (defScope st) f cdv A outer s H E0) s1 x1 (.str (tx [c]) tc) := ⟨_, xx.toInCall.ns, .inl ⟨h1, m1⟩⟩
  have fin : ∀ {σ' : L2.St} {H' : Hp} {v : V} {r : Value} {s' : Shared}, Inv (cxOf CX0 P w K mg base [x0, x1] qual (defScope st) f cdv A outer s H E0) [] σ' H' s' → RelV v r → Q v H' → CE outer P w H s Q r s' :=
    fun {σ' H' v r s'} J rv q => ⟨v, H', J.os, J.bare, J.base, J.hok, rv, q⟩
  rw [body]
  refine wpAny_execs_cons (wpAny_Return_some (wpAny_Call_method_lateS (by rfl) (by rfl) hline (ev_raw (X := cxOf CX0 P w K mg base [x0, x1] qual (defScope st) f cdv A outer s H E0) I r0 ?_ d0 e0)))
  refine ⟨"str", _, PySem.F.plainAttrs_str, PySem.F.slot_str_replace, PySem.F.type_str_replace, typeIs_str _ _ _, (fun _ e => nomatch e), Calls.callWith_builtin rfl (Calls.evalArgs_plain (Calls.spliced_cons ?_))⟩
  refine ev_raw (X := cxOf CX0 P w K mg base [x0, x1] qual (defScope st) f cdv A outer s H E0) I r1 ?_ d1 e1
  refine Calls.spliced_cons (Calls.Constant_str (pos := c0) (k := j0) ?_)
  refine Calls.spliced_cons (wpAny_Constant_int (pos := c1) (k := j1) (Calls.spliced_nil ?_))
  have pos : s.toks ≤ s1.toks := grown
  refine call_rep1 hc small ht (Nat.ne_of_gt (Nat.lt_of_lt_of_le (Nat.lt_of_le_of_lt (Nat.zero_le _) hlt) pos)) (Nat.ne_of_lt (Nat.lt_of_lt_of_le hlt pos)) fun t' k => ?_
  exact fin (v := V.str (tx (a.erase c))) (r := Value.str (tx (a.erase c)) t') (I.tok k) ⟨t', rfl⟩ q
end

section
variable {X : Cx} {pins : List (Addr × Obj)} {σ : L2.St} {H : Hp} {s : Shared}
/-- first_off(a, x) as a step: a in the slot i, x the letter -/
theorem off_at {k i : Nat} {f : Addr} {g y x : Str} {pg py px pos : Pos} {a : List Nat} {c : Nat} {tc : Tok} {Q : VK} (R : OffRun X.prog X.w X.K X.mg X.base k f) (hr : Room k X.A) (hg : Gl X g) (hm : X.mg g = some (.ref f)) (hk : PySem.W.keepIn X.K (.ref f) = true)
    (I : Inv X pins σ H s) (hy : X.N[i]? = some y) (vy : Vis X.env.scope y) (ey : σ[i]? = some (some (.str (tx a)))) (rx : Raw X s x (.str (tx [c]) tc)) (h0 : tc ≠ 0) (hlt : tc < s.toks) (hc : c ∈ a) (small : a.length ≤ 1000) (q : Q (.str (tx (a.erase c))) H)
    (dg : (g == ("__debug__" : Str)) = false := by decide) (dy : (y == ("__debug__" : Str)) = false := by decide) (cy : (y == ("__classdict__" : Str)) = false := by decide) (dx : (x == ("__debug__" : Str)) = false := by decide) (cx : (x == ("__classdict__" : Str)) = false := by decide) :
    wpAny (model X.prog X.w) X.A (eval (.Call (.Name g pg) [.Name y py, .Name x px] [] pos) X.env) (fun u s' => EP X pins σ Q u s' ∧ ∀ z w, Raw X s z w → Raw X s' z w) X.xe s := by
  obtain ⟨uy, ry, rawy⟩ := raw_of I hy vy ey
  obtain ⟨ty, rfl⟩ := ry
  refine wpAny_Call_Name_kw (ld_glob I hg hm ?_ dg)
  refine PySem.W.callWith_K (h₀ := X.base) I.ok.mod.kin hk ?_ (by rfl) (by rfl)
  refine Calls.spliced_cons (ev_raw I rawy (Calls.spliced_cons (ev_raw I rx (Calls.spliced_nil ?_) dx cx)) dy cy)
  refine ⟨I.kIn, ?_⟩
  refine wpAny_call (codeAny_mono (R X.A X.stack s H a c ty tc Q hr I.env0 h0 hlt hc small q) fun r s' hq => ?_)
  cases r with
  | error e => exact False.elim hq
  | ok fl =>
    cases fl with
    | ret u =>
      have hq2 : CE X.stack X.prog X.w H s Q u s' := hq
      have un := hq2
      obtain ⟨v, H', os, bare, un, hok, r, q⟩ := un
      exact ⟨I.after hq2, fun z w h => raw_un I un h⟩
    | next => exact False.elim hq
    | brk => exact False.elim hq
    | cont => exact False.elim hq
end
end TcG
/-! Statements in which a letter's own value is known. -/
namespace TcG
open PySem PySem.Spec PyProof.Rows L2
theorem ip_adds {X : Cx} : PIp X .Add (fun x y H Q => ∃ i j, x = .str i ∧ y = .str j ∧ i.length + j.length ≤ sizeLine ∧ Q (.str (i ++ j)) H) := iop_add_str

/-- a block that begins where x holds a letter of its own -/
def PSsF (X : Cx) (x : Str) (body : List Stmt) (t : TS) : Prop :=
  ∀ (pins : List (Addr × Obj)) (s : Shared) (σ : L2.St) (H : Hp) (D : Ends) (u : Value), 1 ≤ s.toks → Inv X pins σ H s → Raw X s x u → Good s u → t D σ H → wpAny (model X.prog X.w) X.A (execs body X.env) (SP X pins D) X.xe s
/-- a statement that leaves x as it is -/
def PSR (X : Cx) (x : Str) (st : Stmt) (t : TS) : Prop :=
  ∀ (pins : List (Addr × Obj)) (s : Shared) (σ : L2.St) (H : Hp) (D : Ends) (u : Value), 1 ≤ s.toks → Inv X pins σ H s → Raw X s x u → t D σ H → wpAny (model X.prog X.w) X.A (exec st X.env) (fun f s' => SP X pins D f s' ∧ (f = .next → Raw X s' x u)) X.xe s
/-- an expression that leaves all names as they are -/
def PER (X : Cx) (e : Expr) (t : TE) : Prop :=
  ∀ (pins : List (Addr × Obj)) (s : Shared) (σ : L2.St) (H : Hp) (Q : VK), Inv X pins σ H s → t σ H Q → wpAny (model X.prog X.w) X.A (eval e X.env) (fun u s' => EP X pins σ Q u s' ∧ ∀ z w, Raw X s z w → Raw X s' z w) X.xe s
/-- an expression that gives out a text of its own -/
def PEG (X : Cx) (e : Expr) (t : TE) : Prop :=
  ∀ (pins : List (Addr × Obj)) (s : Shared) (σ : L2.St) (H : Hp) (Q : VK), 1 ≤ s.toks → Inv X pins σ H s → t σ H Q → wpAny (model X.prog X.w) X.A (eval e X.env) (fun u s' => EP X pins σ Q u s' ∧ Good s' u) X.xe s
section
variable {X : Cx} {pins : List (Addr × Obj)} {σ : L2.St} {H : Hp} {s : Shared}

/-- the letter's value by its slot -/
theorem raw_slot {i : Nat} {x : Str} {u : Value} {z : Str} (I : Inv X pins σ H s) (hN : X.N[i]? = some x) (hv : Vis X.env.scope x) (e : σ[i]? = some (some (.str z))) (h : Raw X s x u) : ∃ t, u = .str z t := by
  obtain ⟨w, rw, m, hn, l⟩ := raw_of I hN hv e
  obtain ⟨t, rfl⟩ := rw
  obtain ⟨m', hn', l'⟩ := h
  refine ⟨t, ?_⟩
  rcases l with ⟨k, e1⟩ | ⟨k, c, e1, z1⟩
  · rcases l' with ⟨k', e2⟩ | ⟨k', c', e2, z2⟩
    · rw [Heap.Ns.agree hn' hn x, e1] at e2
      exact (Option.some.inj e2).symm
    · rcases k' with k' | k' <;> (rw [k] at k'; cases k')
  · rcases l' with ⟨k', e2⟩ | ⟨k', c', e2, z2⟩
    · rcases k with k | k <;> (rw [k'] at k; cases k)
    · rw [e1] at e2
      cases e2
      obtain ⟨o1, h1, d1⟩ := z1
      obtain ⟨o2, h2, d2⟩ := z2
      rw [h1] at h2
      cases h2
      rw [d1] at d2
      cases d2
      rfl
theorem PSsF.of {x : Str} {body : List Stmt} {t : TS} (h : PSs X body t) : PSsF X x body t := fun pins s σ H D _ _ I _ _ q => h.run pins s σ H D I q
theorem pssf_cons {x : Str} {st : Stmt} {rest : List Stmt} {t u : TS} (h1 : PSR X x st t) (h2 : PSsF X x rest u) : PSsF X x (st :: rest) (tSeq t u) := by
  intro pins s σ H D v t0 I r g h
  refine wpAny_execs_cons (wpAny_mono (PySem.wpAny_toks (h1 pins s σ H { D with nx := u D } v t0 I r h)) (fun f s1 q => ?_) fun _ _ z => z.2)
  obtain ⟨hk, q, rw⟩ := q
  cases f with
  | next =>
    obtain ⟨σ', H', I', q⟩ := q
    exact h2 pins s1 σ' H' D v (Nat.le_trans t0 hk) I' (rw rfl) (g.later hk) q
  | ret v => exact q
  | brk => exact q
  | cont => exact q
/-- y = first_off(a, x) and what follows -/
def tOff (ia ix : Nat) (g : TG) : TS := fun D σ H => ∃ a c, σ[ia]? = some (some (.str (tx a))) ∧ σ[ix]? = some (some (.str (tx [c]))) ∧ c ∈ a ∧ a.length ≤ 1000 ∧ g (.str (tx (a.erase c))) σ H D.nx
theorem pssf_off {k ia ix iy : Nat} {f : Addr} {g a x y : Str} {py pg pa px cpos pos : Pos} {rest : List Stmt} {u : TS} (R : OffRun X.prog X.w X.K X.mg X.base k f) (hr : Room k X.A) (hg : Gl X g) (hm : X.mg g = some (.ref f)) (hk : PySem.W.keepIn X.K (.ref f) = true)
    (hN : X.N.Nodup) (ha : X.N[ia]? = some a) (va : Vis X.env.scope a) (hx : X.N[ix]? = some x) (vx : Vis X.env.scope x) (hy : X.N[iy]? = some y) (ly : Loc X.env.scope y) (h2 : PSs X rest u)
    (hs : swapsWith (.Call (.Name g pg) [.Name a pa, .Name x px] [] cpos) (some (.Name y py)) pos.line X.env = pure false := by rfl) (hf : X.fn y = true ∨ X.env.scope.names.lookup y = some .local := by first | exact .inl rfl | exact .inr rfl | assumption)
    (dg : (g == ("__debug__" : Str)) = false := by decide) (dy : (a == ("__debug__" : Str)) = false := by decide) (cy : (a == ("__classdict__" : Str)) = false := by decide) (dx : (x == ("__debug__" : Str)) = false := by decide) (cx : (x == ("__classdict__" : Str)) = false := by decide) :
    PSsF X x (.Assign [.Name y py] (.Call (.Name g pg) [.Name a pa, .Name x px] [] cpos) pos :: rest) (tSeq (tOff ia ix (gName iy)) u) := by
  intro pins s σ H D v t0 I r gd h
  obtain ⟨al, c, ea, ex, hc, small, q⟩ := h
  obtain ⟨t, rfl⟩ := raw_slot I hx vx ex r
  obtain ⟨z, t', e, n0, lt⟩ := gd
  cases e
  refine wpAny_execs_cons (wpAny_Assign_Name (wpAny_mono (off_at (Q := fun w H' => w = .str (tx (al.erase c)) ∧ H' = H) R hr hg hm hk I ha va ea r n0 lt hc small ⟨rfl, rfl⟩ dg dy cy dx cx) (fun w s1 q1 => ?_) fun _ _ e => e) hs)
  obtain ⟨⟨w, H1, I1, r1, rfl, rfl⟩, _⟩ := q1
  refine store_ok I1 hN hy ly r1 (fun s2 I2 => ?_) hf
  exact h2.run pins s2 _ _ D I2 q
/-- y += x, both texts -/
theorem psr_adds {iy ix : Nat} {y x : Str} {py px pos : Pos} (hN : X.N.Nodup) (hy : X.N[iy]? = some y) (ly : Loc X.env.scope y) (ne : y ≠ x) (he : PE X (.Name x px) (tVar ix)) (hf : X.fn y = true ∨ X.env.scope.names.lookup y = some .local := by first | exact .inl rfl | exact .inr rfl | assumption)
    (dy : (y == ("__debug__" : Str)) = false := by decide) (cy : (y == ("__classdict__" : Str)) = false := by decide) (dx : (x == ("__debug__" : Str)) = false := by decide) (cx : (x == ("__classdict__" : Str)) = false := by decide) (hx : X.N[ix]? = some x) (vx : Vis X.env.scope x) :
    PSR X x (.AugAssign (.Name y py) .Add (.Name x px) pos) (tAug iy (tVar ix) (fun x y H Q => ∃ i j, x = .str i ∧ y = .str j ∧ i.length + j.length ≤ sizeLine ∧ Q (.str (i ++ j)) H)) := by
  intro pins s σ H D v t0 I r h
  obtain ⟨vy, ey, w, ew, i, j, rfl, rfl, fits, q⟩ := h
  obtain ⟨t, rfl⟩ := raw_slot I hx vx ew r
  have vis : Vis X.env.scope y := by
    rcases ly with k | k
    · exact .inl k
    · exact .inr (.inl k)
  obtain ⟨uy, ry, m, hn, l⟩ := raw_of I hy vis ey
  obtain ⟨ty, rfl⟩ := ry
  refine wpAny_AugAssign_Name ?_
  have go : wpAny (model X.prog X.w) X.A (eval (.Name x px) X.env) (fun w s2 => wpAny (model X.prog X.w) X.A (inplaceOp .Add (.str i ty) w) (fun r s3 => wpAny (model X.prog X.w) X.A (storeName X.env y r) (fun _ s' => SP X pins D .next s' ∧ (Flow.next = .next → Raw X s' x (.str j t))) X.xe s3) X.xe s2) X.xe s := by
    refine ev_raw I r ?_ dx cx
    refine iadd_str (fun t' tk => ?_) fits
    exact store_raw (I.tok tk) hN hy ly (v := .str (i ++ j)) ⟨t', rfl⟩ (fun s3 I3 _ _ _ others => ⟨⟨_, H, I3, q⟩, fun _ => others x _ (Ne.symm ne) r⟩) hf
  rcases l with ⟨hk, hm⟩ | ⟨hk, c, hc, hcell⟩
  · exact wpAny_loadName_local I.ok.kind hk hn hm go
  · rcases hk with hk | hk
    · exact wpAny_loadName_cell I.ok.kind hk hc hcell go
    · exact wpAny_loadName_free I.ok.kind hk hc hcell go cy
/-- e[i] of a text: a sign of its own -/
theorem peg_ix {a b : Expr} {ta tb : TE} {pos : Pos} (ha : PE X a ta) (hb : PE X b tb) (hs : PlainIx b) : PEG X (.Subscript a b pos) (tOp rIxS ta tb) := by
  intro pins s σ H Q t0 I h
  refine Subscript_ (wpAny_mono (PySem.wpAny_toks (ha.run pins s σ H _ I h)) (fun v s1 q => ?_) fun _ _ z => z.2)
  obtain ⟨k1, x, H1, I1, r1, q1⟩ := q
  refine wpAny_mono (PySem.wpAny_toks (hb.run pins s1 σ H1 _ I1 q1)) (fun u s2 q => ?_) fun _ _ z => z.2
  obtain ⟨k2, y, H2, I2, r2, q2⟩ := q
  obtain ⟨z, i, c, rfl, rfl, hz, he, q⟩ := q2
  obtain ⟨t, rfl⟩ := r1
  obtain ⟨t', rfl⟩ := r2
  obtain ⟨j, h1, h2, h3, h4, h5⟩ := atI_get he
  have hl : z.cps.toList.length = z.length := by simp [Str.length]
  rw [hl] at h1 h4 h5
  have hn := line63
  have pos2 : 1 ≤ s2.toks := Nat.le_trans t0 (Nat.le_trans k1 k2)
  exact tail_any (typeIs_str s2 z t) slot_str_getitem.lookup (P.getItem_str (c := c) (by
    have e1 : decide (i < -(2 ^ 63 : Int)) = false := decide_eq_false (by omega)
    have e2 : decide (i ≥ 2 ^ 63) = false := decide_eq_false (by omega)
    rw [e1, e2, Bool.or_false]) (by rw [h1]; simpa using h2) ⟨⟨.str ⟨#[c]⟩, H2, I2.tok _, ⟨_, rfl⟩, q⟩, _, _, rfl, Nat.ne_of_gt pos2, Nat.lt_succ_self _⟩) (hs _ _)
/-- x = e, a text of its own, and what follows -/
theorem psst_setF {i : Nat} {x : Str} {e : Expr} {te : TE} {rest : List Stmt} {u : TS} {px pos : Pos} (hN : X.N.Nodup) (hi : X.N[i]? = some x) (hx : Loc X.env.scope x) (he : PEG X e te) (h2 : PSsF X x rest u)
    (hs : swapsWith e (some (.Name x px)) pos.line X.env = pure false := by rfl) (hf : X.fn x = true ∨ X.env.scope.names.lookup x = some .local := by first | exact .inl rfl | exact .inr rfl | assumption) :
    PSsT X (.Assign [.Name x px] e pos :: rest) (tSeq (tAsg te (gName i)) u) := by
  intro pins s σ H D t0 I h
  refine wpAny_execs_cons (wpAny_Assign_Name (wpAny_mono (PySem.wpAny_toks (he pins s σ H _ t0 I h)) (fun v s1 q => ?_) fun _ _ z => z.2) hs)
  obtain ⟨k1, ⟨y, H1, I1, r1, q1⟩, g⟩ := q
  refine store_raw I1 hN hi hx r1 (fun s2 I2 rw k2 _ _ => ?_) hf
  exact h2 pins s2 _ H1 D v (Nat.le_trans t0 (Nat.le_trans k1 k2)) I2 rw (g.later k2) q1
/-- x = e, x a local, and what follows: a token is out -/
theorem pss_setT {i : Nat} {x : Str} {e : Expr} {te : TE} {rest : List Stmt} {u : TS} {px pos : Pos} (hN : X.N.Nodup) (hi : X.N[i]? = some x) (hx : X.env.scope.names.lookup x = some .local) (he : PE X e te) (h2 : PSsT X rest u)
    (hs : swapsWith e (some (.Name x px)) pos.line X.env = pure false := by rfl) : PSs X (.Assign [.Name x px] e pos :: rest) (tSeq (tAsg te (gName i)) u) := by
  refine ⟨fun pins s σ H D I h => ?_⟩
  refine wpAny_execs_cons (wpAny_Assign_Name (thn (he.run pins s σ H _ I h) fun v s1 q => ?_) hs)
  obtain ⟨y, H1, I1, r1, q1⟩ := q
  refine store_raw I1 hN hi (.inl hx) r1 (fun s2 I2 _ _ k2 _ => ?_) (.inr hx)
  exact h2 pins s2 _ H1 D (Nat.le_trans (Nat.succ_le_succ (Nat.zero_le _)) (k2 hx)) I2 q1
theorem psst_set {i : Nat} {x : Str} {e : Expr} {te : TE} {rest : List Stmt} {u : TS} {px pos : Pos} (hN : X.N.Nodup) (hi : X.N[i]? = some x) (hx : Loc X.env.scope x) (he : PE X e te) (h2 : PSsT X rest u)
    (hs : swapsWith e (some (.Name x px)) pos.line X.env = pure false := by rfl) (hf : X.fn x = true ∨ X.env.scope.names.lookup x = some .local := by first | exact .inl rfl | exact .inr rfl | assumption) :
    PSsT X (.Assign [.Name x px] e pos :: rest) (tSeq (tAsg te (gName i)) u) := psst_cons (PST.of (ps_set hN hi hx he hs hf)) h2
end
end TcG
/-! Loops in which a token is out, or a letter's own value is known. -/
namespace TcG
open PySem PySem.Spec PyProof.Rows L2
section
variable {X : Cx}
/-- for x in text: the body begins with the letter's own value known -/
theorem pst_forF {i : Nat} {x : Str} {e : Expr} {body : List Stmt} {te : TE} {tb : TS} {px pos : Pos} (hp : PassesOwn (model X.prog X.w) X.A X.env X.xe) (hc : X.calm = true) (he : PE X e te) (hN : X.N.Nodup) (hi : X.N[i]? = some x) (hx : Loc X.env.scope x) (hb : PSsF X x body tb)
    (hs : ∀ v, foldedSetIterable e X.env v = pure v := by intro _; rfl) (hf : X.fn x = true ∨ X.env.scope.names.lookup x = some .local := by first | exact .inl rfl | exact .inr rfl | assumption) : PST X (.For (.Name x px) e body [] pos) (tFor (iStr te) (gName i) tb) := by
  intro pins s σ H D t0 I h
  refine wpAny_For (wpAny_mono (PySem.wpAny_toks (he.run pins s σ H _ I h)) (fun v s1 q => ?_) fun _ _ z => z.2) hs
  obtain ⟨k1, y, H1, I1, r1, a, rfl, W, ⟨m0, w0⟩, turn⟩ := q
  obtain ⟨t, rfl⟩ := r1
  have t1 : 1 ≤ s1.toks := Nat.le_trans t0 k1
  have main : ∀ ty : String, (ty = "str_ascii_iterator" ∨ ty = "str_iterator") → ∀ (it : Addr) (s2 : Shared), Inv X pins σ H1 s2 → 1 ≤ s2.toks → s2.heap.IsStrIter it ty a t 0 → FpOk X pins H1 it →
      codeAny (model X.prog X.w) X.A (.forLoop (.Name x px) (.ref it) body [] X.env) (fun r s' => match r with | .ok f => SP X pins D f s' | .error e => cameBackBy (model X.prog X.w) X.A X.env X.xe e s') s2 := by
    intro ty hty it s2 I2 t2 st2 f2
    have T := turn_str (P := X.prog) (w := X.w) (K := X.K) (tg := .Name x px) it a t ty hty
    have stat : ∀ {H' : Hp}, H' it = none → ∀ b ∈ [it], FpOk X pins H' b := fun hn b hb => by
      rw [List.mem_singleton.mp hb]
      exact ⟨hn, f2.2⟩
    have hno : ["enumerate", "zip", "dict_itemiterator", "dict_reverseitemiterator", "odict_iterator", "itertools.zip_longest", "itertools.pairwise"].contains ty = false := by
      rcases hty with e | e
      · rw [e]; decide
      · rw [e]; decide
    refine codeAny_forLoop_any (fun n s' => ∃ j σ' H', 1 ≤ s'.toks ∧ Inv X pins σ' H' s' ∧ s'.heap.IsStrIter it ty a t j ∧ H' it = none ∧ W j n σ' H') ?_ m0 ⟨0, σ, H1, t2, I2, st2, f2.1, w0⟩
    rintro n s3 ⟨j, σ3, H3, t3, I3, st3, fr3, w3⟩
    rcases turn j n σ3 H3 w3 with ⟨stop, qn⟩ | ⟨go, Nx, hNx, step⟩
    · refine wpAny_passesOwn hp (thn (T.done X rfl rfl rfl hc j pins s3 σ3 H3 X.xe I3 (stat fr3) st3 stop) fun r s4 ⟨hr, I4⟩ => ?_)
      subst hr
      exact wpAny_execs_nil ⟨σ3, H3, I4, qn⟩
    · have hlt : j < a.cps.size := go
      have item : ∀ (Q : Option Value → Shared → Prop), (∀ h', h'.IsStrIter it ty a t (j + 1) → Heap.SameBut it s3.heap h' → Q (some (.str ⟨#[a.cps[j]]⟩ s3.toks)) { s3 with heap := h', toks := s3.toks + 1 }) → wpAny (model X.prog X.w) X.A (pyNext (.ref it)) Q X.xe s3 := by
        intro Q hQ
        rcases hty with rfl | rfl
        · exact wpAny_pyNext_ascii_item st3 (by simp [hlt]) hQ
        · exact wpAny_pyNext_wide_item st3 (by simp [hlt]) hQ
      refine wpAny_passesOwn hp (item _ fun h' st4 sb => ?_)
      obtain ⟨f0, f1, f3, f4, f5, f6⟩ := stat fr3 it List.mem_cons_self
      have I4 : Inv X pins σ3 H3 { s3 with heap := h', toks := s3.toks + 1 } := I3.turned (fun b o hb e => (sb.2 b hb).trans e) fr3 f1 f4 f5 f6
      obtain ⟨oi, eo, cc, dd⟩ := id st4
      refine go_of (s := { s3 with heap := h', toks := s3.toks + 1 }) eo cc dd hno ?_
      have I5 := I4.pinned (fp := [it]) (stat fr3) (fun b hb => by
        rw [List.mem_singleton.mp hb]
        exact ⟨oi, eo, fun v z => by rw [dd] at z; cases z⟩)
      have y5 : (Its a).yld j H3 (.str ⟨#[a.cps[j]]⟩) H3 := ⟨rfl, a.cps[j], by simp [hlt], rfl⟩
      refine wpAny_passesOwn hp (wpAny_assign_Name (store_raw (v := .str ⟨#[a.cps[j]]⟩) I5 hN hi hx ⟨_, rfl⟩ (fun s6 I6 rw6 k6 _ _ => ?_) hf))
      have gd : Good s6 (.str ⟨#[a.cps[j]]⟩ s3.toks) := ⟨_, _, rfl, Nat.ne_of_gt t3, Nat.lt_of_lt_of_le (Nat.lt_succ_self _) k6⟩
      have t6 : 1 ≤ s6.toks := Nat.le_trans t3 (Nat.le_trans (Nat.le_succ _) k6)
      refine wpAny_passesOwn hp (wpAny_mono (PySem.wpAny_toks (hb _ s6 _ H3 _ _ t6 I6 rw6 gd (step _ H3 y5))) (fun f s7 q7 => ?_) fun _ _ z => z.2)
      obtain ⟨k7, q7⟩ := q7
      have again : ∀ {σ7 : L2.St} {H7 : Hp}, Inv X (pins ++ pinsAt [it] h') σ7 H7 s7 → Nx σ7 H7 → ∃ m, m < n ∧ ∃ j σ' H', 1 ≤ s7.toks ∧ Inv X pins σ' H' s7 ∧ s7.heap.IsStrIter it ty a t j ∧ H' it = none ∧ W j m σ' H' := fun {σ7 H7} I7 n7 => by
        obtain ⟨m', hm, w7⟩ := hNx σ7 H7 n7
        have pin := I7.pin (it, oi) (List.mem_append_right _ (List.mem_append_right _ (mem_pinsAt List.mem_cons_self eo)))
        exact ⟨m', hm, j + 1, σ7, H7, Nat.le_trans t6 k7, I7.unpinned, ⟨oi, pin.1, cc, dd⟩, pin.2.1, w7⟩
      cases f with
      | next => obtain ⟨σ7, H7, I7, n7⟩ := q7; exact again I7 n7
      | cont => obtain ⟨σ7, H7, I7, n7⟩ := q7; exact again I7 n7
      | brk => obtain ⟨σ7, H7, I7, q7⟩ := q7; exact ⟨σ7, H7, I7.unpinned, q7⟩
      | ret v => obtain ⟨x7, σ7, H7, I7, r7, q7⟩ := q7; exact ⟨x7, σ7, H7, I7.unpinned, r7, q7⟩
  have new : ∀ o : Obj, FpOk X pins H1 s1.heap.objs.size := fun _ => I1.fpOk (Nat.le_refl _) (I1.hok.fresh (Nat.le_refl _))
  cases ha : a.cps.all (· < 128)
  · exact wpAny_pyIter_wide ha (main _ (.inr rfl) _ _ (I1.kept (t' := s1.toks) fun b o e => Heap.get?_push_of_some _ e) t1 ⟨_, Heap.get?_push_size _ rfl, rfl, rfl⟩ (new default))
  · exact wpAny_pyIter_ascii ha (main _ (.inl rfl) _ _ (I1.kept (t' := s1.toks) fun b o e => Heap.get?_push_of_some _ e) t1 ⟨_, Heap.get?_push_size _ rfl, rfl, rfl⟩ (new default))

/-- for, a token out: also in the body -/
theorem pst_forT {tg iter : Expr} {body : List Stmt} {wi : TI} {g : TG} {tb : TS} {pos : Pos} (hp : PassesOwn (model X.prog X.w) X.A X.env X.xe) (hc : X.calm = true) (hi : PI X tg iter wi) (hg : PG X tg g) (hb : PSsT X body tb)
    (hs : ∀ x, foldedSetIterable iter X.env x = pure x := by intro _; rfl) : PST X (.For tg iter body [] pos) (tFor wi g tb) := by
  intro pins s σ H D t0 I h
  refine wpAny_For (wpAny_mono (PySem.wpAny_toks (hi.run pins s σ H _ I h)) (fun v s1 q1 => ?_) fun _ _ z => z.2) hs
  obtain ⟨k1, q1⟩ := q1
  refine wpAny_mono (PySem.wpAny_toks q1) (fun itv s2 q2 => ?_) fun _ _ z => z.2
  obtain ⟨k2, it, fp, tn, J, H2, rfl, I2, T, st2, f2, W, ⟨m0, w0⟩, turn⟩ := q2
  have stat : ∀ {H' : Hp}, (∀ b ∈ fp, H' b = none) → ∀ b ∈ fp, FpOk X pins H' b := fun hn b hb => ⟨hn b hb, (f2 b hb).2⟩
  refine codeAny_forLoop_any (fun n s' => ∃ i σ' H', 1 ≤ s'.toks ∧ Inv X pins σ' H' s' ∧ tn i s'.heap ∧ (∀ b ∈ fp, H' b = none) ∧ W i n σ' H') ?_ m0 ⟨0, σ, H2, Nat.le_trans t0 (Nat.le_trans k1 k2), I2, st2, fun b hb => (f2 b hb).1, w0⟩
  rintro n s3 ⟨i, σ3, H3, t3, I3, st3, fr3, w3⟩
  rcases turn i n σ3 H3 w3 with ⟨stop, qn⟩ | ⟨go, N, hN, step⟩
  · refine wpAny_passesOwn hp (thn (T.done X rfl rfl rfl hc i pins s3 σ3 H3 X.xe I3 (stat fr3) st3 stop) fun r s4 ⟨hr, I4⟩ => ?_)
    subst hr
    exact wpAny_execs_nil ⟨σ3, H3, I4, qn⟩
  · refine wpAny_passesOwn hp (wpAny_mono (PySem.wpAny_toks (T.item X rfl rfl rfl hc i pins s3 σ3 H3 X.xe I3 (stat fr3) st3 go)) (fun r s4 q4 => ?_) fun _ _ z => z.2)
    obtain ⟨k4, u, hr, h4⟩ := q4
    subst hr
    refine wpAny_passesOwn hp (wpAny_mono (PySem.wpAny_toks h4) (fun _ s5 q5 => ?_) fun _ _ z => z.2)
    obtain ⟨k5, x, H5, I5, r5, y5, st5, fr5⟩ := q5
    have I5' := I5.pinned (stat fr5) (T.obj _ _ st5)
    refine wpAny_passesOwn hp (wpAny_mono (PySem.wpAny_toks (hg.run _ s5 σ3 H5 x u _ I5' r5 (step x H5 y5))) (fun _ s6 q6 => ?_) fun _ _ z => z.2)
    obtain ⟨k6, σ6, H6, I6, q6⟩ := q6
    have t6 : 1 ≤ s6.toks := Nat.le_trans t3 (Nat.le_trans k4 (Nat.le_trans k5 k6))
    refine wpAny_passesOwn hp (wpAny_mono (PySem.wpAny_toks (hb _ s6 σ6 H6 _ t6 I6 q6)) (fun f s7 q7 => ?_) fun _ _ z => z.2)
    obtain ⟨k7, q7⟩ := q7
    have again : ∀ {σ7 : L2.St} {H7 : Hp}, Inv X (pins ++ pinsAt fp s5.heap) σ7 H7 s7 → N σ7 H7 → ∃ m, m < n ∧ ∃ i σ' H', 1 ≤ s7.toks ∧ Inv X pins σ' H' s7 ∧ tn i s7.heap ∧ (∀ b ∈ fp, H' b = none) ∧ W i m σ' H' := fun {σ7 H7} I7 n7 => by
      obtain ⟨m', hm, w7⟩ := hN σ7 H7 n7
      refine ⟨m', hm, i + 1, σ7, H7, Nat.le_trans t6 k7, I7.unpinned, T.keep _ _ _ st5 fun b hb o e => (I7.pin (b, o) (List.mem_append_right _ (List.mem_append_right _ (mem_pinsAt hb e)))).1, fun b hb => ?_, w7⟩
      obtain ⟨o, e, d⟩ := T.obj _ _ st5 b hb
      exact (I7.pin (b, o) (List.mem_append_right _ (List.mem_append_right _ (mem_pinsAt hb e)))).2.1
    cases f with
    | next => obtain ⟨σ7, H7, I7, n7⟩ := q7; exact again I7 n7
    | cont => obtain ⟨σ7, H7, I7, n7⟩ := q7; exact again I7 n7
    | brk => obtain ⟨σ7, H7, I7, q7⟩ := q7; exact ⟨σ7, H7, I7.unpinned, q7⟩
    | ret v => obtain ⟨x7, σ7, H7, I7, r7, q7⟩ := q7; exact ⟨x7, σ7, H7, I7.unpinned, r7, q7⟩

/-- while, a token out: also in the body -/
theorem pst_whileT {c : Expr} {body : List Stmt} {tc : TT} {tb : TS} {pos : Pos} (hp : PassesOwn (model X.prog X.w) X.A X.env X.xe) (hc : PT X c tc) (hb : PSsT X body tb) : PST X (.While c body [] pos) (tWhile tc tb) := by
  intro pins s σ H D t0 I h
  obtain ⟨W, ⟨m0, w0⟩, turn⟩ := h
  refine wpAny_While (codeAny_whileLoop (fun n s' => ∃ σ' H', 1 ≤ s'.toks ∧ Inv X pins σ' H' s' ∧ W n σ' H') ?_ m0 ⟨σ, H, t0, I, w0⟩)
  rintro n s1 ⟨σ1, H1, t1, I1, w1⟩
  refine wpAny_passesOwn hp (wpAny_mono (PySem.wpAny_toks (hc.run pins s1 σ1 H1 _ I1 (turn n σ1 H1 w1))) (fun b s2 q2 => ?_) fun _ _ z => z.2)
  obtain ⟨k2, H2, I2, q2⟩ := q2
  cases b with
  | true =>
    obtain ⟨N, hN, q2⟩ := q2
    rw [if_pos rfl]
    refine wpAny_passesOwn hp (wpAny_mono (PySem.wpAny_toks (hb pins s2 σ1 H2 _ (Nat.le_trans t1 k2) I2 q2)) (fun f s3 q3 => ?_) fun _ _ z => z.2)
    obtain ⟨k3, q3⟩ := q3
    have t3 := Nat.le_trans t1 (Nat.le_trans k2 k3)
    cases f with
    | next =>
      obtain ⟨σ3, H3, I3, n3⟩ := q3
      obtain ⟨m', hm, w3⟩ := hN σ3 H3 n3
      exact ⟨m', hm, σ3, H3, t3, I3, w3⟩
    | cont =>
      obtain ⟨σ3, H3, I3, n3⟩ := q3
      obtain ⟨m', hm, w3⟩ := hN σ3 H3 n3
      exact ⟨m', hm, σ3, H3, t3, I3, w3⟩
    | brk => exact q3
    | ret v => exact q3
  | false =>
    rw [if_neg Bool.false_ne_true]
    exact wpAny_execs_nil ⟨σ1, H2, I2, q2⟩
end
end TcG
/-! A comprehension whose walked thing is told as a step. -/
namespace TcG
open PySem PySem.Spec PyProof.Rows L2
section
variable {X : Cx}
/-- n items; W holds ahead of the i-th, the new list stands at D -/
def LcN (g : TG) (te : TE) (vs : List Nat) (σ : L2.St) (Q : VK) (J : It) (H1 : Hp) : Prop := ∀ D, H1 D = none → ∃ (n : Nat) (W : Nat → Hp → Prop), W 0 (upd H1 D (.lst [])) ∧ (∀ i H, i < n → W i H → J.go i H) ∧ (∀ H, W n H → J.stop n H ∧ Q (.ref D) H) ∧
  ∀ i H x H', i < n → W i H → J.yld i H x H' → g x (wipe σ vs) H' fun σ2 H2 => wipe σ2 vs = wipe σ vs ∧ te σ2 H2 fun y H4 => ∃ acc, H4 D = some (.lst acc) ∧ acc.length < sizeLine ∧ W (i + 1) (upd H4 D (.lst (acc ++ [y])))
theorem lc_at {pins : List (Addr × Obj)} {s : Shared} {σ : L2.St} {H : Hp} {Q : VK} {elt tg iter : Expr} {scope : Scope} {own : List (Str × Nat)} {pos : Pos} {g : TG} {te : TE} (calm : X.calm = true) (hN : X.N.Nodup) (I : Inv X pins σ H s) (ok : BlkOk X.N X.env.scope scope own)
    (hg : ∀ (s : Shared) (H : Hp) (C : Addr) (cl : List (Str × Addr)) (fp : List Addr), PG (X.blk s H scope (compEnvC scope cl C X.env) fp) tg g)
    (he : ∀ (s : Shared) (H : Hp) (C : Addr) (cl : List (Str × Addr)) (fp : List Addr), PE (X.blk s H scope (compEnvC scope cl C X.env) fp) elt te)
    (first : wpAny (model X.prog X.w) X.A (eval iter X.env) (fun v s1 => wpAny (model X.prog X.w) X.A (pyIter v) (PIE X pins σ tg (LcN g te (own.map (·.2)) σ Q)) X.xe s1) X.xe s) (fold : ∀ x, foldedSetIterable iter X.env x = pure x := by intro _; rfl) :
    wpAny (model X.prog X.w) X.A (eval (.ListComp elt [⟨tg, iter, [], 0⟩] scope pos) X.env) (EP X pins σ Q) X.xe s := by
  rw [eval_ListComp]
  have caught : ∀ y ∈ scope.names, y.2 = .free → ∃ c, X.env.cells.lookup y.1 = some c := fun y hy e => (ok.free y hy e).elim (fun k => I.ok.has _ (.inl k)) fun k => I.ok.has _ (.inr k)
  refine wpAny_comprehension_free (use := none) rfl fold (closure_ok caught) ok.kind (fun y hy e => by rw [ok.uniq y hy, e]) (thn first fun xv s1 h1 => thn h1 fun itv s2 h2 => ?_)
  obtain ⟨it, fp, tn, J, H2, rfl, I2, T, st2, f2, todo⟩ := h2
  refine wpAny_newObj_type (newEnv_comp ?_) (by show 0 ≤ sizeLine; decide)
  -- the new list at D, the block's own frame at C
  have newD : H2 s2.heap.objs.size = none := I2.hok.fresh (Nat.le_refl _)
  obtain ⟨n, W, w0, go, stop, turn⟩ := todo _ newD
  generalize hD : s2.heap.objs.size = D at newD w0 stop turn ⊢
  have keep3 : ∀ b o, s2.heap.get? b = some o → (s2.heap.push { cls := .type "list", data := .seq ([] : List Value).toArray }).get? b = some o := fun b o e => Heap.get?_push_of_some _ e
  have get3 : (s2.heap.push { cls := .type "list", data := .seq ([] : List Value).toArray }).get? D = some { cls := .type "list", data := .seq ([] : List Value).toArray } := by
    rw [← hD]
    exact Heap.get?_push_size _ rfl
  have size3 : (s2.heap.push { cls := .type "list", data := .seq ([] : List Value).toArray }).objs.size = s2.heap.objs.size + 1 := Heap.size_push ..
  generalize hs3 : ({ s2 with heap := s2.heap.push { cls := .type "list", data := .seq ([] : List Value).toArray } } : Shared) = s3
  have heap3 : s3.heap = s2.heap.push { cls := .type "list", data := .seq ([] : List Value).toArray } := by rw [← hs3]
  have I3 : Inv X pins σ (upd H2 D (.lst [])) s3 := by
    rw [← hs3]
    exact I2.laid (t' := s2.toks) keep3 (Nat.le_of_eq hD) ⟨Nat.zero_le _, [], 0, .nil, get3⟩
  have f3 : ∀ b ∈ fp, FpOk X pins (upd H2 D (.lst [])) b ∧ b < s3.heap.objs.size := fun b hb => by
    obtain ⟨o, e, _⟩ := T.obj _ _ st2 b hb
    have lt := Heap.lt_size e
    refine ⟨⟨?_, (f2 b hb).2⟩, by rw [heap3, size3]; exact Nat.lt_succ_of_lt lt⟩
    rw [upd_ne (by rw [← hD]; exact Nat.ne_of_lt lt)]
    exact (f2 b hb).1
  have I4 := block_start I3 ok hN f3
  have pg := hg s3 (upd H2 D (.lst [])) s3.heap.objs.size (cellsFrom (s3.heap.objs.size + 1) scope.names (cloFrom X.env.cells scope.names [])) fp
  have pe := he s3 (upd H2 D (.lst [])) s3.heap.objs.size (cellsFrom (s3.heap.objs.size + 1) scope.names (cloFrom X.env.cells scope.names [])) fp
  show codeAny _ _ (.compStart (.ListComp elt [⟨tg, iter, [], 0⟩] scope pos) 0 (.ref it) (.ref D) (compEnvC scope (cellsFrom (s3.heap.objs.size + 1) scope.names (cloFrom X.env.cells scope.names [])) s3.heap.objs.size X.env)) (compPost (model X.prog X.w) X.A X.xe none (EP X pins σ Q) (.ref D) s3.heap.objs.size)
    { s3 with heap := pushCells (s3.heap.push { cls := .type "dict", data := .dict #[] }) scope.names }
  generalize hce : compEnvC scope (cellsFrom (s3.heap.objs.size + 1) scope.names (cloFrom X.env.cells scope.names [])) s3.heap.objs.size X.env = ce at I4 pg pe ⊢
  have atC : ce.locals = s3.heap.objs.size := by rw [← hce]; rfl
  generalize hH3 : upd H2 D (.lst []) = H3 at I3 I4 pg pe w0 f3
  generalize hs4 : ({ s3 with heap := pushCells (s3.heap.push { cls := .type "dict", data := .dict #[] }) scope.names } : Shared) = s4 at I4 ⊢
  have st4 : tn 0 s4.heap := T.keep _ _ _ st2 fun b _ o e => by
    rw [← hs4]
    exact pushCells_keeps _ _ _ _ (Heap.get?_push_of_some _ (by rw [heap3]; exact keep3 b o e))
  have fB : ∀ {σ' : L2.St} {H' : Hp} {s' : Shared}, Inv (X.blk s3 H3 scope ce fp) [] σ' H' s' → (∀ b ∈ fp, H' b = none) → ∀ b ∈ fp, FpOk (X.blk s3 H3 scope ce fp) [] H' b := fun {σ' H' s'} J hn b hb =>
    ⟨hn b hb, (J.ok.exf b hb).1, J.ok.exfs b hb, .inl hb, fun x c e => (J.ok.exf b hb).2 x c e, fun p hp => absurd (show p ∈ ([] : List (Addr × Obj)) ++ [] from hp) (by simp)⟩
  have loop : codeAny (model X.prog X.w) X.A (.compLoop (.ListComp elt [⟨tg, iter, [], 0⟩] scope pos) 0 (.ref it) (.ref D) ce) (compPost (model X.prog X.w) X.A X.xe none (EP X pins σ Q) (.ref D) s3.heap.objs.size) s4 := by
    refine compLoop_any (fun m s' => ∃ i H', m = n - i ∧ i ≤ n ∧ Inv (X.blk s3 H3 scope ce fp) [] (wipe σ (own.map (·.2))) H' s' ∧ tn i s'.heap ∧ (∀ b ∈ fp, H' b = none) ∧ W i H') ?_ n ⟨0, H3, by simp, Nat.zero_le _, I4, st4, fun b hb => (f3 b hb).1.1, w0⟩
    rintro m s5 ⟨i, H5, rfl, hi, I5, st5, n5, w5⟩
    by_cases lt : i < n
    · refine thnF (T.item (X.blk s3 H3 scope ce fp) rfl rfl rfl calm i [] s5 _ H5 (fun _ _ => False) I5 (fB I5 n5) st5 (go i H5 lt w5)) fun r s6 ⟨u, hr, h6⟩ => ?_
      subst hr
      refine thnF h6 fun _ s7 ⟨x, H7, I7, r7, y7, st7, n7⟩ => ?_
      refine thnF (pg.run _ s7 _ H7 x u _ (I7.pinned (fB I7 n7) (T.obj _ _ st7)) r7 (turn i H5 x H7 lt w5 y7)) fun _ s8 ⟨σ8, H8, I8, same8, q8⟩ => ?_
      simp only [List.forIn_nil]
      refine wpAny_pure ?_
      simp only [if_true]
      refine thnF (pe.run _ s8 σ8 H8 _ I8 q8) fun z s10 ⟨yv, H10, I10, r10, acc, hD10, room10, w10⟩ => ?_
      refine app_ok (X := X.blk s3 H3 scope ce fp) I10 hD10 room10 r10 fun s11 I11 => ?_
      have pinned : ∀ b ∈ fp, ∀ o, s7.heap.get? b = some o → s11.heap.get? b = some o ∧ upd H10 D (.lst (acc ++ [yv])) b = none := fun b hb o e =>
        let z := I11.pin (b, o) (List.mem_append_right _ (List.mem_append_right _ (mem_pinsAt hb e)))
        ⟨z.1, z.2.1⟩
      have wl : (wipe σ (own.map (·.2))).length = σ8.length := by rw [← same8, wipe_length]
      refine ⟨n - (i + 1), by omega, i + 1, _, rfl, lt, (I11.unpinned (pins := [])).weak wl (fun j v e => ?_), T.keep _ _ _ st7 fun b hb o e => (pinned b hb o e).1, fun b hb => ?_, w10⟩
      · rw [← same8] at e
        exact (wipe_some e).1
      · obtain ⟨o, e, _⟩ := T.obj _ _ st7 b hb
        exact (pinned b hb o e).2
    · have ei : i = n := by omega
      subst ei
      obtain ⟨js, q⟩ := stop H5 w5
      refine thnF (T.done (X.blk s3 H3 scope ce fp) rfl rfl rfl calm i [] s5 _ H5 (fun _ _ => False) I5 (fB I5 n5) st5 js) fun r s6 ⟨hr, I6⟩ => ?_
      subst hr
      have I7 : Inv X pins σ H5 s6 := I3.call' (ch := fp) I6.os I6.base I6.hok I6.bare fun b hb => ⟨(f3 b hb).1.2.2.2.1, (f3 b hb).1.2.1, (f3 b hb).1.2.2.2.2.1, (f3 b hb).1.2.2.2.2.2⟩
      have nC : H5 s3.heap.objs.size = none := by
        have z : H5 ce.locals = none := I6.free
        rw [atC] at z
        exact z
      obtain ⟨m, hn, _⟩ := I6.loc
      have hn : s6.heap.Ns ce.locals m := hn
      rw [atC] at hn
      refine ⟨m, hn, fun h'' sb => ?_⟩
      obtain ⟨c0, c1, c2, c3, c4, c5⟩ := I3.fpOk (b := s3.heap.objs.size) (Nat.le_refl _) nC
      exact ⟨.ref D, H5, I7.turned (t' := s6.toks) (fun b o hb e => (sb.2 b hb).trans e) c0 c1 c3 c4 c5, rfl, q⟩
  exact codeAny_compStart_list loop (T.self X.A 0 _ _ _ st4 loop)
end
end TcG
/-! found.extend([elt for t in e[first_off(a, x)]]), x a letter of its own. -/
namespace TcG
open PySem PySem.Spec PyProof.Rows L2
section
variable {X : Cx}
def tExt (K : PySem.W.Frag) (ia ix ie iF : Nat) (g : TG) (te : TE) (vs : List Nat) : TS := fun D σ H => ∃ (a : List Nat) (c : Nat) (ed l fd : Addr), σ[ia]? = some (some (.str (tx a))) ∧ σ[ix]? = some (some (.str (tx [c]))) ∧ c ∈ a ∧ a.length ≤ 1000 ∧ σ[ie]? = some (some (.ref ed)) ∧ DGet H ed (.str (tx (a.erase c))) (some (.ref l)) ∧
  σ[iF]? = some (some (.ref fd)) ∧ (∃ xs, SqL K H fd xs) ∧ (∃ zs, SqL K H l zs) ∧
  LcN g te vs σ (fun y H2 => ∃ d xs zs, y = .ref d ∧ H2 fd = some (.lst xs) ∧ H2 d = some (.lst zs) ∧ xs.length + zs.length ≤ sizeLine ∧ D.nx σ (upd H2 fd (.lst (xs ++ zs)))) (Itl K l) H
theorem pssf_ext {k ia ix ie iF : Nat} {f : Addr} {fn a x e fo : Str} {px pg pa py pe ps apos cpos ipos pos lpos : Pos} {elt tg : Expr} {scope : Scope} {own : List (Str × Nat)} {g : TG} {te : TE} {rest : List Stmt} {u : TS}
    (calm : X.calm = true) (hu : X.A.units + 1 < cLine) (R : OffRun X.prog X.w X.K X.mg X.base k f) (hr : Room k X.A) (hg : Gl X fn) (hm : X.mg fn = some (.ref f)) (hk : PySem.W.keepIn X.K (.ref f) = true) (hN : X.N.Nodup) (ok : BlkOk X.N X.env.scope scope own)
    (pgen : ∀ (s : Shared) (H : Hp) (C : Addr) (cl : List (Str × Addr)) (fp : List Addr), PG (X.blk s H scope (compEnvC scope cl C X.env) fp) tg g)
    (pelt : ∀ (s : Shared) (H : Hp) (C : Addr) (cl : List (Str × Addr)) (fp : List Addr), PE (X.blk s H scope (compEnvC scope cl C X.env) fp) elt te)
    (ha : X.N[ia]? = some a) (va : Vis X.env.scope a) (hx : X.N[ix]? = some x) (vx : Vis X.env.scope x) (he : X.N[ie]? = some e) (ve : Vis X.env.scope e) (hF : X.N[iF]? = some fo) (vF : Vis X.env.scope fo) (h2 : PSs X rest u)
    (hs : swapsWith (.Call (.Attribute (.Name fo py) "extend" apos) [.ListComp elt [⟨tg, .Subscript (.Name e pe) (.Call (.Name fn pg) [.Name a pa, .Name x px] [] ipos) ps, [], 0⟩] scope lpos] [] cpos) none pos.line X.env = pure false := by rfl)
    (hbase : attributeBase (.Name fo py) "extend" X.env (eval (.Name fo py) X.env) = eval (.Name fo py) X.env := by rfl) (hline : (apos.endLine == cpos.line) = true := by rfl)
    (dg : (fn == ("__debug__" : Str)) = false := by decide) (dy : (a == ("__debug__" : Str)) = false := by decide) (cy : (a == ("__classdict__" : Str)) = false := by decide) (dx : (x == ("__debug__" : Str)) = false := by decide) (cx : (x == ("__classdict__" : Str)) = false := by decide)
    (de : (e == ("__debug__" : Str)) = false := by decide) (ce : (e == ("__classdict__" : Str)) = false := by decide) (dF : (fo == ("__debug__" : Str)) = false := by decide) (cF : (fo == ("__classdict__" : Str)) = false := by decide) :
    PSsF X x (.Expr (.Call (.Attribute (.Name fo py) "extend" apos) [.ListComp elt [⟨tg, .Subscript (.Name e pe) (.Call (.Name fn pg) [.Name a pa, .Name x px] [] ipos) ps, [], 0⟩] scope lpos] [] cpos) pos :: rest) (tSeq (tExt X.K ia ix ie iF g te (own.map (·.2))) u) := by
  intro pins s σ H D v t0 I r gd h
  obtain ⟨al, c, ed, l, fd, ea, ex, hc, small, ee, hget, ef, lf, ⟨zs0, lz⟩, q⟩ := h
  obtain ⟨t, rfl⟩ := raw_slot I hx vx ex r
  obtain ⟨z, t', e0, n0, lt⟩ := gd
  cases e0
  obtain ⟨uF, rF, rawF⟩ := raw_of I hF vF ef
  obtain rfl : uF = Value.ref fd := rF
  obtain ⟨uE, rE, rawE⟩ := raw_of I he ve ee
  obtain rfl : uE = Value.ref ed := rE
  refine wpAny_execs_cons (wpAny_Expr_any (wpAny_Call_method_late hbase (by rfl) hline rfl (ev_raw I rawF ?_ dF cF)) I.quiet hs)
  obtain ⟨h1, h3⟩ := tyV_is (T := "list") I (show RelV (.ref fd) (Value.ref fd) from rfl) (.inl ⟨rfl, lf⟩)
  refine ⟨"list", "list.extend", PySem.F.plainAttrs_list, PySem.F.slot_list_extend, PySem.F.type_list_extend, h1, h3, Calls.callWith_builtin rfl (Calls.evalArgs_plain (Calls.spliced_cons ?_))⟩
  refine thn (lc_at (Q := fun y H2 => ∃ d xs zs, y = .ref d ∧ H2 fd = some (.lst xs) ∧ H2 d = some (.lst zs) ∧ xs.length + zs.length ≤ sizeLine ∧ u D σ (upd H2 fd (.lst (xs ++ zs)))) calm hN I ok pgen pelt ?_) fun yv s1 ⟨y, H1, I1, r1, d, xs, zs, ey, hf, hd, hz, q1⟩ => ?_
  · refine subD_of PySem.F.slot_dict_getitem.lookup (fun _ _ => rfl) (ev_raw I rawE ?_ de ce)
    refine thn (off_at (Q := fun w H' => w = .str (tx (al.erase c)) ∧ H' = H) R hr hg hm hk I ha va ea r n0 lt hc small ⟨rfl, rfl⟩ dg dy cy dx cx) fun iv s2 hq => ?_
    obtain ⟨⟨y, H2, I2, r2, rfl, rfl⟩, _⟩ := hq
    refine ⟨dict_typeIs I2 hget, d_getItem hu I2 hget r2 fun w' s3 I3 rw' => ?_⟩
    obtain rfl : w' = Value.ref l := rw'
    obtain ⟨its, rv, p, hz⟩ := I3.list lz
    refine wpAny_pyIter_list p.isList ?_
    refine ⟨s3.heap.objs.size, [s3.heap.objs.size], _, _, H2, rfl, I3.kept (t' := s3.toks) fun b o e => Heap.get?_push_of_some _ e, turn_list l _, ⟨_, Heap.get?_push_size _ rfl, rfl, rfl⟩, fun b hb => ?_, q⟩
    have e : b = s3.heap.objs.size := by simpa using hb
    subst e
    exact I3.fpOk (Nat.le_refl _) (I3.hok.fresh (Nat.le_refl _))
  · subst ey
    refine Calls.spliced_nil (thn (mt_extend (X := X) pins s1 σ H1 (.ref fd) [.ref d] (.ref fd) [yv] (fun _ H3 => u D σ H3) I1 rfl (.cons r1 .nil) ⟨fd, d, xs, zs, rfl, rfl, hf, hd, hz, q1⟩) fun rv s3 ⟨_, H3, I3, _, q3⟩ => ?_)
    exact h2.run pins s3 σ H3 D I3 q3
end
end TcG
/-! What can be left of a word, with the numbers of orders; a loop over a locked dict, a token out. -/
namespace TcG
open PySem PySem.Spec PyProof.Rows L2
theorem pst_lock {X : Cx} {st : Stmt} {t : TS} (h : PST X st t) : PST X st (tLock t) := by
  intro pins s σ H D t0 I hw
  obtain ⟨d, u, hd, mu, hw⟩ := hw
  obtain ⟨od, I1⟩ := I.lock hd mu
  refine thn (h pins s σ _ _ t0 I1 (hw od)) fun f s1 q => ?_
  cases f with
  | next => obtain ⟨σ', H', I2, e, q⟩ := q; exact ⟨σ', _, I2.unlock e (I.nofrz hd mu), q⟩
  | brk => obtain ⟨σ', H', I2, e, q⟩ := q; exact ⟨σ', _, I2.unlock e (I.nofrz hd mu), q⟩
  | cont => obtain ⟨σ', H', I2, e, q⟩ := q; exact ⟨σ', _, I2.unlock e (I.nofrz hd mu), q⟩
  | ret v => obtain ⟨x, σ', H', I2, r, e, q⟩ := q; exact ⟨x, σ', _, I2.unlock e (I.nofrz hd mu), r, q⟩

/-! ### rows: words with numbers -/
abbrev Row := List (List Nat × Nat)
def keysR (r : Row) : List (List Nat) := r.map (·.1)
def getR (r : Row) (w : List Nat) : Option Nat := (r.find? fun p => decide (p.1 = w)).map (·.2)
def addTo (r : Row) (w : List Nat) (n : Nat) : Row := if w ∈ keysR r then r.map (fun p => if p.1 = w then (p.1, p.2 + n) else p) else r ++ [(w, n)]
def rowK (r : Row) : List (Key × V) := r.map fun p => (Sum.inr (tx p.1), V.int p.2)
theorem rowK_len (r : Row) : (rowK r).length = r.length := List.length_map _
theorem rowK_get (r : Row) (w : List Nat) : valV (rowK r) (Sum.inr (tx w)) = (getR r w).map fun n => V.int (n : Int) := by
  induction r with
  | nil => rfl
  | cons p r ih =>
    show valV ((Sum.inr (tx p.1), V.int p.2) :: rowK r) _ = _
    by_cases e : p.1 = w
    · rw [valV_pos (by rw [e])]
      unfold getR
      rw [List.find?_cons_of_pos (by simpa using e)]
      rfl
    · rw [valV_neg (fun z => e (tx_inj (Sum.inr.inj z))), ih]
      unfold getR
      rw [List.find?_cons_of_neg (by simpa using e)]
theorem getR_none {r : Row} {w : List Nat} (h : w ∉ keysR r) : getR r w = none := by
  unfold getR
  rw [List.find?_eq_none.mpr fun p hp => ?_]
  · rfl
  · intro z
    exact h (List.mem_map.mpr ⟨p, hp, of_decide_eq_true z⟩)
theorem getR_some {r : Row} {w : List Nat} {n : Nat} (nd : (keysR r).Nodup) (h : (w, n) ∈ r) : getR r w = some n := by
  induction r with
  | nil => cases h
  | cons p r ih =>
    unfold getR
    obtain ⟨n1, n2⟩ := List.nodup_cons.mp nd
    rcases List.mem_cons.mp h with z | z
    · rw [← z, List.find?_cons_of_pos (by simp)]
      rfl
    · have ne : p.1 ≠ w := fun e => n1 (by
        show p.1 ∈ _
        rw [e]
        exact List.mem_map.mpr ⟨(w, n), z, rfl⟩)
      rw [List.find?_cons_of_neg (by simpa using ne)]
      exact ih n2 z
theorem keys_add (r : Row) (w : List Nat) (n : Nat) : keysR (addTo r w n) = if w ∈ keysR r then keysR r else keysR r ++ [w] := by
  unfold addTo
  split
  · unfold keysR
    rw [List.map_map]
    refine List.map_congr_left fun p _ => ?_
    show (if p.1 = w then (p.1, p.2 + n) else p).1 = p.1
    split <;> rfl
  · unfold keysR
    rw [List.map_append]
    rfl
theorem add_nodup {r : Row} {w : List Nat} {n : Nat} (nd : (keysR r).Nodup) : (keysR (addTo r w n)).Nodup := by
  rw [keys_add]
  split
  · exact nd
  · rename_i h
    exact List.nodup_append.mpr ⟨nd, by simp, fun x hx y hy => by rw [List.mem_singleton.mp hy]; exact fun z => h (z ▸ hx)⟩
theorem mem_add {r : Row} {w v : List Nat} {n : Nat} : v ∈ keysR (addTo r w n) ↔ v ∈ keysR r ∨ v = w := by
  rw [keys_add]
  split
  · rename_i h
    exact ⟨.inl, fun z => z.elim id fun e => e ▸ h⟩
  · rw [List.mem_append, List.mem_singleton]
theorem rowK_put {r : Row} {w : List Nat} {n : Nat} (nd : (keysR r).Nodup) : putK (rowK r) (Sum.inr (tx w)) (.int (((getR r w).getD 0 + n : Nat) : Int)) = rowK (addTo r w n) := by
  unfold putK
  rw [valV_any, rowK_get, Option.isSome_map]
  by_cases h : w ∈ keysR r
  · obtain ⟨⟨v, m⟩, hp, e⟩ := List.mem_map.mp h
    have e : v = w := e
    subst e
    rw [getR_some nd hp, if_pos (by rfl)]
    unfold addTo
    rw [if_pos h]
    unfold rowK
    rw [List.map_map, List.map_map]
    refine List.map_congr_left fun p hq => ?_
    show (if (Sum.inr (tx p.1) : Key) = Sum.inr (tx v) then ((Sum.inr (tx p.1) : Key), V.int (((some m).getD 0 + n : Nat) : Int)) else (Sum.inr (tx p.1), V.int p.2)) = (Sum.inr (tx (if p.1 = v then (p.1, p.2 + n) else p).1), V.int (if p.1 = v then (p.1, p.2 + n) else p).2)
    by_cases e : p.1 = v
    · have em : p.2 = m := by
        have := getR_some nd (show (p.1, p.2) ∈ r from hq)
        rw [e, getR_some nd hp] at this
        exact (Option.some.inj this).symm
      rw [if_pos (by rw [e]), if_pos e, em]
      rfl
    · rw [if_neg (fun z => e (tx_inj (Sum.inr.inj z))), if_neg e]
  · rw [getR_none h, if_neg (by simp)]
    unfold addTo
    rw [if_neg h]
    unfold rowK
    rw [List.map_append]
    simp

/-- one letter more off -/
def stepR (ps : List (List Nat)) (acc : Row) (p : List Nat × Nat) : Row := (firstsM ps p.1).foldl (fun acc c => addTo acc (p.1.erase c) p.2) acc
def moreM (ps : List (List Nat)) (r : Row) : Row := r.foldl (stepR ps) []
def rowsM (ps : List (List Nat)) (w : List Nat) : Nat → Row
  | 0 => [(w, 1)]
  | k + 1 => moreM ps (rowsM ps w k)
theorem fold_nodup {α : Type} (f : α → List Nat × Nat) : ∀ (l : List α) (acc : Row), (keysR acc).Nodup → (keysR (l.foldl (fun acc c => addTo acc (f c).1 (f c).2) acc)).Nodup
  | [], _, h => h
  | c :: l, acc, h => fold_nodup f l _ (add_nodup h)
theorem fold_mem {α : Type} (f : α → List Nat × Nat) {v : List Nat} : ∀ (l : List α) (acc : Row), v ∈ keysR (l.foldl (fun acc c => addTo acc (f c).1 (f c).2) acc) ↔ v ∈ keysR acc ∨ ∃ c ∈ l, v = (f c).1
  | [], acc => by simp
  | c :: l, acc => by
    rw [List.foldl_cons, fold_mem f l, mem_add]
    constructor
    · rintro ((h | h) | ⟨d, hd, h⟩)
      · exact .inl h
      · exact .inr ⟨c, List.mem_cons_self, h⟩
      · exact .inr ⟨d, List.mem_cons_of_mem _ hd, h⟩
    · rintro (h | ⟨d, hd, h⟩)
      · exact .inl (.inl h)
      · rcases List.mem_cons.mp hd with e | hd
        · exact .inl (.inr (by rw [h, e]))
        · exact .inr ⟨d, hd, h⟩
theorem step_nodup (ps : List (List Nat)) (p : List Nat × Nat) (acc : Row) (h : (keysR acc).Nodup) : (keysR (stepR ps acc p)).Nodup := fold_nodup (fun c => (p.1.erase c, p.2)) _ _ h
theorem step_mem {ps : List (List Nat)} {p : List Nat × Nat} {acc : Row} {v : List Nat} : v ∈ keysR (stepR ps acc p) ↔ v ∈ keysR acc ∨ ∃ c, Lead ps p.1 c ∧ v = p.1.erase c := by
  unfold stepR
  rw [fold_mem (fun c => (p.1.erase c, p.2))]
  constructor
  · rintro (h | ⟨c, hc, h⟩)
    · exact .inl h
    · exact .inr ⟨c, mem_firsts.mp hc, h⟩
  · rintro (h | ⟨c, hc, h⟩)
    · exact .inl h
    · exact .inr ⟨c, mem_firsts.mpr hc, h⟩
theorem foldl_step_nodup (ps : List (List Nat)) : ∀ (r acc : Row), (keysR acc).Nodup → (keysR (r.foldl (stepR ps) acc)).Nodup
  | [], _, h => h
  | p :: r, acc, h => foldl_step_nodup ps r _ (step_nodup ps p acc h)
theorem foldl_step_mem {ps : List (List Nat)} {v : List Nat} : ∀ (r acc : Row), v ∈ keysR (r.foldl (stepR ps) acc) ↔ v ∈ keysR acc ∨ ∃ w ∈ keysR r, ∃ c, Lead ps w c ∧ v = w.erase c
  | [], acc => by simp [keysR]
  | p :: r, acc => by
    rw [List.foldl_cons, foldl_step_mem r, step_mem]
    constructor
    · rintro ((h | ⟨c, h⟩) | ⟨w, hw, h⟩)
      · exact .inl h
      · exact .inr ⟨p.1, List.mem_cons_self, c, h⟩
      · exact .inr ⟨w, List.mem_cons_of_mem _ hw, h⟩
    · rintro (h | ⟨w, hw, c, h⟩)
      · exact .inl (.inl h)
      · rcases List.mem_cons.mp hw with e | hw
        · have e : w = p.1 := e
          exact .inl (.inr ⟨c, by rw [← e]; exact h⟩)
        · exact .inr ⟨w, hw, c, h⟩
theorem more_nodup (ps : List (List Nat)) (r : Row) : (keysR (moreM ps r)).Nodup := foldl_step_nodup ps r [] List.nodup_nil
theorem more_mem {ps : List (List Nat)} {r : Row} {v : List Nat} : v ∈ keysR (moreM ps r) ↔ ∃ w ∈ keysR r, ∃ c, Lead ps w c ∧ v = w.erase c := by
  unfold moreM
  rw [foldl_step_mem]
  simp [keysR]

/-! ### all that can be left stands in the word -/
def subs : List Nat → List (List Nat)
  | [] => [[]]
  | x :: r => subs r ++ (subs r).map (x :: ·)
theorem subs_len : ∀ w : List Nat, (subs w).length = 2 ^ w.length
  | [] => rfl
  | x :: r => by
    show (subs r ++ (subs r).map (x :: ·)).length = _
    rw [List.length_append, List.length_map, subs_len r, List.length_cons, Nat.pow_succ]
    omega
theorem mem_subs : ∀ {w v : List Nat}, v.Sublist w → v ∈ subs w
  | [], v, h => by
    rw [List.sublist_nil.mp h]
    exact List.mem_singleton.mpr rfl
  | x :: r, v, h => by
    cases h with
    | cons _ h => exact List.mem_append_left _ (mem_subs h)
    | cons_cons _ h => exact List.mem_append_right _ (List.mem_map.mpr ⟨_, mem_subs h, rfl⟩)
/-- the words of a row can be left of w -/
def Within (w : List Nat) (r : Row) : Prop := ∀ v ∈ keysR r, v.Sublist w
theorem within_len {w : List Nat} {r : Row} (nd : (keysR r).Nodup) (h : Within w r) : r.length ≤ 2 ^ w.length := by
  have := len_le_of_mem nd fun v hv => mem_subs (h v hv)
  rw [subs_len] at this
  unfold keysR at this
  rw [List.length_map] at this
  exact this
theorem within_small {w : List Nat} {r : Row} (nd : (keysR r).Nodup) (h : Within w r) (hw : w.length ≤ 16) : r.length < sizeLine := by
  have h1 := within_len nd h
  have h2 : 2 ^ w.length ≤ 2 ^ 16 := Nat.pow_le_pow_right (by decide) hw
  exact Nat.lt_of_le_of_lt (Nat.le_trans h1 h2) (by decide)
theorem within_add {w v : List Nat} {n : Nat} {r : Row} (h : Within w r) (hv : v.Sublist w) : Within w (addTo r v n) := fun x hx => by
  rcases mem_add.mp hx with z | z
  · exact h x z
  · rw [z]
    exact hv
theorem rows_facts (ps : List (List Nat)) (w : List Nat) : ∀ k, (keysR (rowsM ps w k)).Nodup ∧ Within w (rowsM ps w k) ∧ ∀ v ∈ keysR (rowsM ps w k), v.length + k = w.length
  | 0 => ⟨by show [w].Nodup; simp, fun v hv => by
      have hv : v ∈ [w] := hv
      rw [List.mem_singleton.mp hv]
      exact List.Sublist.refl _, fun v hv => by
      have hv : v ∈ [w] := hv
      rw [List.mem_singleton.mp hv]
      rfl⟩
  | k + 1 => by
    obtain ⟨_, h2, h3⟩ := rows_facts ps w k
    refine ⟨more_nodup ps _, fun v hv => ?_, fun v hv => ?_⟩
    · obtain ⟨u, hu, c, l, rfl⟩ := more_mem.mp hv
      exact (List.erase_sublist ..).trans (h2 u hu)
    · obtain ⟨u, hu, c, l, rfl⟩ := more_mem.mp hv
      have := h3 u hu
      have pos := List.length_pos_of_mem (lead_mem l)
      rw [List.length_erase_of_mem (lead_mem l)]
      omega
end TcG
/-! Lists of words: how many, as values, gone through by a comprehension. -/
namespace TcG
open PySem PySem.Spec PyProof.Rows L2
def wordsV (ws : List (List Nat)) : List V := ws.map fun w => V.str (tx w)
theorem wordsV_len (ws : List (List Nat)) : (wordsV ws).length = ws.length := List.length_map _
theorem wordsV_app (a b : List (List Nat)) : wordsV (a ++ b) = wordsV a ++ wordsV b := List.map_append
theorem wordsV_at {ws : List (List Nat)} {i : Nat} {x : V} (h : (wordsV ws)[i]? = some x) : ∃ w, ws[i]? = some w ∧ x = .str (tx w) := by
  unfold wordsV at h
  rw [List.getElem?_map] at h
  cases e : ws[i]? with
  | none =>
    rw [e] at h
    cases h
  | some w =>
    rw [e] at h
    exact ⟨w, rfl, (Option.some.inj h).symm⟩
/-- n * (n - 1) * .. * 1 -/
def fac : Nat → Nat
  | 0 => 1
  | n + 1 => (n + 1) * fac n
theorem firsts_few (ps : List (List Nat)) (w : List Nat) : (firstsM ps w).length ≤ w.length := len_le_of_mem ((sortN_perm _).nodup_iff.mpr (leads_nodup _ _)) fun c hc => lead_mem (mem_firsts.mp hc)
theorem flat_le {α β : Type} {f : α → List β} {k : Nat} : ∀ (l : List α), (∀ x ∈ l, (f x).length ≤ k) → (l.flatMap f).length ≤ l.length * k
  | [], _ => Nat.zero_le _
  | x :: r, h => by
    rw [List.flatMap_cons, List.length_append, List.length_cons, Nat.succ_mul, Nat.add_comm]
    exact Nat.add_le_add (flat_le r fun y hy => h y (List.mem_cons_of_mem _ hy)) (h x List.mem_cons_self)
theorem all_few (ps : List (List Nat)) : ∀ (n : Nat) (w : List Nat), w.length = n → (allM ps n w).length ≤ fac n
  | 0, _, _ => Nat.le_refl _
  | n + 1, w, hn => by
    refine Nat.le_trans (flat_le (k := fac n) _ fun c hc => ?_) (Nat.mul_le_mul_right _ (by rw [← hn]; exact firsts_few ps w))
    rw [List.length_map]
    exact all_few ps n _ (erase_len (lead_mem (mem_firsts.mp hc)) hn)
theorem fac_mono : ∀ {m n : Nat}, m ≤ n → fac m ≤ fac n
  | m, 0, h => by
    have : m = 0 := by omega
    rw [this]
    exact Nat.le_refl _
  | m, n + 1, h => by
    rcases Nat.eq_or_lt_of_le h with e | lt
    · rw [e]
      exact Nat.le_refl _
    · exact Nat.le_trans (fac_mono (Nat.le_of_lt_succ lt)) (Nat.le_mul_of_pos_left _ (Nat.succ_pos n))
theorem all_small {ps : List (List Nat)} {n : Nat} {w : List Nat} (hn : w.length = n) (h : n ≤ 10) : (allM ps n w).length ≤ 3628800 := Nat.le_trans (all_few ps n w hn) (fac_mono (n := 10) h)
/-- the words that begin with one of the first i letters -/
def begM (ps : List (List Nat)) (n : Nat) (w : List Nat) (i : Nat) : List (List Nat) := ((firstsM ps w).take i).flatMap fun c => (allM ps n (w.erase c)).map (c :: ·)
theorem beg_next {ps : List (List Nat)} {n : Nat} {w : List Nat} {i c : Nat} (h : (firstsM ps w)[i]? = some c) : begM ps n w (i + 1) = begM ps n w i ++ (allM ps n (w.erase c)).map (c :: ·) := by
  unfold begM
  obtain ⟨lt, e⟩ := List.getElem?_eq_some_iff.mp h
  rw [List.take_succ_eq_append_getElem lt, List.flatMap_append, e]
  simp
theorem beg_all {ps : List (List Nat)} {n : Nat} {w : List Nat} : begM ps n w (firstsM ps w).length = allM ps (n + 1) w := by
  unfold begM
  rw [List.take_length]
  rfl
theorem beg_le {ps : List (List Nat)} {n : Nat} {w : List Nat} (i : Nat) : (begM ps n w i).length ≤ (allM ps (n + 1) w).length := by
  have e : allM ps (n + 1) w = begM ps n w i ++ ((firstsM ps w).drop i).flatMap fun c => (allM ps n (w.erase c)).map (c :: ·) := by
    unfold begM
    rw [← List.flatMap_append, List.take_append_drop]
    rfl
  rw [e, List.length_append]
  omega
/-- a comprehension over the list at l -/
theorem lcN_list {K : PySem.W.Frag} {l : Addr} {ws : List V} {g : TG} {te : TE} {vs : List Nat} {σ : L2.St} {Q : VK} {H1 : Hp} (Pv : Addr → Nat → Hp → Prop) (h0 : ∀ D, H1 D = none → Pv D 0 (upd H1 D (.lst [])))
    (stays : ∀ D i H, Pv D i H → SqL K H l ws) (turn : ∀ D i x H, H1 D = none → ws[i]? = some x → Pv D i H → g x (wipe σ vs) H fun σ2 H2 => wipe σ2 vs = wipe σ vs ∧ te σ2 H2 fun y H4 => ∃ acc, H4 D = some (.lst acc) ∧ acc.length < sizeLine ∧ Pv D (i + 1) (upd H4 D (.lst (acc ++ [y]))))
    (out : ∀ D H, H1 D = none → Pv D ws.length H → Q (.ref D) H) : LcN g te vs σ Q (Itl K l) H1 := by
  intro D nD
  refine ⟨ws.length, Pv D, h0 D nD, fun i H hi p => ⟨ws, ws[i], stays D i H p, List.getElem?_eq_getElem hi⟩, fun H p => ⟨⟨ws, stays D _ H p, Nat.le_refl _⟩, out D H nD p⟩, fun i H x H' hi p y => ?_⟩
  obtain ⟨e, hx⟩ := y
  subst e
  exact turn D i x H' nD (hx ws (stays D i H' p)) p
end TcG
/-! Lists of natural numbers as values; the greatest one of them. -/
namespace TcG
open PySem PySem.Spec PyProof.Rows L2
def natsV (l : List Nat) : List V := l.map fun n : Nat => V.int (n : Int)
theorem natsV_len (l : List Nat) : (natsV l).length = l.length := List.length_map _
theorem natsV_app (a b : List Nat) : natsV (a ++ b) = natsV a ++ natsV b := List.map_append
theorem natsV_ints (l : List Nat) : natsV l = (l.map Int.ofNat).map V.int := by unfold natsV; rw [List.map_map]; rfl
theorem natsV_at {l : List Nat} {i n : Nat} (h : l[i]? = some n) : (natsV l)[i]? = some (.int (n : Int)) := by unfold natsV; rw [List.getElem?_map, h]; rfl
theorem fold_cast : ∀ (l : List Nat) (k : Nat), (l.map Int.ofNat).foldl max (k : Int) = ((l.foldl max k : Nat) : Int)
  | [], _ => rfl
  | x :: r, k => by
    show (r.map Int.ofNat).foldl max (max (k : Int) (Int.ofNat x)) = _
    have e : max (k : Int) (Int.ofNat x) = ((max k x : Nat) : Int) := by
      show max (k : Int) (x : Int) = _
      omega
    rw [e, fold_cast r]
    rfl
theorem tYes_of {σ : L2.St} {H : Hp} {A B : Hp → Prop} (h : A H) : tYes σ H fun b H3 => if b = true then A H3 else B H3 := by
  show if (true : Bool) = true then A H else B H
  rw [if_pos rfl]
  exact h
theorem nodup_at {α : Type} {l : List α} {i j : Nat} {x : α} (nd : l.Nodup) (hi : l[i]? = some x) (hj : l[j]? = some x) : i = j := by
  obtain ⟨a1, b1⟩ := List.getElem?_eq_some_iff.mp hi
  obtain ⟨a2, b2⟩ := List.getElem?_eq_some_iff.mp hj
  have h := List.pairwise_iff_getElem.mp nd
  rcases Nat.lt_trichotomy i j with lt | e | lt
  · exact absurd (b1.trans b2.symm) (h i j a1 a2 lt)
  · exact e
  · exact absurd (b2.trans b1.symm) (h j i a2 a1 lt)
/-- max(xs, default=d) -/
def maxNd (d : Int) (l : List Nat) : Int := if l = [] then d else (topN l : Int)
theorem maxNd_zero (l : List Nat) : maxNd 0 l = (topN l : Int) := by
  unfold maxNd
  by_cases h : l = []
  · rw [if_pos h, h]
    rfl
  · rw [if_neg h]
def rMaxN (K : PySem.W.Frag) : List V → List V → Hp → VK → Prop := fun vs zs H Q => ∃ (a : Addr) (l : List Nat) (d : Int), vs = [.ref a] ∧ zs = [.int d] ∧ SqL K H a (natsV l) ∧ Q (.int (maxNd d l)) H
theorem cr_maxN {X : Cx} (hc : X.calm = true) (hu : X.A.units + 1 < cLine) : CallRK X (.builtin "max") [Str.ofString "default"] (rMaxN X.K) := by
  intro pins s σ H xs zs us ws Q I rx rz h
  obtain ⟨a, l, d, rfl, rfl, h, q⟩ := h
  refine cr_maxD hc hu pins s σ H _ _ us ws Q I rx rz ⟨a, l.map Int.ofNat, .int d, rfl, rfl, by rw [← natsV_ints]; exact h, fun e => ?_, fun y ys e => ?_⟩
  · have : l = [] := List.map_eq_nil_iff.mp e
    subst this
    exact q
  · cases l with
    | nil => cases e
    | cons x r =>
      injection e with e1 e2
      subst e1
      subst e2
      have : (r.map Int.ofNat).foldl max (Int.ofNat x) = maxNd d (x :: r) := by
        refine (fold_cast r x).trans ?_
        unfold maxNd
        rw [if_neg (by simp)]
        show ((r.foldl max x : Nat) : Int) = ((r.foldl max (max 0 x) : Nat) : Int)
        rw [Nat.zero_max]
      rw [this]
      exact q
/-- those before the i-th that a letter depends on -/
theorem near_next {ps : List (List Nat)} {st : Lvs} {i x l c : Nat} (h : st[i]? = some (x, l)) : nearL ps (st.take (i + 1)) c = nearL ps (st.take i) c ++ if ind ps x c = true then [] else [l] := by
  unfold nearL
  rw [take_next h, List.filter_append, List.map_append]
  congr 1
  cases e : ind ps x c <;> simp [e]
theorem levL_take (ps : List (List Nat)) (a : List Nat) (i : Nat) : (levL ps a).take i = levL ps (a.take i) := by
  have g : ∀ (r : List Nat) (st : Lvs), ∃ m, r.foldl (putL ps) st = st ++ m := by
    intro r
    induction r with
    | nil => intro st; exact ⟨[], by simp⟩
    | cons c r ih =>
      intro st
      obtain ⟨m, e⟩ := ih (putL ps st c)
      refine ⟨(c, nextL ps st c) :: m, ?_⟩
      rw [List.foldl_cons, e]
      unfold putL
      simp
  have h : ∀ (r p : List Nat), (levL ps (p ++ r)).take p.length = levL ps p := by
    intro r p
    obtain ⟨m, e⟩ := g r (levL ps p)
    have e2 : levL ps (p ++ r) = levL ps p ++ m := by
      unfold levL at e ⊢
      rw [List.foldl_append, e]
    rw [e2, List.take_append_of_le_length (by rw [levL_len]; exact Nat.le_refl _), List.take_of_length_le (by rw [levL_len]; exact Nat.le_refl _)]
  by_cases hi : i ≤ a.length
  · have := h (a.drop i) (a.take i)
    rw [List.take_append_drop, List.length_take, Nat.min_eq_left hi] at this
    exact this
  · rw [List.take_of_length_le (by rw [levL_len]; omega), List.take_of_length_le (by omega)]
theorem levL_at {ps : List (List Nat)} {a : List Nat} {i c : Nat} (h : a[i]? = some c) : ∃ l, (levL ps a)[i]? = some (c, l) := by
  have e := congrArg (fun z : List Nat => z[i]?) (levL_fst (ps := ps) a)
  simp only [List.getElem?_map, h] at e
  cases g : (levL ps a)[i]? with
  | none =>
    rw [g] at e
    cases e
  | some p =>
    rw [g] at e
    exact ⟨p.2, by rw [← Option.some.inj e]⟩
end TcG
/-! s[::-1], t[::-1]: a text, a tuple, backwards. -/
namespace TcG
open PySem PySem.Spec PyProof.Rows L2
theorem rev_pick {α : Type} (xs : Array α) : (sliceRange ((xs.size : Int) - 1) (-1) (-1)).filterMap (xs[·]?) = xs.toList.reverse := by
  rw [PySem.W.krv_sliceRange, PySem.W.krv_range, List.filterMap_reverse, PySem.W.krv_all]
theorem rev_text (l : List Nat) (t t2 : Tok) : sliceMade (tx l) t none none (some (-1, t2)) = .str (tx l.reverse) := by
  unfold sliceMade slicePicked
  have e1 : ((((some ((-1 : Int), t2)).map (·.1)).getD 1 == 1)) = false := by rfl
  have e2 : Builtin.Str.strSliceIndices none none (-1) (tx l).length = sliceRange (((tx l).cps.size : Int) - 1) (-1) (-1) := by
    unfold Builtin.Str.strSliceIndices
    rfl
  show (if ((((some ((-1 : Int), t2)).map (·.1)).getD 1 == 1) && _) = true then _ else Made.str ⟨((Builtin.Str.strSliceIndices none none (-1) (tx l).length).filterMap ((tx l).cps[·]?)).toArray⟩) = _
  rw [e1, Bool.false_and, if_neg Bool.false_ne_true, e2, rev_pick]
  rfl
section
variable {X : Cx} {e : Expr} {te : TE} {k : Nat} {p1 p2 p3 pos : Pos}
def tRevS (te : TE) : TE := fun σ H Q => te σ H fun x H1 => ∃ l : List Nat, x = .str (tx l) ∧ l.length ≤ 1000 ∧ Q (.str (tx l.reverse)) H1
theorem pe_revS (he : PE X e te) : PE X (.Subscript e (.Slice none none (some (.UnaryOp .USub (.Constant (.int 1) k p1) p2)) p3) pos) (tRevS te) := by
  refine ⟨fun pins s σ H Q I h => ?_⟩
  refine Subscript_ (thn (he.run pins s σ H _ I h) fun v s1 ⟨x, H1, I1, r1, q1⟩ => ?_)
  obtain ⟨l, rfl, few, q⟩ := q1
  obtain ⟨t, rfl⟩ := (show ∃ t, v = Value.str (tx l) t from r1)
  have step : PO X (some (.UnaryOp .USub (.Constant (.int 1) k p1) p2)) (tPart (tUn (rU fun i => .int (-i)) (tC (.int 1)))) := po_some (pe_un un_neg pe_int)
  refine wpAny_Slice (thn (po_none.run pins s1 σ H1 (fun o H2 => o = none ∧ H2 = H1) I1 ⟨rfl, rfl⟩) fun vl s2 ⟨_, H2, I2, pl, el, e2⟩ => ?_)
  subst el e2
  refine thn (po_none.run pins s2 σ H2 (fun o H3 => o = none ∧ H3 = H2) I2 ⟨rfl, rfl⟩) fun vu s3 ⟨_, H3, I3, pu, eu, e3⟩ => ?_
  subst eu e3
  refine thn (step.run pins s3 σ H3 (fun o H4 => o = some (-1) ∧ H4 = H3) I3 ⟨1, rfl, -1, rfl, rfl, rfl⟩) fun vs s4 ⟨_, H4, I4, ps, eo, e4⟩ => ?_
  subst eo e4
  have I5 : Inv X pins σ H4 { s4 with heap := s4.heap.push { cls := .type "slice", data := .fields #[vl, vu, vs] } } := I4.kept (t' := s4.toks) fun b ob q => Heap.get?_push_of_some _ q
  cases pl
  cases pu
  cases ps with
  | int _ t2 =>
    refine tail_any (ops := [.str (tx l) t, .ref s4.heap.objs.size]) (typeIs_str _ _ _) PySem.F.slot_str_getitem.lookup ?_ (by with_unfolding_all rfl)
    refine wpAny_getItem_str_slice (l := none) (u := none) (st := some (-1, t2)) ⟨_, Heap.get?_push_size _ rfl, rfl, rfl⟩ (by rfl) ?_
    rw [rev_text]
    refine ⟨?_, .str (tx l.reverse), H4, I5.tok _, ⟨_, rfl⟩, q⟩
    rw [tx_length, List.length_reverse]
    exact Nat.le_trans few (by decide)
end
theorem rev_places (n : Nat) : Builtin.Slice.slicePlaces ((n : Int) - 1) (-1) (-1) = n := by
  unfold Builtin.Slice.slicePlaces
  have h1 : ¬ ((-1 : Int) > 0) := by decide
  have h2 : (- (-1 : Int)) = 1 := by decide
  simp only [h1, h2, if_false, Int.ediv_one]
  split <;> omega
theorem rev_adjust (n : Nat) : Builtin.Slice.sliceAdjust none none (-1) (n : Int) = ((n : Int) - 1, -1) := by
  unfold Builtin.Slice.sliceAdjust
  have h1 : (-1 : Int) < 0 := by decide
  simp only [h1, if_true]
theorem filterMap_same {α β : Type} {f g : α → Option β} : ∀ l : List α, (∀ m ∈ l, f m = g m) → l.filterMap f = l.filterMap g
  | [], _ => rfl
  | x :: l, h => by
    rw [List.filterMap_cons, List.filterMap_cons, h x List.mem_cons_self, filterMap_same l fun m hm => h m (List.mem_cons_of_mem _ hm)]
theorem rev_items (xs : Array Value) : ((List.range xs.size).filterMap fun (m : Nat) => xs[((xs.size : Int) - 1 + (m : Int) * -1).toNat]?) = xs.toList.reverse := by
  rw [← rev_pick, PySem.W.krv_sliceRange, List.filterMap_map]
  refine filterMap_same _ fun m hm => ?_
  have := List.mem_range.mp hm
  show xs[((xs.size : Int) - 1 + (m : Int) * -1).toNat]? = xs[xs.size - 1 - m]?
  congr 1
  omega
theorem tuple_back {prog : Program} {w : World} {A : Around} {E : Value → Shared → Prop} {s : Shared} {a sl : Addr} {items : Array Value} {t : Tok} {Q : Value → Shared → Prop} (ht : IsTup s.heap a items) (hs : s.heap.IsSliceOf sl .none .none (.int (-1) t))
    (few : items.size ≤ sizeLine) (h : Q (.ref s.heap.objs.size) { s with heap := s.heap.push { cls := .type "tuple", data := .seq items.toList.reverse.toArray } }) : wpAny (model prog w) A (getItem (.ref a) (.ref sl)) Q E s := by
  have ok : sizeOk (.seq items.toList.reverse.toArray) := by
    show items.toList.reverse.toArray.size ≤ sizeLine
    rw [List.size_toArray, List.length_reverse, Array.length_toList]
    exact few
  obtain ⟨os, at', cls', fields⟩ := id hs
  have isSlice : s.TypeIs (.ref sl) "slice" := ⟨os, at', cls'⟩
  unfold getItem
  try with_reducible refine wpAny_holding ?_
  first | refine wpAny_bind (wpAny_pure ?_) | skip
  refine wpAny_bind (wpAny_sequenceKey ht.typeIs (by decide) ?_)
  refine wpAny_bind (wpAny_callSpecial?_slot (name := Str.ofString "__getitem__") ht.typeIs PyProof.Rows.slot_tuple_getitem
    (wpAny_call_entry PyProof.Rows.slot_tuple_getitem ht.typeIs entry_tuple_getitem ?_ (args_tuple_getitem _ _)))
  change wpAny _ _ (Builtin.Tuple.tupleItemsOf (.ref a) >>= _) _ _ s
  refine wpAny_bind (PyProof.Rows.tupleItemsOf_ ht ?_)
  refine wpAny_bind (wpAny_typeOf isSlice ?_)
  rw [if_pos (by decide)]
  have applied : ∀ {Q' : Int × Int × Nat → Shared → Prop} {E' : Value → Shared → Prop} {A' : Around}, Q' ((items.size : Int) - 1, -1, items.size) s → wpAny (model prog w) A' (Builtin.Slice.sliceApplied (.ref sl) (pure (items.size : Int))) Q' E' s := fun {Q' E' A'} q => by
    unfold Builtin.Slice.sliceApplied Builtin.Slice.sliceFields
    refine wpAny_bind (wpAny_bind (wpAny_field at' fields (x := .none) rfl (wpAny_bind (wpAny_field at' fields (x := .none) rfl (wpAny_bind (wpAny_field at' fields (x := .int (-1) t) rfl (wpAny_pure ?_)))))))
    refine wpAny_bind (slicePart_int ?_)
    change wpAny _ _ (if ((-1 : Int) == 0) = true then _ else _) _ _ s
    rw [if_neg (by decide)]
    refine wpAny_bind (slicePart_none (wpAny_bind (slicePart_none (wpAny_bind (wpAny_pure ?_)))))
    change wpAny _ _ (match Builtin.Slice.sliceAdjust none none (-1) (items.size : Int) with | (lo, hi) => pure (lo, (-1 : Int), Builtin.Slice.slicePlaces lo hi (-1))) _ _ s
    rw [rev_adjust]
    change wpAny _ _ (pure ((items.size : Int) - 1, (-1 : Int), Builtin.Slice.slicePlaces ((items.size : Int) - 1) (-1) (-1))) _ _ s
    rw [rev_places]
    exact wpAny_pure q
  refine wpAny_bind (applied ?_)
  have other : ¬ ((((items.size : Int) - 1 == 0) && (-1 : Int) == 1 && items.size == items.size) = true) := by simp
  change wpAny _ _ (if (((items.size : Int) - 1 == 0) && (-1 : Int) == 1 && items.size == items.size) = true then _ else _) _ _ s
  rw [if_neg other, rev_items]
  first
    | exact wpAny_bind (m := Builtin.Tuple.tupleExact _) (wpAny_newObj_type (wpAny_pure ⟨_, rfl, wpAny_pure h⟩) ok)
    | exact wpAny_bind (m := Builtin.Tuple.tupleExact _) (wpAny_newObj_type (wpAny_bind (wpAny_pure (wpAny_pure ⟨_, rfl, wpAny_pure h⟩))) ok)
    | exact wpAny_bind (wpAny_bind (m := Builtin.Tuple.tupleExact _) (wpAny_newObj_type (wpAny_pure (wpAny_pure ⟨_, rfl, wpAny_pure h⟩)) ok))
    | exact wpAny_bind (wpAny_bind (m := Builtin.Tuple.tupleExact _) (wpAny_newObj_type (wpAny_pure ⟨_, rfl, wpAny_pure h⟩) ok))
section
variable {X : Cx} {e : Expr} {te : TE} {k : Nat} {p1 p2 p3 pos : Pos}
def tRevT (K : PySem.W.Frag) (te : TE) : TE := fun σ H Q => te σ H fun x H1 => ∃ a xs, x = .ref a ∧ SqT K H1 a xs ∧ ∀ p, H1 p = none → Q (.ref p) (upd H1 p (.tup xs.reverse))
theorem pe_revT (he : PE X e te) : PE X (.Subscript e (.Slice none none (some (.UnaryOp .USub (.Constant (.int 1) k p1) p2)) p3) pos) (tRevT X.K te) := by
  refine ⟨fun pins s σ H Q I h => ?_⟩
  refine Subscript_ (thn (he.run pins s σ H _ I h) fun v s1 ⟨x, H1, I1, r1, q1⟩ => ?_)
  obtain ⟨a, xs, rfl, hx, q⟩ := q1
  obtain rfl : v = Value.ref a := r1
  have step : PO X (some (.UnaryOp .USub (.Constant (.int 1) k p1) p2)) (tPart (tUn (rU fun i => .int (-i)) (tC (.int 1)))) := po_some (pe_un un_neg pe_int)
  refine wpAny_Slice (thn (po_none.run pins s1 σ H1 (fun o H2 => o = none ∧ H2 = H1) I1 ⟨rfl, rfl⟩) fun vl s2 ⟨_, H2, I2, pl, el, e2⟩ => ?_)
  subst el e2
  refine thn (po_none.run pins s2 σ H2 (fun o H3 => o = none ∧ H3 = H2) I2 ⟨rfl, rfl⟩) fun vu s3 ⟨_, H3, I3, pu, eu, e3⟩ => ?_
  subst eu e3
  refine thn (step.run pins s3 σ H3 (fun o H4 => o = some (-1) ∧ H4 = H3) I3 ⟨1, rfl, -1, rfl, rfl, rfl⟩) fun vs s4 ⟨_, H4, I4, ps, eo, e4⟩ => ?_
  subst eo e4
  have I5 : Inv X pins σ H4 { s4 with heap := s4.heap.push { cls := .type "slice", data := .fields #[vl, vu, vs] } } := I4.kept (t' := s4.toks) fun b ob q => Heap.get?_push_of_some _ q
  obtain ⟨its, r, ht, hz⟩ := I5.tuple hx
  have hlen := r.length
  cases pl
  cases pu
  cases ps with
  | int _ t2 =>
    refine tail_any (ops := [.ref a, .ref s4.heap.objs.size]) ht.typeIs (PyProof.Rows.slot_tuple_getitem.lookup) ?_ (by with_unfolding_all rfl)
    refine tuple_back ht (Heap.IsSliceOf.new _ .none .none (.int (-1) t2)) (by rw [List.size_toArray]; omega) ?_
    refine ⟨.ref _, _, I5.laid (t' := s4.toks) (o := .tup xs.reverse) (fun b ob q => Heap.get?_push_of_some _ q) (Nat.le_refl _) ?_, rfl, q _ (I5.hok.fresh (Nat.le_refl _))⟩
    exact ⟨by rw [List.length_reverse]; exact hz, its.reverse, r.reverse, ⟨_, Heap.get?_push_size _ rfl, rfl, _, rfl⟩⟩
end
/-! slices and sums of tuples, whatever object comes out -/
theorem slice_anyT {K : PySem.W.Frag} {H : Hp} {p : Addr} {xs : List V} {lo hi : Option Int} {Q : VK} (h : SqT K H p xs) (q : ∀ p' H', Same H H' → SqT K H' p' (cutV xs lo hi) → Q (.ref p') H') : rSlA K (.ref p) lo hi H Q := by
  refine ⟨p, xs, rfl, h, fun w => q p H (Same.refl _) ?_, fun _ p' n => q p' _ (same_new n) (SqT.of upd_same)⟩
  have e : cutV xs lo hi = xs := by
    unfold cutV
    rw [w.1, w.2, List.drop_zero, Nat.sub_zero, List.take_length]
  rw [e]
  exact h
theorem cat_anyT {K : PySem.W.Frag} {H : Hp} {p1 p2 : Addr} {xs ys : List V} {Q : VK} (h1 : SqT K H p1 xs) (h2 : SqT K H p2 ys) (z : xs.length + ys.length ≤ sizeLine) (q : ∀ p' H', Same H H' → SqT K H' p' (xs ++ ys) → Q (.ref p') H') : rCatA K (.ref p1) (.ref p2) H Q := by
  refine ⟨p1, p2, xs, ys, rfl, rfl, h1, h2, z, fun e => q p2 H (Same.refl _) (by rw [e]; exact h2), fun _ e => q p1 H (Same.refl _) (by rw [e, List.append_nil]; exact h1), fun _ _ p' n => q p' _ (same_new n) (SqT.of upd_same)⟩
theorem cutV_to (xs : List V) (j : Nat) : cutV xs none (some (j : Int)) = xs.take j := by
  unfold cutV
  rw [HT.sIx_none, HT.sIx_nat, List.drop_zero, Nat.sub_zero]
  by_cases h : j ≤ xs.length
  · rw [Nat.min_eq_left h]
  · rw [Nat.min_eq_right (by omega), List.take_length, List.take_of_length_le (by omega)]
theorem cutV_from (xs : List V) (j : Nat) : cutV xs (some (j : Int)) none = xs.drop j := by
  unfold cutV
  rw [HT.sIx_none, HT.sIx_nat]
  by_cases h : j ≤ xs.length
  · rw [Nat.min_eq_left h, List.take_of_length_le (by rw [List.length_drop]; omega)]
  · rw [Nat.min_eq_right (by omega), List.drop_length, List.drop_of_length_le (show xs.length ≤ j by omega)]
    simp
end TcG
/-! Sets of texts, which can be walked: one text more. -/
namespace TcG
open PySem PySem.Spec PyProof.Rows L2
def txtOf (e : Int × Value) : Str := match e.2 with | .str z _ => z | _ => ⟨#[]⟩
def TxtE (w : World) (e : Int × Value) : Prop := ∃ z u, e.2 = Value.str z u ∧ e.1 = hashStr w z
/-- the set of texts at a -/
def SetS (w : World) (h : Heap) (a : Addr) (S : Str → Bool) (n : Nat) : Prop :=
  ∃ ob el k tb, h.get? a = some ob ∧ ob.ExactSet ∧ ob.data = .set el k tb ∧ (∀ e ∈ el.toList, TxtE w e) ∧ (el.toList.map txtOf).Nodup ∧ (∀ z, S z = true ↔ z ∈ el.toList.map txtOf) ∧
    el.size < scanBound ∧ tb.fits el.size = true ∧ el.size = n ∧ Ris tb.place.toList ∧ (w.params.followText "set-order" = true ∨ tb.led = true)
section
variable {P : Program} {w : World} {h h' : Heap} {a : Addr} {S : Str → Bool} {n : Nat}
theorem SetS.keep (R : SetS w h a S n) (k : ∀ ob, h.get? a = some ob → h'.get? a = some ob) : SetS w h' a S n := by
  obtain ⟨ob, el, e, tb, hob, r⟩ := R
  exact ⟨ob, el, e, tb, k ob hob, r⟩
theorem SetS.alike {S' : Str → Bool} (R : SetS w h a S n) (e : ∀ z, S' z = S z) : SetS w h' a S' n → SetS w h' a S n := fun q => by rw [← show S' = S from funext e]; exact q
theorem txt_elems {l : List (Int × Value)} (g : ∀ e ∈ l, TxtE w e) : ElemsOf (PySem.strKind P w) l := fun e he => by
  obtain ⟨z, u, e1, e2⟩ := g e he
  exact ⟨⟨z, by rw [e1]; exact PySem.Froz.is_str z u, e2⟩, by rw [e1] <;> rfl⟩
theorem txt_is {e : Int × Value} (g : TxtE w e) (z : Str) : (PySem.strKind P w).is z e.2 = true ↔ txtOf e = z := by
  obtain ⟨z0, u, e1, _⟩ := g
  unfold txtOf
  rw [e1]
  show Value.isStrOf z (.str z0 u) = true ↔ z0 = z
  constructor
  · intro q
    obtain ⟨u', q'⟩ := Value.isStrOf_shape q
    injection q'
  · intro q
    rw [q]
    exact PySem.Froz.is_str z u (P := P) (w := w)
theorem txt_mem {l : List (Int × Value)} (g : ∀ e ∈ l, TxtE w e) (z : Str) : z ∈ l.map txtOf ↔ ∃ e ∈ l, (PySem.strKind P w).is z e.2 = true := by
  rw [List.mem_map]
  exact ⟨fun ⟨e, he, q⟩ => ⟨e, he, (txt_is (g e he) z).2 q⟩, fun ⟨e, he, q⟩ => ⟨e, he, (txt_is (P := P) (g e he) z).1 q⟩⟩
end
section
variable {P : Program} {w : World} {A : Around} {E : Value → Shared → Prop} {s : Shared} {a : Addr} {S : Str → Bool} {n : Nat}
theorem setS_tail {g : Bool → Sem Unit} (hg : ∀ (b : Bool) (t : Shared) (R : Unit → Shared → Prop), R () t → wpAny (model P w) A (g b) R E t)
    {ob : Obj} {el : Array (Int × Value)} {k : Nat} {tb : SetTable} (hob : s.heap.get? a = some ob) (exact_ : ob.ExactSet) (hdat : ob.data = .set el k tb)
    {el1 : Array (Int × Value)} {tb2 : SetTable} {S' : Str → Bool} (g1 : ∀ e ∈ el1.toList, TxtE w e) (u1 : (el1.toList.map txtOf).Nodup) (m1 : ∀ z, S' z = true ↔ z ∈ el1.toList.map txtOf)
    (b1 : el1.size < scanBound) (f2 : tb2.fits el1.size = true) (r2 : Ris tb2.place.toList) (l2 : w.params.followText "set-order" = true ∨ tb2.led = true) {wasDummy : Bool} {R : Option Bool → Shared → Prop}
    (fin : ∀ h', Heap.SameBut a s.heap h' → SetS w h' a S' el1.size → R (some true) { s with heap := h' }) :
    wpAny (model P w) A (do
        storeSet a el1 tb2
        if (!wasDummy && tb2.tooFull) = true then do
            g (relayAll tb2 el1 (SetTable.grown el1.size)).2.2
            storeSet a (relayAll tb2 el1 (SetTable.grown el1.size)).1 (relayAll tb2 el1 (SetTable.grown el1.size)).2.1
            pure (some true)
          else pure (some true)) R E s := by
  refine wpAny_bind (wpAny_storeSet_of hob hdat ?_ (fits_of_scanBound b1))
  have at1 := store_at (es' := el1) (t' := tb2) hob hdat
  have same1 := Heap.SameBut.update s.heap a (Obj.putSet el1 tb2)
  split
  · have p3 := relayAll_perm tb2 el1 (SetTable.grown el1.size)
    have f3 := relayAll_fits tb2 el1 (SetTable.grown el1.size)
    have r3 := relayAll_ris tb2 el1 (SetTable.grown el1.size)
    have l3 := relayAll_led tb2 el1 (SetTable.grown el1.size)
    generalize relayAll tb2 el1 (SetTable.grown el1.size) = Z at p3 f3 r3 l3 ⊢
    obtain ⟨el2, tb3, gone⟩ := Z
    dsimp only at p3 f3 r3 l3 ⊢
    have size2 : el2.size = el1.size := by rw [← Array.length_toList, p3.length_eq, Array.length_toList]
    have b2 : el2.size < scanBound := by rw [size2]; exact b1
    refine wpAny_bind (hg _ _ _ ?_)
    refine wpAny_bind (wpAny_storeSet_of at1 rfl ?_ (fits_of_scanBound b2))
    have at2 := store_at (es' := el2) (t' := tb3) at1 rfl
    refine wpAny_pure (fin _ (same1.trans (Heap.SameBut.update _ a _)) ?_)
    exact ⟨_, el2, _, tb3, at2, exact_, rfl, fun e he => g1 e (p3.mem_iff.mp he), (p3.map txtOf).nodup_iff.mpr u1, fun z => (m1 z).trans (p3.map txtOf).mem_iff.symm, b2, f3, size2, r3,
      l2.imp id fun z => by rw [l3]; exact z⟩
  · exact wpAny_pure (fin _ same1 ⟨_, el1, _, tb2, at1, exact_, rfl, g1, u1, m1, b1, f2, rfl, r2, l2⟩)
theorem setS_add {z : Str} {u : Tok} {Q : Bool → Shared → Prop} (R : SetS w s.heap a S n) (room : n + 1 < scanBound)
    (fin : ∀ h', Heap.SameBut a s.heap h' → SetS w h' a (fun y => S y || decide (y = z)) (if S z = true then n else n + 1) → Q (!S z) { s with heap := h' }) :
    wpAny (model P w) A (setAddHashed a (.str z u) ((PySem.strKind P w).hash z)) Q E s := by
  obtain ⟨ob, el, k, tb, hob, exact_, hdat, g, uq, hm, hb, hf, hn, hr, hl⟩ := R
  have key : (PySem.strKind P w).is z (.str z u) = true := PySem.Froz.is_str z u
  have scan : (Value.str z u).scannable = true := rfl
  have elems : ElemsOf (PySem.strKind P w) el.toList := txt_elems g
  unfold setAddHashed
  unfold setAddHashedIn
  refine wpAny_holding (wpAny_bind (wpAny_setState_of hob hdat hf ?_))
  dsimp only
  rw [byScan_of scan hb elems]
  simp only [↓reduceIte]
  unfold setAddByScan
  refine wpAny_bind ?_
  refine wpAny_bind (wpAny_rule ?_)
  refine wpAny_bind (wpAny_setScan_of key hob hdat hf elems ?_)
  cases found : List.findIdx? (fun e => (PySem.strKind P w).is z e.2) el.toList with
  | some j =>
    dsimp only
    obtain ⟨hj, pj, _⟩ := List.findIdx?_eq_some_iff_getElem.mp found
    have yes : S z = true := (hm z).2 ((txt_mem (P := P) (w := w) g z).2 ⟨el.toList[j], List.getElem_mem hj, pj⟩)
    refine wpAny_pure (wpAny_pure ?_)
    have q := fin s.heap (Heap.SameBut.refl a s.heap) ⟨ob, el, k, tb, hob, exact_, hdat, g, uq, fun y => by
      rw [Bool.or_eq_true, decide_eq_true_eq, ← hm y]
      exact ⟨fun c => c.elim id (fun e => e ▸ yes), .inl⟩, hb, hf, by rw [if_pos yes]; exact hn, hr, hl⟩
    rw [yes] at q
    exact q
  | none =>
    dsimp only
    have out : z ∉ el.toList.map txtOf := fun y => by
      obtain ⟨e, he, q⟩ := (txt_mem (P := P) (w := w) g z).1 y
      have c := List.findIdx?_eq_none_iff.mp found e he
      rw [q] at c
      cases c
    have no : S z = false := by
      cases q : S z with
      | false => rfl
      | true => exact absurd ((hm z).1 q) out
    have way : ∀ (b : Bool) {t : Shared} {R : Unit → Shared → Prop}, R () t → wpAny (model P w) A (match b with | true => rule "set.scan.the-table-gave-way" | false => pure ()) R E t :=
      fun b t R q => by cases b <;> first | exact wpAny_pure q | exact wpAny_rule q
    have p1 := layNew_perm tb el ((PySem.strKind P w).hash z) (.str z u)
    have f1 := layNew_fits tb el ((PySem.strKind P w).hash z) (.str z u)
    have r1 := layNew_ris tb el ((PySem.strKind P w).hash z) (.str z u) hr
    have l1 := layNew_led tb el ((PySem.strKind P w).hash z) (.str z u)
    generalize layNew tb el ((PySem.strKind P w).hash z) (.str z u) = Z at p1 f1 r1 l1 ⊢
    obtain ⟨el1, tb1, wasDummy, gone⟩ := Z
    dsimp only at p1 f1 r1 l1 ⊢
    rw [Array.toList_push] at p1
    have pc : el1.toList.Perm (((PySem.strKind P w).hash z, Value.str z u) :: el.toList) := p1.trans (List.perm_append_singleton _ _)
    have pk : (el1.toList.map txtOf).Perm (z :: el.toList.map txtOf) := pc.map txtOf
    have g1 : ∀ e ∈ el1.toList, TxtE w e := fun e he => by
      rcases List.mem_cons.mp (pc.mem_iff.mp he) with y | y
      · rw [y]; exact ⟨z, u, rfl, rfl⟩
      · exact g e y
    have u1 : (el1.toList.map txtOf).Nodup := pk.nodup_iff.mpr (List.nodup_cons.mpr ⟨out, uq⟩)
    have m1 : ∀ y, (S y || decide (y = z)) = true ↔ y ∈ el1.toList.map txtOf := fun y => by
      rw [Bool.or_eq_true, decide_eq_true_eq, hm y, pk.mem_iff, List.mem_cons]
      exact Or.comm
    have size1 : el1.size = n + 1 := by rw [← Array.length_toList, pc.length_eq, List.length_cons, Array.length_toList, hn]
    have b1 : el1.size < scanBound := by rw [size1]; exact room
    have led1 : w.params.followText "set-order" = true ∨ tb1.led = true := hl.imp id fun y => by rw [l1]; exact y
    have done : ∀ h', Heap.SameBut a s.heap h' → SetS w h' a (fun y => S y || decide (y = z)) el1.size → Q true { s with heap := h' } := fun h' sb r => by
      have q := fin h' sb
      rw [no] at q
      rw [size1] at r
      exact q r
    refine wpAny_bind (way _ ?_)
    split
    · refine wpAny_bind ?_
      rw [hashByValue_scannable 8 scan]
      refine wpAny_pure ?_
      refine setS_tail ?_ hob exact_ hdat g1 u1 m1 b1 ?_ ?_ ?_ ?_
      · intro b t R q; cases b <;> first | exact wpAny_pure q | exact wpAny_rule q
      · first | (split <;> first | exact f1 | exact SetTable.fits_plain_off f1) | exact f1
      · first | (split <;> exact r1) | exact r1
      · first | (split <;> exact led1) | exact led1
      · intro h' sb r; dsimp only; exact wpAny_pure (done h' sb r)
    · refine wpAny_bind (wpAny_pure ?_)
      simp only [↓reduceIte]
      refine setS_tail ?_ hob exact_ hdat g1 u1 m1 b1 f1 r1 led1 ?_
      · intro b t R q; cases b <;> first | exact wpAny_pure q | exact wpAny_rule q
      · intro h' sb r; dsimp only; exact wpAny_pure (done h' sb r)
end
end TcG
/-! set(text), and set(list of ints). -/
namespace TcG
open PySem PySem.Spec PyProof.Rows L2
section
variable {P : Program} {w : World} {A : Around} {E : Value → Shared → Prop} {s : Shared}
theorem texts_loop {I : Addr} {fp wr : List Addr} {G : Array GenState → Array GenState → Prop} {n : Nat} {Pv : Nat → Value → Prop} {St : Nat → Shared → Prop} {R : Result → Shared → Prop}
    (W : WalksS P w A.in1 I fp wr G n Pv St) (B : Addr) (far : B ∉ fp) (zs : List Str) (hn : n = zs.length) (room : zs.length + 1 < scanBound) (gives : ∀ i v, Pv i v → ∃ z t, zs[i]? = some z ∧ v = .str z t) :
    ∀ (k i : Nat) (s : Shared), n - i = k → i ≤ n → St i s → (∃ c, c ≤ i ∧ SetS w s.heap B (fun y => decide (y ∈ zs.take i)) c) →
      (∀ s' c, Moved (B :: wr) G s s' → c ≤ n → SetS w s'.heap B (fun y => decide (y ∈ zs)) c → R (.ok (.ret .none)) s') →
      codeAny (model P w) A (.builtin "set.update.loop" ⟨[.ref B, .ref I], []⟩) R s := by
  have farw : B ∉ wr := fun h => far (W.sub _ h)
  have more : ∀ b ∈ wr, b ∈ B :: wr := fun b hb => List.mem_cons_of_mem _ hb
  intro k
  induction k with
  | zero =>
    intro i s left le st ⟨c, hc, hS⟩ fin
    have here : i = n := by omega
    subst here
    refine codeAny_builtin PyProof.Rows.F.entry_set_update_loop ?_
    rw [Around.under_plainId PyProof.Rows.F.plain_set_update_loop _]
    show wpAny _ A.in1 (pyNext (.ref I) >>= _) _ _ s
    refine wpAny_bind (W.done s _ _ st fun t mv => ?_)
    show wpAny _ A.in1 (ret Value.none) _ _ t
    have whole : zs.take i = zs := List.take_of_length_le (by omega)
    rw [whole] at hS
    exact wpAny_pure (fin t c (mv.mono more) hc (hS.keep fun ob e => mv.heap B ob farw e))
  | succ k ih =>
    intro i s left le st ⟨c, hc, hS⟩ fin
    have lt : i < n := by omega
    refine codeAny_builtin PyProof.Rows.F.entry_set_update_loop ?_
    rw [Around.under_plainId PyProof.Rows.F.plain_set_update_loop _]
    show wpAny _ A.in1 (pyNext (.ref I) >>= _) _ _ s
    refine wpAny_bind (W.item i s _ _ lt st fun v t hP st' mv => ?_)
    obtain ⟨z, u, hz, rfl⟩ := gives i v hP
    have hS' : SetS w t.heap B (fun y => decide (y ∈ zs.take i)) c := hS.keep fun ob e => mv.heap B ob farw e
    show wpAny _ A.in1 (holding [Value.str z u] (setAdd B (.str z u)) >>= _) _ _ t
    refine wpAny_bind (wpAny_holding ?_)
    unfold setAdd
    refine wpAny_holding ?_
    refine wpAny_bind ((PySem.strKind P w).pyHash (k := z) (PySem.Froz.is_str _ _) ?_)
    refine setS_add (s := { t with toks := t.toks + 1 }) hS' (by omega) fun h' sb hS2 => ?_
    have hS3 : SetS w h' B (fun y => decide (y ∈ zs.take (i + 1))) (if decide (z ∈ zs.take i) = true then c else c + 1) := by
      have e : (fun y => decide (y ∈ zs.take (i + 1))) = fun y => decide (y ∈ zs.take i) || decide (y = z) := funext fun y => by
        rw [List.take_add_one, hz]
        simp [List.mem_append]
      rw [e]
      exact hS2
    have hc3 : (if decide (z ∈ zs.take i) = true then c else c + 1) ≤ i + 1 := by
      split <;> omega
    refine wpAny_pure ⟨plainId_quiet PyProof.Rows.F.plain_set_update_loop _, ih (i + 1) _ (by omega) lt (W.frame _ t _ _ st' (Nat.le_succ _) fun b hb ob e => ?_) ⟨_, hc3, hS3⟩ fun t2 c2 mv2 hc2 hS4 => ?_⟩
    · rw [sb.2 b (fun q : b = B => far (by rw [← q]; exact hb))]
      exact e
    · refine fin t2 c2 (Moved.trans W.gtrans ((mv.mono more).then_heap (Nat.le_succ _) fun b ob hb e => ?_) mv2) hc2 hS4
      rw [sb.2 b (fun q : b = B => hb (by rw [q]; exact List.mem_cons_self))]
      exact e
/-- a new set as it is made -/
def bare0 (w : World) : Obj := { cls := .type "set", dict := none, data := .set #[] 0 (.fresh 0 0 (!w.params.followText "set-order")) }
theorem setS_bare {h : Heap} {a : Addr} (e : h.get? a = some (bare0 w)) : SetS w h a (fun y => decide (y ∈ ([] : List Str))) 0 :=
  ⟨_, #[], 0, _, e, ⟨rfl, rfl, rfl⟩, rfl, (fun e he => by simp at he), (by simp), (fun k => by simp), (by decide), (by rfl), rfl, List.Pairwise.nil, by
    show _ ∨ (!w.params.followText "set-order") = true
    cases w.params.followText "set-order"
    · exact .inr rfl
    · exact .inl rfl⟩
set_option maxHeartbeats 8000000 in
theorem call_set_text {x : Str} {u : Tok} {Q : Value → Shared → Prop} (hh : A.handled = none) (room : x.cps.size + 1 < scanBound)
    (fin : ∀ (h' : Heap) (tk c : Nat), SetS w h' s.heap.objs.size (fun y => decide (y ∈ x.cps.toList.map fun c => (⟨#[c]⟩ : Str))) c → c ≤ x.cps.size → (∀ b ob, s.heap.get? b = some ob → h'.get? b = some ob) → Q (.ref s.heap.objs.size) { s with heap := h', toks := tk }) :
    wpAny (model P w) A (call (.type "set") [.str x u]) Q E s := by
  obtain ⟨c, tl, hmro⟩ := F.called_set.mro
  have made := F.called_set.made
  have itself := F.called_set.sub
  refine wpAny_call (codeAny_of_tree ?_)
  show wpAny _ _ (callAny (.type "set") _) _ _ _
  refine wpAny_pure ⟨Code.quiet_builtin _ (by decide +kernel), codeAny_builtin F.entry_type_call ?_⟩
  rw [Around.under_plain (weight_type_call_type "set" [.str x u] []) rfl]
  have k1 := F.called_set.notType
  have k2 := F.called_set.canCreate
  have k3 := F.typeCall_set_1 (.str x u)
  repeat (any_goals (first | assumption | wp_step))
  refine codeAny_mono (code_set_led1 (P := P) (w := w) (.str x u) (E := E) (Q₁ := fun ob t => ob = .ref s.heap.objs.size ∧ t = { s with heap := s.heap.push (bare0 w) }) ⟨rfl, rfl⟩) fun r t hr => ?_
  cases r with
  | error e => exact hr
  | ok fl =>
    cases fl with
    | ret ob =>
      obtain ⟨rfl, rfl⟩ := hr
      have at0 : (s.heap.push (bare0 w)).get? s.heap.objs.size = some (bare0 w) := Heap.get?_push_size _ rfl
      have ty0 : Shared.TypeIs { s with heap := s.heap.push (bare0 w) } (.ref s.heap.objs.size) "set" := ⟨_, at0, rfl⟩
      have look := F.called_set.init.lookup
      have bind := F.called_set.init.bind (.ref s.heap.objs.size)
      repeat (any_goals (first | assumption | wp_step))
      refine codeAny_mono (codeAny_call_builtin (R := wants (fun r t2 => r = .none ∧ ∃ h' tk c, t2 = { s with heap := h', toks := tk } ∧ SetS w h' s.heap.objs.size (fun y => decide (y ∈ x.cps.toList.map fun c => (⟨#[c]⟩ : Str))) c ∧ c ≤ x.cps.size ∧
          (∀ b ob, s.heap.get? b = some ob → h'.get? b = some ob)) E) F.called_set.init.plain F.entry_set_init (check_set_init_1 ty0 ?_)) fun r2 t2 hr2 => ?_
      · have n1 := F.sub_str_set
        have n2 := F.sub_str_frozenset
        have n3 : (Value.type "str" == Value.type "dict") = false := by decide
        unfold Builtin.«set.__init__»
        unfold noKeywords
        unfold Builtin.Frozenset.updateFrom
        generalize hPI : pyIter = PI
        wp_walk
        subst hPI
        refine wpAny_pyIter_str fun o St walks st0 => ?_
        refine wpAny_bind (wpAny_runValue ?_)
        have hh3 : A.in1.in1.in1.handled = none := by simp [hh]
        have up : (s.heap.push (bare0 w)).objs.size = s.heap.objs.size + 1 := Heap.size_push ..
        have far : s.heap.objs.size ∉ [(s.heap.push (bare0 w)).objs.size] := fun z => by
          rw [List.mem_singleton, up] at z
          exact absurd z (Nat.ne_of_lt (Nat.lt_succ_self _))
        have len : x.cps.size = (x.cps.toList.map fun c => (⟨#[c]⟩ : Str)).length := by simp
        refine texts_loop ((walks _ hh3).toS) s.heap.objs.size far (x.cps.toList.map fun c => (⟨#[c]⟩ : Str)) len (by rw [← len]; exact room) (fun i v hv => ?_) x.cps.size 0 _ (Nat.sub_zero _) (Nat.zero_le _) st0 ?_ ?_
        · obtain ⟨c, t', h1, h2⟩ := hv
          exact ⟨⟨#[c]⟩, t', by rw [List.getElem?_map, Array.getElem?_toList, h1]; rfl, h2⟩
        · have at1 : ((s.heap.push (bare0 w)).push o).get? s.heap.objs.size = some (bare0 w) := Heap.get?_push_of_some _ at0
          exact ⟨0, Nat.le_refl 0, by rw [List.take_zero]; exact setS_bare at1⟩
        · intro t3 c3 mv hc3 hS3
          obtain ⟨h3, g3, d3, tk3, os3⟩ := t3
          have eg : g3 = s.gens := mv.gens
          have ed : d3 = s.drawn := mv.drawn
          have eo : os3 = s.os := mv.os
          subst eg
          subst ed
          subst eo
          show wpAny _ _ _ _ _ _
          refine wpAny_pure ?_
          show wpAny _ _ (ret Value.none) _ _ _
          refine wpAny_pure ⟨rfl, h3, tk3, c3, rfl, hS3, hc3, fun b ob e => ?_⟩
          have b0 : b < s.heap.objs.size := Heap.lt_size e
          refine mv.heap b ob (fun z => ?_) (Heap.get?_push_of_some _ (Heap.get?_push_of_some _ e))
          rcases List.mem_cons.mp z with z | z
          · exact absurd b0 (by rw [z]; exact Nat.lt_irrefl _)
          · rw [List.mem_singleton.mp z, up] at b0
            exact absurd b0 (Nat.not_lt.mpr (Nat.le_succ _))
      · cases r2 with
        | error e => exact hr2
        | ok fl2 =>
          cases fl2 with
          | ret r =>
            obtain ⟨rfl, h', tk, c', rfl, hS', hc', kp⟩ := hr2
            repeat (any_goals (first | assumption | wp_step))
            exact fin _ _ _ hS' hc' kp
          | _ => exact hr2.elim
    | _ => exact hr.elim
end
end TcG
/-! set(list of ints). -/
namespace TcG
open PySem PySem.Spec PyProof.Rows L2
section
variable {P : Program} {w : World} {A : Around} {E : Value → Shared → Prop} {s : Shared}
set_option maxHeartbeats 8000000 in
theorem call_set_ints {l : Addr} {items : Array Value} (ns : List Int) {Q : Value → Shared → Prop} (hh : A.handled = none) (hl : s.heap.IsList l items) (hi : IntsAre items.toList ns) (room : ns.length + 1 < scanBound)
    (fin : ∀ (h' : Heap) (tk c : Nat), SetR w h' s.heap.objs.size (fun y => decide (y ∈ ns)) c → c ≤ ns.length → (∀ b ob, s.heap.get? b = some ob → h'.get? b = some ob) → Q (.ref s.heap.objs.size) { s with heap := h', toks := tk }) :
    wpAny (model P w) A (call (.type "set") [.ref l]) Q E s := by
  obtain ⟨c, tl, hmro⟩ := F.called_set.mro
  have made := F.called_set.made
  have itself := F.called_set.sub
  refine wpAny_call (codeAny_of_tree ?_)
  show wpAny _ _ (callAny (.type "set") _) _ _ _
  refine wpAny_pure ⟨Code.quiet_builtin _ (by decide +kernel), codeAny_builtin F.entry_type_call ?_⟩
  rw [Around.under_plain (weight_type_call_type "set" [.ref l] []) rfl]
  have k1 := F.called_set.notType
  have k2 := F.called_set.canCreate
  have k3 := F.typeCall_set_1 (.ref l)
  repeat (any_goals (first | assumption | wp_step))
  refine codeAny_mono (code_set_led1 (P := P) (w := w) (.ref l) (E := E) (Q₁ := fun ob t => ob = .ref s.heap.objs.size ∧ t = { s with heap := s.heap.push (bare0 w) }) ⟨rfl, rfl⟩) fun r t hr => ?_
  cases r with
  | error e => exact hr
  | ok fl =>
    cases fl with
    | ret ob =>
      obtain ⟨rfl, rfl⟩ := hr
      have at0 : (s.heap.push (bare0 w)).get? s.heap.objs.size = some (bare0 w) := Heap.get?_push_size _ rfl
      have ty0 : Shared.TypeIs { s with heap := s.heap.push (bare0 w) } (.ref s.heap.objs.size) "set" := ⟨_, at0, rfl⟩
      have look := F.called_set.init.lookup
      have bind := F.called_set.init.bind (.ref s.heap.objs.size)
      repeat (any_goals (first | assumption | wp_step))
      refine codeAny_mono (codeAny_call_builtin (R := wants (fun r t2 => r = .none ∧ ∃ h' tk c, t2 = { s with heap := h', toks := tk } ∧ SetR w h' s.heap.objs.size (fun y => decide (y ∈ ns)) c ∧ c ≤ ns.length ∧
          (∀ b ob, s.heap.get? b = some ob → h'.get? b = some ob)) E) F.called_set.init.plain F.entry_set_init (check_set_init_1 ty0 ?_)) fun r2 t2 hr2 => ?_
      · obtain ⟨ol, hol, hcl, nl, hdl⟩ := hl
        obtain ⟨lcls, ldict, ldata, lslots⟩ := ol
        simp only at hcl hdl
        subst hcl
        subst hdl
        have hol1 : (s.heap.push (bare0 w)).get? l = some { cls := .type "list", dict := ldict, data := .seq items nl, slots := lslots } := Heap.get?_push_of_some _ hol
        have n1 := F.sub_list_set
        have n2 := F.sub_list_frozenset
        have n3 : (Value.type "list" == Value.type "dict") = false := by decide
        have hl1 : (s.heap.push (bare0 w)).IsList l items := ⟨_, hol1, rfl, nl, rfl⟩
        have ltl : l < s.heap.objs.size := Heap.lt_size hol
        have len : items.size = ns.length := by
          have q := IntsAre.length hi
          rw [Array.length_toList] at q
          exact q
        unfold Builtin.«set.__init__»
        unfold noKeywords
        unfold Builtin.Frozenset.updateFrom
        generalize hPI : pyIter = PI
        wp_walk
        subst hPI
        refine wpAny_pyIter_list hl1 ?_
        refine wpAny_bind (wpAny_runValue ?_)
        have hh3 : A.in1.in1.in1.handled = none := by simp [hh]
        have up : (s.heap.push (bare0 w)).objs.size = s.heap.objs.size + 1 := Heap.size_push ..
        have apart : l ≠ (s.heap.push (bare0 w)).objs.size := fun z => by
          rw [up] at z
          exact absurd z (Nat.ne_of_lt (Nat.lt_succ_of_lt ltl))
        have far : s.heap.objs.size ∉ [(s.heap.push (bare0 w)).objs.size, l] := fun z => by
          rcases List.mem_cons.mp z with z | z
          · rw [up] at z
            exact absurd z (Nat.ne_of_lt (Nat.lt_succ_self _))
          · exact absurd (List.mem_singleton.mp z).symm (Nat.ne_of_lt ltl)
        refine set_update_ints ((Walks.list hh3 _ l apart items).toS) s.heap.objs.size far ns len room (fun i v hv => ?_) items.size 0 _ (Nat.sub_zero _) (Nat.zero_le _) ⟨⟨_, Heap.get?_push_size _ rfl, rfl, rfl⟩, hl1.push _⟩ ?_ ?_
        · have lt : i < ns.length := by rw [← len]; exact (Array.getElem?_eq_some_iff.mp hv).1
          obtain ⟨t, e⟩ := IntsAre.int_at hi i v (by rw [Array.getElem?_toList]; exact hv)
          refine ⟨ns[i], t, List.getElem?_eq_getElem lt, ?_⟩
          rw [e, List.getD_eq_getElem?_getD, List.getElem?_eq_getElem lt] <;> rfl
        · have at1 : ((s.heap.push (bare0 w)).push { cls := .type "list_iterator", data := .fields #[.ref l, .int 0 0] }).get? s.heap.objs.size = some (bare0 w) := Heap.get?_push_of_some _ at0
          exact ⟨0, Nat.le_refl 0, setR_new_at at1⟩
        · intro t3 c3 mv hc3 hS3
          obtain ⟨h3, g3, d3, tk3, os3⟩ := t3
          have eg : g3 = s.gens := mv.gens
          have ed : d3 = s.drawn := mv.drawn
          have eo : os3 = s.os := mv.os
          subst eg
          subst ed
          subst eo
          show wpAny _ _ _ _ _ _
          refine wpAny_pure ?_
          show wpAny _ _ (ret Value.none) _ _ _
          refine wpAny_pure ⟨rfl, h3, tk3, c3, rfl, hS3, by rw [← len]; exact hc3, fun b ob e => ?_⟩
          have b0 : b < s.heap.objs.size := Heap.lt_size e
          refine mv.heap b ob (fun z => ?_) (Heap.get?_push_of_some _ (Heap.get?_push_of_some _ e))
          rcases List.mem_cons.mp z with z | z
          · exact absurd b0 (by rw [z]; exact Nat.lt_irrefl _)
          · rw [List.mem_singleton.mp z, up] at b0
            exact absurd b0 (Nat.not_lt.mpr (Nat.le_succ _))
      · cases r2 with
        | error e => exact hr2
        | ok fl2 =>
          cases fl2 with
          | ret r =>
            obtain ⟨rfl, h', tk, c', rfl, hS', hc', kp⟩ := hr2
            repeat (any_goals (first | assumption | wp_step))
            exact fin _ _ _ hS' hc' kp
          | _ => exact hr2.elim
    | _ => exact hr.elim
end
end TcG
/-! sorted of a list of texts, however many. -/
namespace TcG
open PySem PySem.Spec PyProof.Rows L2
def rSortedA (K : PySem.W.Frag) : List V → Hp → VK → Prop := fun vs H Q => ∃ (a : Addr) (xs : List Str), vs = [V.ref a] ∧ SqL K H a (xs.map V.str) ∧ xs.length ≤ sizeLine ∧
  ∀ (ys : List Str) (p : Addr), ys.Perm xs → sortedS ys = true → H p = none → Q (.ref p) (upd H p (.lst (ys.map V.str)))
theorem cr_sortedA {X : Cx} : CallR X (.builtin "sorted") (rSortedA X.K) := by
  intro pins s σ H vs us Q I r h
  obtain ⟨a, xs, rfl, hs, hz, q⟩ := h
  obtain ⟨its, rv, hl, _⟩ := I.list hs
  rw [Vals.ref1 r]
  have hlen0 := rv.length
  rw [List.length_map] at hlen0
  refine PyProof.Rows.sorted_strsAny hl.isList rv.strs (by rw [← hlen0]; exact hz) fun out ys h1 h2 h3 => ?_
  obtain ⟨ep, he'⟩ := PyProof.Rows.sortedAll_at s.heap its out
  have hlen : (ys.map V.str).length ≤ sizeLine := by rw [List.length_map, h2.length_eq]; exact hz
  exact ⟨.ref _, upd H (s.heap.objs.size + 1) (.lst (ys.map V.str)), I.laid (t' := s.toks) (fun _ _ => PyProof.Rows.sortedAll_old) (Nat.le_succ _) ⟨hlen, out.toList, ep, vals_of_strs h1, he'⟩, rfl, q ys _ h2 h3 (I.hok.fresh (Nat.le_succ _))⟩
/-- what sep.join(list) asks -/
def rJoin (K : PySem.W.Frag) : V → List V → Hp → VK → Prop := fun x xs H Q => ∃ a p, ∃ ys : List Str, x = .str a ∧ xs = [.ref p] ∧ (SqL K H p (ys.map V.str) ∨ SqT K H p (ys.map V.str)) ∧ (ys.map (·.length)).sum + ys.length * a.length ≤ 16777216 ∧ Q (.str (Txt.join a ys)) H
theorem words_rising : ∀ (l : List (List Nat)), sortedS (l.map tx) = true → l.Pairwise (· ≤ ·) := by
  have step : ∀ (l : List (List Nat)) (x : List Nat), risingS (tx x) (l.map tx) = true → (x :: l).Pairwise (· ≤ ·) := by
    intro l
    induction l with
    | nil => intro x _; exact List.pairwise_singleton ..
    | cons y r ih =>
      intro x h
      have h' : (_ && risingS (tx y) (r.map tx)) = true := h
      obtain ⟨h1, h2⟩ := Bool.and_eq_true_iff.mp h'
      have le : x ≤ y := by
        have h1 : (!ltCps (tx y).cps.toList (tx x).cps.toList) = true := h1
        rw [tx_list, tx_list, ltCps_eq, Bool.not_eq_true', decide_eq_false_iff_not] at h1
        exact List.not_lt.mp h1
      have pr := ih y h2
      refine List.pairwise_cons.mpr ⟨fun z hz => ?_, pr⟩
      rcases List.mem_cons.mp hz with e | hz
      · rw [e]
        exact le
      · exact List.le_trans le ((List.pairwise_cons.mp pr).1 z hz)
  intro l h
  cases l with
  | nil => exact List.Pairwise.nil
  | cons x r => exact step r x h
theorem lt_of_le_ne {a b : List Nat} (h : a ≤ b) (ne : a ≠ b) : a < b := by
  by_cases l : a < b
  · exact l
  · exact absurd (List.le_antisymm h (List.not_lt.mp l)) ne
/-- the one list of just these words in order -/
theorem words_sorted {F L : List (List Nat)} {ys : List Str} (nd : F.Nodup) (same : ∀ v, v ∈ F ↔ v ∈ L) (up : L.Pairwise (· < ·)) (pm : ys.Perm (F.map tx)) (so : sortedS ys = true) : ys = L.map tx := by
  have hy : ys = (ys.map fun s => s.cps.toList).map tx := by
    rw [List.map_map]
    exact ((List.map_id ys).symm.trans (List.map_congr_left fun s hs => rfl))
  have pm2 : (ys.map fun s => s.cps.toList).Perm F := by
    have q := pm.map fun s : Str => s.cps.toList
    rw [List.map_map] at q
    have e : F.map ((fun s : Str => s.cps.toList) ∘ tx) = F := (List.map_congr_left fun s _ => tx_list s).trans (List.map_id F)
    rw [e] at q
    exact q
  rw [hy] at so
  have le := words_rising _ so
  have nd2 := pm2.nodup_iff.mpr nd
  have lt : (ys.map fun s => s.cps.toList).Pairwise (· < ·) := by
    have := List.pairwise_and_iff.mpr ⟨le, nd2⟩
    exact this.imp fun h => lt_of_le_ne h.1 h.2
  rw [hy, rising_one (fun x => List.lt_irrefl x) (fun x y z => List.lt_trans) _ L lt up fun v => (pm2.mem_iff).trans (same v)]
end TcG
namespace TcG
open PySem PySem.Spec PyProof.Rows L2
theorem glued_fold : ∀ (ys : List (List Nat)) (acc : Array Nat), (ys.map tx).foldl (fun acc p => acc ++ (tx []).cps ++ p.cps) acc = acc ++ ys.flatten.toArray
  | [], acc => by simp
  | y :: r, acc => by
    rw [List.map_cons, List.foldl_cons, glued_fold r]
    show acc ++ (#[] : Array Nat) ++ y.toArray ++ r.flatten.toArray = _
    simp
theorem join_flat (ys : List (List Nat)) : Txt.join (tx []) (ys.map tx) = tx ys.flatten := by
  cases ys with
  | nil => rfl
  | cons y r =>
    show (⟨((r.map tx)).foldl (fun acc p => acc ++ (tx []).cps ++ p.cps) (tx y).cps⟩ : Str) = _
    rw [glued_fold]
    show (⟨y.toArray ++ r.flatten.toArray⟩ : Str) = ⟨(y ++ r.flatten).toArray⟩
    simp
theorem ones_map (l : List Nat) : ones l = (l.map fun c => [c]).map tx := by
  unfold ones
  rw [List.map_map]
  rfl
theorem join_ones (l : List Nat) : Txt.join (tx []) (ones l) = tx l := by
  rw [ones_map, join_flat]
  congr 1
  induction l with
  | nil => rfl
  | cons c r ih =>
    rw [List.map_cons, List.flatten_cons, ih]
    rfl
theorem ones_len (l : List Nat) : (ones l).length = l.length := by unfold ones; rw [List.length_map]
theorem ones_sum (l : List Nat) : ((ones l).map (·.length)).sum = l.length := by
  induction l with
  | nil => rfl
  | cons c r ih =>
    show ((tx [c]).length :: (ones r).map (·.length)).sum = _
    rw [List.sum_cons, ih, List.length_cons, show (tx [c]).length = 1 from rfl, Nat.add_comm]
theorem ones_V (l : List Nat) : (l.map fun c => V.str (tx [c])) = (ones l).map V.str := by
  unfold ones
  rw [List.map_map]
  rfl
theorem ones_append (a b : List Nat) : ones (a ++ b) = ones a ++ ones b := by
  unfold ones
  rw [List.map_append]
/-- sorted letters are the sorted letters -/
theorem ones_sorted {l : List Nat} {ys : List Str} (p : ys.Perm (ones l)) (h : sortedS ys = true) : ∃ m, ys = ones m ∧ m.Perm l ∧ m.Pairwise (· ≤ ·) := by
  obtain ⟨m, rfl, pm⟩ := ones_of p
  exact ⟨m, rfl, pm, ones_rising m h⟩
end TcG
/-! sorted(set of texts); set(text) and set(list of ints) in short. -/
namespace TcG
open PySem PySem.Spec PyProof.Rows L2
theorem strs_of : ∀ (l : List Value), (∀ v ∈ l, ∃ z u, v = Value.str z u) → ∃ zs, StrsAre l zs ∧ zs = l.map fun v => match v with | .str z _ => z | _ => ⟨#[]⟩
  | [], _ => ⟨[], .nil, rfl⟩
  | v :: l, h => by
    obtain ⟨z, u, rfl⟩ := h v List.mem_cons_self
    obtain ⟨zs, q, e⟩ := strs_of l fun y hy => h y (List.mem_cons_of_mem _ hy)
    exact ⟨z :: zs, .cons z u q, by rw [e]; rfl⟩
section
variable {P : Program} {w : World} {A : Around} {E : Value → Shared → Prop} {s : Shared} {a : Addr} {S : Str → Bool} {n : Nat}
theorem sorted_texts {Q : Value → Shared → Prop} (R : SetS w s.heap a S n) (hh : A.handled = none)
    (fin : ∀ t p (out : Array Value) (c : Nat) (zs : List Str), (∀ b ob, s.heap.get? b = some ob → t.heap.get? b = some ob) → t.gens = s.gens → t.os = s.os → s.heap.objs.size ≤ p →
      t.heap.get? p = some (seqObj "list" out c) → StrsAre out.toList zs → sortedS zs = true → zs.Nodup → (∀ z, z ∈ zs ↔ S z = true) → zs.length = n → Q (.ref p) t) :
    wpAny (model P w) A (call (.builtin "sorted") [.ref a]) Q E s := by
  obtain ⟨ob, el, k, tb, hob, exact_, hdat, g, uq, hm, hb, hf, hn, hr, hl⟩ := R
  refine Calls.call_function_entry kind_sorted plain_sorted entry_sorted (args_sorted1 _) ?_
  unfold Builtin.«sorted»
  refine wpAny_bind (m := checkCount "sorted" 1 1 _) (wpAny_pure ?_)
  refine wpAny_bind (collect_set (A := A.in1) hh ⟨ob, hob, exact_.1, hdat⟩ hf hb hr hl fun t vs keep big eg eo pm => ?_)
  have few : vs.length = n := by rw [pm.length_eq, List.length_map, Array.length_toList]; exact hn
  have room : vs.length ≤ sizeLine := by rw [few, ← hn]; exact fits_of_scanBound hb
  obtain ⟨zs, hzs, ez⟩ := strs_of vs fun v hv => by
    obtain ⟨e, he, q⟩ := List.mem_map.mp (pm.mem_iff.mp hv)
    obtain ⟨z, u, h1, _⟩ := g e he
    exact ⟨z, u, by rw [← q]; exact h1⟩
  have pz : zs.Perm (el.toList.map txtOf) := by
    rw [ez]
    have q := pm.map (fun v : Value => match v with | .str z _ => z | _ => (⟨#[]⟩ : Str))
    rw [List.map_map] at q
    exact q
  refine wpAny_bind (wpAny_newList ?_ room)
  have hoL : (t.heap.push (seqObj "list" vs.toArray 0)).get? t.heap.objs.size = some (seqObj "list" vs.toArray 0) := Heap.get?_push_size _ rfl
  refine wpAny_bind (wpAny_holding (wpAny_call_entry slot_list_sort ⟨_, hoL, rfl⟩ entry_list_sort (list_sort_treeKAny strKind_oneLt hoL hzs.keysOf (fun v₁ v₂ rest e => keyKind_strs (by rw [← e]; exact hzs)) room fun st' hp hs => ⟨_, rfl, ?_⟩) (args_list_sort _)))
  obtain ⟨ys, a1, a2, a3⟩ := sorted_out_str hzs hp hs
  obtain ⟨c, hc⟩ := sortedHeap_at (vs := vs) (out := (arrOf st').map (·.2)) hoL
  have py : ys.Perm (el.toList.map txtOf) := a2.trans pz
  refine wpAny_pure ⟨_, rfl, fin _ t.heap.objs.size _ c ys (fun b ob2 e => ?_) eg eo big hc a1 a3 (py.nodup_iff.mpr uq) (fun z => by rw [py.mem_iff, ← hm z]) ?_⟩
  · have q := keep b ob2 e
    have lt := Heap.lt_size q
    show (sortedHeap (t.heap.push (seqObj "list" vs.toArray 0)) t.heap.objs.size vs _).get? b = some ob2
    rw [sortedHeap_old (Nat.ne_of_lt lt) (by rw [size_push']; exact Nat.lt_succ_of_lt lt)]
    exact Heap.get?_push_of_some _ q
  · rw [py.length_eq, List.length_map, Array.length_toList]
    exact hn
end
def SetSO (w : World) (a : Addr) (S : Str → Bool) (n : Nat) : HO := .ext fun h => SetS w h a S n
theorem setSO_new {w : World} {P : Program} {H : Hp} {h : Heap} {a : Addr} {S : Str → Bool} {n : Nat} (R : SetS w h a S n) : ObjOk P w H h a (SetSO w a S n) := by
  have ⟨ob, _, _, _, e, _⟩ := R
  exact ⟨R, ⟨ob, e⟩, fun h1 h2 p k => SetS.keep p k⟩
section
variable {X : Cx}
/-- set(text) -/
def rSetTxt (w : World) : List V → Hp → VK → Prop := fun xs H Q => ∃ l : List Nat, xs = [.str (tx l)] ∧ l.length + 1 < scanBound ∧ ∀ a c, H a = none → c ≤ l.length → Q (.ref a) (upd H a (SetSO w a (fun y => decide (y ∈ ones l)) c))
theorem cr_setTxt (hc : X.calm = true) : CallR X (.type "set") (rSetTxt X.w) := by
  intro pins s σ H xs us Q I r h
  obtain ⟨l, rfl, room, q⟩ := h
  obtain ⟨u, rfl, ru⟩ := vals1 r
  obtain ⟨t, rfl⟩ := ru
  have size : (tx l).cps.size = l.length := tx_length l
  refine call_set_text (I.ok.hd hc) (by rw [size]; exact room) fun h' tk c R le kp => ?_
  have e : (tx l).cps.toList.map (fun c => (⟨#[c]⟩ : Str)) = ones l := by rw [tx_list]; rfl
  rw [e] at R
  exact ⟨.ref s.heap.objs.size, _, I.laid (t' := tk) (fun b ob e => kp b ob e) (Nat.le_refl _) (setSO_new R), rfl, q _ c I.fresh (by rw [← size]; exact le)⟩
/-- sorted(set of texts) -/
def rSortedTxt (w : World) : List V → Hp → VK → Prop := fun vs H Q => ∃ (a : Addr) (S : Str → Bool) (n : Nat), vs = [V.ref a] ∧ H a = some (SetSO w a S n) ∧
  ∀ (ys : List Str) (p : Addr), ys.Nodup → (∀ z, z ∈ ys ↔ S z = true) → sortedS ys = true → H p = none → Q (.ref p) (upd H p (.lst (ys.map V.str)))
theorem cr_sortedTxt (hc : X.calm = true) : CallR X (.builtin "sorted") (rSortedTxt X.w) := by
  intro pins s σ H vs us Q I r h
  obtain ⟨a, S, n, rfl, ha, q⟩ := h
  have R : SetS X.w s.heap a S n := (I.hok a _ ha).1
  rw [Vals.ref1 r]
  refine sorted_texts R (I.ok.hd hc) fun t p out c ys k g o hp hg hi so nd hm hl => ?_
  have small : (ys.map V.str).length ≤ sizeLine := by
    obtain ⟨_, el, _, _, _, _, _, _, _, _, hb, _, hn, _⟩ := R
    rw [List.length_map, hl, ← hn]
    exact fits_of_scanBound hb
  have np : H p = none := I.hok.fresh hp
  have J : Inv X pins σ (upd H p (.lst (ys.map V.str))) { s with heap := t.heap, gens := t.gens, drawn := t.drawn, toks := t.toks } :=
    I.call (ch := []) (Un.laid k hp np) (I.hok.laid k hp ⟨small, out.toList, c, vals_of_strs hi, hg⟩) (by rw [g]; exact I.bare) (fun _ z => nomatch z)
  have e : t = { s with heap := t.heap, gens := t.gens, drawn := t.drawn, toks := t.toks } := by
    cases t
    cases s
    cases o
    rfl
  rw [e]
  exact ⟨.ref p, _, J, rfl, q ys p nd hm so np⟩
/-- set(list of ints) -/
def rSetInts (K : PySem.W.Frag) (w : World) : List V → Hp → VK → Prop := fun xs H Q => ∃ (l : Addr) (ns : List Int), xs = [.ref l] ∧ SqL K H l (ns.map V.int) ∧ ns.length + 1 < scanBound ∧ ∀ (a : Addr) (ks : List Int), H a = none → ks.Nodup → (∀ k, k ∈ ks ↔ k ∈ ns) → Q (.ref a) (upd H a (SetO w a (fun k => decide (k ∈ ns)) ks.length))
theorem cr_setInts (hc : X.calm = true) : CallR X (.type "set") (rSetInts X.K X.w) := by
  intro pins s σ H xs us Q I r h
  obtain ⟨l, ns, rfl, hl, room, q⟩ := h
  obtain ⟨its, rv, p, _⟩ := I.list hl
  rw [Vals.ref1 r]
  refine call_set_ints ns (I.ok.hd hc) p.isList rv.ints room fun h' tk c R le kp => ?_
  obtain ⟨ks, nd, hk, hc2⟩ : ∃ ks : List Int, ks.Nodup ∧ (∀ k, k ∈ ks ↔ k ∈ ns) ∧ ks.length = c := by
    obtain ⟨_, el, _, _, _, _, _, _, uq, hm, _, _, hn, _⟩ := id R
    refine ⟨el.toList.map keyOf, uq, fun k => ?_, by rw [List.length_map, Array.length_toList]; exact hn⟩
    rw [← hm k, decide_eq_true_eq]
  subst hc2
  exact ⟨.ref s.heap.objs.size, _, I.laid (t' := tk) (fun b ob e => kp b ob e) (Nat.le_refl _) (setO_new R), rfl, q _ ks I.fresh nd hk⟩
end
end TcG
/-! sorted(text); text * number. -/
namespace TcG
open PySem PySem.Spec PyProof.Rows L2
def repN (n : Nat) (l : List Nat) : List Nat := (List.replicate n l).flatten
theorem repN_len (n : Nat) (l : List Nat) : (repN n l).length = n * l.length := by
  unfold repN
  induction n with
  | zero => simp
  | succ n ih => rw [List.replicate_succ, List.flatten_cons, List.length_append, ih, Nat.succ_mul, Nat.add_comm]
theorem mul_fold (x : Array Nat) : ∀ (n : Nat) (acc : Array Nat), ((List.replicate n x).foldl (· ++ ·) acc).toList = acc.toList ++ (List.replicate n x.toList).flatten
  | 0, acc => by simp
  | n + 1, acc => by
    rw [List.replicate_succ, List.foldl_cons, mul_fold x n, List.replicate_succ, List.flatten_cons, Array.toList_append, List.append_assoc]
theorem mul_tx (l : List Nat) (n : Nat) : Txt.mul (tx l) (n : Int) = tx (repN n l) := by
  unfold Txt.mul
  cases n with
  | zero => rw [if_pos (by decide)]; rfl
  | succ n =>
    rw [if_neg (by omega)]
    split
    · rename_i h
      rcases Bool.or_eq_true_iff.mp h with h | h
      · have h : ((n + 1 : Nat) : Int) = 1 := by simpa using h
        obtain rfl : n = 0 := by omega
        unfold repN
        simp
      · have h : (tx l).length = 0 := by simpa using h
        rw [tx_length] at h
        rw [List.length_eq_zero_iff.mp h]
        unfold repN
        simp
    · have e : ((n + 1 : Nat) : Int).toNat = n + 1 := rfl
      rw [e]
      have := mul_fold (tx l).cps (n + 1) #[]
      have e2 : (List.replicate (n + 1) (tx l).cps).foldl (· ++ ·) #[] = ((List.replicate (n + 1) l).flatten).toArray := by
        apply Array.toList_inj.mp
        rw [this]
        show [] ++ _ = _
        rw [List.nil_append]
        show (List.replicate (n + 1) (tx l).cps.toList).flatten = _
        rw [tx_list]
      rw [e2]
      rfl
theorem op_mulT {X : Cx} : OpR X (binaryOp .Mult) (fun x y H Q => ∃ (l : List Nat) (n : Nat), x = .str (tx l) ∧ y = .int n ∧ n ≤ 1000 ∧ l.length ≤ 1000 ∧ Q (.str (tx (repN n l))) H) := by
  intro pins s σ H x y v u Q I rx ry h
  obtain ⟨l, n, rfl, rfl, hn, hl, q⟩ := h
  obtain ⟨t, rfl⟩ := rx
  obtain ⟨t', rfl⟩ := ry
  refine PySem.SB.mul ⟨?_, fun _ _ => ?_, fun _ _ => ?_⟩ fun t2 k => ?_
  · have h1 : decide ((n : Int) < -(2 ^ 63 : Int)) = false := decide_eq_false (by omega)
    have h2 : decide ((n : Int) ≥ 2 ^ 63) = false := decide_eq_false (by omega)
    rw [h1, h2]
    rfl
  · rw [tx_length]
    have hp : (1 : Int) ≤ n := by omega
    have h3 : (1000 : Int) ≤ (2 ^ 63 - 1) / (n : Int) := by
      have : (1000 : Int) * n ≤ 2 ^ 63 - 1 := by omega
      exact Int.le_ediv_of_mul_le (by omega) this
    omega
  · rw [tx_length]
    have : l.length * (n : Int).toNat ≤ 1000 * 1000 := Nat.mul_le_mul hl (by omega)
    exact decide_eq_false (by have h2 : (1000 * 1000 : Nat) ≤ sizeLine := by decide
                              omega)
  · rw [mul_tx]
    exact ⟨.str (tx (repN n l)), H, I.tok k, ⟨t2, rfl⟩, q⟩
/-- sorted(text) -/
def rSortedX : List V → Hp → VK → Prop := fun vs H Q => ∃ l : List Nat, vs = [.str (tx l)] ∧ l.length ≤ 1000 ∧ ∀ (p : Addr), H p = none → Q (.ref p) (upd H p (.lst ((ones (sortN l)).map V.str)))
theorem cr_sortedX {X : Cx} (hc : X.calm = true) : CallR X (.builtin "sorted") rSortedX := by
  intro pins s σ H vs us Q I r h
  obtain ⟨l, rfl, few, q⟩ := h
  obtain ⟨u, rfl, ru⟩ := vals1 r
  obtain ⟨t0, rfl⟩ := (show ∃ t, u = Value.str (tx l) t from ru)
  have size : (tx l).cps.size = l.length := tx_length l
  refine Calls.call_function_entry kind_sorted plain_sorted entry_sorted (args_sorted1 _) ?_
  unfold Builtin.«sorted»
  refine wpAny_bind (m := checkCount "sorted" 1 1 _) (wpAny_pure ?_)
  refine wpAny_bind (wpAny_collect_str (A := X.A.in1) (I.ok.hd hc) (tx l) t0 (fun t acc keep eg ed eo items => ?_) (by rw [size]; exact Nat.le_trans few (by decide)))
  have len : acc.toList.length = l.length := by rw [Array.length_toList, items.1, size]
  have each : ∀ (l : List Nat) (vs : List Value), vs.length = l.length → (∀ (j : Nat) v, vs[j]? = some v → ∃ c u, l[j]? = some c ∧ v = .str ⟨#[c]⟩ u) → StrsAre vs (ones l) := by
    intro l
    induction l with
    | nil =>
      intro vs e _
      cases vs with
      | nil => exact .nil
      | cons _ _ => cases e
    | cons c r ih =>
      intro vs e h
      cases vs with
      | nil => cases e
      | cons v vs =>
        obtain ⟨c', u, e1, rfl⟩ := h 0 v rfl
        cases e1
        exact .cons _ u (ih vs (Nat.succ.inj e) fun j v hj => h (j + 1) v hj)
  have hzs : StrsAre acc.toList (ones l) := each l acc.toList len fun j v hj => by
    obtain ⟨c, u, e1, e2⟩ := items.2 j v (by simpa using hj)
    exact ⟨c, u, by simpa [tx] using e1, e2⟩
  have room : acc.toList.length ≤ sizeLine := by rw [len]; exact Nat.le_trans few (by decide)
  refine wpAny_bind (wpAny_newList ?_ room)
  have hoL : (t.heap.push (seqObj "list" acc.toList.toArray 0)).get? t.heap.objs.size = some (seqObj "list" acc.toList.toArray 0) := Heap.get?_push_size _ rfl
  refine wpAny_bind (wpAny_holding (wpAny_call_entry slot_list_sort ⟨_, hoL, rfl⟩ entry_list_sort (list_sort_treeKAny strKind_oneLt hoL hzs.keysOf (fun v₁ v₂ rest e => keyKind_strs (by rw [← e]; exact hzs)) room fun st' hp hs => ⟨_, rfl, ?_⟩) (args_list_sort _)))
  obtain ⟨ys, a1, a2, a3⟩ := sorted_out_str hzs hp hs
  obtain ⟨m, rfl, pm, hm⟩ := ones_sorted a2 a3
  have em : m = sortN l := sortN_of pm hm
  subst em
  obtain ⟨c, hc'⟩ := sortedHeap_at (vs := acc.toList) (out := (arrOf st').map (·.2)) hoL
  have kp : ∀ b ob, s.heap.get? b = some ob → (sortedHeap (t.heap.push (seqObj "list" acc.toList.toArray 0)) t.heap.objs.size acc.toList ((arrOf st').map (·.2))).get? b = some ob := fun b ob e => by
    have k := keep b ob e
    have lt := Heap.lt_size k
    rw [sortedHeap_old (Nat.ne_of_lt lt) (by rw [size_push']; exact Nat.lt_succ_of_lt lt)]
    exact Heap.get?_push_of_some _ k
  have free : s.heap.get? t.heap.objs.size = none := by
    cases e : s.heap.get? t.heap.objs.size with
    | none => rfl
    | some ob => exact absurd (Heap.lt_size (keep _ _ e)) (Nat.lt_irrefl _)
  have new : H t.heap.objs.size = none := I.hok.gone free
  have small : ((ones (sortN l)).map V.str).length ≤ sizeLine := by
    rw [List.length_map, ones_len, (sortN_perm l).length_eq]
    exact Nat.le_trans few (by decide)
  refine wpAny_pure ⟨_, rfl, ?_⟩
  have J := I.laidN (t' := t.toks) (a := t.heap.objs.size) (o := .lst ((ones (sortN l)).map V.str)) kp free new ⟨small, _, c, vals_of_strs a1, hc'⟩
  have e : ({ s with heap := sortedHeap (t.heap.push (seqObj "list" acc.toList.toArray 0)) t.heap.objs.size acc.toList ((arrOf st').map (·.2)), toks := t.toks } : Shared) = { t with heap := sortedHeap (t.heap.push (seqObj "list" acc.toList.toArray 0)) t.heap.objs.size acc.toList ((arrOf st').map (·.2)) } := by
    cases t
    cases s
    cases eg
    cases ed
    cases eo
    rfl
  rw [e] at J
  exact ⟨.ref t.heap.objs.size, _, J, rfl, q _ new⟩
end TcG
/-! What is left of a word behind the letters of another one that are taken off its front. -/
namespace TcG
open PySem PySem.Spec PyProof.Rows L2
variable {ps : List (List Nat)} {ls : List Nat}
def offM (ps : List (List Nat)) : List Nat → List Nat → Option (List Nat)
  | [], l => some l
  | c :: u, l => if c ∈ firstsM ps l then offM ps u (l.erase c) else none
theorem off_app : ∀ (u v l : List Nat), offM ps (u ++ v) l = (offM ps u l).bind (offM ps v)
  | [], v, l => rfl
  | c :: u, v, l => by
    show (if c ∈ firstsM ps l then offM ps (u ++ v) (l.erase c) else none) = (if c ∈ firstsM ps l then offM ps u (l.erase c) else none).bind (offM ps v)
    split
    · exact off_app u v _
    · rfl
theorem off_one {c : Nat} {l : List Nat} : offM ps [c] l = if c ∈ firstsM ps l then some (l.erase c) else none := rfl
theorem off_exs : ∀ (u l v : List Nat), offM ps u l = some v → Exs ps l (u ++ v)
  | [], l, v, h => by
    cases h
    exact .refl l
  | c :: u, l, v, h => by
    have h : (if c ∈ firstsM ps l then offM ps u (l.erase c) else none) = some v := h
    by_cases hc : c ∈ firstsM ps l
    · rw [if_pos hc] at h
      exact (lead_erase (mem_firsts.mp hc)).trans ((off_exs u _ v h).pre [c])
    · rw [if_neg hc] at h
      cases h
theorem off_sub : ∀ (u l v : List Nat), offM ps u l = some v → v.Sublist l
  | [], l, v, h => by
    cases h
    exact List.Sublist.refl l
  | c :: u, l, v, h => by
    have h : (if c ∈ firstsM ps l then offM ps u (l.erase c) else none) = some v := h
    by_cases hc : c ∈ firstsM ps l
    · rw [if_pos hc] at h
      exact (off_sub u _ v h).trans List.erase_sublist
    · rw [if_neg hc] at h
      cases h
/-- a prefix can be taken off, and what is left is alike the rest -/
theorem off_of (pr : Pairs ls ps) : ∀ (u l v : List Nat), (∀ c ∈ l, c ∈ ls) → Exs ps l (u ++ v) → ∃ v', offM ps u l = some v' ∧ Exs ps v' v
  | [], l, v, _, h => ⟨l, rfl, h⟩
  | c :: u, l, v, il, h => by
    obtain ⟨lead, h2⟩ := (exs_cons pr il).mp h
    obtain ⟨v', e, h3⟩ := off_of pr u (l.erase c) v (erase_in il) h2
    refine ⟨v', ?_, h3⟩
    show (if c ∈ firstsM ps l then offM ps u (l.erase c) else none) = _
    rw [if_pos (mem_firsts.mpr lead), e]
end TcG
/-! How many words are alike one: the numbers of the rows add up to it. -/
namespace TcG
open PySem PySem.Spec PyProof.Rows L2
variable {ps : List (List Nat)} {ls : List Nat}
def cntM (ps : List (List Nat)) (w : List Nat) : Nat := (allM ps w.length w).length
theorem cnt_nil : cntM ps [] = 1 := rfl
theorem cnt_step {w : List Nat} (ne : w ≠ []) : cntM ps w = ((firstsM ps w).map fun c => cntM ps (w.erase c)).sum := by
  obtain ⟨n, hn⟩ : ∃ n, w.length = n + 1 := by
    cases w with
    | nil => exact absurd rfl ne
    | cons x r => exact ⟨r.length, rfl⟩
  unfold cntM
  rw [hn]
  show ((firstsM ps w).flatMap fun c => (allM ps n (w.erase c)).map (c :: ·)).length = _
  rw [List.length_flatMap]
  refine congrArg List.sum (List.map_congr_left fun c hc => ?_)
  rw [List.length_map, erase_len (lead_mem (mem_firsts.mp hc)) hn]
def sumR (f : List Nat → Nat) (r : Row) : Nat := (r.map fun p => p.2 * f p.1).sum
theorem sum_cons (f : List Nat → Nat) (p : List Nat × Nat) (r : Row) : sumR f (p :: r) = p.2 * f p.1 + sumR f r := by
  unfold sumR
  rw [List.map_cons, List.sum_cons]
theorem sum_app (f : List Nat → Nat) (r m : Row) : sumR f (r ++ m) = sumR f r + sumR f m := by
  unfold sumR
  rw [List.map_append, List.sum_append]
theorem map_other {w : List Nat} {n : Nat} : ∀ {r : Row}, w ∉ keysR r → (r.map fun p => if p.1 = w then (p.1, p.2 + n) else p) = r
  | [], _ => rfl
  | p :: r, h => by
    have h1 : ¬ p.1 = w := fun z => h (by rw [← z]; exact List.mem_cons_self)
    rw [List.map_cons, if_neg h1, map_other fun z => h (List.mem_cons_of_mem _ z)]
theorem sum_map (f : List Nat → Nat) {w : List Nat} {n : Nat} : ∀ {r : Row}, (keysR r).Nodup → w ∈ keysR r → sumR f (r.map fun p => if p.1 = w then (p.1, p.2 + n) else p) = sumR f r + n * f w
  | [], _, h => absurd h (by simp [keysR])
  | p :: r, nd, h => by
    have nd : (p.1 :: keysR r).Nodup := nd
    obtain ⟨n1, n2⟩ := List.nodup_cons.mp nd
    rw [List.map_cons, sum_cons, sum_cons]
    by_cases e : p.1 = w
    · rw [if_pos e, map_other (by rw [← e]; exact n1)]
      show (p.2 + n) * f p.1 + _ = _
      rw [Nat.add_mul, e]
      omega
    · have h : w ∈ p.1 :: keysR r := h
      have h2 : w ∈ keysR r := (List.mem_cons.mp h).resolve_left fun z => e z.symm
      rw [if_neg e, sum_map f n2 h2]
      omega
theorem sum_add (f : List Nat → Nat) {r : Row} {w : List Nat} {n : Nat} (nd : (keysR r).Nodup) : sumR f (addTo r w n) = sumR f r + n * f w := by
  unfold addTo
  split
  · rename_i h
    exact sum_map f nd h
  · rw [sum_app, sum_cons]
    show sumR f r + (n * f w + 0) = _
    omega
theorem sum_fold (f : List Nat → Nat) (w : List Nat) (n : Nat) : ∀ (l : List Nat) (acc : Row), (keysR acc).Nodup → sumR f (l.foldl (fun acc c => addTo acc (w.erase c) n) acc) = sumR f acc + n * (l.map fun c => f (w.erase c)).sum
  | [], acc, _ => by simp
  | c :: l, acc, nd => by
    rw [List.foldl_cons, sum_fold f w n l _ (add_nodup nd), sum_add f nd, List.map_cons, List.sum_cons, Nat.mul_add]
    omega
theorem sum_steps : ∀ (r acc : Row), (keysR acc).Nodup → (∀ v ∈ keysR r, v ≠ []) → sumR (cntM ps) (r.foldl (stepR ps) acc) = sumR (cntM ps) acc + sumR (cntM ps) r
  | [], acc, _, _ => by simp [sumR]
  | p :: r, acc, nd, ne => by
    rw [List.foldl_cons, sum_steps r _ (step_nodup ps p acc nd) fun v hv => ne v (List.mem_cons_of_mem _ hv), sum_cons]
    have h : sumR (cntM ps) (stepR ps acc p) = sumR (cntM ps) acc + p.2 * cntM ps p.1 := by
      unfold stepR
      rw [sum_fold (cntM ps) p.1 p.2 _ acc nd, ← cnt_step (ne p.1 List.mem_cons_self)]
    rw [h]
    omega
theorem sum_rows (w : List Nat) : ∀ k, k ≤ w.length → sumR (cntM ps) (rowsM ps w k) = cntM ps w
  | 0, _ => by
    show 1 * cntM ps w + 0 = _
    omega
  | k + 1, h => by
    have ih := sum_rows w k (by omega)
    have facts := (rows_facts ps w k).2.2
    have st := sum_steps (ps := ps) (rowsM ps w k) [] (by exact List.nodup_nil) fun v hv z => by
      have := facts v hv
      rw [z] at this
      have : 0 + k = w.length := this
      omega
    show sumR (cntM ps) ((rowsM ps w k).foldl (stepR ps) []) = _
    rw [st, ih]
    show 0 + _ = _
    omega
theorem last_row (w : List Nat) : getR (rowsM ps w w.length) [] = some (cntM ps w) := by
  obtain ⟨nd, _, len⟩ := rows_facts ps w w.length
  have sum := sum_rows (ps := ps) w w.length (Nat.le_refl _)
  have pos : cntM ps w ≠ 0 := fun z => all_ne (ps := ps) w.length w rfl (List.length_eq_zero_iff.mp z)
  generalize rowsM ps w w.length = r at nd len sum
  have nil : ∀ v ∈ keysR r, v = [] := fun v hv => List.length_eq_zero_iff.mp (by have := len v hv; omega)
  match r, nd, nil, sum with
  | [], _, _, sum => exact absurd sum.symm pos
  | [(v, m)], _, nil, sum =>
    have e : v = [] := nil v List.mem_cons_self
    subst e
    have : m * cntM ps [] + 0 = cntM ps w := sum
    rw [cnt_nil] at this
    show some m = _
    rw [← this]
    congr 1
    omega
  | p :: q :: r, nd, nil, _ =>
    exfalso
    have nd : (p.1 :: q.1 :: keysR r).Nodup := nd
    have h1 := nil p.1 List.mem_cons_self
    have h2 := nil q.1 (List.mem_cons_of_mem _ List.mem_cons_self)
    exact (List.nodup_cons.mp nd).1 (by rw [h1, h2]; exact List.mem_cons_self)
theorem all_nodup (w : List Nat) : (allM ps w.length w).Nodup := (all_rising _ _).imp fun h z => by
  rw [z] at h
  exact absurd h (List.lt_irrefl _)
/-- a list of all alike words without repeats has so many -/
theorem cnt_of (pr : Pairs ls ps) {w : List Nat} (iw : ∀ x ∈ w, x ∈ ls) {F : List (List Nat)} (nd : F.Nodup) (mem : ∀ v, v ∈ F ↔ Exs ps w v) : F.length = cntM ps w :=
  ((List.perm_ext_iff_of_nodup nd (all_nodup w)).mpr fun v => (mem v).trans (mem_all pr _ _ _ rfl iw).symm).length_eq
theorem exs_back {w v : List Nat} (h : Exs ps w v) : Exs ps w.reverse v.reverse := by
  induction h with
  | refl => exact .refl _
  | step h e ih =>
    refine ih.step ?_
    cases e with
    | mk p q x y hi =>
      rw [List.reverse_append, List.reverse_append, List.reverse_cons, List.reverse_cons, List.reverse_cons, List.reverse_cons]
      simp only [List.append_assoc, List.singleton_append, List.cons_append, List.nil_append]
      exact .mk q.reverse p.reverse y x (by rw [ind_comm]; exact hi)
theorem cnt_back (pr : Pairs ls ps) {w : List Nat} (iw : ∀ x ∈ w, x ∈ ls) : cntM ps w.reverse = cntM ps w := by
  have nd : ((allM ps w.reverse.length w.reverse).map List.reverse).Nodup := by
    refine List.pairwise_map.mpr ((all_nodup w.reverse).imp fun ne z => ne ?_)
    exact List.reverse_inj.mp z
  have iv : ∀ x ∈ w.reverse, x ∈ ls := fun x hx => iw x (List.mem_reverse.mp hx)
  rw [← cnt_of pr iw nd fun v => ?_, List.length_map]
  · rfl
  · rw [List.mem_map]
    constructor
    · rintro ⟨u, hu, e⟩
      have := exs_back ((mem_all pr _ _ _ rfl iv).mp hu)
      rw [List.reverse_reverse, e] at this
      exact this
    · exact fun h => ⟨v.reverse, (mem_all pr _ _ _ rfl iv).mpr (exs_back h), List.reverse_reverse _⟩
end TcG
/-! How many traces are prefixes of one: as many as words can be left. -/
namespace TcG
open PySem PySem.Spec PyProof.Rows L2
variable {ps : List (List Nat)} {ls : List Nat}
theorem off_own : ∀ (u v : List Nat), offM ps u (u ++ v) = some v
  | [], v => rfl
  | c :: u, v => by
    show (if c ∈ firstsM ps (c :: (u ++ v)) then offM ps u ((c :: (u ++ v)).erase c) else none) = some v
    rw [if_pos (mem_firsts.mpr lead_self), List.erase_cons_head, off_own u v]
theorem left_cancel (pr : Pairs ls ps) {u x y : List Nat} (i : ∀ c ∈ u ++ x, c ∈ ls) (h : Exs ps (u ++ x) (u ++ y)) : Exs ps x y := by
  obtain ⟨v, e, g⟩ := off_of pr u (u ++ x) y i h
  rw [off_own] at e
  cases e
  exact g
theorem right_cancel (pr : Pairs ls ps) {x y v : List Nat} (i : ∀ c ∈ x ++ v, c ∈ ls) (h : Exs ps (x ++ v) (y ++ v)) : Exs ps x y := by
  have h2 := exs_back h
  rw [List.reverse_append, List.reverse_append] at h2
  have h3 := exs_back (left_cancel pr (fun c hc => i c (by
    rcases List.mem_append.mp hc with z | z
    · exact List.mem_append.mpr (.inr (List.mem_reverse.mp z))
    · exact List.mem_append.mpr (.inl (List.mem_reverse.mp z)))) h2)
  rw [List.reverse_reverse, List.reverse_reverse] at h3
  exact h3
def lessM (u l : List Nat) : List Nat := u.foldl (fun l c => l.erase c) l
theorem off_less : ∀ (u l v : List Nat), offM ps u l = some v → v = lessM u l
  | [], l, v, h => (Option.some.inj h).symm
  | c :: u, l, v, h => by
    have h : (if c ∈ firstsM ps l then offM ps u (l.erase c) else none) = some v := h
    by_cases hc : c ∈ firstsM ps l
    · rw [if_pos hc] at h
      exact off_less u _ v h
    · rw [if_neg hc] at h
      cases h
theorem less_perm {u x : List Nat} (p : u.Perm x) : ∀ l, lessM u l = lessM x l := by
  induction p with
  | nil => intro l; rfl
  | cons c _ ih => intro l; exact ih (l.erase c)
  | swap c d r =>
    intro l
    show lessM r ((l.erase d).erase c) = lessM r ((l.erase c).erase d)
    rw [List.erase_comm]
  | trans _ _ a b => intro l; rw [a l, b l]
theorem off_len : ∀ (u l v : List Nat), offM ps u l = some v → v.length + u.length = l.length := fun u l v h => by
  have := (off_exs u l v h).perm.length_eq
  rw [List.length_append] at this
  omega
theorem mem_rowP (a : List Nat) : ∀ (k : Nat) (v : List Nat), v ∈ keysR (rowsM ps a k) ↔ ∃ u, u.length = k ∧ offM ps u a = some v
  | 0, v => by
    show v ∈ [a] ↔ _
    rw [List.mem_singleton]
    constructor
    · exact fun e => ⟨[], rfl, by rw [e]; rfl⟩
    · rintro ⟨u, hu, h⟩
      cases List.length_eq_zero_iff.mp hu
      exact (Option.some.inj h).symm
  | k + 1, v => by
    show v ∈ keysR (moreM ps (rowsM ps a k)) ↔ _
    rw [more_mem]
    constructor
    · rintro ⟨w, hw, c, lead, rfl⟩
      obtain ⟨u, hu, h⟩ := (mem_rowP a k w).mp hw
      refine ⟨u ++ [c], by rw [List.length_append, hu]; rfl, ?_⟩
      rw [off_app, h]
      show offM ps [c] w = _
      rw [off_one, if_pos (mem_firsts.mpr lead)]
    · rintro ⟨u, hu, h⟩
      have ne : u ≠ [] := fun z => by rw [z] at hu; cases hu
      have e := List.dropLast_concat_getLast ne
      generalize u.getLast ne = c at e
      have lk : u.dropLast.length = k := by rw [List.length_dropLast]; omega
      generalize u.dropLast = u0 at e lk
      subst e
      rw [off_app] at h
      cases h0 : offM ps u0 a with
      | none =>
        rw [h0] at h
        cases h
      | some w =>
        rw [h0] at h
        have h : offM ps [c] w = some v := h
        rw [off_one] at h
        by_cases hc : c ∈ firstsM ps w
        · rw [if_pos hc] at h
          exact ⟨w, (mem_rowP a k w).mpr ⟨u0, lk, h0⟩, c, mem_firsts.mp hc, (Option.some.inj h).symm⟩
        · rw [if_neg hc] at h
          cases h
def keysM (ps : List (List Nat)) (a : List Nat) : List (List Nat) := (List.range (a.length + 1)).flatMap fun k => keysR (rowsM ps a k)
theorem keys_len (a : List Nat) : (keysM ps a).length = ((List.range (a.length + 1)).map fun k => (rowsM ps a k).length).sum := by
  unfold keysM
  rw [List.length_flatMap]
  refine congrArg List.sum (List.map_congr_left fun k _ => ?_)
  unfold keysR
  rw [List.length_map]
theorem mem_keys (a v : List Nat) : v ∈ keysM ps a ↔ ∃ u, offM ps u a = some v := by
  unfold keysM
  rw [List.mem_flatMap]
  constructor
  · rintro ⟨k, _, h⟩
    obtain ⟨u, _, e⟩ := (mem_rowP a k v).mp h
    exact ⟨u, e⟩
  · rintro ⟨u, e⟩
    exact ⟨u.length, List.mem_range.mpr (by have := off_len u a v e; omega), (mem_rowP a _ v).mpr ⟨u, rfl, e⟩⟩
theorem keys_nodup (a : List Nat) : (keysM ps a).Nodup := by
  unfold keysM
  refine List.pairwise_flatMap.mpr ⟨fun k _ => (rows_facts ps a k).1, ?_⟩
  refine List.nodup_range.imp fun {j k} ne v hv w hw z => ?_
  have h1 := (rows_facts ps a j).2.2 v hv
  have h2 := (rows_facts ps a k).2.2 w hw
  rw [z] at h1
  omega
/-- a list of the least words of all prefixes, without repeats, is as long -/
theorem prefixes_len (pr : Pairs ls ps) {a : List Nat} (ia : ∀ c ∈ a, c ∈ ls) {F : List (List Nat)} (nd : F.Nodup) (mem : ∀ x, x ∈ F ↔ x = leastM ps x ∧ ∃ v, Exs ps a (x ++ v)) : F.length = (keysM ps a).length := by
  have has : ∀ x ∈ F, ∃ v, offM ps x a = some v := fun x hx => by
    obtain ⟨v, h⟩ := ((mem x).mp hx).2
    obtain ⟨v', e, _⟩ := off_of pr x a v ia h
    exact ⟨v', e⟩
  have inj : ∀ x ∈ F, ∀ y ∈ F, (offM ps x a).getD [] = (offM ps y a).getD [] → x = y := fun x hx y hy e => by
    obtain ⟨v, hv⟩ := has x hx
    obtain ⟨v2, hv2⟩ := has y hy
    rw [hv, hv2] at e
    have e : v = v2 := e
    subst e
    have h1 := off_exs x a v hv
    have h2 := off_exs y a v hv2
    have ix : ∀ c ∈ x ++ v, c ∈ ls := fun c hc => ia c (h1.perm.mem_iff.mpr hc)
    have h3 := right_cancel pr ix (h1.symm.trans h2)
    rw [((mem x).mp hx).1, ((mem y).mp hy).1]
    exact least_alike pr (fun c hc => ix c (List.mem_append.mpr (.inl hc))) h3
  have nd2 : (F.map fun x => (offM ps x a).getD []).Nodup := by
    refine List.pairwise_map.mpr ?_
    refine List.Pairwise.imp_of_mem (fun {x y} hx hy ne z => ne (inj x hx y hy z)) nd
  have pm := (List.perm_ext_iff_of_nodup nd2 (keys_nodup (ps := ps) a)).mpr fun v => by
    rw [List.mem_map, mem_keys]
    constructor
    · rintro ⟨x, hx, e⟩
      obtain ⟨v', hv⟩ := has x hx
      rw [hv] at e
      exact ⟨x, by rw [hv, ← e]; rfl⟩
    · rintro ⟨u, hu⟩
      have h1 := off_exs u a v hu
      have iu : ∀ c ∈ u, c ∈ ls := fun c hc => ia c (h1.perm.mem_iff.mpr (List.mem_append.mpr (.inl hc)))
      have h2 := least_exs (ps := ps) pr iu
      have ll : leastM ps u = leastM ps (leastM ps u) := least_alike pr iu h2
      have h3 : Exs ps a (leastM ps u ++ v) := h1.trans (h2.post v)
      have hx : leastM ps u ∈ F := (mem _).mpr ⟨ll, v, h3⟩
      obtain ⟨v', hv⟩ := has _ hx
      refine ⟨leastM ps u, hx, ?_⟩
      rw [hv]
      show v' = v
      rw [off_less _ _ _ hv, off_less _ _ _ hu, less_perm h2.perm]
  rw [← pm.length_eq, List.length_map]
end TcG
/-! The first ones of some letters of a word: a word of the prefix behind which the others are left. -/
namespace TcG
open PySem PySem.Spec PyProof.Rows L2
variable {ps : List (List Nat)} {ls : List Nat}
def frontM : List Nat → List Nat → List Nat
  | _, [] => []
  | m, x :: w => if x ∈ m then x :: frontM (m.erase x) w else frontM m w
theorem front_yes {m w : List Nat} {x : Nat} (h : x ∈ m) : frontM m (x :: w) = x :: frontM (m.erase x) w := by
  show (if x ∈ m then x :: frontM (m.erase x) w else frontM m w) = _
  rw [if_pos h]
theorem front_no {m w : List Nat} {x : Nat} (h : x ∉ m) : frontM m (x :: w) = frontM m w := by
  show (if x ∈ m then x :: frontM (m.erase x) w else frontM m w) = _
  rw [if_neg h]
theorem front_perm : ∀ (w : List Nat) {m n : List Nat}, m.Perm n → frontM m w = frontM n w
  | [], _, _, _ => rfl
  | x :: w, m, n, p => by
    by_cases h : x ∈ m
    · rw [front_yes h, front_yes (p.mem_iff.mp h), front_perm w (p.erase x)]
    · rw [front_no h, front_no fun z => h (p.mem_iff.mpr z), front_perm w p]
theorem front_sub : ∀ (w m : List Nat), (frontM m w).Sublist w
  | [], _ => .slnil
  | x :: w, m => by
    by_cases h : x ∈ m
    · rw [front_yes h]
      exact (front_sub w _).cons₂ x
    · rw [front_no h]
      exact (front_sub w m).cons x
theorem front_nil : ∀ w : List Nat, frontM [] w = []
  | [] => rfl
  | x :: w => by rw [front_no (by simp), front_nil w]
/-- what the program keeps: the letters of which fewer than asked stand ahead -/
def keepsAt (w : List Nat) (f : Nat → Nat) (i : Nat) : List Nat := match w[i]? with
  | some c => if (w.take i).count c < f c then [c] else []
  | none => []
theorem front_go : ∀ (w pre m : List Nat) (f : Nat → Nat), (∀ c ∈ w, f c = pre.count c + m.count c ∨ (m.count c = 0 ∧ f c ≤ pre.count c)) → ((List.range w.length).flatMap fun i => match w[i]? with
    | some c => if pre.count c + (w.take i).count c < f c then [c] else []
    | none => []) = frontM m w
  | [], _, _, _, _ => rfl
  | x :: w, pre, m, f, h => by
    have hx := h x List.mem_cons_self
    rw [List.length_cons, List.range_succ_eq_map, List.flatMap_cons, List.flatMap_map]
    have tail : ∀ m' : List Nat, (∀ c ∈ w, f c = (x :: pre).count c + m'.count c ∨ (m'.count c = 0 ∧ f c ≤ (x :: pre).count c)) → ((List.range w.length).flatMap fun i => match (x :: w)[i.succ]? with
        | some c => if pre.count c + ((x :: w).take i.succ).count c < f c then [c] else []
        | none => []) = frontM m' w := fun m' hm => by
      rw [← front_go w (x :: pre) m' f hm]
      refine congrArg List.flatten (List.map_congr_left fun i _ => ?_)
      show (match w[i]? with | some c => if pre.count c + ((x :: w.take i)).count c < f c then [c] else [] | none => []) = _
      cases w[i]? with
      | none => rfl
      | some c =>
        have e : pre.count c + (x :: w.take i).count c = (x :: pre).count c + (w.take i).count c := by
          rw [List.count_cons, List.count_cons]
          omega
        simp only [e]
    show (if pre.count x + 0 < f x then [x] else []) ++ _ = _
    by_cases hm : x ∈ m
    · have pos : 0 < m.count x := List.count_pos_iff.mpr hm
      rw [front_yes hm, if_pos (by omega), tail (m.erase x) fun c hc => ?_]
      · rfl
      · have hc := h c (List.mem_cons_of_mem _ hc)
        rw [List.count_cons, List.count_erase]
        by_cases e : c = x
        · subst e
          simp only [beq_self_eq_true, if_true]
          omega
        · have e1 : (x == c) = false := beq_eq_false_iff_ne.mpr (Ne.symm e)
          have e2 : (c == x) = false := beq_eq_false_iff_ne.mpr e
          simp only [e1, e2, Bool.false_eq_true, if_false]
          omega
    · have zero : m.count x = 0 := List.count_eq_zero.mpr hm
      rw [front_no hm, if_neg (by omega), tail m fun c hc => ?_]
      · rfl
      · have hc := h c (List.mem_cons_of_mem _ hc)
        rw [List.count_cons]
        by_cases e : c = x
        · subst e
          simp only [beq_self_eq_true, if_true]
          omega
        · have e1 : (x == c) = false := beq_eq_false_iff_ne.mpr (Ne.symm e)
          simp only [e1, Bool.false_eq_true, if_false]
          omega
theorem front_keeps {w m : List Nat} {f : Nat → Nat} (h : ∀ c ∈ w, f c = m.count c) : (List.range w.length).flatMap (keepsAt w f) = frontM m w := by
  rw [← front_go w [] m f fun c hc => .inl (by rw [h c hc]; simp)]
  refine congrArg List.flatten (List.map_congr_left fun i _ => ?_)
  unfold keepsAt
  cases w[i]? with
  | none => rfl
  | some c => simp
theorem keeps_len (w : List Nat) (f : Nat → Nat) : ∀ i, ((List.range i).flatMap (keepsAt w f)).length ≤ i
  | 0 => Nat.le_refl _
  | i + 1 => by
    rw [List.range_succ, List.flatMap_append, List.flatMap_cons, List.flatMap_nil, List.append_nil, List.length_append]
    have h1 := keeps_len w f i
    have h2 : (keepsAt w f i).length ≤ 1 := by
      unfold keepsAt
      split
      · split <;> simp
      · simp
    omega
theorem exs_pass {c : Nat} (p q : List Nat) (np : c ∉ p) (h : ∀ y ∈ p, ind ps y c = true) : Exs ps (p ++ c :: q) (c :: (p ++ q)) := by
  have := lead_erase (ps := ps) (w := p ++ c :: q) (c := c) ⟨p, q, rfl, np, h⟩
  rw [erase_first np] at this
  exact this
theorem front_split {c : Nat} {q : List Nat} : ∀ (p m : List Nat), c ∉ p → c ∈ m → ∃ u v, frontM m (p ++ c :: q) = u ++ c :: v ∧ frontM (m.erase c) (p ++ q) = u ++ v ∧ ∀ y ∈ u, y ∈ p
  | [], m, _, hm => ⟨[], frontM (m.erase c) q, front_yes hm, rfl, fun _ h => nomatch h⟩
  | y :: p, m, np, hm => by
    have ne : c ≠ y := fun z => np (by rw [z]; exact List.mem_cons_self)
    have np2 : c ∉ p := fun z => np (List.mem_cons_of_mem _ z)
    by_cases hy : y ∈ m
    · have hm2 : c ∈ m.erase y := (List.mem_erase_of_ne ne).mpr hm
      obtain ⟨u, v, e1, e2, e3⟩ := front_split p (m.erase y) np2 hm2
      refine ⟨y :: u, v, ?_, ?_, fun z hz => ?_⟩
      · rw [List.cons_append, front_yes hy, e1]
        rfl
      · rw [List.cons_append, front_yes ((List.mem_erase_of_ne (Ne.symm ne)).mpr hy), List.erase_comm, e2]
        rfl
      · rcases List.mem_cons.mp hz with rfl | hz
        · exact List.mem_cons_self
        · exact List.mem_cons_of_mem _ (e3 z hz)
    · obtain ⟨u, v, e1, e2, e3⟩ := front_split p m np2 hm
      refine ⟨u, v, ?_, ?_, fun z hz => List.mem_cons_of_mem _ (e3 z hz)⟩
      · rw [List.cons_append, front_no hy, e1]
      · rw [List.cons_append, front_no fun z => hy (List.mem_of_mem_erase z), e2]
theorem front_exs : ∀ (u a v : List Nat), offM ps u a = some v → Exs ps (frontM u a) u
  | [], a, v, _ => by rw [front_nil]; exact .refl _
  | c :: u, a, v, h => by
    have h : (if c ∈ firstsM ps a then offM ps u (a.erase c) else none) = some v := h
    by_cases hc : c ∈ firstsM ps a
    · rw [if_pos hc] at h
      obtain ⟨p, q, rfl, np, hp⟩ := mem_firsts.mp hc
      rw [erase_first np] at h
      obtain ⟨s, t, e1, e2, e3⟩ := front_split (q := q) p (c :: u) np List.mem_cons_self
      rw [List.erase_cons_head] at e2
      have ih := front_exs u _ v h
      rw [e2] at ih
      rw [e1]
      exact (exs_pass s t (fun z => np (e3 c z)) fun y hy => hp y (e3 y hy)).trans (ih.pre [c])
    · rw [if_neg hc] at h
      cases h
/-- the count of what is left tells the count of the prefix -/
theorem off_count {u a v : List Nat} (h : offM ps u a = some v) (c : Nat) : a.count c = u.count c + v.count c := by
  rw [(off_exs u a v h).perm.count_eq, List.count_append]
end TcG
/-! The call of `lambda x: (len(x), x)` at a text, as a sort's key. -/
namespace TcG
open PySem PySem.Spec PyProof.Rows PySem.W
theorem call_lam_len {prog : Program} {w : World} {A : Around} {s : Shared} {f c' : Addr} {q y : Str} {params : Arguments} {scope : Scope} {pm ctv : Value} {x : Str} {t : Tok} {mg mb : Str → Option Value} {p1 p2 p3 p4 p5 : Pos} {k : Nat}
    (ho : s.heap.get? f = some (kla_obj "<lambda>" q params (.Tuple [.Call (.Name "len" p1) [.Name y p2] [] p3, .Name y p4] k p5) scope [] pm c' ctv)) (hcd : s.heap.CodeRec (.ref c') q)
    (hroom : A.depth < recursionLimit) (lim : s.heap.NoLimit) (hco : scope.isCoroutine = false) (hgen : scope.isGenerator = false) (hk : scope.kind = .function) (hcell : ∀ x ∈ scope.names, x.2 ≠ .cell) (hy : scope.names.lookup y = some .local) (hl : scope.names.lookup (Str.ofString "len") = some .globalImplicit)
    (hbind : bindArgs (kla_fn "<lambda>" q params (.Tuple [.Call (.Name "len" p1) [.Name y p2] [] p3, .Name y p4] k p5) scope [] pm (.ref c') ctv) ⟨[.str x t], []⟩ = pure [(y, .str x t)])
    (hg : s.heap.Ns mainGlobals mg) (hm : mg (Str.ofString "len") = none) (hb : s.heap.Ns builtinsNs mb) (hv : mb (Str.ofString "len") = some (.builtin "len")) (small : x.length ≤ sizeLine) (dy : (y == ("__debug__" : Str)) = false) :
    wpAny (model prog w) A (call (.ref f) [.str x t]) (KeyPure (.tuple [.int x.length, .str x]) s) (fun _ _ => False) s := by
  refine wpAny_call (kla_callFunE hroom ho rfl hco hgen rfl hcd ?_)
  rw [hbind]
  refine wpAny_pure (wpAny_newFunctionEnv hcell (fun z hz => by rw [List.mem_singleton.mp hz]; exact hy) (fun h₁ hns hsb => ⟨lim.fresh _ hsb, ?_⟩) hk)
  have kp : ∀ b o, s.heap.get? b = some o → h₁.get? b = some o := fun b o e => hsb.extBut b o (Nat.ne_of_lt (Heap.lt_size e)) (Heap.get?_push_of_some _ e)
  have hyv : ([(y, Value.str x t)] : List (Str × Value)).reverse.lookup y = some (.str x t) := by simp
  refine kla_codeExpr ?_
  refine wpAny_Tuple (Calls.spliced_cons (wpAny_Call_Name_kw (Calls.Name_function_global hk hl (Calls.loadGlobal_builtin (hg.keeps kp) hm (hb.keeps kp) hv ?_))))
  refine callWith_builtin1 (wpAny_Name (wpAny_loadName_local hk hy hns hyv ?_) dy)
  refine PySem.P.len_str (by have := L2.line63; omega) ?_
  refine Calls.spliced_cons (wpAny_Name (wpAny_loadName_local hk hy hns hyv (Calls.spliced_nil ⟨by show 2 ≤ sizeLine; decide, ?_⟩)) dy)
  refine ⟨_, _, rfl, fun b o e => Heap.get?_push_of_some _ (kp b o e), .tuple (Heap.get?_push_size _ rfl) rfl rfl (.cons (.int _ _) (.cons (.str _ _) .nil))⟩

open L2
theorem each_strs : ∀ {xs : List Str} {its : List Value}, Vals (xs.map V.str) its → EachIs (fun v x => ∃ t, v = .str x t) its xs
  | [], _, .nil => .nil
  | x :: xs, _, .cons r rs => .cons r (each_strs rs)
theorem vals_each : ∀ {xs : List Str} {its : List Value}, EachIs (fun v x => ∃ t, v = .str x t) its xs → Vals (xs.map V.str) its
  | _, _, .nil => .nil
  | _, _, .cons r rs => .cons r (vals_each rs)
def lamKey (x : Str) : PyData := .tuple [.int x.length, .str x]
/-- sorted(l, key=f), f such a lambda -/
theorem sorted_lam {X : Cx} {pins : List (Addr × Obj)} {σ : L2.St} {H : Hp} {s : Shared} {a f : Addr} {xs : List Str} {Q : VK} (I : Inv X pins σ H s) (hs : SqL X.K H a (xs.map V.str)) (hz : xs.length ≤ sizeLine) (room : X.A.units + 10 < cLine)
    (turn : ∀ (x : Str) (t : Tok) (h : Heap) (tk : Nat), x ∈ xs → (∀ b o, s.heap.get? b = some o → h.get? b = some o) → wpAny (model X.prog X.w) X.A.in1.in1 (call (.ref f) [.str x t]) (KeyPure (lamKey x) { s with heap := h, toks := tk }) (fun _ _ => False) { s with heap := h, toks := tk })
    (q : ∀ (ys : List Str) (p : Addr), ys.Perm xs → ys = xs.mergeSort (dataLe false lamKey) → H p = none → Q (.ref p) (upd H p (.lst (ys.map V.str)))) :
    wpAny (model X.prog X.w) X.A (call (.builtin "sorted") [.ref a] [(Str.ofString "key", .ref f)]) (EP X pins σ Q) X.xe s := by
  obtain ⟨its, rv, hl, _⟩ := I.list hs
  refine sorted_key_data (k := lamKey) (bs := xs) (R := fun v x => ∃ t, v = .str x t) (b := false) hl.isList (each_strs rv) ?_ ?_ hz (fun x _ => ?_) (ksk_s1 _ _) (fun _ => ksk_l1 _ _) (fun _ => ksk_t1 _ _) (fun v x hR hx h tk kp => ?_) fun out c h' tk kp fresh hat hlen each => ?_
  · intro d hd d' hd'
    obtain ⟨x, _, rfl⟩ := List.mem_map.mp hd
    obtain ⟨y, _, rfl⟩ := List.mem_map.mp hd'
    rfl
  · refine .inl fun d hd => ?_
    obtain ⟨x, _, rfl⟩ := List.mem_map.mp hd
    exact ⟨_, _, rfl⟩
  · have : (lamKey x).depth = 1 := rfl
    rw [this]
    omega
  · obtain ⟨t, rfl⟩ := hR
    exact turn x t h tk hx kp
  · have pm := List.mergeSort_perm xs (dataLe false lamKey)
    have small : ((xs.mergeSort (dataLe false lamKey)).map V.str).length ≤ sizeLine := by
      rw [List.length_map, pm.length_eq]
      exact hz
    exact ⟨.ref _, upd H (s.heap.objs.size + 1) (.lst ((xs.mergeSort (dataLe false lamKey)).map V.str)), I.laid (t' := tk) kp (Nat.le_succ _) ⟨small, out, c, vals_each each, hat⟩, rfl, q _ _ pm rfl (I.hok.fresh (Nat.le_succ _))⟩

def lamArgs (y : Str) (p0 : Pos) : Arguments := { posonlyargs := [], args := [{ arg := y, annotation := none, pos := p0 }], vararg := none, kwonlyargs := [], kw_defaults := [], kwarg := none, defaults := [] }
def lamScope (y : Str) : Scope := { kind := .function, names := [(y, .local), (Str.ofString "len", .globalImplicit)], isGenerator := false, isCoroutine := false, more := [] }
def lamBody (y : Str) (p1 p2 p3 p4 p5 : Pos) (k : Nat) : Expr := .Tuple [.Call (.Name "len" p1) [.Name y p2] [] p3, .Name y p4] k p5
/-- sorted(e, key=lambda y: (len(y), y)), e a list of texts -/
def tSortLam (T : List (Addr × Str)) (te : TE) : TE := fun σ H Q => te σ H fun x H1 => ∃ (a : Addr) (xs : List Str), x = .ref a ∧ H1 a = some (.lst (xs.map V.str)) ∧ xs.length ≤ sizeLine ∧ (∀ x ∈ xs, x.length ≤ sizeLine) ∧ LamX.Tabs T H1 ∧
  ∀ (H2 : Hp) (ys : List Str) (p : Addr), LamX.ExtN H1 H2 → LamX.Tabs T H2 → ys.Perm xs → ys = xs.mergeSort (dataLe false lamKey) → H2 p = none → Q (.ref p) (upd H2 p (.lst (ys.map V.str)))
theorem pe_sortedLam {X : Cx} {T : List (Addr × Str)} {c P : Addr} {e : Expr} {te : TE} {y : Str} {k : Nat} {p p0 p1 p2 p3 p4 p5 lp kp pos : Pos} (TB : LamX.TabB X.base X.mg c P) (hcode : X.env.code = .ref c) (hm : (P, X.env.qual ++ "<lambda>") ∈ T) (hu : ∀ t ∈ T, t.1 = P → t.2 = X.env.qual ++ "<lambda>")
    (he : PE X e te) (hg : Gl X "sorted") (hms : X.mg "sorted" = none) (hml : X.mg "len" = none) (hr : Room 1 X.A) (dy : (y == ("__debug__" : Str)) = false) (yl : (Str.ofString "len" == y) = false)
    (hbind : ∀ (q : Str) (pm ctv cv v : Value), bindArgs (kla_fn "<lambda>" q (lamArgs y p0) (lamBody y p1 p2 p3 p4 p5 k) (lamScope y) [] pm cv ctv) ⟨[v], []⟩ = pure [(y, v)])
    (hs : backTo pos (starEach [e] X.env) = (false, eval e X.env) :: backTo pos (starEach [] X.env) := by rfl) (hpl : (backTo pos (starEach [e] X.env)).any (·.1) = false := by rfl) :
    PE X (.Call (.Name "sorted" p) [e] [⟨some "key", .Lambda (lamArgs y p0) (lamBody y p1 p2 p3 p4 p5 k) (lamScope y) lp, kp⟩] pos) (tSortLam T te) := by
  refine ⟨fun pins s σ H Q I h => ?_⟩
  refine wpAny_Call_Name_kw (ld_blt I hg hms (show bootBuiltins (Str.ofString "sorted") = some (.builtin "sorted") by decide +kernel) ?_)
  refine PyProof.Rows.callWith_kw (by
    rw [hs]
    refine Calls.spliced_cons (thn (he.run pins s σ H _ I h) fun u s1 ⟨x, H1, I1, r1, q1⟩ => Calls.spliced_nil ?_)
    obtain ⟨a, xs, rfl, ha, hz, hx, hT, q⟩ := q1
    obtain rfl : u = Value.ref a := r1
    show wpAny _ _ (evalAll [(do let v ← eval (.Lambda (lamArgs y p0) (lamBody y p1 p2 p3 p4 p5 k) (lamScope y) lp) X.env; standAt pos; pure v)]) _ _ s1
    refine wpAny_evalAll_cons (wpAny_bind (LamX.lam_make2 I1 TB hcode hm hu hT rfl (fun z hz => ?_) fun f c' pm ctv H2 s2 I2 ext hT2 hf nf _ hc' => wpAny_bind (wpAny_standAt (wpAny_pure (wpAny_evalAll_nil ?_)))))
    · refine fun ez => ?_
      rcases List.mem_cons.mp hz with e1 | hz
      · rw [e1] at ez
        cases ez
      · rw [List.mem_singleton.mp hz] at ez
        cases ez
    · have ha2 : H2 a = some (.lst (xs.map V.str)) := ext a _ ha fun ps z => by cases z
      refine sorted_lam I2 (SqL.of ha2) hz (by have := hr.un; omega) (fun x t h tk hxx kp => ?_) fun ys p pm2 so np => q H2 ys p ext hT2 pm2 so np
      have J := I2.kept (t' := tk) kp
      obtain ⟨⟨oc, vs, t', hoc, hdc, hvc⟩, _, _⟩ := I2.hok c' _ hc'
      obtain ⟨mb, h1, h2⟩ := J.mod.blt
      refine call_lam_len (kp _ _ hf) ⟨c', oc, vs, t', rfl, kp _ _ hoc, hdc, hvc⟩ ?_ J.nolimit rfl rfl rfl ?_ ?_ ?_ (hbind _ _ _ _ _) (J.mod.glob.keeps J.bk) hml (h1.keeps J.bk) ((h2 _ (by decide)).trans (by decide +kernel)) (hx x hxx) dy
      · have := hr.dp
        show X.A.depth < recursionLimit
        omega
      · intro z hz
        rcases List.mem_cons.mp hz with e1 | hz
        · rw [e1]
          exact fun z => by cases z
        · rw [List.mem_singleton.mp hz]
          exact fun z => by cases z
      · unfold lamScope
        rw [List.lookup_cons, beq_self_eq_true]
      · unfold lamScope
        rw [List.lookup_cons, yl, List.lookup_cons, beq_self_eq_true]) hs hpl rfl rfl
end TcG
/-! all(test for x, y in zip(a, b)), a and b texts or tuples. -/
namespace TcG
open PySem PySem.Spec PyProof.Rows L2
theorem add_ne (n a b : Nat) (h : a ≠ b) : n + a ≠ n + b := by omega
theorem add_far {n a : Nat} {m : List Nat} (h : ∀ b ∈ m, b < n) (d : Nat) (ne : a ≠ d) : n + a ∉ (n + d) :: m := fun z => by
  rcases List.mem_cons.mp z with z | z
  · exact add_ne n a d ne z
  · have := h _ z
    omega
/-- what zip draws from -/
structure Source (P : Program) (w : World) (Pt : Addr) (h : Heap) (u : Value) (n : Nat) (Pv : Nat → Value → Prop) : Prop where
  ex : ∃ (o : Obj) (Hc : Heap → Prop) (more : List Addr) (St : Addr → Nat → Heap → Prop), Begins u o Hc ∧ Hc h ∧ (∀ b ∈ more, b < h.objs.size) ∧ Pt ∉ more ∧
    (∀ (A : Around) (it : Addr), A.handled = none → h.objs.size ≤ it → Draws P w A it (it :: more) n Pv (St it)) ∧ ∀ it h', h'.get? it = some o → Hc h' → St it 0 h'
theorem source_text {P : Program} {w : World} {Pt : Addr} {h : Heap} {z : Str} {t : Tok} : Source P w Pt h (.str z t) z.cps.size (fun i v => ∃ c u, z.cps[i]? = some c ∧ v = .str ⟨#[c]⟩ u) :=
  ⟨_, _, [], fun it i h => h.IsStrIter it (strIterType z) z t i, begins_text z t, trivial, (fun b hb => absurd hb (by simp)), (by simp), fun A it hh _ => Draws.text hh it z t, fun it h' e _ => ⟨_, e, rfl, rfl⟩⟩
theorem source_tuple {P : Program} {w : World} {Pt : Addr} {h : Heap} {a : Addr} {its : Array Value} (ht : h.IsTuple a its) (ne : Pt ≠ a) : Source P w Pt h (.ref a) its.size (fun i v => its[i]? = some v) := by
  have lt : a < h.objs.size := by
    obtain ⟨o, e, _⟩ := ht
    exact Heap.lt_size e
  exact ⟨_, _, [a], fun it i h => h.IsTupleIter it a i ∧ h.IsTuple a its, begins_tuple a its, ht, fun b hb => by rw [List.mem_singleton.mp hb]; exact lt, fun z => ne (List.mem_singleton.mp z), fun A it hh le => Draws.tuple hh it a (fun z => by rw [z] at lt; exact absurd lt (Nat.not_lt.mpr le)) its, fun it h' e hc => ⟨⟨_, e, rfl, rfl⟩, hc⟩⟩
/-- the generator's own scope, with two names -/
structure GenS2 (env : Env) (scope : Scope) (x y : Str) : Prop where
  kind : scope.kind = .function
  co : scope.isCoroutine = false
  cell : ∀ z ∈ scope.names, z.2 ≠ .cell
  dot : scope.names.lookup (".0" : Str) = some NameKind.local
  locx : scope.names.lookup x = some .local
  locy : scope.names.lookup y = some .local
  ne : x ≠ y
  free : ∀ z ∈ scope.names, z.2 = .free → ∃ c, env.cells.lookup z.1 = some c
section
variable {X : Cx} {pins : List (Addr × Obj)} {σ : L2.St} {H : Hp} {s : Shared}
/-- the generator g, ready to be walked in s5: n items, told by tr -/
def ReadyN (X : Cx) (pins : List (Addr × Obj)) (σ : L2.St) (H1 : Hp) (P : Addr) (n : Nat) (tr : Nat → Bool) (g : Addr) (s5 : Shared) : Prop :=
  ∃ (fp wr : List Addr) (G : Array GenState → Array GenState → Prop) (F : Nat → Value → Prop) (St : Nat → Shared → Prop), WalksS X.prog X.w X.A.in1 g fp wr G n F St ∧ St 0 s5 ∧ (∀ i v, F i v → v = .bool (tr i)) ∧
    ∀ s', Moved wr G s5 s' → ∃ H2, GxR.Tabbed P H1 H2 ∧ Inv X pins σ H2 s'
theorem gen_zip {c P : Addr} {elt e1 e2 : Expr} {x y : Str} {px py pt gpos p pos : Pos} {kt : Nat} {scope : Scope} {ta : TA} {k : Nat} {Q' : Value → Shared → Prop} {R : List V → Hp → Prop}
    (room : Room k X.A) (TB : GxR.TabB X.base X.mg c P) (codeAt : X.env.code = .ref c) (S : GenS2 X.env scope x y) (hg : Gl X "zip") (hm : X.mg "zip" = none) (ha : PA X [e1, e2] ta)
    (plain : ∀ v, genFold (.Call (.Name "zip" p) [e1, e2] [] pos) X.env v = pure v) (I : Inv X pins σ H s) (h : ta σ H fun vs H1 => GxR.TabG H1 P ∧ R vs H1)
    (src : ∀ vs us H1 s1, Inv X pins σ H1 s1 → GxR.TabG H1 P → R vs H1 → Vals vs us → ∃ (u1 u2 : Value) (n1 n2 : Nat) (P1 P2 : Nat → Value → Prop) (tr : Nat → Bool), us = [u1, u2] ∧ Source X.prog X.w P s1.heap u1 n1 P1 ∧ Source X.prog X.w P s1.heap u2 n2 P2 ∧
      (∀ (cenv : Env) (A' : Around) E' i va vb (s2 : Shared) m2, cenv.scope = scope → A'.handled = none → P1 i va → P2 i vb → s2.heap.Ns cenv.locals m2 → m2 x = some va → m2 y = some vb → wpAny (model X.prog X.w) A' (eval elt cenv) (fun v s3 => v = .bool (tr i) ∧ Keeps s2 s3) E' s2) ∧
      ∀ g s5, ReadyN X pins σ H1 P (min n1 n2) tr g s5 → Q' (.ref g) s5)
    (hs : starEach [e1, e2] X.env = (false, eval e1 X.env) :: starEach [e2] X.env := by rfl) (hpl : (backTo pos (starEach [e2] X.env)).any (·.1) = false := by rfl) :
    wpAny (model X.prog X.w) X.A (eval (.GeneratorExp elt [⟨.Tuple [.Name x px, .Name y py] kt pt, .Call (.Name "zip" p) [e1, e2] [] pos, [], 0⟩] scope gpos) X.env) Q' X.xe s := by
  refine wpAny_GeneratorExp_walksQT room.hd S.co (closure_ok S.free) S.cell S.dot S.locx S.locy S.ne S.kind (by have := room.dp; omega) ?_ plain
  refine Call_ (ld_blt I hg hm boot_zip (PyProof.Rows.callWith_type1 (thn (ha.run pos pins s σ H _ I h) fun us s1 ⟨vs, H1, I1, r1, q1⟩ => ?_) hs hpl))
  obtain ⟨⟨ps, tabAt, tri⟩, q1⟩ := q1
  obtain ⟨u1, u2, n1, n2, P1, P2, tr, rfl, ⟨o1, C1, more1, St1, b1, c1, lt1, nP1, d1, z1⟩, ⟨o2, C2, more2, St2, b2, c2, lt2, nP2, d2, z2⟩, el, goal⟩ := src vs us H1 s1 I1 ⟨ps, tabAt, tri⟩ q1 r1
  refine zip_begins2 b1 b2 c1 c2 fun h2 hz hTI hTO g1 g2 size2 keep2 => ?_
  have sep : ZipSep2 (s1.heap.objs.size + 4) (s1.heap.objs.size + 2) (s1.heap.objs.size + 3) s1.heap.objs.size (s1.heap.objs.size + 1) (s1.heap.objs.size :: more1) ((s1.heap.objs.size + 1) :: more2) := by
    have f1 : s1.heap.objs.size + 0 = s1.heap.objs.size := Nat.add_zero _
    have n0 : ∀ k, k ≠ 0 → s1.heap.objs.size + k ≠ s1.heap.objs.size := fun k hk => add_ne s1.heap.objs.size k 0 hk
    have g0 : ∀ k, k ≠ 0 → s1.heap.objs.size + k ∉ s1.heap.objs.size :: more1 := fun k hk => add_far lt1 0 hk
    exact ⟨add_ne _ 2 4 (by decide), add_ne _ 3 4 (by decide), add_ne _ 2 3 (by decide), n0 2 (by decide), List.mem_cons_self, g0 4 (by decide), g0 3 (by decide), add_ne _ 2 1 (by decide), List.mem_cons_self, add_far lt2 1 (by decide), add_far lt2 1 (by decide), add_far (a := 0) lt2 1 (by decide), g0 1 (by decide)⟩
  refine wpAny_pyIter_zip hz ?_
  have tab1 : s1.heap.get? P = some { cls := .none, data := .fields ps } := I1.hok P _ tabAt
  have tabLt : P < s1.heap.objs.size := Heap.lt_size tab1
  have tab2 : h2.get? P = some { cls := .none, data := .fields ps } := keep2 _ _ tab1
  have cd : PySem.W.CodeHd h2 c P := TB.code.keeps fun b u e => keep2 b u (I1.bk b u e)
  have lim2 : h2.NoLimit := I1.nolimit.keeps keep2
  have walks : ∀ A' : Around, A'.handled = none → _ := fun A' hA => (WalksT.zipD2 (prog := X.prog) (w := X.w) (A := A') sep (d1 A'.in1 s1.heap.objs.size hA (Nat.le_refl _)) (d2 A'.in1 (s1.heap.objs.size + 1) hA (Nat.le_succ _))).toU
  have ge : ∀ b ∈ [s1.heap.objs.size + 4, s1.heap.objs.size + 3, s1.heap.objs.size, s1.heap.objs.size + 1], s1.heap.objs.size ≤ b := fun b hb => by
    simp only [List.mem_cons, List.not_mem_nil, or_false] at hb
    rcases hb with rfl | rfl | rfl | rfl
    · exact Nat.le_add_right _ _
    · exact Nat.le_add_right _ _
    · exact Nat.le_refl _
    · exact Nat.le_add_right _ _
  have nP : ∀ b ∈ (s1.heap.objs.size + 4) :: (s1.heap.objs.size + 2) :: (s1.heap.objs.size + 3) :: ((s1.heap.objs.size :: more1) ++ ((s1.heap.objs.size + 1) :: more2)), b ≠ P ∧ b < s1.heap.objs.size + 5 := fun b hb => by
    have big : ∀ k, k < 5 → s1.heap.objs.size + k ≠ P ∧ s1.heap.objs.size + k < s1.heap.objs.size + 5 := fun k hk => ⟨fun z => by
      have := Nat.lt_of_lt_of_le tabLt (Nat.le_add_right s1.heap.objs.size k)
      rw [z] at this
      exact Nat.lt_irrefl _ this, Nat.add_lt_add_left hk _⟩
    simp only [List.mem_cons, List.mem_append] at hb
    rcases hb with rfl | rfl | rfl | (rfl | hb) | (rfl | hb)
    · exact big 4 (by decide)
    · exact big 2 (by decide)
    · exact big 3 (by decide)
    · exact big 0 (by decide)
    · exact ⟨fun z => nP1 (z ▸ hb), Nat.lt_of_lt_of_le (lt1 b hb) (Nat.le_add_right _ _)⟩
    · exact big 1 (by decide)
    · exact ⟨fun z => nP2 (z ▸ hb), Nat.lt_of_lt_of_le (lt2 b hb) (Nat.le_add_right _ _)⟩
  have cont : ∀ (code : Value) (h3 : Heap) (tk : Nat) (ps' : Array Value), Heap.ExtBut P h2 h3 → h2.objs.size ≤ h3.objs.size → h3.get? P = some { cls := .none, data := .fields ps' } →
      (∃ more, ps' = ps ++ more) → TriplesOk ps'.toList →
      wpAny (model X.prog X.w) X.A (builtinsFor X.env.globals X.env.builtins) (fun bi s4 =>
        ∃ J fp wr n0 Pt St0 Mid pz F, Value.ref (s1.heap.objs.size + 4) = .ref J ∧ (∀ A' : Around, A'.handled = none → WalksU X.prog X.w A' J fp wr n0 Pt St0 Mid) ∧ (∀ i vals, Pt i vals → ∃ va vb, vals = #[va, vb]) ∧ St0 0 s4.heap ∧ (∀ b ∈ fp, b < s4.heap.objs.size) ∧ s4.heap.NoLimit ∧ cStatics ∉ wr ∧
          (∀ href : Heap, (∀ b o, s4.heap.get? b = some o → href.get? b = some o) →
            QuietGenT X.prog X.w (genEnv scope (cloFrom X.env.cells scope.names []) s4.heap.objs.size code bi X.env) x y [] elt (List.range s4.heap.objs.size) wr Pt pz F href) ∧
          (∀ a h5 tk gs, gs.bare = true → s4.heap.objs.size < a → h5.objs.size = a + 1 → (∀ b o, s4.heap.get? b = some o → h5.get? b = some o) →
            WalksS X.prog X.w X.A.in4 a (a :: s4.heap.objs.size :: List.range s4.heap.objs.size) (s4.heap.objs.size :: wr) (GenOnlyQ s4.gens.size) (passing pz n0 0).length
              (fun j v => ∃ i, (passing pz n0 0)[j]? = some i ∧ F i v) (GenAt X.prog X.w X.A.in4 a s4.gens.size s4.heap.objs.size (List.range s4.heap.objs.size) wr pz n0 F) →
            GenAt X.prog X.w X.A.in4 a s4.gens.size s4.heap.objs.size (List.range s4.heap.objs.size) wr pz n0 F 0 { s4 with gens := s4.gens.push gs, toks := tk, heap := h5 } →
            Q' (.ref a) { s4 with gens := s4.gens.push gs, toks := tk, heap := h5 })) X.xe { s1 with heap := h3, toks := tk } := by
    intro code h3 tk ps' ext size3 tab3 grown tri3
    obtain ⟨bm, ob, e1, e2, e3, e4, e5, e6, e7, e8⟩ := TB.bm
    have statP : cStatics ≠ P := fun e => by
      obtain ⟨_, stat, _⟩ := I1.nolimit
      obtain ⟨o', es, ep, ho, hd, _⟩ := stat
      rw [e, tab1] at ho
      cases ho
      cases hd
    have statLt : cStatics < s1.heap.objs.size := let ⟨_, stat, _⟩ := I1.nolimit; stat.lt
    have keep3 : ∀ b u, b ≠ P → s1.heap.get? b = some u → h3.get? b = some u := fun b u hb e => ext b u hb (keep2 b u e)
    have le3 : s1.heap.objs.size + 5 ≤ h3.objs.size := by rw [← size2]; exact size3
    refine wpAny_builtinsFor (m := X.mg)
      (by rw [I1.ok.glob]; exact ((I1.mod.glob.keeps I1.bk).keeps keep2).extBut ext TB.gP)
      e1 e2 (keep3 _ _ e4 (I1.bk _ _ e5)) e6 e7 e8 ?_
    refine ⟨s1.heap.objs.size + 4, _, _, _, _, _, _, (fun _ => true), (fun i v => v = .bool (tr i)), rfl, walks, ?_, ?_, ?_, lim2.extBut ext statP, ?_, ?_, ?_⟩
    · rintro i vals ⟨x1, x2, _, _, rfl⟩
      exact ⟨x1, x2, rfl⟩
    · have at2 : _ := And.intro hz (And.intro hTI (And.intro (⟨_, _, hTO⟩ : ∃ a1 a2, IsTupOf2 h2 (s1.heap.objs.size + 3) a1 a2) (And.intro (z1 s1.heap.objs.size h2 g1 (b1.keeps _ _ c1 keep2)) (z2 (s1.heap.objs.size + 1) h2 g2 (b2.keeps _ _ c2 keep2)))))
      exact (walks X.A room.hd).frame 0 h2 h3 at2 fun b hb u e => ext b u (nP b hb).1 e
    · exact fun b hb => Nat.lt_of_lt_of_le (nP b hb).2 le3
    · exact fun z => absurd (ge _ z) (Nat.not_le.mpr statLt)
    · intro href ahead
      refine ⟨fun A' E' i va vb s2 m2 hA hPv hn hx hy hk => ?_, fun A' E' i va vb s2 m2 hA hPv hp hn hx hy hk => ?_⟩
      · simp only [List.forIn_nil]
        exact wpAny_pure ⟨rfl, GxR.keeps_refl _⟩
      · obtain ⟨x1, x2, p1, p2, e⟩ := hPv
        have ea : va = x1 := by
          have := congrArg (fun v : Array Value => v[0]?) e
          simpa using this
        have eb : vb = x2 := by
          have := congrArg (fun v : Array Value => v[1]?) e
          simpa using this
        subst ea eb
        exact el _ A' E' i va vb s2 m2 rfl hA p1 p2 hn hx hy
    · intro g h5 tk5 gs bare5 above5 size5 keep5 W5 at5
      rw [GxR.passing_true, List.length_range] at W5
      refine goal g _ ⟨_, _, _, _, _, W5.in4_1, at5, fun j v hv => ?_, fun s' hm => ?_⟩
      · obtain ⟨i, hij, hF⟩ := hv
        obtain ⟨hj, ej⟩ := List.getElem?_eq_some_iff.mp hij
        rw [List.getElem_range] at ej
        rw [hF, ej]
      · obtain ⟨more, em⟩ := grown
        have nwr : ∀ b u, s1.heap.get? b = some u → b ∉ h3.objs.size :: [s1.heap.objs.size + 4, s1.heap.objs.size + 3, s1.heap.objs.size, s1.heap.objs.size + 1] := fun b u e hb => by
          have lt := Heap.lt_size e
          rcases List.mem_cons.mp hb with z | z
          · rw [z] at lt
            exact absurd (Nat.lt_of_lt_of_le (Nat.lt_of_lt_of_le lt (Nat.le_add_right _ 5)) le3) (Nat.lt_irrefl _)
          · exact absurd (ge b z) (Nat.not_le.mpr lt)
        have J := GxR.inv_tab (more := more) (h' := s'.heap) (g' := s'.gens) (d' := s'.drawn) (t' := s'.toks) I1 tabAt
          (fun b u hb e => hm.heap b u (nwr b u e) (keep5 b u (keep3 b u hb e)))
          (by rw [← em]; exact hm.heap P _ (nwr P _ tab1) (keep5 P _ tab3)) (AllBare.movedS (I1.bare.push bare5) hm)
        rw [GxR.sh_eta s1 s' hm.os] at J
        exact ⟨upd H1 P (.tbl (ps ++ more)), ⟨⟨ps ++ more, upd_same, by rw [← em]; exact tri3⟩, fun b hb => upd_ne hb⟩, J⟩
  refine ⟨lim2, ?_⟩
  cases hf : codeAmong gpos ps.toList with
  | none =>
    refine wpAny_genexprCodeX codeAt (cd.code tab2 tri) (cd.tab tab2) hf fun c' h' tk ext ge lt code' _ tab' _ => ?_
    obtain ⟨o1, vs, f1, tf, fl, tg, inF, tx, tt, op, _, _, _, _, _, _, _, _, _, tri', _⟩ := code'
    exact cont _ h' tk _ ext (Nat.le_trans ge (Nat.le_of_lt lt)) tab'.2 ⟨_, rfl⟩ tri'
  | some cv =>
    refine wpAny_genexprCode_hit codeAt (cd.code tab2 tri) hf ?_
    exact cont cv h2 s1.toks ps (Heap.ExtBut.refl _ _) (Nat.le_refl _) tab2 ⟨#[], by simp⟩ tri
end
end TcG
/-! all(x < y for x, y in zip(a, b)), a and b texts, or tuples of texts. -/
namespace TcG
open PySem PySem.Spec PyProof.Rows L2
def risesM (l1 l2 : List (List Nat)) : Bool := (List.range (min l1.length l2.length)).all fun i => decide (l1.getD i [] < l2.getD i [])
/-- the texts that one goes through -/
def Items (K : PySem.W.Frag) (H : Hp) (v : V) (l : List (List Nat)) : Prop := (∃ a : List Nat, v = .str (tx a) ∧ l = a.map fun c => [c]) ∨ ∃ p, v = .ref p ∧ SqT K H p (txs l)
section
variable {X : Cx} {pins : List (Addr × Obj)} {σ : L2.St} {H : Hp} {s : Shared}
theorem source_of {P : Addr} {v : V} {u : Value} {l : List (List Nat)} (I : Inv X pins σ H s) (tab : GxR.TabG H P) (h : Items X.K H v l) (r : RelV v u) :
    ∃ (n : Nat) (Pv : Nat → Value → Prop), Source X.prog X.w P s.heap u n Pv ∧ n = l.length ∧ ∀ i va, Pv i va → ∃ (z : List Nat) (t : Tok), l[i]? = some z ∧ va = .str (tx z) t := by
  rcases h with ⟨a, rfl, rfl⟩ | ⟨p, rfl, hp⟩
  · obtain ⟨t, rfl⟩ := (show ∃ t, u = Value.str (tx a) t from r)
    refine ⟨_, _, source_text, by rw [List.length_map]; exact tx_length a, fun i va hv => ?_⟩
    obtain ⟨c, t2, hc, rfl⟩ := hv
    have hc2 : a[i]? = some c := by simpa [tx] using hc
    exact ⟨[c], t2, by rw [List.getElem?_map, hc2]; rfl, rfl⟩
  · obtain rfl : u = Value.ref p := r
    obtain ⟨its, rv, pt, _⟩ := I.tuple hp
    obtain ⟨ps, tabAt, _⟩ := tab
    have tab1 : s.heap.get? P = some { cls := .none, data := .fields ps } := I.hok P _ tabAt
    have ne : P ≠ p := fun z => by
      obtain ⟨o, e, hc, _⟩ := pt
      rw [← z, tab1] at e
      cases e
      have hc : Value.none = .type "tuple" := hc
      cases hc
    have len : its.toArray.size = l.length := by
      rw [List.size_toArray]
      have := rv.length
      unfold txs at this
      rw [List.length_map] at this
      exact this.symm
    refine ⟨_, _, source_tuple (show s.heap.IsTuple p its.toArray from pt) ne, len, fun i va hv => ?_⟩
    have hv2 : its[i]? = some va := by simpa using hv
    have lt : i < l.length := by
      have := (List.getElem?_eq_some_iff.mp hv2).1
      rw [List.size_toArray] at len
      omega
    have hz : l[i]? = some l[i] := List.getElem?_eq_getElem lt
    have hzV : (txs l)[i]? = some (.str (tx l[i])) := by
      unfold txs
      rw [List.getElem?_map, hz]
      rfl
    obtain ⟨w', hw, rw'⟩ := rv.get hzV
    rw [hv2] at hw
    cases hw
    obtain ⟨t, e⟩ := (show ∃ t, va = Value.str (tx l[i]) t from rw')
    exact ⟨l[i], t, hz, e⟩
def tAllZ (K : PySem.W.Frag) (P : Addr) (ta : TA) : TE := fun σ H Q => ta σ H fun vs H1 => GxR.TabG H1 P ∧ ∃ (v1 v2 : V) (l1 l2 : List (List Nat)), vs = [v1, v2] ∧ Items K H1 v1 l1 ∧ Items K H1 v2 l2 ∧ ∀ H2, GxR.Tabbed P H1 H2 → Q (.bl (risesM l1 l2)) H2
theorem pe_allZ {c P : Addr} {e1 e2 : Expr} {x y : Str} {q1 q2 q3 px py pt gpos p pz pa pos : Pos} {kt : Nat} {scope : Scope} {ta : TA} {k : Nat}
    (room : Room k X.A) (ga : Gl X "all") (ma : X.mg "all" = none) (ba : bootBuiltins "all" = some (.builtin "all")) (TB : GxR.TabB X.base X.mg c P) (codeAt : X.env.code = .ref c) (S : GenS2 X.env scope x y) (hg : Gl X "zip") (hm : X.mg "zip" = none) (ha : PA X [e1, e2] ta)
    (plain : ∀ v, genFold (.Call (.Name "zip" p) [e1, e2] [] pz) X.env v = pure v) (dx : (x == ("__debug__" : Str)) = false) (dy : (y == ("__debug__" : Str)) = false)
    (he : starEach [.GeneratorExp (.Compare (.Name x q1) [.Lt] [.Name y q2] q3) [⟨.Tuple [.Name x px, .Name y py] kt pt, .Call (.Name "zip" p) [e1, e2] [] pz, [], 0⟩] scope gpos] X.env =
      (false, eval (.GeneratorExp (.Compare (.Name x q1) [.Lt] [.Name y q2] q3) [⟨.Tuple [.Name x px, .Name y py] kt pt, .Call (.Name "zip" p) [e1, e2] [] pz, [], 0⟩] scope gpos) X.env) :: starEach [] X.env := by rfl)
    (hs : starEach [e1, e2] X.env = (false, eval e1 X.env) :: starEach [e2] X.env := by rfl) (hpl : (backTo pz (starEach [e2] X.env)).any (·.1) = false := by rfl) :
    PE X (.Call (.Name "all" pa) [.GeneratorExp (.Compare (.Name x q1) [.Lt] [.Name y q2] q3) [⟨.Tuple [.Name x px, .Name y py] kt pt, .Call (.Name "zip" p) [e1, e2] [] pz, [], 0⟩] scope gpos] [] pos) (tAllZ X.K P ta) := by
  refine ⟨fun pins s σ H Q I h => ?_⟩
  refine wpAny_Call_Name_kw (ld_blt I ga ma ba ?_)
  refine PyProof.Rows.callWith_builtin1 ?_ he (by rfl)
  rw [he]
  refine Calls.spliced_cons (gen_zip (R := fun vs H1 => ∃ (v1 v2 : V) (l1 l2 : List (List Nat)), vs = [v1, v2] ∧ Items X.K H1 v1 l1 ∧ Items X.K H1 v2 l2 ∧ ∀ H2, GxR.Tabbed P H1 H2 → Q (.bl (risesM l1 l2)) H2)
    room TB codeAt S hg hm ha plain I h (fun vs us H1 s1 I1 tab1 q1 r1 => ?_) hs hpl)
  obtain ⟨v1, v2, l1, l2, rfl, i1, i2, goal⟩ := q1
  obtain ⟨u1, u2, rfl, ru1, ru2⟩ := vals2 r1
  obtain ⟨n1, P1, s1', e1', t1⟩ := source_of I1 tab1 i1 ru1
  obtain ⟨n2, P2, s2', e2', t2⟩ := source_of I1 tab1 i2 ru2
  refine ⟨u1, u2, n1, n2, P1, P2, fun i => decide (l1.getD i [] < l2.getD i []), rfl, s1', s2', fun cenv A' E' i va vb s2 m2 hsc hA p1 p2 hn hx hy => ?_, fun g s5 ready => ?_⟩
  · obtain ⟨z1, k1, g1, rfl⟩ := t1 i va p1
    obtain ⟨z2, k2, g2, rfl⟩ := t2 i vb p2
    refine wpAny_Compare1 ?_
    refine wpAny_Name (wpAny_loadName_local (by rw [hsc]; exact S.kind) (show cenv.scope.names.lookup x = some .local by rw [hsc]; exact S.locx) hn hx ?_) dx
    refine wpAny_Name (wpAny_loadName_local (by rw [hsc]; exact S.kind) (show cenv.scope.names.lookup y = some .local by rw [hsc]; exact S.locy) hn hy ?_) dy
    refine PyProof.Rows.lt_str ⟨?_, GxR.keeps_refl _⟩
    have e1 : l1.getD i [] = z1 := by simp [List.getD, g1]
    have e2 : l2.getD i [] = z2 := by simp [List.getD, g2]
    show _ = Value.bool (decide (l1.getD i [] < l2.getD i []))
    rw [e1, e2]
    rfl
  · obtain ⟨fp, wr, G, F, St, W, st, tells, back⟩ := ready
    refine Calls.spliced_nil ?_
    refine call_all_walkS (W.self 0 _ _ _ st ⟨g, fp, wr, G, _, F, St, fun i => decide (l1.getD i [] < l2.getD i []), rfl, W, st, fun i v s' Qj Ej hv hq => ?_, fun s' hmv => ?_⟩)
    · rw [tells i v hv]
      exact wpAny_truthy_bool hq
    · obtain ⟨H2, ht, J⟩ := back s' hmv
      refine ⟨.bl _, H2, J, rfl, ?_⟩
      rw [e1', e2']
      exact goal H2 ht
end
end TcG
/-! Words by their length, then by their letters; the least words of all prefixes. -/
namespace TcG
open PySem PySem.Spec PyProof.Rows L2 PySem.W
variable {ps : List (List Nat)} {ls : List Nat}
def wlt (x y : List Nat) : Prop := x.length < y.length ∨ (x.length = y.length ∧ x < y)
theorem wlt_irrefl (x : List Nat) : ¬ wlt x x := fun h => by
  rcases h with h | h
  · exact Nat.lt_irrefl _ h
  · exact List.lt_irrefl x h.2
theorem wlt_trans {x y z : List Nat} (a : wlt x y) (b : wlt y z) : wlt x z := by
  rcases a with a | a <;> rcases b with b | b
  · exact .inl (Nat.lt_trans a b)
  · exact .inl (by rw [← b.1]; exact a)
  · exact .inl (by rw [a.1]; exact b)
  · exact .inr ⟨a.1.trans b.1, List.lt_trans a.2 b.2⟩
theorem wlt_total {x y : List Nat} (h : ¬ wlt y x) : x = y ∨ wlt x y := by
  rcases Nat.lt_trichotomy x.length y.length with l | l | l
  · exact .inr (.inl l)
  · by_cases e : x = y
    · exact .inl e
    · refine .inr (.inr ⟨l, ?_⟩)
      have : ¬ y < x := fun z => h (.inr ⟨l.symm, z⟩)
      exact lt_of_le_ne (List.not_lt.mp this) e
  · exact absurd (.inl l) h
instance (x y : List Nat) : Decidable (wlt x y) := by unfold wlt; exact inferInstance
theorem key_lt (a b : List Nat) : dataLt (lamKey (tx a)) (lamKey (tx b)) = decide (wlt a b) := by
  have e1 : PyData.eqv (.int ((tx a).length : Nat)) (.int ((tx b).length : Nat)) = decide (a.length = b.length) := by
    show (((tx a).length : Int) == ((tx b).length : Int)) = _
    rw [tx_length, tx_length]
    by_cases h : a.length = b.length
    · rw [h, decide_eq_true rfl, beq_self_eq_true]
    · rw [decide_eq_false h]
      exact beq_eq_false_iff_ne.mpr (by omega)
  have e2 : PyData.eqv (.str (tx a)) (.str (tx b)) = decide (a = b) := by
    show (tx a == tx b) = _
    by_cases h : a = b
    · rw [h, decide_eq_true rfl, beq_self_eq_true]
    · rw [decide_eq_false h]
      exact beq_eq_false_iff_ne.mpr fun z => h (tx_inj z)
  unfold lamKey
  rw [dataLt_pair (by simp [alike]) (by simp [alike]), dataLt_int, dataLt_str, e1, e2, tx_list, tx_list, tx_length, tx_length]
  by_cases h1 : a.length = b.length
  · rw [if_pos (decide_eq_true h1)]
    by_cases h2 : a = b
    · subst h2
      rw [if_pos (decide_eq_true rfl), eq_comm, decide_eq_false_iff_not]
      exact wlt_irrefl a
    · rw [if_neg (by rw [decide_eq_false h2]; exact Bool.false_ne_true)]
      refine decide_eq_decide.mpr ⟨fun h => .inr ⟨h1, h⟩, fun h => ?_⟩
      rcases h with h | h
      · omega
      · exact h.2
  · rw [if_neg (by rw [decide_eq_false h1]; exact Bool.false_ne_true)]
    refine decide_eq_decide.mpr ⟨fun h => .inl (by omega), fun h => ?_⟩
    rcases h with h | h
    · omega
    · exact absurd h.1 h1
/-- what the sort by the lambda gives -/
theorem lam_sorted {F : List (List Nat)} {ys : List Str} (nd : F.Nodup) (e : ys = (F.map tx).mergeSort (dataLe false lamKey)) : ∃ L : List (List Nat), ys = L.map tx ∧ L.Perm F ∧ L.Pairwise wlt := by
  have le : ∀ a b : List Nat, dataLe false lamKey (tx a) (tx b) = !decide (wlt b a) := fun a b => by
    show (!dataLt (lamKey (tx b)) (lamKey (tx a))) = _
    rw [key_lt]
  have e2 : (F.map tx).mergeSort (dataLe false lamKey) = (F.mergeSort fun a b => !decide (wlt b a)).map tx := by
    refine (List.map_mergeSort (f := tx) (r := fun a b => !decide (wlt b a)) (s := dataLe false lamKey) (l := F) fun a _ b _ => (le a b).symm).symm
  refine ⟨F.mergeSort fun a b => !decide (wlt b a), e.trans e2, List.mergeSort_perm _ _, ?_⟩
  have so := List.pairwise_mergeSort (le := fun a b : List Nat => !decide (wlt b a)) (fun a b c h1 h2 => ?_) (fun a b => ?_) F
  · refine (List.pairwise_and_iff.mpr ⟨so, (List.mergeSort_perm F _).nodup_iff.mpr nd⟩).imp fun {a b} h => ?_
    have h1 : ¬ wlt b a := by simpa using h.1
    exact (wlt_total h1).resolve_left h.2
  · have h1 : ¬ wlt b a := by simpa using h1
    have h2 : ¬ wlt c b := by simpa using h2
    have : ¬ wlt c a := fun z => by
      rcases wlt_total h1 with rfl | h1
      · exact h2 z
      · exact h2 (wlt_trans z h1)
    simpa using this
  · by_cases h : wlt b a
    · have : ¬ wlt a b := fun z => wlt_irrefl a (wlt_trans z h)
      simp [h, this]
    · simp [h]
/-- the sort of words of one length -/
theorem str_sorted {F : List (List Nat)} {ys : List Str} (nd : F.Nodup) (pm : ys.Perm (F.map tx)) (so : sortedS ys = true) : ∃ L : List (List Nat), ys = L.map tx ∧ L.Perm F ∧ L.Pairwise (· < ·) := by
  have hy : ys = (ys.map fun s => s.cps.toList).map tx := by
    rw [List.map_map]
    exact ((List.map_id ys).symm.trans (List.map_congr_left fun s hs => rfl))
  have pm2 : (ys.map fun s => s.cps.toList).Perm F := by
    have q := pm.map fun s : Str => s.cps.toList
    rw [List.map_map] at q
    have e : F.map ((fun s : Str => s.cps.toList) ∘ tx) = F := (List.map_congr_left fun s _ => tx_list s).trans (List.map_id F)
    rw [e] at q
    exact q
  refine ⟨_, hy, pm2, ?_⟩
  rw [hy] at so
  exact (List.pairwise_and_iff.mpr ⟨words_rising _ so, pm2.nodup_iff.mpr nd⟩).imp fun h => lt_of_le_ne h.1 h.2
/-- the least word of the prefix behind which v is left -/
def prefM (ps : List (List Nat)) (a v : List Nat) : List Nat := leastM ps (frontM (lessM v a) a)
theorem less_count : ∀ (v a : List Nat) (c : Nat), (lessM v a).count c = a.count c - v.count c
  | [], a, c => by simp [lessM]
  | x :: v, a, c => by
    show (lessM v (a.erase x)).count c = _
    rw [less_count v, List.count_erase, List.count_cons]
    by_cases e : x = c
    · subst e
      simp only [beq_self_eq_true, if_true]
      omega
    · have e1 : (x == c) = false := beq_eq_false_iff_ne.mpr e
      have e2 : (c == x) = false := beq_eq_false_iff_ne.mpr (Ne.symm e)
      simp only [e1, e2, Bool.false_eq_true, if_false]
      omega
theorem diff_perm {u a v : List Nat} (h : offM ps u a = some v) : (lessM v a).Perm u := by
  refine List.perm_iff_count.mpr fun c => ?_
  rw [less_count, off_count h c]
  omega
theorem pref_eq (pr : Pairs ls ps) {a u v : List Nat} (ia : ∀ c ∈ a, c ∈ ls) (h : offM ps u a = some v) : prefM ps a v = leastM ps u := by
  unfold prefM
  rw [front_perm a (diff_perm h)]
  exact least_alike pr (fun c hc => ia c ((front_sub a u).subset hc)) (front_exs u a v h)
theorem off_same (pr : Pairs ls ps) {a u u' v v' : List Nat} (ia : ∀ c ∈ a, c ∈ ls) (h : offM ps u a = some v) (h' : offM ps u' a = some v') (e : leastM ps u = leastM ps u') : v = v' := by
  have iu : ∀ {x y : List Nat}, offM ps x a = some y → ∀ c ∈ x, c ∈ ls := fun {x y} hx c hc => ia c ((off_exs x a y hx).perm.mem_iff.mpr (List.mem_append.mpr (.inl hc)))
  have p1 := (least_exs (ps := ps) pr (iu h)).perm
  have p2 := (least_exs (ps := ps) pr (iu h')).perm
  rw [off_less u a v h, off_less u' a v' h']
  exact less_perm ((p1.trans (by rw [e])).trans p2.symm) a
/-- the least words of all prefixes of k letters -/
def prefsM (ps : List (List Nat)) (a : List Nat) (k : Nat) : List (List Nat) := (keysR (rowsM ps a k)).map (prefM ps a)
theorem mem_prefs (pr : Pairs ls ps) {a : List Nat} (ia : ∀ c ∈ a, c ∈ ls) {k : Nat} {x : List Nat} : x ∈ prefsM ps a k ↔ ∃ u v, u.length = k ∧ offM ps u a = some v ∧ x = leastM ps u := by
  unfold prefsM
  rw [List.mem_map]
  constructor
  · rintro ⟨v, hv, rfl⟩
    obtain ⟨u, hu, h⟩ := (mem_rowP a k v).mp hv
    exact ⟨u, v, hu, h, pref_eq pr ia h⟩
  · rintro ⟨u, v, hu, h, rfl⟩
    exact ⟨v, (mem_rowP a k v).mpr ⟨u, hu, h⟩, pref_eq pr ia h⟩
theorem prefs_nodup (pr : Pairs ls ps) {a : List Nat} (ia : ∀ c ∈ a, c ∈ ls) (k : Nat) : (prefsM ps a k).Nodup := by
  unfold prefsM
  refine List.pairwise_map.mpr (List.Pairwise.imp_of_mem (fun {v v'} hv hv' ne z => ?_) (rows_facts ps a k).1)
  obtain ⟨u, _, h⟩ := (mem_rowP a k v).mp hv
  obtain ⟨u', _, h'⟩ := (mem_rowP a k v').mp hv'
  rw [pref_eq pr ia h, pref_eq pr ia h'] at z
  exact ne (off_same pr ia h h' z)
/-- the least words of all prefixes of fewer than k letters, in order -/
def PrefL (ps : List (List Nat)) (a : List Nat) (k : Nat) (G : List (List Nat)) : Prop := G.Pairwise wlt ∧ ∀ x, x ∈ G ↔ ∃ u v, u.length < k ∧ offM ps u a = some v ∧ x = leastM ps u
theorem least_length (pr : Pairs ls ps) {u : List Nat} (iu : ∀ c ∈ u, c ∈ ls) : (leastM ps u).length = u.length := (least_exs (ps := ps) pr iu).perm.length_eq.symm
theorem PrefL.next (pr : Pairs ls ps) {a : List Nat} (ia : ∀ c ∈ a, c ∈ ls) {k : Nat} {G L : List (List Nat)} (h : PrefL ps a k G) (pm : L.Perm (prefsM ps a k)) (up : L.Pairwise (· < ·)) : PrefL ps a (k + 1) (G ++ L) := by
  have iu : ∀ {x y : List Nat}, offM ps x a = some y → ∀ c ∈ x, c ∈ ls := fun {x y} hx c hc => ia c ((off_exs x a y hx).perm.mem_iff.mpr (List.mem_append.mpr (.inl hc)))
  have lenL : ∀ x ∈ L, x.length = k := fun x hx => by
    obtain ⟨u, v, hu, hv, rfl⟩ := (mem_prefs pr ia).mp (pm.mem_iff.mp hx)
    rw [least_length pr (iu hv), hu]
  refine ⟨List.pairwise_append.mpr ⟨h.1, List.Pairwise.imp_of_mem (fun {x y} hx hy l => .inr ⟨(lenL x hx).trans (lenL y hy).symm, l⟩) up, fun x hx y hy => .inl ?_⟩, fun x => ?_⟩
  · obtain ⟨u, v, hu, hv, rfl⟩ := (h.2 x).mp hx
    rw [least_length pr (iu hv), lenL y hy]
    exact hu
  · rw [List.mem_append, h.2 x, pm.mem_iff, mem_prefs pr ia]
    constructor
    · rintro (⟨u, v, hu, r⟩ | ⟨u, v, hu, r⟩)
      · exact ⟨u, v, by omega, r⟩
      · exact ⟨u, v, by omega, r⟩
    · rintro ⟨u, v, hu, r⟩
      rcases Nat.lt_or_ge u.length k with l | l
      · exact .inl ⟨u, v, l, r⟩
      · exact .inr ⟨u, v, by omega, r⟩
theorem prefs_few (a : List Nat) (k : Nat) : (prefsM ps a k).length = (rowsM ps a k).length := by
  unfold prefsM keysR
  rw [List.length_map, List.length_map]
end TcG
/-! The greatest common prefix; what is left behind it. -/
namespace TcG
open PySem PySem.Spec PyProof.Rows L2
variable {ps : List (List Nat)} {ls : List Nat}
/-- p is a prefix of w -/
def Pre (ps : List (List Nat)) (p w : List Nat) : Prop := ∃ v, Exs ps w (p ++ v)
theorem Pre.nil (w : List Nat) : Pre ps [] w := ⟨w, .refl w⟩
theorem Pre.self (w : List Nat) : Pre ps w w := ⟨[], by rw [List.append_nil]; exact .refl w⟩
theorem Pre.len {p w : List Nat} (h : Pre ps p w) : p.length ≤ w.length := by
  obtain ⟨v, e⟩ := h
  rw [e.perm.length_eq, List.length_append]
  omega
theorem Pre.mem {p w : List Nat} (h : Pre ps p w) : ∀ c ∈ p, c ∈ w := fun c hc => by
  obtain ⟨v, e⟩ := h
  exact e.perm.mem_iff.mpr (List.mem_append.mpr (.inl hc))
theorem Pre.exs {p q w : List Nat} (h : Pre ps p w) (e : Exs ps p q) : Pre ps q w := by
  obtain ⟨v, g⟩ := h
  exact ⟨v, g.trans (e.post v)⟩
theorem Pre.of_exs {p w w' : List Nat} (h : Pre ps p w) (e : Exs ps w' w) : Pre ps p w' := by
  obtain ⟨v, g⟩ := h
  exact ⟨v, e.trans g⟩
theorem Pre.trans {p q w : List Nat} (h : Pre ps p q) (g : Pre ps q w) : Pre ps p w := by
  obtain ⟨v, e⟩ := h
  obtain ⟨u, f⟩ := g
  exact ⟨v ++ u, by rw [← List.append_assoc]; exact f.trans (e.post u)⟩
theorem Pre.cons {p w : List Nat} (c : Nat) (h : Pre ps p w) : Pre ps (c :: p) (c :: w) := by
  obtain ⟨v, e⟩ := h
  exact ⟨v, e.pre [c]⟩
theorem pre_off (pr : Pairs ls ps) {p w : List Nat} (iw : ∀ c ∈ w, c ∈ ls) : Pre ps p w ↔ (offM ps p w).isSome = true := by
  constructor
  · rintro ⟨v, e⟩
    obtain ⟨v', h, _⟩ := off_of pr p w v iw e
    rw [h]
    rfl
  · intro h
    obtain ⟨v, e⟩ := Option.isSome_iff_exists.mp h
    exact ⟨v, off_exs p w v e⟩
theorem pre_lead (pr : Pairs ls ps) {p w : List Nat} {c : Nat} (iw : ∀ c ∈ w, c ∈ ls) (h : Pre ps p w) (l : Lead ps p c) : Lead ps w c := by
  obtain ⟨v, e⟩ := h
  obtain ⟨s, t, rfl, n, i⟩ := l
  exact (lead_alike pr (exs_in e iw) e.symm ⟨s, t ++ v, by rw [List.append_assoc]; rfl, n, i⟩).1
theorem lead_app {v : List Nat} {c : Nat} : ∀ (p : List Nat), Lead ps (p ++ v) c → (Lead ps p c) ∨ (c ∉ p ∧ (∀ y ∈ p, ind ps y c = true) ∧ Lead ps v c)
  | [], h => .inr ⟨by simp, by simp, h⟩
  | d :: p, h => by
    by_cases e : c = d
    · rw [e]
      exact .inl lead_self
    · obtain ⟨i, h⟩ := (lead_cons e).mp h
      rcases lead_app p h with k | ⟨k1, k2, k3⟩
      · exact .inl ((lead_cons e).mpr ⟨i, k⟩)
      · refine .inr ⟨fun z => ?_, fun y hy => ?_, k3⟩
        · rcases List.mem_cons.mp z with z | z
          · exact e z
          · exact k1 z
        · rcases List.mem_cons.mp hy with rfl | hy
          · exact i
          · exact k2 y hy
/-- a letter that leads, but not in the prefix: it can pass all of the prefix -/
theorem pre_past (pr : Pairs ls ps) {p w : List Nat} {c : Nat} (iw : ∀ c ∈ w, c ∈ ls) (h : Pre ps p w) (l : Lead ps w c) (n : ¬ Lead ps p c) : c ∉ p ∧ (∀ y ∈ p, ind ps y c = true) ∧ Pre ps p (w.erase c) := by
  obtain ⟨v, e⟩ := h
  obtain ⟨l2, e2⟩ := lead_alike pr iw e l
  rcases lead_app p l2 with k | ⟨k1, k2, k3⟩
  · exact absurd k n
  · refine ⟨k1, k2, v.erase c, ?_⟩
    rw [List.erase_append_right _ k1] at e2
    exact e2
/-- a letter that leads in both -/
theorem pre_both (pr : Pairs ls ps) {p w : List Nat} {c : Nat} (iw : ∀ c ∈ w, c ∈ ls) (h : Pre ps p w) (l : Lead ps p c) : Pre ps (p.erase c) (w.erase c) := by
  obtain ⟨v, e⟩ := h
  have e2 : Exs ps w (c :: (p.erase c ++ v)) := e.trans ((lead_erase l).post v)
  exact ⟨v, ((exs_cons pr iw).mp e2).2⟩
/-- the letters with which both can begin -/
def commonM (ps : List (List Nat)) (a b : List Nat) : List Nat := (firstsM ps a).filter fun c => decide (c ∈ firstsM ps b)
theorem mem_common {a b : List Nat} {c : Nat} : c ∈ commonM ps a b ↔ Lead ps a c ∧ Lead ps b c := by
  unfold commonM
  rw [List.mem_filter, mem_firsts, decide_eq_true_eq, mem_firsts]
theorem common_lt (a b : List Nat) : (commonM ps a b).Pairwise (· < ·) := (firsts_lt a).sublist List.filter_sublist
def meetM (ps : List (List Nat)) : Nat → List Nat → List Nat → List Nat
  | 0, _, _ => []
  | n + 1, a, b => match commonM ps a b with
    | [] => []
    | c :: _ => c :: meetM ps n (a.erase c) (b.erase c)
theorem meet_none {n : Nat} {a b : List Nat} (h : commonM ps a b = []) : meetM ps n a b = [] := by
  cases n with
  | zero => rfl
  | succ n =>
    show (match commonM ps a b with | [] => [] | c :: _ => c :: meetM ps n (a.erase c) (b.erase c)) = []
    rw [h]
theorem meet_some {n c : Nat} {a b r : List Nat} (h : commonM ps a b = c :: r) : meetM ps (n + 1) a b = c :: meetM ps n (a.erase c) (b.erase c) := by
  show (match commonM ps a b with | [] => [] | c :: _ => c :: meetM ps n (a.erase c) (b.erase c)) = _
  rw [h]
theorem meet_pre : ∀ (n : Nat) (a b : List Nat), Pre ps (meetM ps n a b) a ∧ Pre ps (meetM ps n a b) b
  | 0, a, b => ⟨.nil a, .nil b⟩
  | n + 1, a, b => by
    cases h : commonM ps a b with
    | nil =>
      rw [meet_none h]
      exact ⟨.nil a, .nil b⟩
    | cons c r =>
      rw [meet_some h]
      obtain ⟨la, lb⟩ := mem_common.mp (show c ∈ commonM ps a b by rw [h]; exact List.mem_cons_self)
      obtain ⟨h1, h2⟩ := meet_pre n (a.erase c) (b.erase c)
      exact ⟨(h1.cons c).of_exs (lead_erase la), (h2.cons c).of_exs (lead_erase lb)⟩
theorem meet_max (pr : Pairs ls ps) : ∀ (n : Nat) (a b p : List Nat), (∀ c ∈ a, c ∈ ls) → (∀ c ∈ b, c ∈ ls) → a.length ≤ n → Pre ps p a → Pre ps p b → Pre ps p (meetM ps n a b)
  | 0, a, b, p, _, _, hn, ha, _ => by
    have := ha.len
    have e : p = [] := List.length_eq_zero_iff.mp (by omega)
    rw [e]
    exact .nil _
  | n + 1, a, b, p, ia, ib, hn, ha, hb => by
    cases h : commonM ps a b with
    | nil =>
      cases p with
      | nil => exact .nil _
      | cons c p =>
        have : c ∈ commonM ps a b := mem_common.mpr ⟨pre_lead pr ia ha lead_self, pre_lead pr ib hb lead_self⟩
        rw [h] at this
        cases this
    | cons c r =>
      rw [meet_some h]
      obtain ⟨la, lb⟩ := mem_common.mp (show c ∈ commonM ps a b by rw [h]; exact List.mem_cons_self)
      have ia' : ∀ x ∈ a.erase c, x ∈ ls := fun x hx => ia x (List.mem_of_mem_erase hx)
      have ib' : ∀ x ∈ b.erase c, x ∈ ls := fun x hx => ib x (List.mem_of_mem_erase hx)
      have le : (a.erase c).length ≤ n := by
        rw [List.length_erase_of_mem (lead_mem la)]
        omega
      by_cases lp : Lead ps p c
      · have ih := meet_max pr n _ _ _ ia' ib' le (pre_both pr ia ha lp) (pre_both pr ib hb lp)
        exact (ih.cons c).exs (lead_erase lp).symm
      · obtain ⟨n1, i1, h1⟩ := pre_past pr ia ha la lp
        obtain ⟨_, _, h2⟩ := pre_past pr ib hb lb lp
        obtain ⟨v, e⟩ := meet_max pr n _ _ _ ia' ib' le h1 h2
        exact ⟨c :: v, (e.pre [c]).trans (exs_pass p v n1 i1).symm⟩
theorem meet_in {n : Nat} {a b : List Nat} (ia : ∀ c ∈ a, c ∈ ls) : ∀ c ∈ meetM ps n a b, c ∈ ls := fun c hc => ia c ((meet_pre n a b).1.mem c hc)
theorem head_least {l : List Nat} {c : Nat} (up : l.Pairwise (· < ·)) (mem : c ∈ l) (le : ∀ d ∈ l, c ≤ d) : ∃ r, l = c :: r := by
  cases l with
  | nil => cases mem
  | cons d r =>
    rcases List.mem_cons.mp mem with rfl | h
    · exact ⟨r, rfl⟩
    · have h1 := (List.pairwise_cons.mp up).1 c h
      have h2 := le d List.mem_cons_self
      omega
theorem least_step {c : Nat} {w r : List Nat} (h : firstsM ps (c :: w) = c :: r) : leastM ps (c :: w) = c :: leastM ps w := by
  show pick false (firstsM ps (c :: w)) :: turnM ps false w.length ((c :: w).erase (pick false (firstsM ps (c :: w)))) = c :: turnM ps false w.length w
  rw [h]
  show c :: turnM ps false w.length ((c :: w).erase c) = _
  rw [List.erase_cons_head]
theorem meet_least (pr : Pairs ls ps) : ∀ (n : Nat) (a b : List Nat), (∀ c ∈ a, c ∈ ls) → (∀ c ∈ b, c ∈ ls) → leastM ps (meetM ps n a b) = meetM ps n a b
  | 0, _, _, _, _ => rfl
  | n + 1, a, b, ia, ib => by
    cases h : commonM ps a b with
    | nil => rw [meet_none h]; rfl
    | cons c r =>
      have pre := meet_pre (ps := ps) (n + 1) a b
      rw [meet_some h] at pre ⊢
      obtain ⟨q, e⟩ := head_least (firsts_lt (ps := ps) (c :: meetM ps n (a.erase c) (b.erase c))) (mem_firsts.mpr lead_self) fun d hd => by
        have m : d ∈ commonM ps a b := mem_common.mpr ⟨pre_lead pr ia pre.1 (mem_firsts.mp hd), pre_lead pr ib pre.2 (mem_firsts.mp hd)⟩
        rw [h] at m
        rcases List.mem_cons.mp m with rfl | m
        · exact Nat.le_refl _
        · have := common_lt (ps := ps) a b
          rw [h] at this
          exact Nat.le_of_lt ((List.pairwise_cons.mp this).1 d m)
      rw [least_step e, meet_least pr n _ _ (fun x hx => ia x (List.mem_of_mem_erase hx)) fun x hx => ib x (List.mem_of_mem_erase hx)]
/-- two prefixes that have no first letter in common are independent, and their product is a prefix -/
theorem pre_apart (pr : Pairs ls ps) : ∀ (p q w : List Nat), (∀ c ∈ w, c ∈ ls) → Pre ps p w → Pre ps q w → (∀ c, Lead ps p c → Lead ps q c → False) → (∀ x ∈ p, ∀ y ∈ q, ind ps x y = true) ∧ Pre ps (p ++ q) w
  | [], q, w, _, _, hq, _ => ⟨by simp, hq⟩
  | c :: p, q, w, iw, hp, hq, no => by
    have lw := pre_lead pr iw hp lead_self
    obtain ⟨n1, i1, h1⟩ := pre_past pr iw hq lw fun z => no c lead_self z
    have h2 := pre_both pr iw hp lead_self
    rw [List.erase_cons_head] at h2
    obtain ⟨h3, v, e⟩ := pre_apart pr p q (w.erase c) (fun x hx => iw x (List.mem_of_mem_erase hx)) h2 h1 fun d ld lq => by
      have id := i1 d (lead_mem lq)
      have ne : d ≠ c := fun z => n1 (by rw [← z]; exact lead_mem lq)
      exact no d ((lead_cons ne).mpr ⟨by rw [ind_comm]; exact id, ld⟩) lq
    refine ⟨fun x hx y hy => ?_, v, (lead_erase lw).trans (e.pre [c])⟩
    rcases List.mem_cons.mp hx with rfl | hx
    · rw [ind_comm]
      exact i1 y hy
    · exact h3 x hx y hy
/-- what is left of both behind their meet has no first letter in common -/
theorem meet_rests (pr : Pairs ls ps) {n : Nat} {a b u v : List Nat} (ia : ∀ c ∈ a, c ∈ ls) (ib : ∀ c ∈ b, c ∈ ls) (hn : a.length ≤ n) (ea : Exs ps a (meetM ps n a b ++ u)) (eb : Exs ps b (meetM ps n a b ++ v)) : ∀ c, Lead ps u c → Lead ps v c → False := fun c lu lv => by
  have h1 : Pre ps (meetM ps n a b ++ [c]) a := ⟨u.erase c, by rw [List.append_assoc]; exact ea.trans ((lead_erase lu).pre _)⟩
  have h2 : Pre ps (meetM ps n a b ++ [c]) b := ⟨v.erase c, by rw [List.append_assoc]; exact eb.trans ((lead_erase lv).pre _)⟩
  have := (meet_max pr n a b _ ia ib hn h1 h2).len
  rw [List.length_append, List.length_singleton] at this
  omega
theorem swap_words {u v : List Nat} (h : ∀ x ∈ u, ∀ y ∈ v, ind ps x y = true) (pr : Pairs ls ps) : Exs ps (u ++ v) (v ++ u) := by
  induction v generalizing u with
  | nil =>
    rw [List.append_nil]
    exact .refl u
  | cons y v ih =>
    have ny : y ∉ u := fun z => by
      have := h y z y List.mem_cons_self
      rw [ind_self pr] at this
      cases this
    exact (exs_pass u v ny fun x hx => h x hx y List.mem_cons_self).trans ((ih fun x hx z hz => h x hx z (List.mem_cons_of_mem _ hz)).pre [y])
/-- two prefixes of one trace: what is left behind their meet is independent, and there is a join -/
theorem join_under (pr : Pairs ls ps) {n : Nat} {a b u v w : List Nat} (iw : ∀ c ∈ w, c ∈ ls) (ha : Pre ps a w) (hb : Pre ps b w) (hn : a.length ≤ n) (ea : Exs ps a (meetM ps n a b ++ u)) (eb : Exs ps b (meetM ps n a b ++ v)) :
    (∀ x ∈ u, ∀ y ∈ v, ind ps x y = true) ∧ Pre ps (meetM ps n a b ++ u ++ v) w := by
  have ia : ∀ c ∈ a, c ∈ ls := fun c hc => iw c (ha.mem c hc)
  have ib : ∀ c ∈ b, c ∈ ls := fun c hc => iw c (hb.mem c hc)
  obtain ⟨x, e1⟩ := ha
  obtain ⟨y, e2⟩ := hb
  have f1 : Exs ps w (meetM ps n a b ++ (u ++ x)) := e1.trans (by rw [← List.append_assoc]; exact ea.post x)
  have f2 : Exs ps w (meetM ps n a b ++ (v ++ y)) := e2.trans (by rw [← List.append_assoc]; exact eb.post y)
  have i1 : ∀ c ∈ meetM ps n a b ++ (u ++ x), c ∈ ls := exs_in f1 iw
  have g := left_cancel pr i1 (f1.symm.trans f2)
  obtain ⟨h1, z, h2⟩ := pre_apart pr u v (u ++ x) (fun c hc => i1 c (List.mem_append.mpr (.inr hc))) ⟨x, .refl _⟩ ⟨y, g⟩ (meet_rests pr ia ib hn ea eb)
  refine ⟨h1, z, f1.trans ?_⟩
  have := h2.pre (meetM ps n a b)
  rw [List.append_assoc, List.append_assoc]
  rw [List.append_assoc] at this
  exact this
/-- of the common prefixes the last one, by length and letters -/
theorem meet_last (pr : Pairs ls ps) {n : Nat} {a b : List Nat} {L : List (List Nat)} (ia : ∀ c ∈ a, c ∈ ls) (ib : ∀ c ∈ b, c ∈ ls) (hn : a.length ≤ n) (up : L.Pairwise wlt) (mem : ∀ x, x ∈ L ↔ x = leastM ps x ∧ Pre ps x a ∧ Pre ps x b) : L.getLast? = some (meetM ps n a b) := by
  have pre := meet_pre (ps := ps) n a b
  have hm : meetM ps n a b ∈ L := (mem _).mpr ⟨(meet_least pr n a b ia ib).symm, pre⟩
  obtain ⟨s, t, rfl⟩ := List.append_of_mem hm
  cases t with
  | nil => rw [List.getLast?_append]; rfl
  | cons y t =>
    have hy : y ∈ s ++ meetM ps n a b :: y :: t := by simp
    obtain ⟨e1, h1, h2⟩ := (mem y).mp hy
    have h3 := meet_max pr n a b y ia ib hn h1 h2
    have l := (List.pairwise_cons.mp (List.pairwise_append.mp up).2.1).1 y List.mem_cons_self
    have := h3.len
    rcases l with l | l
    · omega
    · obtain ⟨v, e⟩ := h3
      have ev : v = [] := by
        have := e.perm.length_eq
        rw [List.length_append] at this
        exact List.length_eq_zero_iff.mp (by omega)
      rw [ev, List.append_nil] at e
      have e2 := least_alike pr (meet_in ia) e
      rw [meet_least pr n a b ia ib, ← e1] at e2
      rw [e2] at l
      exact absurd l.2 (List.lt_irrefl y)
end TcG
namespace TcG
open PySem PySem.Spec PyProof.Rows L2
variable {ps : List (List Nat)} {ls : List Nat}
theorem least_twice (pr : Pairs ls ps) {u : List Nat} (iu : ∀ c ∈ u, c ∈ ls) : leastM ps (leastM ps u) = leastM ps u := (least_alike pr iu (least_exs pr iu)).symm
theorem pre_in {p w : List Nat} (h : Pre ps p w) (iw : ∀ c ∈ w, c ∈ ls) : ∀ c ∈ p, c ∈ ls := fun c hc => iw c (h.mem c hc)
/-- the words of the list of prefixes -/
theorem prefL_mem (pr : Pairs ls ps) {a x : List Nat} {L : List (List Nat)} (ia : ∀ c ∈ a, c ∈ ls) (h : PrefL ps a (a.length + 1) L) : x ∈ L ↔ x = leastM ps x ∧ Pre ps x a := by
  rw [h.2 x]
  constructor
  · rintro ⟨u, v, _, off, rfl⟩
    have pu : Pre ps u a := ⟨v, off_exs u a v off⟩
    have iu := pre_in pu ia
    exact ⟨(least_twice pr iu).symm, pu.exs (least_exs pr iu)⟩
  · rintro ⟨e, p⟩
    obtain ⟨v, off⟩ := Option.isSome_iff_exists.mp ((pre_off pr ia).mp p)
    have := off_len x a v off
    exact ⟨x, v, by omega, off, e⟩
/-- the common ones -/
theorem both_last (pr : Pairs ls ps) {a b : List Nat} {L : List (List Nat)} (ia : ∀ c ∈ a, c ∈ ls) (ib : ∀ c ∈ b, c ∈ ls) (h : PrefL ps a (a.length + 1) L) :
    (∀ x, x ∈ L.filter (fun x => (offM ps x b).isSome) ↔ x = leastM ps x ∧ Pre ps x a ∧ Pre ps x b) ∧ (L.filter fun x => (offM ps x b).isSome).getLast? = some (meetM ps a.length a b) := by
  have mem : ∀ x, x ∈ L.filter (fun x => (offM ps x b).isSome) ↔ x = leastM ps x ∧ Pre ps x a ∧ Pre ps x b := fun x => by
    rw [List.mem_filter, prefL_mem pr ia h, pre_off pr ib (p := x), and_assoc]
  exact ⟨mem, meet_last pr ia ib (Nat.le_refl _) (h.1.sublist List.filter_sublist) mem⟩
end TcG
/-! Powers of traces, and their bases. -/
namespace TcG
open PySem PySem.Spec PyProof.Rows L2
variable {ps : List (List Nat)} {ls : List Nat}
theorem repN_zero (u : List Nat) : repN 0 u = [] := rfl
theorem repN_succ (n : Nat) (u : List Nat) : repN (n + 1) u = u ++ repN n u := by unfold repN; rw [List.replicate_succ, List.flatten_cons]
theorem repN_one (u : List Nat) : repN 1 u = u := by rw [repN_succ, repN_zero, List.append_nil]
theorem repN_count (n : Nat) (u : List Nat) (c : Nat) : (repN n u).count c = n * u.count c := by
  induction n with
  | zero => simp [repN_zero]
  | succ n ih => rw [repN_succ, List.count_append, ih, Nat.succ_mul, Nat.add_comm]
theorem repN_exs {u v : List Nat} (h : Exs ps u v) : ∀ n, Exs ps (repN n u) (repN n v)
  | 0 => .refl _
  | n + 1 => by rw [repN_succ, repN_succ]; exact (h.post _).trans ((repN_exs h n).pre v)
theorem repN_mem {n : Nat} {u : List Nat} {c : Nat} (h : c ∈ repN n u) : c ∈ u := by
  induction n with
  | zero => cases h
  | succ n ih =>
    rw [repN_succ] at h
    exact (List.mem_append.mp h).elim id ih
/-- as many first ones of each letter as f tells -/
def frontF (f : Nat → Nat) (w : List Nat) : List Nat := (List.range w.length).flatMap (keepsAt w f)
theorem frontF_sub (f : Nat → Nat) (w : List Nat) : ∀ c ∈ frontF f w, c ∈ w := fun c hc => by
  obtain ⟨i, _, h⟩ := List.mem_flatMap.mp hc
  unfold keepsAt at h
  split at h
  · rename_i d hd
    split at h
    · rw [List.mem_singleton.mp h]
      exact List.mem_of_getElem? hd
    · cases h
  · cases h
theorem frontF_len (f : Nat → Nat) (w : List Nat) : (frontF f w).length ≤ w.length := keeps_len w f w.length
/-- the base of the n-th power -/
def baseM (w : List Nat) (n : Nat) : List Nat := frontF (fun c => w.count c / n) w
theorem base_of (pr : Pairs ls ps) {w u : List Nat} {n : Nat} (iw : ∀ c ∈ w, c ∈ ls) (hn : 0 < n) (h : Exs ps (repN n u) w) : Exs ps (baseM w n) u := by
  obtain ⟨m, rfl⟩ : ∃ m, n = m + 1 := ⟨n - 1, by omega⟩
  have cnt : ∀ c ∈ w, w.count c / (m + 1) = u.count c := fun c _ => by
    rw [← h.perm.count_eq, repN_count, Nat.mul_comm]
    exact Nat.mul_div_cancel _ (Nat.succ_pos m)
  have e : baseM w (m + 1) = frontM u w := front_keeps cnt
  rw [repN_succ] at h
  obtain ⟨v, off, _⟩ := off_of pr u w (repN m u) iw h.symm
  rw [e]
  exact front_exs u w v off
/-- whether a word is an n-th power -/
def PowM (ps : List (List Nat)) (w : List Nat) (n : Nat) : Prop := Exs ps (repN n (baseM w n)) w
theorem pow_of (pr : Pairs ls ps) {w u : List Nat} {n : Nat} (iw : ∀ c ∈ w, c ∈ ls) (hn : 0 < n) (h : Exs ps (repN n u) w) : PowM ps w n := (repN_exs (base_of pr iw hn h) n).trans h
theorem pow_one (pr : Pairs ls ps) {w : List Nat} (iw : ∀ c ∈ w, c ∈ ls) : PowM ps w 1 := pow_of pr iw Nat.one_pos (by rw [repN_one]; exact .refl w)
theorem pow_div {w : List Nat} {n : Nat} (h : PowM ps w n) : n * (baseM w n).length = w.length := by
  rw [← repN_len]
  exact h.perm.length_eq
theorem base_in {w : List Nat} {n : Nat} (iw : ∀ c ∈ w, c ∈ ls) : ∀ c ∈ baseM w n, c ∈ ls := fun c hc => iw c (frontF_sub _ w c hc)
/-- the base is a prefix -/
theorem base_pre {w : List Nat} {n : Nat} (hn : 0 < n) (h : PowM ps w n) : Pre ps (baseM w n) w := by
  obtain ⟨m, rfl⟩ : ∃ m, n = m + 1 := ⟨n - 1, by omega⟩
  have h : Exs ps (repN (m + 1) (baseM w (m + 1))) w := h
  rw [repN_succ] at h
  exact ⟨_, h.symm⟩
/-- a prefix whose power the word is: its least word -/
theorem row_is (pr : Pairs ls ps) {w x : List Nat} {n : Nat} (iw : ∀ c ∈ w, c ∈ ls) (hn : 0 < n) (e : x = leastM ps x) (h : Exs ps (repN n x) w) : x = leastM ps (baseM w n) := by
  rw [e]
  have ix : ∀ c ∈ x, c ∈ ls := fun c hc => by
    obtain ⟨m, rfl⟩ : ∃ m, n = m + 1 := ⟨n - 1, by omega⟩
    rw [repN_succ] at h
    exact iw c (h.perm.mem_iff.mp (List.mem_append.mpr (.inl hc)))
  exact least_alike pr ix (base_of pr iw hn h).symm
end TcG
/-! The letters of a word in lots. -/
namespace TcG
open PySem PySem.Spec PyProof.Rows L2
variable {ps : List (List Nat)} {ls : List Nat}
/-- nothing in the lot depends on the letter -/
def offLot (ps : List (List Nat)) (c : Nat) (lot : List Nat) : Bool := lot.all fun y => ind ps y c
def lotStep (ps : List (List Nat)) (L : List (List Nat)) (c : Nat) : List (List Nat) := L.filter (offLot ps c) ++ [sortN ((L.filter fun l => !offLot ps c l).flatten ++ [c])]
def lotsM (ps : List (List Nat)) (cs : List Nat) : List (List Nat) := cs.foldl (lotStep ps) []
/-- the same, the letters of a lot in another order -/
def lotStep2 (ps : List (List Nat)) (L : List (List Nat)) (c : Nat) : List (List Nat) := L.filter (offLot ps c) ++ [[c] ++ (L.filter fun l => !offLot ps c l).flatten]
def lots2 (ps : List (List Nat)) (cs : List Nat) : List (List Nat) := cs.foldl (lotStep2 ps) []
inductive Perms : List (List Nat) → List (List Nat) → Prop
  | nil : Perms [] []
  | cons {a b : List Nat} {L M : List (List Nat)} : a.Perm b → Perms L M → Perms (a :: L) (b :: M)
theorem Perms.app {L M A B : List (List Nat)} (h : Perms L M) (g : Perms A B) : Perms (L ++ A) (M ++ B) := by
  induction h with
  | nil => exact g
  | cons p _ ih => exact .cons p ih
theorem Perms.filter {L M : List (List Nat)} (f : List Nat → Bool) (hf : ∀ a b : List Nat, a.Perm b → f a = f b) (h : Perms L M) : Perms (L.filter f) (M.filter f) := by
  induction h with
  | nil => exact .nil
  | @cons a b L M p _ ih =>
    rw [List.filter_cons, List.filter_cons, hf a b p]
    split
    · exact .cons p ih
    · exact ih
theorem Perms.flat {L M : List (List Nat)} (h : Perms L M) : L.flatten.Perm M.flatten := by
  induction h with
  | nil => exact .nil
  | cons p _ ih => exact p.append ih
theorem offLot_perm (c : Nat) {a b : List Nat} (p : a.Perm b) : offLot ps c a = offLot ps c b := by
  unfold offLot
  rw [Bool.eq_iff_iff, List.all_eq_true, List.all_eq_true]
  exact ⟨fun h x hx => h x (p.mem_iff.mpr hx), fun h x hx => h x (p.mem_iff.mp hx)⟩
theorem step_perms (c : Nat) {L M : List (List Nat)} (h : Perms L M) : Perms (lotStep ps L c) (lotStep2 ps M c) := by
  unfold lotStep lotStep2
  refine (h.filter _ fun a b => offLot_perm c).app (.cons ?_ .nil)
  have := (h.filter (fun l => !offLot ps c l) fun a b p => by rw [offLot_perm c p]).flat
  exact (sortN_perm _).trans ((this.append (.refl [c])).trans List.perm_append_comm)
theorem lots_perms (cs : List Nat) : Perms (lotsM ps cs) (lots2 ps cs) := by
  have : ∀ (cs : List Nat) (L M : List (List Nat)), Perms L M → Perms (cs.foldl (lotStep ps) L) (cs.foldl (lotStep2 ps) M) := fun cs => by
    induction cs with
    | nil => exact fun L M h => h
    | cons c cs ih => exact fun L M h => ih _ _ (step_perms c h)
  exact this cs [] [] .nil
/-- the least words of the letters of each lot -/
def compsM (ps : List (List Nat)) (w : List Nat) (L : List (List Nat)) : List (List Nat) := L.map fun lot => leastM ps (w.filter fun c => decide (c ∈ lot))
theorem comps_perms {L M : List (List Nat)} (w : List Nat) (h : Perms L M) : compsM ps w L = compsM ps w M := by
  unfold compsM
  induction h with
  | nil => rfl
  | @cons a b L M p _ ih =>
    rw [List.map_cons, List.map_cons, ih]
    have e : (w.filter fun c => decide (c ∈ a)) = w.filter fun c => decide (c ∈ b) := List.filter_congr fun c _ => decide_eq_decide.mpr p.mem_iff
    rw [e]
theorem lots_small : ∀ (cs : List Nat) (L : List (List Nat)), (cs.foldl (lotStep ps) L).length ≤ L.length + cs.length
  | [], L => by simp
  | c :: cs, L => by
    have h := lots_small cs (lotStep ps L c)
    have h2 : (lotStep ps L c).length ≤ L.length + 1 := by
      unfold lotStep
      rw [List.length_append, List.length_singleton]
      have := List.length_filter_le (offLot ps c) L
      omega
    rw [List.length_cons]
    exact Nat.le_trans h (by omega)
/-- how many letters there are in lots -/
theorem flat_filter {f : List Nat → Bool} : ∀ L : List (List Nat), (L.filter f).flatten.length + (L.filter fun l => !f l).flatten.length = L.flatten.length
  | [] => rfl
  | a :: L => by
    have ih := flat_filter (f := f) L
    rw [List.filter_cons, List.filter_cons, List.flatten_cons, List.length_append]
    cases f a with
    | true =>
      simp only [Bool.not_true, Bool.false_eq_true, if_false, if_true, List.flatten_cons, List.length_append]
      omega
    | false =>
      simp only [Bool.not_false, Bool.false_eq_true, if_false, if_true, List.flatten_cons, List.length_append]
      omega
theorem step_flat (L : List (List Nat)) (c : Nat) : (lotStep ps L c).flatten.length = L.flatten.length + 1 := by
  unfold lotStep
  rw [List.flatten_append, List.length_append, List.flatten_cons, List.flatten_nil, List.append_nil, (sortN_perm _).length_eq, List.length_append, List.length_singleton]
  have := flat_filter (f := offLot ps c) L
  omega
/-- sorted lists of words with the same members, each as often -/
theorem words_one : ∀ (l m : List (List Nat)), l.Pairwise (· ≤ ·) → m.Pairwise (· ≤ ·) → l.Perm m → l = m
  | [], m, _, _, p => p.nil_eq
  | a :: l, [], _, _, p => by simpa using p.length_eq
  | a :: l, b :: m, hl, hm, p => by
    obtain ⟨h1, h2⟩ := List.pairwise_cons.mp hl
    obtain ⟨h3, h4⟩ := List.pairwise_cons.mp hm
    have e : a = b := by
      have ha : a ∈ b :: m := p.mem_iff.mp List.mem_cons_self
      have hb : b ∈ a :: l := p.mem_iff.mpr List.mem_cons_self
      have ab : a ≤ b := (List.mem_cons.mp hb).elim (fun z => by rw [z]; exact List.le_refl _) (h1 b)
      have ba : b ≤ a := (List.mem_cons.mp ha).elim (fun z => by rw [z]; exact List.le_refl _) (h3 a)
      exact List.le_antisymm ab ba
    subst e
    rw [words_one l m h2 h4 (List.perm_cons a |>.mp p)]
/-- the sort of any words -/
theorem str_sorted2 {F : List (List Nat)} {ys : List Str} (pm : ys.Perm (F.map tx)) (so : sortedS ys = true) : ∃ L : List (List Nat), ys = L.map tx ∧ L.Perm F ∧ L.Pairwise (· ≤ ·) := by
  have hy : ys = (ys.map fun s => s.cps.toList).map tx := by
    rw [List.map_map]
    exact ((List.map_id ys).symm.trans (List.map_congr_left fun s hs => rfl))
  have pm2 : (ys.map fun s => s.cps.toList).Perm F := by
    have q := pm.map fun s : Str => s.cps.toList
    rw [List.map_map] at q
    have e : F.map ((fun s : Str => s.cps.toList) ∘ tx) = F := (List.map_congr_left fun s _ => tx_list s).trans (List.map_id F)
    rw [e] at q
    exact q
  refine ⟨_, hy, pm2, ?_⟩
  rw [hy] at so
  exact words_rising _ so
theorem flat_sum (W : List (List Nat)) : ((W.map tx).map (·.length)).sum = W.flatten.length := by
  induction W with
  | nil => rfl
  | cons a W ih =>
    rw [List.map_cons, List.map_cons, List.sum_cons, ih, List.flatten_cons, List.length_append, tx_length]
end TcG
/-! Lists of letters that are compared; when two words are alike. -/
namespace TcG
open PySem PySem.Spec PyProof.Rows L2
def onesD (l : List Nat) : List PyData := l.map fun c => .str (tx [c])
theorem ones_all {K : PySem.W.Frag} {H : Hp} : ∀ l : List Nat, DpAll K H ((ones l).map V.str) (onesD l)
  | [] => .nil
  | c :: l => .cons (.str _) (ones_all l)
theorem ones_eqv : ∀ l m : List Nat, PyData.eqvAll (onesD l) (onesD m) = decide (l = m)
  | [], [] => by simp [onesD, PyData.eqvAll]
  | [], d :: m => by simp [onesD, PyData.eqvAll]
  | c :: l, [] => by simp [onesD, PyData.eqvAll]
  | c :: l, d :: m => by
    show (PyData.eqv (.str (tx [c])) (.str (tx [d])) && PyData.eqvAll (onesD l) (onesD m)) = _
    rw [ones_eqv l m]
    have e : PyData.eqv (.str (tx [c])) (.str (tx [d])) = decide (c = d) := by
      show (tx [c] == tx [d]) = _
      by_cases h : c = d
      · rw [h, decide_eq_true rfl, beq_self_eq_true]
      · rw [decide_eq_false h]
        exact beq_eq_false_iff_ne.mpr fun z => h (List.cons.inj (tx_inj z)).1
    rw [e, ← Bool.decide_and]
    refine decide_eq_decide.mpr ⟨fun h => by rw [h.1, h.2], fun h => List.cons.inj h⟩
theorem eqv_ones (l m : List Nat) : PyData.eqv (.list (onesD l)) (.list (onesD m)) = decide (l = m) := ones_eqv l m
theorem ones_lay : ∀ l : List Nat, (∀ c ∈ l, c < 1000) → PyData.canLayAll0 (onesD l) = true ∧ PyData.depthAll (onesD l) = 0
  | [], _ => ⟨rfl, rfl⟩
  | c :: l, h => by
    obtain ⟨h1, h2⟩ := ones_lay l fun d hd => h d (List.mem_cons_of_mem _ hd)
    have hc := h c List.mem_cons_self
    constructor
    · show (PyData.canLay0 (.str (tx [c])) && PyData.canLayAll0 (onesD l)) = true
      rw [h1, Bool.and_true]
      show (#[c] : Array Nat).all (fun x => decide (x < 0x110000)) = true
      simp
      omega
    · show max (PyData.depth (.str (tx [c]))) (PyData.depthAll (onesD l)) = 0
      rw [h2]
      rfl
theorem shaped_ones (l : List Nat) (h : ∀ c ∈ l, c < 1000) : SeqAt.shaped (.list (onesD l)) = true := by
  obtain ⟨h1, h2⟩ := ones_lay l h
  show (PyData.canLayAll0 (onesD l) && decide (PyData.depthAll (onesD l) + 1 ≤ 64)) = true
  rw [h1, h2]
  rfl
variable {ps : List (List Nat)} {ls : List Nat}
/-- by sorted letters and pairs of dependent letters -/
theorem alike_sorted (pr : Pairs ls ps) {a b : List Nat} (ia : ∀ c ∈ a, c ∈ ls) (ib : ∀ c ∈ b, c ∈ ls) (p : sortN a = sortN b) (k : ∀ x ∈ ls, ∀ y ∈ ls, ind ps x y = false → keepM [x, y] a = keepM [x, y] b) : Exs ps a b :=
  alike_of_keeps b a ia ib (((sortN_perm a).symm.trans (by rw [p])).trans (sortN_perm b)) fun u v hu hv _ hi => k u hu v hv hi
theorem sorted_alike {a b : List Nat} (h : Exs ps a b) : sortN a = sortN b := sortN_of ((sortN_perm a).trans h.perm) (sortN_sorted a)
end TcG
/-! Lists of letters in a list. -/
namespace TcG
open PySem PySem.Spec PyProof.Rows L2
/-- the letters of a lot as values -/
def onesV (l : List Nat) : List V := (ones l).map V.str
theorem onesV_len (l : List Nat) : (onesV l).length = l.length := by
  unfold onesV
  rw [List.length_map, ones_len]
theorem onesV_app (a b : List Nat) : onesV (a ++ b) = onesV a ++ onesV b := by
  unfold onesV
  rw [ones_append, List.map_append]
theorem onesV_at {l : List Nat} {i : Nat} {x : V} (h : (onesV l)[i]? = some x) : ∃ c, l[i]? = some c ∧ x = .str (tx [c]) := by
  unfold onesV ones at h
  rw [List.getElem?_map, List.getElem?_map] at h
  cases e : l[i]? with
  | none => rw [e] at h; cases h
  | some c =>
    rw [e] at h
    exact ⟨c, rfl, (Option.some.inj h).symm⟩
theorem onesV_map (l : List Nat) : onesV l = l.map fun c => .str (tx [c]) := by
  unfold onesV ones
  rw [List.map_map]
  rfl
inductive Laid (H : Hp) : List Addr → List (List Nat) → Prop
  | nil : Laid H [] []
  | cons {r : Addr} {l : List Nat} {rs : List Addr} {L : List (List Nat)} : H r = some (.lst (onesV l)) → Laid H rs L → Laid H (r :: rs) (l :: L)
theorem Laid.same {H H' : Hp} {rs : List Addr} {L : List (List Nat)} (s : Same H H') (h : Laid H rs L) : Laid H' rs L := by
  induction h with
  | nil => exact .nil
  | cons e _ ih => exact .cons (s _ _ e) ih
theorem Laid.snoc {H : Hp} {rs : List Addr} {L : List (List Nat)} {r : Addr} {l : List Nat} (h : Laid H rs L) (e : H r = some (.lst (onesV l))) : Laid H (rs ++ [r]) (L ++ [l]) := by
  induction h with
  | nil => exact .cons e .nil
  | cons e1 _ ih => exact .cons e1 ih
theorem Laid.len {H : Hp} {rs : List Addr} {L : List (List Nat)} (h : Laid H rs L) : rs.length = L.length := by
  induction h with
  | nil => rfl
  | cons _ _ ih => rw [List.length_cons, List.length_cons, ih]
theorem Laid.at {H : Hp} {rs : List Addr} {L : List (List Nat)} (h : Laid H rs L) : ∀ {k : Nat} {x : V}, (rs.map V.ref)[k]? = some x → ∃ r l, x = .ref r ∧ L[k]? = some l ∧ H r = some (.lst (onesV l)) := by
  induction h with
  | nil => exact fun {k} {x} e => nomatch e
  | @cons r l rs L e h ih =>
    intro k x ex
    cases k with
    | zero => exact ⟨r, l, (Option.some.inj ex).symm, rfl, e⟩
    | succ k => exact ih ex
theorem Laid.dp {K : PySem.W.Frag} {H : Hp} {rs : List Addr} {L : List (List Nat)} (h : Laid H rs L) : DpAll K H (rs.map V.ref) (L.map fun l => .list (onesD l)) := by
  induction h with
  | nil => exact .nil
  | cons e _ ih => exact .cons (.lst (SqL.of e) (ones_all _)) ih
theorem laid_lay : ∀ (L : List (List Nat)), (∀ l ∈ L, ∀ c ∈ l, c < 1000) → PyData.canLayAll0 (L.map fun l => .list (onesD l)) = true ∧ PyData.depthAll (L.map fun l => .list (onesD l)) ≤ 1
  | [], _ => ⟨rfl, by decide⟩
  | l :: L, h => by
    obtain ⟨h1, h2⟩ := laid_lay L fun l hl => h l (List.mem_cons_of_mem _ hl)
    obtain ⟨h3, h4⟩ := ones_lay l (h l List.mem_cons_self)
    constructor
    · show (PyData.canLayAll0 (onesD l) && PyData.canLayAll0 (L.map fun l => .list (onesD l))) = true
      rw [h1, h3]
      rfl
    · show max (PyData.depthAll (onesD l) + 1) (PyData.depthAll (L.map fun l => .list (onesD l))) ≤ 1
      rw [h4]
      omega
theorem laid_shaped {L : List (List Nat)} (h : ∀ l ∈ L, ∀ c ∈ l, c < 1000) : SeqAt.shaped (.list (L.map fun l => .list (onesD l))) = true := by
  obtain ⟨h1, h2⟩ := laid_lay L h
  show (PyData.canLayAll0 (L.map fun l => .list (onesD l)) && decide (PyData.depthAll (L.map fun l => .list (onesD l)) + 1 ≤ 64)) = true
  rw [h1, decide_eq_true (by omega)]
  rfl
theorem laid_any (L : List (List Nat)) (l : List Nat) : ((L.map fun l => PyData.list (onesD l)).any fun z => PyData.eqv z (.list (onesD l))) = decide (l ∈ L) := by
  induction L with
  | nil => simp
  | cons a L ih =>
    rw [List.map_cons, List.any_cons, ih, eqv_ones, ← Bool.decide_or]
    refine decide_eq_decide.mpr ?_
    rw [List.mem_cons]
    exact ⟨fun h => h.imp_left Eq.symm, fun h => h.imp_left Eq.symm⟩
variable {ps : List (List Nat)}
theorem flat_parts (f : List Nat → Bool) : ∀ L : List (List Nat), ((L.filter f).flatten ++ (L.filter fun l => !f l).flatten).Perm L.flatten
  | [] => .nil
  | a :: L => by
    have ih := flat_parts f L
    rw [List.filter_cons, List.filter_cons, List.flatten_cons]
    cases f a with
    | true =>
      simp only [Bool.not_true, Bool.false_eq_true, if_false, if_true, List.flatten_cons, List.append_assoc]
      exact ih.append_left a
    | false =>
      simp only [Bool.not_false, Bool.false_eq_true, if_false, if_true, List.flatten_cons]
      rw [← List.append_assoc]
      refine (List.Perm.append_right _ List.perm_append_comm).trans ?_
      rw [List.append_assoc]
      exact ih.append_left a
theorem lots2_perm (cs : List Nat) : (lots2 ps cs).flatten.Perm cs := by
  have h : ∀ (cs : List Nat) (L : List (List Nat)), (cs.foldl (lotStep2 ps) L).flatten.Perm (L.flatten ++ cs) := fun cs => by
    induction cs with
    | nil =>
      intro L
      rw [List.append_nil]
      exact .refl _
    | cons c cs ih =>
      intro L
      refine (ih _).trans ?_
      have e : L.flatten ++ c :: cs = (L.flatten ++ [c]) ++ cs := by simp
      rw [e]
      refine List.Perm.append_right _ ?_
      unfold lotStep2
      rw [List.flatten_append, List.flatten_cons, List.flatten_nil, List.append_nil]
      refine (List.Perm.append_left _ (List.perm_append_comm (l₁ := [c]))).trans ?_
      rw [← List.append_assoc]
      exact (flat_parts (offLot ps c) L).append_right [c]
  exact h cs []
theorem lots2_len (cs : List Nat) : (lots2 ps cs).length ≤ cs.length := by
  have h : ∀ (cs : List Nat) (L : List (List Nat)), (cs.foldl (lotStep2 ps) L).length ≤ L.length + cs.length := fun cs => by
    induction cs with
    | nil => exact fun L => Nat.le_refl _
    | cons c cs ih =>
      intro L
      have h := ih (lotStep2 ps L c)
      have h2 : (lotStep2 ps L c).length ≤ L.length + 1 := by
        unfold lotStep2
        rw [List.length_append, List.length_singleton]
        have := List.length_filter_le (offLot ps c) L
        omega
      rw [List.length_cons]
      exact Nat.le_trans h (by omega)
  have := h cs []
  rw [List.length_nil, Nat.zero_add] at this
  exact this
theorem near_test (c : Nat) (l : List Nat) : decide ((0 : Int) < (((onesV (l.filter fun y => !ind ps c y)).length : Nat) : Int)) = !offLot ps c l := by
  rw [onesV_len]
  unfold offLot
  cases e : l.all fun y => ind ps y c with
  | true =>
    have : l.filter (fun y => !ind ps c y) = [] := List.filter_eq_nil_iff.mpr fun y hy => by
      have := List.all_eq_true.mp e y hy
      rw [ind_comm] at this
      rw [this]
      exact Bool.false_ne_true
    rw [this]
    rfl
  | false =>
    obtain ⟨y, hy, h⟩ := List.all_eq_false.mp e
    have : y ∈ l.filter (fun y => !ind ps c y) := List.mem_filter.mpr ⟨hy, by
      rw [ind_comm]
      cases e2 : ind ps y c with
      | true => exact absurd e2 h
      | false => rfl⟩
    have := List.length_pos_of_mem this
    exact decide_eq_true (by omega)
theorem hu65 {A : Around} {k : Nat} (hr : Room k A) : A.units + 65 < cLine := by
  have := hr.un
  omega
end TcG
/-! Traces that commute: powers of the same pieces. -/
namespace TcG
open PySem PySem.Spec PyProof.Rows L2
variable {ps : List (List Nat)} {ls : List Nat}
theorem repN_add (i j : Nat) (u : List Nat) : repN (i + j) u = repN i u ++ repN j u := by
  induction i with
  | zero => rw [Nat.zero_add, repN_zero, List.nil_append]
  | succ i ih => rw [Nat.succ_add, repN_succ, repN_succ, ih, List.append_assoc]
theorem repN_mul (i j : Nat) (u : List Nat) : repN (i * j) u = repN i (repN j u) := by
  induction i with
  | zero => rw [Nat.zero_mul, repN_zero, repN_zero]
  | succ i ih => rw [Nat.succ_mul, Nat.add_comm, repN_add, repN_succ, ih]
theorem repN_snoc (i : Nat) (u : List Nat) : repN (i + 1) u = repN i u ++ u := by rw [repN_add, repN_one]
theorem repN_nil (i : Nat) : repN i ([] : List Nat) = [] := by
  induction i with
  | zero => rfl
  | succ i ih => rw [repN_succ, ih, List.nil_append]
theorem repN_keep (l : List Nat) (i : Nat) (u : List Nat) : keepM l (repN i u) = repN i (keepM l u) := by
  induction i with
  | zero => rfl
  | succ i ih => rw [repN_succ, repN_succ, keepM_append, ih]
/-- words that commute are powers of one -/
theorem comm_words : ∀ (n : Nat) (u v : List Nat), u.length + v.length ≤ n → u ++ v = v ++ u → ∃ (t : List Nat) (i j : Nat), u = repN i t ∧ v = repN j t
  | n, [], v, _, _ => ⟨v, 0, 1, rfl, (repN_one v).symm⟩
  | n, x :: u, [], _, _ => ⟨x :: u, 1, 0, (repN_one _).symm, rfl⟩
  | 0, x :: u, y :: v, h, _ => by simp at h
  | n + 1, x :: u, y :: v, h, e => by
    rcases Nat.le_total (x :: u).length (y :: v).length with l | l
    · obtain ⟨r, er⟩ : ∃ r, y :: v = (x :: u) ++ r := ⟨(y :: v).drop (x :: u).length, by
        have h1 : ((x :: u) ++ (y :: v)).take (x :: u).length = x :: u := List.take_left
        rw [e, List.take_append_of_le_length l] at h1
        conv => lhs; rw [← List.take_append_drop (x :: u).length (y :: v), h1]⟩
      rw [er, List.append_assoc] at e
      have e2 := List.append_cancel_left e
      obtain ⟨t, i, j, h1, h2⟩ := comm_words n (x :: u) r (by
        have := congrArg List.length er
        rw [List.length_append] at this
        simp only [List.length_cons] at this h ⊢
        omega) e2
      exact ⟨t, i, i + j, h1, by rw [er, repN_add, ← h1, ← h2]⟩
    · obtain ⟨r, er⟩ : ∃ r, x :: u = (y :: v) ++ r := ⟨(x :: u).drop (y :: v).length, by
        have h1 : ((y :: v) ++ (x :: u)).take (y :: v).length = y :: v := List.take_left
        rw [← e, List.take_append_of_le_length l] at h1
        conv => lhs; rw [← List.take_append_drop (y :: v).length (x :: u), h1]⟩
      rw [er, List.append_assoc] at e
      have e2 := List.append_cancel_left e
      obtain ⟨t, i, j, h1, h2⟩ := comm_words n r (y :: v) (by
        have := congrArg List.length er
        rw [List.length_append] at this
        simp only [List.length_cons] at this h ⊢
        omega) e2
      exact ⟨t, j + i, j, by rw [er, repN_add, ← h1, ← h2], h2⟩
/-- words of which some powers are the same commute -/
theorem pow_comm {u v : List Nat} {a b : Nat} (ha : 0 < a) (hb : 0 < b) (h : repN a u = repN b v) : u ++ v = v ++ u := by
  have key : ∀ {u v : List Nat} {a b : Nat}, 0 < a → 0 < b → repN a u = repN b v → u.length ≤ v.length → u ++ v = v ++ u := fun {u v a b} ha hb h l => by
    obtain ⟨a, rfl⟩ : ∃ m, a = m + 1 := ⟨a - 1, by omega⟩
    obtain ⟨b, rfl⟩ : ∃ m, b = m + 1 := ⟨b - 1, by omega⟩
    obtain ⟨r, rfl⟩ : ∃ r, v = u ++ r := ⟨v.drop u.length, by
      have h1 : (repN (a + 1) u).take u.length = u := by rw [repN_succ]; exact List.take_left
      rw [h, repN_succ, List.take_append_of_le_length l] at h1
      conv => lhs; rw [← List.take_append_drop u.length v, h1]⟩
    have turn : ∀ n, u ++ repN n (r ++ u) = repN n (u ++ r) ++ u := fun n => by
      induction n with
      | zero => rw [repN_zero, repN_zero, List.append_nil, List.nil_append]
      | succ n ih => rw [repN_succ, repN_succ, List.append_assoc (u ++ r), ← ih, List.append_assoc, List.append_assoc]
    have t := turn (b + 1)
    rw [← h, ← repN_snoc, repN_succ b, repN_succ (a + 1)] at t
    have t2 : r ++ u ++ repN b (r ++ u) = repN (a + 1) u := List.append_cancel_left t
    rw [h, repN_succ] at t2
    have t3 : r ++ u = u ++ r := by
      have := congrArg (List.take (r ++ u).length) t2
      rw [List.take_left] at this
      rw [show (r ++ u).length = (u ++ r).length by rw [List.length_append, List.length_append, Nat.add_comm], List.take_left] at this
      exact this
    rw [List.append_assoc, ← t3]
  rcases Nat.le_total u.length v.length with l | l
  · exact key ha hb h l
  · exact (key hb ha h.symm l).symm
/-- the powers told by coprime numbers -/
theorem pow_coprime {u v : List Nat} {a b : Nat} (ha : 0 < a) (hb : 0 < b) (co : Nat.Coprime a b) (h : repN a u = repN b v) : ∃ t, u = repN b t ∧ v = repN a t := by
  obtain ⟨t, i, j, rfl, rfl⟩ := comm_words _ u v (Nat.le_refl _) (pow_comm ha hb h)
  cases t with
  | nil => exact ⟨[], by rw [repN_nil, repN_nil], by rw [repN_nil, repN_nil]⟩
  | cons x t =>
    have e : a * i = b * j := by
      have := congrArg List.length h
      rw [← repN_mul, ← repN_mul, repN_len, repN_len] at this
      exact Nat.eq_of_mul_eq_mul_right (by rw [List.length_cons]; omega) this
    have d : b ∣ i := co.symm.dvd_of_dvd_mul_left ⟨j, e⟩
    obtain ⟨k, rfl⟩ := d
    have ej : j = a * k := by
      have : b * j = b * (a * k) := by rw [← e, ← Nat.mul_assoc, Nat.mul_comm a b, Nat.mul_assoc]
      exact Nat.eq_of_mul_eq_mul_left hb this
    exact ⟨repN k (x :: t), by rw [← repN_mul], by rw [← repN_mul, ej]⟩
/-- alike exactly if all words of dependent letters are the same -/
theorem exs_of_keeps {a b : List Nat} (pr : Pairs ls ps) (ia : ∀ c ∈ a, c ∈ ls) (ib : ∀ c ∈ b, c ∈ ls) (h : ∀ u v, ind ps u v = false → keepM [u, v] a = keepM [u, v] b) : Exs ps a b := by
  have cnt : ∀ (c : Nat) (l : List Nat), l.count c = (keepM [c, c] l).length := fun c l => by
    unfold keepM
    rw [List.count_eq_countP, List.countP_eq_length_filter]
    refine congrArg List.length (List.filter_congr fun x _ => ?_)
    rw [Bool.eq_iff_iff, beq_iff_eq, decide_eq_true_eq]
    simp
  exact alike_of_keeps b a ia ib (List.perm_iff_count.mpr fun c => by rw [cnt, cnt, h c c (ind_self pr c)]) fun u v _ _ _ hi => h u v hi
theorem count_keep {l a : List Nat} {c : Nat} (h : c ∈ l) : (keepM l a).count c = a.count c := by
  unfold keepM
  exact List.count_filter (decide_eq_true h)
theorem keep_twice {l m a : List Nat} (h : ∀ c ∈ l, c ∈ m) : keepM l (keepM m a) = keepM l a := by
  unfold keepM
  rw [List.filter_filter]
  refine List.filter_congr fun c _ => ?_
  rw [Bool.eq_iff_iff, Bool.and_eq_true, decide_eq_true_eq, decide_eq_true_eq]
  exact ⟨fun h => h.1, fun hc => ⟨hc, h c hc⟩⟩
theorem front_keep (l : List Nat) : ∀ (w m : List Nat), keepM l (frontM m w) = frontM m (keepM l w)
  | [], _ => rfl
  | x :: w, m => by
    by_cases hl : x ∈ l
    · rw [keepM_cons_in hl]
      by_cases hm : x ∈ m
      · rw [front_yes hm, front_yes hm, keepM_cons_in hl, front_keep l w]
      · rw [front_no hm, front_no hm, front_keep l w]
    · rw [keepM_cons_out hl]
      by_cases hm : x ∈ m
      · rw [front_yes hm, keepM_cons_out hl, front_keep l w]
        have key : ∀ (k n : List Nat), (∀ c ∈ k, c ∈ l) → frontM (n.erase x) k = frontM n k := fun k => by
          induction k with
          | nil => exact fun _ _ => rfl
          | cons y k ih =>
            intro n hk
            have ne : y ≠ x := fun z => hl (z ▸ hk y List.mem_cons_self)
            by_cases hy : y ∈ n
            · rw [front_yes hy, front_yes ((List.mem_erase_of_ne ne).mpr hy), List.erase_comm, ih _ fun c hc => hk c (List.mem_cons_of_mem _ hc)]
            · rw [front_no hy, front_no (fun z => hy ((List.mem_erase_of_ne ne).mp z)), ih _ fun c hc => hk c (List.mem_cons_of_mem _ hc)]
        exact key _ _ fun c hc => of_decide_eq_true (List.mem_filter.mp hc).2
      · rw [front_no hm, front_keep l w]
theorem front_none {m : List Nat} : ∀ w : List Nat, (∀ c ∈ w, c ∉ m) → frontM m w = []
  | [], _ => rfl
  | x :: w, h => by rw [front_no (h x List.mem_cons_self)]; exact front_none w fun c hc => h c (List.mem_cons_of_mem _ hc)
theorem front_take : ∀ (v r m : List Nat), (∀ c ∈ v ++ r, m.count c = v.count c) → frontM m (v ++ r) = v
  | [], r, m, h => front_none r fun c hc z => by
    have := h c hc
    rw [List.count_nil] at this
    exact absurd (List.count_pos_iff.mpr z) (by omega)
  | x :: v, r, m, h => by
    have hx : x ∈ m := by
      have := h x List.mem_cons_self
      rw [List.count_cons_self] at this
      exact List.count_pos_iff.mp (by omega)
    rw [List.cons_append, front_yes hx]
    rw [front_take v r (m.erase x) fun c hc => by
      have := h c (List.mem_cons_of_mem _ hc)
      rw [List.count_erase]
      rw [List.count_cons] at this
      split
      · rename_i e
        have e : x = c := by simpa using e
        subst e
        simp at this
        omega
      · rename_i e
        have e : ¬ x = c := by simpa using e
        simp [e] at this
        omega]
theorem list_of_counts (f : Nat → Nat) : ∀ w : List Nat, ∃ m : List Nat, ∀ c ∈ w, m.count c = f c
  | [] => ⟨[], fun c h => nomatch h⟩
  | x :: w => by
    obtain ⟨m, hm⟩ := list_of_counts f w
    refine ⟨(m.filter fun c => decide (c ≠ x)) ++ List.replicate (f x) x, fun c hc => ?_⟩
    rw [List.count_append, List.count_replicate]
    by_cases e : c = x
    · subst e
      rw [List.count_eq_zero_of_not_mem fun z => (of_decide_eq_true (List.mem_filter.mp z).2) rfl]
      simp
    · have e2 : (m.filter fun c => decide (c ≠ x)).count c = m.count c := List.count_filter (p := fun c => decide (c ≠ x)) (decide_eq_true e)
      rw [e2, hm c ((List.mem_cons.mp hc).resolve_left e), if_neg (by simpa using fun z : x = c => e z.symm), Nat.add_zero]
/-- a power, told by the words of dependent letters -/
theorem pow_of_keeps (pr : Pairs ls ps) {w : List Nat} {n : Nat} (iw : ∀ c ∈ w, c ∈ ls) (hn : 0 < n) (h : ∀ u v, ind ps u v = false → ∃ t, keepM [u, v] w = repN n t) : PowM ps w n := by
  obtain ⟨m, hm⟩ := list_of_counts (fun c => w.count c / n) w
  have eb : baseM w n = frontM m w := front_keeps fun c hc => (hm c hc).symm
  have hm0 : ∀ c ∈ w, m.count c = w.count c / n := hm
  refine exs_of_keeps pr (fun c hc => base_in iw c (repN_mem hc)) iw fun u v hi => ?_
  obtain ⟨t, ht⟩ := h u v hi
  rw [repN_keep, eb, front_keep, ht]
  obtain ⟨k, rfl⟩ : ∃ k, n = k + 1 := ⟨n - 1, by omega⟩
  have ef : frontM m (repN (k + 1) t) = t := by
    rw [repN_succ]
    refine front_take t (repN k t) m fun c hc => ?_
    have hk : c ∈ keepM [u, v] w := by rw [ht, repN_succ]; exact hc
    obtain ⟨cw, cl⟩ := List.mem_filter.mp hk
    have cl := of_decide_eq_true cl
    rw [hm0 c cw, ← count_keep cl, ht, repN_count, Nat.mul_comm]
    exact Nat.mul_div_cancel _ hn
  rw [ef]
/-- traces of which powers are alike, neither a power, are alike -/
theorem prim_one (pr : Pairs ls ps) {r s : List Nat} {a b : Nat} (ir : ∀ c ∈ r, c ∈ ls) (is : ∀ c ∈ s, c ∈ ls) (ha : 0 < a) (hb : 0 < b) (hr : ∀ n, 0 < n → PowM ps r n → n = 1) (hs : ∀ n, 0 < n → PowM ps s n → n = 1) (h : Exs ps (repN a r) (repN b s)) : Exs ps r s := by
  have g0 : 0 < Nat.gcd a b := Nat.gcd_pos_of_pos_left b ha
  obtain ⟨a', ea⟩ : Nat.gcd a b ∣ a := Nat.gcd_dvd_left a b
  obtain ⟨b', eb⟩ : Nat.gcd a b ∣ b := Nat.gcd_dvd_right a b
  have co : Nat.Coprime a' b' := by
    have h1 := Nat.coprime_div_gcd_div_gcd g0
    have h2 : a / Nat.gcd a b = a' := by rw [Nat.div_eq_iff_eq_mul_right g0 (Nat.gcd_dvd_left a b)]; exact ea
    have h3 : b / Nat.gcd a b = b' := by rw [Nat.div_eq_iff_eq_mul_right g0 (Nat.gcd_dvd_right a b)]; exact eb
    rw [h2, h3] at h1
    exact h1
  generalize Nat.gcd a b = g at g0 ea eb
  subst ea; subst eb
  have a0 : 0 < a' := Nat.pos_of_mul_pos_left ha
  have b0 : 0 < b' := Nat.pos_of_mul_pos_left hb
  rw [repN_mul, repN_mul] at h
  have i1 : ∀ c ∈ repN g (repN b' s), c ∈ ls := fun c hc => is c (repN_mem (repN_mem hc))
  have h1 := base_of pr i1 g0 h
  have h2 := base_of pr i1 g0 (.refl (repN g (repN b' s)))
  have h3 : Exs ps (repN a' r) (repN b' s) := h1.symm.trans h2
  have key : ∀ u v, ind ps u v = false → ∃ t, keepM [u, v] r = repN b' t ∧ keepM [u, v] s = repN a' t := fun u v hi => by
    have := h3.keeps pr hi
    rw [repN_keep, repN_keep] at this
    exact pow_coprime a0 b0 co this
  have e1 := hr b' b0 (pow_of_keeps pr ir b0 fun u v hi => (key u v hi).imp fun _ h => h.1)
  have e2 := hs a' a0 (pow_of_keeps pr is a0 fun u v hi => (key u v hi).imp fun _ h => h.2)
  rw [e1, e2, repN_one, repN_one] at h3
  exact h3
/-- the base of the greatest power is none -/
theorem base_prim (pr : Pairs ls ps) {w : List Nat} {N : Nat} (iw : ∀ c ∈ w, c ∈ ls) (ne : w ≠ []) (hN : 0 < N) (h : PowM ps w N) (up : ∀ m, 0 < m → m ≤ w.length → PowM ps w m → m ≤ N) : ∀ n, 0 < n → PowM ps (baseM w N) n → n = 1 := fun n hn hp => by
  have e : Exs ps (repN (N * n) (baseM (baseM w N) n)) w := by
    rw [repN_mul]
    exact (repN_exs hp N).trans h
  have p := pow_of pr iw (Nat.mul_pos hN hn) e
  have l : N * n ≤ w.length := by
    have := pow_div p
    have h0 : 0 < w.length := List.length_pos_iff.mpr ne
    rw [← this] at h0 ⊢
    exact Nat.le_mul_of_pos_right _ (Nat.pos_of_mul_pos_left h0)
  have := up _ (Nat.mul_pos hN hn) l p
  have h4 : N * n ≤ N * 1 := by omega
  have := Nat.le_of_mul_le_mul_left h4 hN
  omega
/-- letters that hang together -/
def Conn (ps : List (List Nat)) (C : List Nat) : Prop := ∀ S : Nat → Prop, (∃ x ∈ C, S x) → (∀ x ∈ C, S x → ∀ y ∈ C, ind ps x y = false → S y) → ∀ y ∈ C, S y
theorem keep_one {u v : Nat} {c : List Nat} (h : v ∉ c) : keepM [u, v] c = keepM [u, u] c := by
  unfold keepM
  refine List.filter_congr fun x hx => ?_
  rw [Bool.eq_iff_iff, decide_eq_true_eq, decide_eq_true_eq]
  simp only [List.mem_cons, List.not_mem_nil, or_false, or_self]
  exact ⟨fun e => e.resolve_right fun z => h (z ▸ hx), .inl⟩
theorem mem_keep {l a : List Nat} {c : Nat} : c ∈ keepM l a ↔ c ∈ a ∧ c ∈ l := by
  unfold keepM
  rw [List.mem_filter, decide_eq_true_eq]
/-- letters of a component: no dependent letter of the word is outside -/
structure LotIn (ps : List (List Nat)) (w C : List Nat) : Prop where
  sub : ∀ c ∈ C, c ∈ w
  conn : Conn ps C
  shut : ∀ x ∈ C, ∀ y ∈ w, ind ps x y = false → y ∈ C
theorem LotIn.whole (pr : Pairs ls ps) {w o C D : List Nat} (hw : Exs ps (w ++ o) (o ++ w)) (hC : LotIn ps w C) (hD : LotIn ps o D) {z : Nat} (zC : z ∈ C) (zD : z ∈ D) : ∀ y ∈ C, y ∈ D := by
  refine hC.conn (fun y => y ∈ D) ⟨z, zC, zD⟩ fun x hx xD y hy hi => ?_
  have e := hw.keeps pr hi
  rw [keepM_append, keepM_append] at e
  obtain ⟨t, i, j, h1, h2⟩ := comm_words _ _ _ (Nat.le_refl _) e
  have yt : y ∈ t := repN_mem (n := i) (by rw [← h1]; exact mem_keep.mpr ⟨hC.sub y hy, by simp⟩)
  have j0 : j ≠ 0 := fun z => by
    have : x ∈ keepM [x, y] o := mem_keep.mpr ⟨hD.sub x xD, by simp⟩
    rw [h2, z, repN_zero] at this
    cases this
  obtain ⟨j, rfl⟩ : ∃ m, j = m + 1 := ⟨j - 1, by omega⟩
  have yo : y ∈ keepM [x, y] o := by
    rw [h2, repN_succ]
    exact List.mem_append_left _ yt
  exact hD.shut x xD y (mem_keep.mp yo).1 hi
theorem LotIn.share (pr : Pairs ls ps) {w o C D : List Nat} (hw : Exs ps (w ++ o) (o ++ w)) (hC : LotIn ps w C) (hD : LotIn ps o D) {x y : Nat} (xC : x ∈ C) (yD : y ∈ D) (hi : ind ps x y = false) : y ∈ C := by
  have e := hw.keeps pr hi
  rw [keepM_append, keepM_append] at e
  obtain ⟨t, i, j, h1, h2⟩ := comm_words _ _ _ (Nat.le_refl _) e
  have yt : y ∈ t := repN_mem (n := j) (by rw [← h2]; exact mem_keep.mpr ⟨hD.sub y yD, by simp⟩)
  have i0 : i ≠ 0 := fun z => by
    have : x ∈ keepM [x, y] w := mem_keep.mpr ⟨hC.sub x xC, by simp⟩
    rw [h1, z, repN_zero] at this
    cases this
  obtain ⟨i, rfl⟩ : ∃ m, i = m + 1 := ⟨i - 1, by omega⟩
  have yw : y ∈ keepM [x, y] w := by
    rw [h1, repN_succ]
    exact List.mem_append_left _ yt
  exact hC.shut x xC y (mem_keep.mp yw).1 hi
/-- components that hang together have powers that are alike -/
theorem lots_powers (pr : Pairs ls ps) {w o C D : List Nat} (iw : ∀ c ∈ w, c ∈ ls) (io : ∀ c ∈ o, c ∈ ls) (hw : Exs ps (w ++ o) (o ++ w)) (hC : LotIn ps w C) (hD : LotIn ps o D) {x y : Nat} (xC : x ∈ C) (yD : y ∈ D) (hi : ind ps x y = false) :
    ∃ I J, 0 < I ∧ 0 < J ∧ Exs ps (repN J (keepM C w)) (repN I (keepM D o)) := by
  have yC := hC.share pr hw hD xC yD hi
  have CD := hC.whole pr hw hD yC yD
  have DC := hD.whole pr hw.symm hC yD yC
  have I0 : 0 < w.count y := List.count_pos_iff.mpr (hC.sub y yC)
  have J0 : 0 < o.count y := List.count_pos_iff.mpr (hD.sub y yD)
  have com : ∀ u v, ind ps u v = false → ∃ t i j, keepM [u, v] w = repN i t ∧ keepM [u, v] o = repN j t := fun u v hi => by
    have e := hw.keeps pr hi
    rw [keepM_append, keepM_append] at e
    exact comm_words _ _ _ (Nat.le_refl _) e
  have cnts : ∀ z ∈ C, w.count z * o.count y = o.count z * w.count y := by
    refine hC.conn (fun z => w.count z * o.count y = o.count z * w.count y) ⟨y, yC, Nat.mul_comm _ _⟩ fun z hz hS v hv hi => ?_
    obtain ⟨t, i, j, h1, h2⟩ := com z v hi
    have cw : ∀ c ∈ [z, v], w.count c = i * t.count c := fun c hc => by rw [← count_keep hc, h1, repN_count]
    have co : ∀ c ∈ [z, v], o.count c = j * t.count c := fun c hc => by rw [← count_keep hc, h2, repN_count]
    have z0 : 0 < w.count z := List.count_pos_iff.mpr (hC.sub z hz)
    rw [cw z (by simp)] at z0
    have tz : 0 < t.count z := Nat.pos_of_mul_pos_left z0
    have hS : w.count z * o.count y = o.count z * w.count y := hS
    rw [cw z (by simp), co z (by simp)] at hS
    have hS2 : t.count z * (i * o.count y) = t.count z * (j * w.count y) := by
      have e1 : t.count z * (i * o.count y) = i * t.count z * o.count y := by ac_rfl
      have e2 : t.count z * (j * w.count y) = j * t.count z * w.count y := by ac_rfl
      rw [e1, e2]
      exact hS
    have e := Nat.eq_of_mul_eq_mul_left tz hS2
    show w.count v * o.count y = o.count v * w.count y
    rw [cw v (by simp), co v (by simp)]
    have e1 : i * t.count v * o.count y = t.count v * (i * o.count y) := by ac_rfl
    have e2 : j * t.count v * w.count y = t.count v * (j * w.count y) := by ac_rfl
    rw [e1, e2, e]
  refine ⟨w.count y, o.count y, I0, J0, exs_of_keeps pr (fun c hc => iw c (mem_keep.mp (repN_mem hc)).1) (fun c hc => io c (mem_keep.mp (repN_mem hc)).1) ?_⟩
  have main : ∀ u v, u ∈ C → v ∈ C → ind ps u v = false → keepM [u, v] (repN (o.count y) (keepM C w)) = keepM [u, v] (repN (w.count y) (keepM D o)) := fun u v hu hv hi => by
    have sub : ∀ c ∈ [u, v], c ∈ C := fun c hc => by
      rcases List.mem_cons.mp hc with z | z
      · rw [z]; exact hu
      · rw [List.mem_singleton.mp z]; exact hv
    rw [repN_keep, repN_keep, keep_twice sub, keep_twice fun c hc => CD c (sub c hc)]
    obtain ⟨t, i, j, h1, h2⟩ := com u v hi
    have cw : w.count u = i * t.count u := by rw [← count_keep (l := [u, v]) (by simp), h1, repN_count]
    have co : o.count u = j * t.count u := by rw [← count_keep (l := [u, v]) (by simp), h2, repN_count]
    have z0 : 0 < w.count u := List.count_pos_iff.mpr (hC.sub u hu)
    rw [cw] at z0
    have tz : 0 < t.count u := Nat.pos_of_mul_pos_left z0
    have hS := cnts u hu
    rw [cw, co] at hS
    have hS2 : t.count u * (i * o.count y) = t.count u * (j * w.count y) := by
      have e1 : t.count u * (i * o.count y) = i * t.count u * o.count y := by ac_rfl
      have e2 : t.count u * (j * w.count y) = j * t.count u * w.count y := by ac_rfl
      rw [e1, e2]
      exact hS
    have e := Nat.eq_of_mul_eq_mul_left tz hS2
    rw [h1, h2, ← repN_mul, ← repN_mul, Nat.mul_comm, e, Nat.mul_comm]
  intro u v hi
  have out : ∀ {v n}, v ∉ C → v ∉ repN n (keepM C w) := fun hv z => hv (mem_keep.mp (repN_mem z)).2
  have out2 : ∀ {v n}, v ∉ C → v ∉ repN n (keepM D o) := fun hv z => hv (DC _ (mem_keep.mp (repN_mem z)).2)
  by_cases hu : u ∈ C
  · by_cases hv : v ∈ C
    · exact main u v hu hv hi
    · rw [keep_one (out hv), keep_one (out2 hv)]
      exact main u u hu hu (ind_self pr u)
  · rw [keepM_swap u v (repN (o.count y) _), keepM_swap u v (repN (w.count y) _), keep_one (out hu), keep_one (out2 hu)]
    by_cases hv : v ∈ C
    · exact main v v hv hv (ind_self pr v)
    · rw [keepM_none fun c hc z => out (n := o.count y) hv (by
        have : c = v := by simpa using z
        exact this ▸ hc), keepM_none fun c hc z => out2 (n := w.count y) hv (by
        have : c = v := by simpa using z
        exact this ▸ hc)]
end TcG
/-! Pieces of traces, and those of two that commute. -/
namespace TcG
open PySem PySem.Spec PyProof.Rows L2
variable {ps : List (List Nat)} {ls : List Nat}
/-- words with no dependent letters -/
def Apart (ps : List (List Nat)) (a b : List Nat) : Prop := ∀ x ∈ a, ∀ y ∈ b, ind ps x y = true
theorem Apart.symm {a b : List Nat} (h : Apart ps a b) : Apart ps b a := fun x hx y hy => by rw [ind_comm]; exact h y hy x hx
theorem off_apart {c : Nat} {l : List Nat} (h : offLot ps c l = true) : Apart ps l [c] := fun x hx y hy => by
  rw [List.mem_singleton.mp hy]
  exact List.all_eq_true.mp h x hx
/-- what is so of lots -/
structure LotsOk (ps : List (List Nat)) (L : List (List Nat)) : Prop where
  conn : ∀ l ∈ L, Conn ps l
  ne : ∀ l ∈ L, l ≠ []
  apart : L.Pairwise (Apart ps)
theorem LotsOk.step {L : List (List Nat)} (h : LotsOk ps L) (c : Nat) : LotsOk ps (lotStep2 ps L c) := by
  have near : ∀ l ∈ L.filter (fun l => !offLot ps c l), l ∈ L ∧ ∃ y ∈ l, ind ps y c = false := fun l hl => by
    obtain ⟨h1, h2⟩ := List.mem_filter.mp hl
    refine ⟨h1, ?_⟩
    have h2 : offLot ps c l = false := by simpa using h2
    obtain ⟨y, hy, h3⟩ := List.all_eq_false.mp h2
    exact ⟨y, hy, by simpa using h3⟩
  have memn : ∀ x, x ∈ [c] ++ (L.filter fun l => !offLot ps c l).flatten ↔ x = c ∨ ∃ l ∈ L.filter (fun l => !offLot ps c l), x ∈ l := fun x => by
    rw [List.mem_append, List.mem_singleton, List.mem_flatten]
  unfold lotStep2
  refine ⟨fun l hl => ?_, fun l hl => ?_, ?_⟩
  · rcases List.mem_append.mp hl with hl | hl
    · exact h.conn l (List.mem_filter.mp hl).1
    · rw [List.mem_singleton.mp hl]
      intro S ex cl
      have hc : S c := by
        obtain ⟨x, hx, sx⟩ := ex
        rcases (memn x).mp hx with rfl | ⟨l, hl, xl⟩
        · exact sx
        · obtain ⟨lL, y, yl, yc⟩ := near l hl
          have sy : S y := h.conn l lL S ⟨x, xl, sx⟩ (fun u hu su v hv uv => cl u ((memn u).mpr (.inr ⟨l, hl, hu⟩)) su v ((memn v).mpr (.inr ⟨l, hl, hv⟩)) uv) y yl
          exact cl y ((memn y).mpr (.inr ⟨l, hl, yl⟩)) sy c ((memn c).mpr (.inl rfl)) yc
      intro z hz
      rcases (memn z).mp hz with rfl | ⟨l, hl, zl⟩
      · exact hc
      · obtain ⟨lL, y, yl, yc⟩ := near l hl
        have sy : S y := cl c ((memn c).mpr (.inl rfl)) hc y ((memn y).mpr (.inr ⟨l, hl, yl⟩)) (by rw [ind_comm]; exact yc)
        exact h.conn l lL S ⟨y, yl, sy⟩ (fun u hu su v hv uv => cl u ((memn u).mpr (.inr ⟨l, hl, hu⟩)) su v ((memn v).mpr (.inr ⟨l, hl, hv⟩)) uv) z zl
  · rcases List.mem_append.mp hl with hl | hl
    · exact h.ne l (List.mem_filter.mp hl).1
    · rw [List.mem_singleton.mp hl]
      simp
  · rw [List.pairwise_append]
    refine ⟨h.apart.sublist List.filter_sublist, List.pairwise_singleton _ _, fun a ha b hb => ?_⟩
    rw [List.mem_singleton.mp hb]
    obtain ⟨aL, ao⟩ := List.mem_filter.mp ha
    intro x hx y hy
    rcases (memn y).mp hy with rfl | ⟨l, hl, yl⟩
    · exact off_apart ao x hx y List.mem_cons_self
    · have ne : a ≠ l := fun z => by
        have h2 := (List.mem_filter.mp hl).2
        rw [← z, ao] at h2
        cases h2
      have lL := (List.mem_filter.mp hl).1
      have key : ∀ (L : List (List Nat)), L.Pairwise (Apart ps) → a ∈ L → l ∈ L → Apart ps a l := fun L => by
        induction L with
        | nil => exact fun _ h => nomatch h
        | cons b L ih =>
          intro pw ha hl
          obtain ⟨h1, h2⟩ := List.pairwise_cons.mp pw
          rcases List.mem_cons.mp ha with ea | ha
          · rcases List.mem_cons.mp hl with el | hl
            · exact absurd (ea.trans el.symm) ne
            · rw [ea]; exact h1 l hl
          · rcases List.mem_cons.mp hl with el | hl
            · rw [el]; exact (h1 a ha).symm
            · exact ih h2 ha hl
      exact key L h.apart aL lL x hx y yl
theorem lots2_ok (cs : List Nat) : LotsOk ps (lots2 ps cs) := by
  have h : ∀ (cs : List Nat) (L : List (List Nat)), LotsOk ps L → LotsOk ps (cs.foldl (lotStep2 ps) L) := fun cs => by
    induction cs with
    | nil => exact fun L h => h
    | cons c cs ih => exact fun L h => ih _ (h.step c)
  exact h cs [] ⟨fun _ h => (nomatch h), fun _ h => (nomatch h), List.Pairwise.nil⟩
theorem mem_lots2 (cs : List Nat) (x : Nat) : (∃ l ∈ lots2 ps cs, x ∈ l) ↔ x ∈ cs := by
  rw [← (lots2_perm (ps := ps) cs).mem_iff, List.mem_flatten]
/-- letters that hang together are one lot -/
theorem lots2_one (pr : Pairs ls ps) {cs : List Nat} (ne : cs ≠ []) (h : Conn ps cs) : (lots2 ps cs).length = 1 := by
  have ok := lots2_ok (ps := ps) cs
  have mem := mem_lots2 (ps := ps) cs
  generalize lots2 ps cs = L at ok mem
  match L, ok, mem with
  | [], ok, mem =>
    obtain ⟨x, hx⟩ := List.exists_mem_of_ne_nil cs ne
    obtain ⟨l, hl, _⟩ := (mem x).mpr hx
    cases hl
  | [l], _, _ => rfl
  | a :: b :: L, ok, mem =>
    exfalso
    obtain ⟨x, xa⟩ := List.exists_mem_of_ne_nil a (ok.ne a List.mem_cons_self)
    obtain ⟨y, yb⟩ := List.exists_mem_of_ne_nil b (ok.ne b (List.mem_cons_of_mem _ List.mem_cons_self))
    have ap := (List.pairwise_cons.mp ok.apart).1
    have all := h (fun z => z ∈ a) ⟨x, (mem x).mp ⟨a, List.mem_cons_self, xa⟩, xa⟩ (fun u _ ua v hv uv => by
      obtain ⟨l, hl, vl⟩ := (mem v).mpr hv
      rcases List.mem_cons.mp hl with e | hl
      · rw [e] at vl; exact vl
      · have := ap l hl u ua v vl
        rw [uv] at this
        cases this) y ((mem y).mp ⟨b, List.mem_cons_of_mem _ List.mem_cons_self, yb⟩)
    have := ap b List.mem_cons_self y all y yb
    rw [ind_self pr] at this
    cases this
theorem lots2_in {w cs C : List Nat} (hcs : ∀ c, c ∈ cs ↔ c ∈ w) (hC : C ∈ lots2 ps cs) : LotIn ps w C := by
  have ok := lots2_ok (ps := ps) cs
  have mem := mem_lots2 (ps := ps) cs
  refine ⟨fun c hc => (hcs c).mp ((mem c).mp ⟨C, hC, hc⟩), ok.conn C hC, fun x hx y hy hi => ?_⟩
  obtain ⟨l, hl, yl⟩ := (mem y).mpr ((hcs y).mpr hy)
  generalize lots2 ps cs = L at hC hl ok
  have key : ∀ (L : List (List Nat)), L.Pairwise (Apart ps) → C ∈ L → l ∈ L → C = l ∨ Apart ps C l := fun L => by
    induction L with
    | nil => exact fun _ h => nomatch h
    | cons b L ih =>
      intro pw ha hl
      obtain ⟨h1, h2⟩ := List.pairwise_cons.mp pw
      rcases List.mem_cons.mp ha with ea | ha
      · rcases List.mem_cons.mp hl with el | hl
        · exact .inl (ea.trans el.symm)
        · rw [ea]; exact .inr (h1 l hl)
      · rcases List.mem_cons.mp hl with el | hl
        · rw [el]; exact .inr (h1 C ha).symm
        · exact ih h2 ha hl
  rcases key L ok.apart hC hl with e | e
  · rw [e]; exact yl
  · have := e x hx y yl
    rw [hi] at this
    cases this
/-- a word is alike the product of its components -/
theorem exs_lots (pr : Pairs ls ps) {w : List Nat} (iw : ∀ c ∈ w, c ∈ ls) {L : List (List Nat)} (ok : LotsOk ps L) (mem : ∀ c, (∃ l ∈ L, c ∈ l) ↔ c ∈ w) : Exs ps w (L.flatMap fun C => keepM C w) := by
  have fm : ∀ (m : List Nat) (M : List (List Nat)), keepM m (M.flatMap fun C => keepM C w) = M.flatMap fun C => keepM m (keepM C w) := fun m M => by
    induction M with
    | nil => rfl
    | cons a M ih => rw [List.flatMap_cons, List.flatMap_cons, keepM_append, ih]
  have nil : ∀ (m : List Nat) (M : List (List Nat)), (∀ C ∈ M, ∀ c ∈ m, c ∉ C) → (M.flatMap fun C => keepM m (keepM C w)) = [] := fun m M h => by
    rw [List.flatMap_eq_nil_iff]
    intro C hC
    exact keepM_none fun c hc z => h C hC c z (mem_keep.mp hc).2
  have out : ∀ {A B : List (List Nat)} {C : List Nat} {u : Nat}, LotsOk ps (A ++ C :: B) → u ∈ C → (∀ D ∈ A, u ∉ D) ∧ ∀ D ∈ B, u ∉ D := fun {A B C u} ok hu => by
    obtain ⟨_, h2, h3⟩ := List.pairwise_append.mp ok.apart
    have h4 := (List.pairwise_cons.mp h2).1
    refine ⟨fun D hD z => ?_, fun D hD z => ?_⟩
    · have := h3 D hD C List.mem_cons_self u z u hu
      rw [ind_self pr] at this
      cases this
    · have := h4 D hD u hu u z
      rw [ind_self pr] at this
      cases this
  have main : ∀ u v, ind ps u v = false → u ∈ w → keepM [u, v] w = keepM [u, v] (L.flatMap fun C => keepM C w) := fun u v hi hu => by
    rw [fm]
    obtain ⟨C, hC, uC⟩ := (mem u).mpr hu
    have vC : v ∈ w → v ∈ C := fun hv => by
      obtain ⟨D, hD, vD⟩ := (mem v).mpr hv
      obtain ⟨A, B, rfl⟩ := List.append_of_mem hC
      rcases List.mem_append.mp hD with hD | hD
      · have := (List.pairwise_append.mp ok.apart).2.2 D hD C List.mem_cons_self v vD u uC
        rw [ind_comm, hi] at this
        cases this
      · rcases List.mem_cons.mp hD with e | hD
        · rw [← e]; exact vD
        · have := (List.pairwise_cons.mp (List.pairwise_append.mp ok.apart).2.1).1 D hD u uC v vD
          rw [hi] at this
          cases this
    obtain ⟨A, B, rfl⟩ := List.append_of_mem hC
    obtain ⟨o1, o2⟩ := out ok uC
    have no : ∀ M : List (List Nat), (∀ D ∈ M, D ∈ A ++ C :: B) → (∀ D ∈ M, u ∉ D) → (∀ D ∈ M, v ∈ C → v ∉ D) → (M.flatMap fun C => keepM [u, v] (keepM C w)) = [] := fun M hM h1 h2 => by
      refine nil _ M fun D hD c hc z => ?_
      rcases List.mem_cons.mp hc with e | e
      · exact h1 D hD (e ▸ z)
      · have e := List.mem_singleton.mp e
        rw [e] at z
        exact h2 D hD (vC ((mem v).mp ⟨D, hM D hD, z⟩)) z
    have a0 := no A (fun D hD => List.mem_append_left _ hD) o1 fun D hD hv => (out ok hv).1 D hD
    have b0 := no B (fun D hD => List.mem_append_right _ (List.mem_cons_of_mem _ hD)) o2 fun D hD hv => (out ok hv).2 D hD
    rw [List.flatMap_append, List.flatMap_cons, a0, b0, List.nil_append, List.append_nil]
    by_cases hv : v ∈ C
    · rw [keep_twice fun c hc => by
        rcases List.mem_cons.mp hc with e | e
        · rw [e]; exact uC
        · rw [List.mem_singleton.mp e]; exact hv]
    · have vw : v ∉ w := fun z => hv (vC z)
      rw [keep_one vw, keep_one fun z => hv (mem_keep.mp z).2, keep_twice fun c hc => by
        have : c = u := by simpa using hc
        rw [this]; exact uC]
  refine exs_of_keeps pr iw (fun c hc => ?_) fun u v hi => ?_
  · obtain ⟨C, _, h⟩ := List.mem_flatMap.mp hc
    exact iw c (mem_keep.mp h).1
  · by_cases hu : u ∈ w
    · exact main u v hi hu
    · by_cases hv : v ∈ w
      · rw [keepM_swap, keepM_swap u v (L.flatMap _)]
        exact main v u (by rw [ind_comm]; exact hi) hv
      · have hn : ∀ x : List Nat, (∀ c ∈ x, c ∈ w) → keepM [u, v] x = [] := fun x hx => keepM_none fun c hc z => by
          rcases List.mem_cons.mp z with e | e
          · exact hu (e ▸ hx c hc)
          · exact hv (List.mem_singleton.mp e ▸ hx c hc)
        rw [hn w fun c hc => hc, hn _ fun c hc => by
          obtain ⟨C, _, h⟩ := List.mem_flatMap.mp hc
          exact (mem_keep.mp h).1]
/-- words of which no two depend on one another may stand in any order -/
theorem flat_exs (pr : Pairs ls ps) {A B : List (List Nat)} (p : A.Perm B) (h : A.Pairwise (Apart ps)) : Exs ps A.flatten B.flatten := by
  induction p with
  | nil => exact .refl _
  | cons a _ ih =>
    rw [List.flatten_cons, List.flatten_cons]
    exact (ih (List.pairwise_cons.mp h).2).pre a
  | swap a b l =>
    rw [List.flatten_cons, List.flatten_cons, List.flatten_cons, List.flatten_cons, ← List.append_assoc, ← List.append_assoc]
    exact (swap_words ((List.pairwise_cons.mp h).1 a List.mem_cons_self) pr).post _
  | trans p q ih1 ih2 => exact (ih1 h).trans (ih2 (p.pairwise h fun h => h.symm))
/-- one of the pieces of a word, and how often -/
def PieceOf (ps : List (List Nat)) (w r : List Nat) (e : Nat) : Prop := ∃ C, LotIn ps w C ∧ Exs ps (keepM C w) (repN e r) ∧ 0 < e ∧ r = leastM ps r ∧ (∀ c, c ∈ r ↔ c ∈ C) ∧ (∀ n, 0 < n → PowM ps r n → n = 1) ∧ C ≠ []
theorem PieceOf.conn {w r : List Nat} {e : Nat} (h : PieceOf ps w r e) : Conn ps r := by
  obtain ⟨C, lot, _, _, _, mem, _⟩ := h
  exact fun S ex cl y hy => lot.conn S (ex.imp fun x h => ⟨(mem x).mp h.1, h.2⟩) (fun x hx sx y hy hi => cl x ((mem x).mpr hx) sx y ((mem y).mpr hy) hi) y ((mem y).mp hy)
theorem PieceOf.ne {w r : List Nat} {e : Nat} (h : PieceOf ps w r e) : r ≠ [] := by
  obtain ⟨C, lot, _, _, _, mem, _, ne⟩ := h
  obtain ⟨x, hx⟩ := List.exists_mem_of_ne_nil C ne
  exact fun z => by
    have := (mem x).mpr hx
    rw [z] at this
    cases this
theorem PieceOf.sub {w r : List Nat} {e : Nat} (h : PieceOf ps w r e) : ∀ c ∈ r, c ∈ w := by
  obtain ⟨C, lot, _, _, _, mem, _⟩ := h
  exact fun c hc => lot.sub c ((mem c).mp hc)
/-- pieces of traces that commute are the same or apart -/
theorem piece_same (pr : Pairs ls ps) {w o r s : List Nat} {e f : Nat} (iw : ∀ c ∈ w, c ∈ ls) (io : ∀ c ∈ o, c ∈ ls) (hw : Exs ps (w ++ o) (o ++ w)) (hr : PieceOf ps w r e) (hs : PieceOf ps o s f) : r = s ∨ Apart ps r s := by
  by_cases ap : Apart ps r s
  · exact .inr ap
  · left
    have ir : ∀ c ∈ r, c ∈ ls := fun c hc => iw c (hr.sub c hc)
    have is : ∀ c ∈ s, c ∈ ls := fun c hc => io c (hs.sub c hc)
    obtain ⟨C, lC, eC, e0, mr, memC, prC, _⟩ := hr
    obtain ⟨D, lD, eD, f0, ms, memD, prD, _⟩ := hs
    obtain ⟨x, hx, y, hy, hi⟩ : ∃ x ∈ r, ∃ y ∈ s, ind ps x y = false := by
      refine Classical.byContradiction fun no => ap fun x hx y hy => ?_
      cases hi : ind ps x y with
      | true => rfl
      | false => exact absurd ⟨x, hx, y, hy, hi⟩ no
    obtain ⟨I, J, I0, J0, h⟩ := lots_powers pr iw io hw lC lD ((memC x).mp hx) ((memD y).mp hy) hi
    have h2 : Exs ps (repN (J * e) r) (repN (I * f) s) := by
      rw [repN_mul, repN_mul]
      exact ((repN_exs eC J).symm.trans h).trans (repN_exs eD I)
    have h3 := prim_one pr ir is (Nat.mul_pos J0 e0) (Nat.mul_pos I0 f0) prC prD h2
    rw [mr, ms]
    exact least_alike pr ir h3
/-- the root of a component -/
theorem piece_root (pr : Pairs ls ps) {w C y : List Nat} {N : Nat} (iw : ∀ c ∈ w, c ∈ ls) (lot : LotIn ps w C) (ne : C ≠ []) (ey : Exs ps (keepM C w) y) (hN : 0 < N) (hp : PowM ps y N) (up : ∀ m, 0 < m → m ≤ y.length → PowM ps y m → m ≤ N) : PieceOf ps w (leastM ps (baseM y N)) N := by
  have iC : ∀ c ∈ keepM C w, c ∈ ls := fun c hc => iw c (mem_keep.mp hc).1
  have iy : ∀ c ∈ y, c ∈ ls := fun c hc => iC c (ey.perm.mem_iff.mpr hc)
  have ib := base_in (n := N) iy
  have el := least_exs (ps := ps) pr ib
  have memy : ∀ c, c ∈ y ↔ c ∈ C := fun c => by
    rw [← ey.perm.mem_iff, mem_keep]
    exact ⟨fun h => h.2, fun h => ⟨lot.sub c h, h⟩⟩
  have yne : y ≠ [] := fun z => by
    obtain ⟨x, hx⟩ := List.exists_mem_of_ne_nil C ne
    have := (memy x).mpr hx
    rw [z] at this
    cases this
  have hp' : Exs ps (repN N (baseM y N)) y := hp
  refine ⟨C, lot, ey.trans (hp'.symm.trans (repN_exs el N)), hN, (least_twice pr ib).symm, fun c => ?_, fun n hn h => ?_, ne⟩
  · rw [← el.perm.mem_iff, ← memy]
    refine ⟨fun h => frontF_sub _ y c h, fun h => ?_⟩
    have := hp'.perm.mem_iff.mpr h
    exact repN_mem this
  · have h : Exs ps (repN n (baseM (leastM ps (baseM y N)) n)) (leastM ps (baseM y N)) := h
    exact base_prim pr iy yne hN hp up n hn (pow_of pr ib hn (h.trans el.symm))
/-- a word's pieces -/
structure Pieces (ps : List (List Nat)) (w : List Nat) (D : List (List Nat × Nat)) : Prop where
  each : ∀ p ∈ D, PieceOf ps w p.1 p.2
  apart : (D.map (·.1)).Pairwise (Apart ps)
  prod : Exs ps w (D.flatMap fun p => repN p.2 p.1)
theorem apart_nodup (pr : Pairs ls ps) : ∀ (A : List (List Nat)), A.Pairwise (Apart ps) → (∀ a ∈ A, a ≠ []) → A.Nodup
  | [], _, _ => .nil
  | a :: A, h, ne => by
    obtain ⟨h1, h2⟩ := List.pairwise_cons.mp h
    refine List.nodup_cons.mpr ⟨fun z => ?_, apart_nodup pr A h2 fun x hx => ne x (List.mem_cons_of_mem _ hx)⟩
    obtain ⟨x, hx⟩ := List.exists_mem_of_ne_nil a (ne a List.mem_cons_self)
    have := h1 a z x hx x hx
    rw [ind_self pr] at this
    cases this
theorem Pieces.nodup (pr : Pairs ls ps) {w : List Nat} {D : List (List Nat × Nat)} (h : Pieces ps w D) : (D.map (·.1)).Nodup := apart_nodup pr _ h.apart fun a ha => by
  obtain ⟨p, hp, rfl⟩ := List.mem_map.mp ha
  exact (h.each p hp).ne
/-- what a dict of pieces tells -/
def expOf (D : List (List Nat × Nat)) (r : List Nat) : Nat := ((D.find? fun p => decide (p.1 = r)).map (·.2)).getD 0
theorem expOf_mem : ∀ {D : List (List Nat × Nat)} {r : List Nat} {e : Nat}, (D.map (·.1)).Nodup → (r, e) ∈ D → expOf D r = e
  | [], _, _, _, h => nomatch h
  | p :: D, r, e, nd, h => by
    obtain ⟨n1, n2⟩ := List.nodup_cons.mp nd
    unfold expOf
    rw [List.find?_cons]
    rcases List.mem_cons.mp h with h | h
    · rw [← h]
      simp
    · have ne : ¬ p.1 = r := fun z => n1 (List.mem_map.mpr ⟨(r, e), h, z.symm⟩)
      rw [decide_eq_false ne]
      exact expOf_mem n2 h
theorem expOf_not {D : List (List Nat × Nat)} {r : List Nat} (h : r ∉ D.map (·.1)) : expOf D r = 0 := by
  unfold expOf
  rw [List.find?_eq_none.mpr fun p hp => by
    simp only [decide_eq_true_eq]
    exact fun z => h (List.mem_map.mpr ⟨p, hp, z⟩)]
  rfl
/-- the product of the powers, by any list of pieces that has them all -/
theorem Pieces.all (pr : Pairs ls ps) {w : List Nat} {D : List (List Nat × Nat)} (h : Pieces ps w D) {R : List (List Nat)} (nd : R.Nodup) (sub : ∀ p ∈ D, p.1 ∈ R) : Exs ps w (R.flatMap fun r => repN (expOf D r) r) := by
  have ndD := h.nodup pr
  have e1 : (R.flatMap fun r => repN (expOf D r) r) = ((R.filter fun r => decide (r ∈ D.map (·.1))).map fun r => repN (expOf D r) r).flatten := by
    have drop : ∀ (R : List (List Nat)), (R.flatMap fun r => repN (expOf D r) r) = ((R.filter fun r => decide (r ∈ D.map (·.1))).map fun r => repN (expOf D r) r).flatten := fun R => by
      induction R with
      | nil => rfl
      | cons r R ih =>
        rw [List.flatMap_cons, List.filter_cons, ih]
        by_cases hr : r ∈ D.map (·.1)
        · rw [decide_eq_true hr, if_pos rfl, List.map_cons, List.flatten_cons]
        · rw [decide_eq_false hr, if_neg Bool.false_ne_true, expOf_not hr, repN_zero, List.nil_append]
    exact drop R
  have pm : (D.map (·.1)).Perm (R.filter fun r => decide (r ∈ D.map (·.1))) := (List.perm_ext_iff_of_nodup ndD (nd.sublist List.filter_sublist)).mpr fun r => by
    rw [List.mem_filter, decide_eq_true_eq]
    refine ⟨fun hr => ⟨?_, hr⟩, fun h => h.2⟩
    obtain ⟨p, hp, rfl⟩ := List.mem_map.mp hr
    exact sub p hp
  have e2 : (D.flatMap fun p => repN p.2 p.1) = ((D.map (·.1)).map fun r => repN (expOf D r) r).flatten := by
    rw [List.map_map]
    refine congrArg List.flatten (List.map_congr_left fun p hp => ?_)
    show repN p.2 p.1 = repN (expOf D p.1) p.1
    rw [expOf_mem ndD hp]
  rw [e1]
  refine h.prod.trans ?_
  rw [e2]
  refine flat_exs pr (pm.map _) ?_
  rw [List.pairwise_map]
  exact h.apart.imp fun ap x hx y hy => ap x (repN_mem hx) y (repN_mem hy)
/-- pieces of both, told by one list -/
theorem pieces_fine (pr : Pairs ls ps) {w o : List Nat} {D E : List (List Nat × Nat)} (iw : ∀ c ∈ w, c ∈ ls) (io : ∀ c ∈ o, c ∈ ls) (hw : Exs ps (w ++ o) (o ++ w)) (hD : Pieces ps w D) (hE : Pieces ps o E) {r s : List Nat} (hr : r ∈ D.map (·.1) ++ E.map (·.1)) (hs : s ∈ D.map (·.1) ++ E.map (·.1)) : r = s ∨ Apart ps r s := by
  have inner : ∀ {w : List Nat} {D : List (List Nat × Nat)}, Pieces ps w D → ∀ {r s}, r ∈ D.map (·.1) → s ∈ D.map (·.1) → r = s ∨ Apart ps r s := fun {w D} h {r s} hr hs => by
    have pw := h.apart
    generalize D.map (·.1) = A at pw hr hs
    induction A with
    | nil => cases hr
    | cons a A ih =>
      obtain ⟨h1, h2⟩ := List.pairwise_cons.mp pw
      rcases List.mem_cons.mp hr with er | hr
      · rcases List.mem_cons.mp hs with es | hs
        · exact .inl (er.trans es.symm)
        · rw [er]; exact .inr (h1 s hs)
      · rcases List.mem_cons.mp hs with es | hs
        · rw [es]; exact .inr (h1 r hr).symm
        · exact ih h2 hr hs
  have cross : ∀ {r s}, r ∈ D.map (·.1) → s ∈ E.map (·.1) → r = s ∨ Apart ps r s := fun {r s} hr hs => by
    obtain ⟨p, hp, rfl⟩ := List.mem_map.mp hr
    obtain ⟨q, hq, rfl⟩ := List.mem_map.mp hs
    exact piece_same pr iw io hw (hD.each p hp) (hE.each q hq)
  rcases List.mem_append.mp hr with hr | hr
  · rcases List.mem_append.mp hs with hs | hs
    · exact inner hD hr hs
    · exact cross hr hs
  · rcases List.mem_append.mp hs with hs | hs
    · exact (cross hs hr).imp (fun h => h.symm) fun h => h.symm
    · exact inner hE hr hs
end TcG
/-! d.update(d2). -/
namespace TcG
open PySem PySem.Spec PyProof.Rows L2
def mergeU (kvs more : List (Key × V)) : List (Key × V) := more.foldl (fun acc p => putK acc p.1 p.2) kvs
theorem kv_merge : ∀ {more : List (Key × V)} {ms : List (Key × Value)} {kvs : List (Key × V)} {vs : List (Key × Value)}, KV kvs vs → KV more ms → KV (mergeU kvs more) (merged vs ms) := by
  intro more
  induction more with
  | nil =>
    intro ms kvs vs r m
    cases m
    exact r
  | cons p more ih =>
    intro ms kvs vs r m
    cases m with
    | @cons _ q _ _ ry rt =>
      obtain ⟨p1, p2⟩ := p
      obtain ⟨q1, q2⟩ := q
      obtain ⟨e, ry⟩ := ry
      cases e
      exact ih (kvs := putK kvs p1 p2) (vs := stored vs p1 q2) (r.put p1 ry) rt
theorem mergeU_len (kvs : List (Key × V)) : ∀ more : List (Key × V), (mergeU kvs more).length ≤ kvs.length + more.length := by
  intro more
  induction more generalizing kvs with
  | nil => exact Nat.le_refl _
  | cons p more ih =>
    have h1 := ih (putK kvs p.1 p.2)
    have h2 := length_putK kvs p.1 p.2
    rw [List.length_cons]
    show (mergeU (putK kvs p.1 p.2) more).length ≤ _
    omega
def rUpdK : V → List V → Hp → VK → Prop := fun x xs H Q => ∃ (a b : Addr) (kvs more : List (Key × V)), x = .ref a ∧ xs = [.ref b] ∧ a ≠ b ∧ H a = some (.dK kvs) ∧ H b = some (.dK more) ∧ kvs.length + more.length ≤ sizeLine ∧ Q .non (upd H a (.dK (mergeU kvs more)))
theorem mt_updK {X : Cx} : MtR X "dict.update" rUpdK := by
  intro pins s σ H x xs v us Q I rx rxs h
  obtain ⟨a, b, kvs, more, rfl, rfl, ne, ha, hb, hz, q⟩ := h
  cases rx
  obtain ⟨u1, rfl, r1⟩ := vals1 rxs
  cases r1
  obtain ⟨z, hd, vs, rel, dd⟩ := dk_of I.hok ha
  obtain ⟨z2, hd2, ms, rel2, dd2⟩ := dk_of I.hok hb
  refine call_meetsIn PySem.F.slot_dict_update dd.typeIs PySem.F.entry_dict_update (PySem.F.args_dict_update_2 _ _) (meets_dict_update (mixKind X.prog X.w) a b ne hd2)
    ⟨vs, ms, dd, dd2, by rw [← rel.length, ← rel2.length]; exact hz, fun h' dd' _ hs => ?_⟩
  have he : ∃ q, h'.get? a = some q := let ⟨q, _, _, hq, _⟩ := dd'; ⟨q, hq⟩
  exact ⟨.non, _, d_write (t' := s.toks) I (by rw [ha]; exact True.intro) hs he (dk_new (Nat.le_trans (mergeU_len kvs more) hz) hd (kv_merge rel rel2) dd'), rfl, q⟩
end TcG
/-! The roots of a word's components, with their exponents, as a dict. -/
namespace TcG
open PySem PySem.Spec PyProof.Rows L2
variable {ps : List (List Nat)} {ls : List Nat}
def RootOf (ps : List (List Nat)) (y : List Nat) (p : List Nat × Nat) : Prop := 0 < p.2 ∧ p.2 ≤ y.length ∧ PowM ps y p.2 ∧ (∀ m, 0 < m → m ≤ y.length → PowM ps y m → m ≤ p.2) ∧ p.1 = leastM ps (baseM y p.2)
inductive RootsL (ps : List (List Nat)) : List (List Nat) → List (List Nat × Nat) → Prop
  | nil : RootsL ps [] []
  | cons {y : List Nat} {p : List Nat × Nat} {Y : List (List Nat)} {D : List (List Nat × Nat)} : RootOf ps y p → RootsL ps Y D → RootsL ps (y :: Y) (p :: D)
theorem RootsL.snoc {Y : List (List Nat)} {D : List (List Nat × Nat)} {y : List Nat} {p : List Nat × Nat} (h : RootsL ps Y D) (g : RootOf ps y p) : RootsL ps (Y ++ [y]) (D ++ [p]) := by
  induction h with
  | nil => exact .cons g .nil
  | cons a _ ih => exact .cons a ih
theorem RootsL.len {Y : List (List Nat)} {D : List (List Nat × Nat)} (h : RootsL ps Y D) : Y.length = D.length := by
  induction h with
  | nil => rfl
  | cons _ _ ih => rw [List.length_cons, List.length_cons, ih]
theorem RootsL.at {Y : List (List Nat)} {D : List (List Nat × Nat)} (h : RootsL ps Y D) : ∀ p ∈ D, ∃ y ∈ Y, RootOf ps y p := by
  induction h with
  | nil => exact fun p h => nomatch h
  | @cons y p Y D g _ ih =>
    intro p' hp
    rcases List.mem_cons.mp hp with e | hp
    · rw [e]; exact ⟨y, List.mem_cons_self, g⟩
    · obtain ⟨y', h1, h2⟩ := ih p' hp
      exact ⟨y', List.mem_cons_of_mem _ h1, h2⟩
theorem root_sub {y : List Nat} {p : List Nat × Nat} (pr : Pairs ls ps) (iy : ∀ c ∈ y, c ∈ ls) (h : RootOf ps y p) : ∀ c ∈ p.1, c ∈ y := by
  obtain ⟨_, _, _, _, e⟩ := h
  intro c hc
  rw [e] at hc
  have := (least_exs (ps := ps) pr (base_in (n := p.2) iy)).perm.mem_iff.mpr hc
  exact frontF_sub _ y c this
theorem root_exs {y : List Nat} {p : List Nat × Nat} (pr : Pairs ls ps) (iy : ∀ c ∈ y, c ∈ ls) (h : RootOf ps y p) : Exs ps y (repN p.2 p.1) := by
  obtain ⟨_, _, hp, _, e⟩ := h
  have hp : Exs ps (repN p.2 (baseM y p.2)) y := hp
  rw [e]
  exact hp.symm.trans (repN_exs (least_exs (ps := ps) pr (base_in (n := p.2) iy)) p.2)
/-- the roots of the components, in whatever order, are the pieces -/
theorem roots_pieces (pr : Pairs ls ps) {w : List Nat} {cs : List Nat} {Y : List (List Nat)} {D : List (List Nat × Nat)} (iw : ∀ c ∈ w, c ∈ ls) (hcs : ∀ c, c ∈ cs ↔ c ∈ w) (pY : Y.Perm (compsM ps w (lots2 ps cs))) (h : RootsL ps Y D) : Pieces ps w D := by
  have ok := lots2_ok (ps := ps) cs
  have mem : ∀ c, (∃ l ∈ lots2 ps cs, c ∈ l) ↔ c ∈ w := fun c => (mem_lots2 cs c).trans (hcs c)
  have lot : ∀ C ∈ lots2 ps cs, LotIn ps w C := fun C hC => lots2_in hcs hC
  have iC : ∀ C, ∀ c ∈ keepM C w, c ∈ ls := fun C c hc => iw c (mem_keep.mp hc).1
  have fromY : ∀ y ∈ Y, ∃ C ∈ lots2 ps cs, y = leastM ps (keepM C w) := fun y hy => by
    obtain ⟨C, hC, e⟩ := List.mem_map.mp (pY.mem_iff.mp hy)
    exact ⟨C, hC, e.symm⟩
  have el : ∀ C, Exs ps (keepM C w) (leastM ps (keepM C w)) := fun C => least_exs (ps := ps) pr (iC C)
  have iy : ∀ y ∈ Y, ∀ c ∈ y, c ∈ ls := fun y hy c hc => by
    obtain ⟨C, _, e⟩ := fromY y hy
    rw [e] at hc
    exact iC C c ((el C).perm.mem_iff.mpr hc)
  have apC : (compsM ps w (lots2 ps cs)).Pairwise (Apart ps) := by
    unfold compsM
    rw [List.pairwise_map]
    refine ok.apart.imp fun {C E} ap x hx y hy => ap x ?_ y ?_
    · have := (el C).perm.mem_iff.mpr hx
      exact (mem_keep.mp this).2
    · have := (el E).perm.mem_iff.mpr hy
      exact (mem_keep.mp this).2
  have apY : Y.Pairwise (Apart ps) := pY.symm.pairwise apC fun h => h.symm
  refine ⟨fun p hp => ?_, ?_, ?_⟩
  · obtain ⟨y, hy, h1, h2, h3, h4, h5⟩ := h.at p hp
    obtain ⟨C, hC, e⟩ := fromY y hy
    have := piece_root (ps := ps) pr iw (lot C hC) (ok.ne C hC) (y := y) (by rw [e]; exact el C) h1 h3 h4
    rw [← h5] at this
    exact this
  · clear pY fromY apC el
    induction h with
    | nil => exact .nil
    | @cons y p Y D g hh ih =>
      obtain ⟨a1, a2⟩ := List.pairwise_cons.mp apY
      rw [List.map_cons]
      refine List.pairwise_cons.mpr ⟨fun r hr x hx z hz => ?_, ih (fun y hy => iy y (List.mem_cons_of_mem _ hy)) a2⟩
      obtain ⟨p', hp', rfl⟩ := List.mem_map.mp hr
      obtain ⟨y', hy', g'⟩ := hh.at p' hp'
      exact a1 y' hy' x (root_sub pr (iy y List.mem_cons_self) g x hx) z (root_sub pr (iy y' (List.mem_cons_of_mem _ hy')) g' z hz)
  · refine (exs_lots pr iw ok mem).trans ?_
    have e1 : Exs ps ((lots2 ps cs).flatMap fun C => keepM C w) (compsM ps w (lots2 ps cs)).flatten := by
      generalize lots2 ps cs = L
      induction L with
      | nil => exact .refl _
      | cons C L ih =>
        rw [List.flatMap_cons]
        exact ((el C).post _).trans (ih.pre _)
    refine e1.trans ((flat_exs pr pY.symm apC).trans ?_)
    clear pY fromY apC el e1 apY
    induction h with
    | nil => exact .refl _
    | @cons y p Y D g hh ih =>
      rw [List.flatten_cons, List.flatMap_cons]
      exact ((root_exs pr (iy y List.mem_cons_self) g).post _).trans ((ih fun y hy => iy y (List.mem_cons_of_mem _ hy)).pre _)
/-- pieces as entries of a dict -/
def pieceKV (D : List (List Nat × Nat)) : List (Key × V) := D.map fun p => (Sum.inr (tx p.1), V.int p.2)
theorem pieceKV_len (D : List (List Nat × Nat)) : (pieceKV D).length = D.length := List.length_map _
theorem putK_fresh {kvs : List (Key × V)} {k : Key} {v : V} (h : k ∉ kvs.map (·.1)) : putK kvs k v = kvs ++ [(k, v)] := by
  unfold putK
  rw [if_neg]
  intro z
  obtain ⟨p, hp, e⟩ := List.any_eq_true.mp z
  exact h (List.mem_map.mpr ⟨p, hp, of_decide_eq_true e⟩)
theorem mergeU_fresh : ∀ (more kvs : List (Key × V)), ((kvs ++ more).map (·.1)).Nodup → mergeU kvs more = kvs ++ more
  | [], kvs, _ => by rw [List.append_nil]; rfl
  | p :: more, kvs, nd => by
    show mergeU (putK kvs p.1 p.2) more = _
    have h : p.1 ∉ kvs.map (·.1) := fun z => by
      rw [List.map_append, List.map_cons] at nd
      exact (List.nodup_append.mp nd).2.2 p.1 z p.1 List.mem_cons_self rfl
    rw [putK_fresh h, mergeU_fresh more]
    · rw [List.append_assoc]; rfl
    · rw [List.append_assoc]; exact nd
theorem mergeK_fresh (more : List (Key × V)) (nd : (more.map (·.1)).Nodup) : L2.mergeK [] more = more := by
  have h := mergeU_fresh more [] (by rw [List.nil_append]; exact nd)
  rw [List.nil_append] at h
  exact h
theorem pieceKV_nodup {D : List (List Nat × Nat)} (nd : (D.map (·.1)).Nodup) : ((pieceKV D).map (·.1)).Nodup := by
  unfold pieceKV
  rw [List.map_map]
  have e : D.map ((fun x : Key × V => x.1) ∘ fun p => (Sum.inr (tx p.1), V.int p.2)) = (D.map (·.1)).map fun r => (Sum.inr (tx r) : Key) := by
    rw [List.map_map]
    rfl
  rw [e, List.nodup_iff_pairwise_ne, List.pairwise_map]
  exact (List.nodup_iff_pairwise_ne.mp nd).imp fun ne z => ne (tx_inj (Sum.inr.inj z))
/-- what the dict of pieces holds at a key -/
theorem pieceKV_val (D : List (List Nat × Nat)) (r : List Nat) : (valV (pieceKV D) (Sum.inr (tx r))).getD (.int 0) = .int (expOf D r) := by
  induction D with
  | nil => rfl
  | cons p D ih =>
    unfold expOf
    rw [List.find?_cons]
    unfold pieceKV
    rw [List.map_cons]
    by_cases e : p.1 = r
    · subst e
      unfold valV
      rw [List.find?_cons, decide_eq_true rfl, decide_eq_true rfl]
      rfl
    · unfold valV
      have ne : ¬ (Sum.inr (tx p.1) : Key) = Sum.inr (tx r) := fun z => e (tx_inj (Sum.inr.inj z))
      rw [List.find?_cons, decide_eq_false ne, decide_eq_false e]
      exact ih
end TcG
/-! Programs of threads: steps, values, points; in plain Lean and in a heap. -/
namespace TcG
open PySem PySem.Spec PyProof.Rows L2
inductive Stp where
  | add (x : Nat) (v : Int)
  | copy (x y : Nat)
  | wait (x : Nat) (v : Int)
  | look (x : Nat)
deriving DecidableEq
def Stp.vals : Stp → List V
  | .add x v => [.str "add", .str (tx [x]), .int v]
  | .copy x y => [.str "copy", .str (tx [x]), .str (tx [y])]
  | .wait x v => [.str "wait", .str (tx [x]), .int v]
  | .look x => [.str "look", .str (tx [x])]
def Stp.kind : Stp → Str
  | .add _ _ => "add"
  | .copy _ _ => "copy"
  | .wait _ _ => "wait"
  | .look _ => "look"
def Stp.name : Stp → Nat
  | .add x _ => x
  | .copy x _ => x
  | .wait x _ => x
  | .look x => x
def Stp.names : Stp → List Nat
  | .copy x y => [x, y]
  | s => [s.name]
/-- the names that a step touches, rising -/
def Stp.touch : Stp → List Nat
  | .copy x y => if x = y then [x] else if x < y then [x, y] else [y, x]
  | s => [s.name]
/-- the name that it changes -/
def Stp.chg : Stp → List Nat
  | .add x _ => [x]
  | .copy x _ => [x]
  | _ => []
theorem vals_len (s : Stp) : 2 ≤ s.vals.length ∧ s.vals.length ≤ 3 := by cases s <;> simp [Stp.vals]
theorem vals_0 (s : Stp) : s.vals[0]? = some (.str s.kind) := by cases s <;> rfl
theorem vals_1 (s : Stp) : s.vals[1]? = some (.str (tx [s.name])) := by cases s <;> rfl
theorem kind_add {s : Stp} (h : s.kind = "add") : ∃ x v, s = .add x v := by
  cases s with
  | add x v => exact ⟨x, v, rfl⟩
  | copy x y => exact absurd h (show ¬ (("copy" : Str) = "add") by decide)
  | wait x v => exact absurd h (show ¬ (("wait" : Str) = "add") by decide)
  | look x => exact absurd h (show ¬ (("look" : Str) = "add") by decide)
theorem kind_copy {s : Stp} (h : s.kind = "copy") : ∃ x y, s = .copy x y := by
  cases s with
  | add x v => exact absurd h (show ¬ (("add" : Str) = "copy") by decide)
  | copy x y => exact ⟨x, y, rfl⟩
  | wait x v => exact absurd h (show ¬ (("wait" : Str) = "copy") by decide)
  | look x => exact absurd h (show ¬ (("look" : Str) = "copy") by decide)
theorem kind_wait {s : Stp} (h : s.kind = "wait") : ∃ x v, s = .wait x v := by
  cases s with
  | add x v => exact absurd h (show ¬ (("add" : Str) = "wait") by decide)
  | copy x y => exact absurd h (show ¬ (("copy" : Str) = "wait") by decide)
  | wait x v => exact ⟨x, v, rfl⟩
  | look x => exact absurd h (show ¬ (("look" : Str) = "wait") by decide)
theorem kind_look {s : Stp} (h : s.kind = "look") : ∃ x, s = .look x := by
  cases s with
  | add x v => exact absurd h (show ¬ (("add" : Str) = "look") by decide)
  | copy x y => exact absurd h (show ¬ (("copy" : Str) = "look") by decide)
  | wait x v => exact absurd h (show ¬ (("wait" : Str) = "look") by decide)
  | look x => exact ⟨x, rfl⟩
/-! values -/
abbrev EnvM := List (Nat × Int)
def getE (vs : TcG.EnvM) (x : Nat) : Int := ((vs.find? fun p => decide (p.1 = x)).map (·.2)).getD 0
def setE (vs : TcG.EnvM) (x : Nat) (v : Int) : TcG.EnvM := vs.map fun p => if p.1 = x then (x, v) else p
def envK (vs : TcG.EnvM) : List (Key × V) := vs.map fun p => (Sum.inr (tx [p.1]), V.int p.2)
theorem envK_len (vs : TcG.EnvM) : (envK vs).length = vs.length := List.length_map _
theorem setE_names (vs : TcG.EnvM) (x : Nat) (v : Int) : (setE vs x v).map Prod.fst = vs.map Prod.fst := by
  unfold setE
  rw [List.map_map]
  refine List.map_congr_left fun p _ => ?_
  show (if p.1 = x then (x, v) else p).1 = p.1
  by_cases e : p.1 = x
  · rw [if_pos e]; exact e.symm
  · rw [if_neg e]
theorem one_inj {a b : Nat} (h : (Sum.inr (tx [a]) : Key) = Sum.inr (tx [b])) : a = b := (List.cons.inj (tx_inj (Sum.inr.inj h))).1
theorem envK_get {vs : TcG.EnvM} {x : Nat} (h : x ∈ vs.map Prod.fst) : valV (envK vs) (Sum.inr (tx [x])) = some (.int (getE vs x)) := by
  induction vs with
  | nil => cases h
  | cons p vs ih =>
    show valV ((Sum.inr (tx [p.1]), V.int p.2) :: envK vs) _ = _
    unfold getE
    rw [List.find?_cons]
    by_cases e : p.1 = x
    · rw [decide_eq_true e, ← e]
      exact valV_pos (p := (Sum.inr (tx [p.1]), V.int p.2)) rfl
    · rw [decide_eq_false e, valV_neg fun z => e (one_inj z)]
      exact ih ((List.mem_cons.mp h).resolve_left fun z => e z.symm)
theorem envK_put {vs : TcG.EnvM} {x : Nat} (h : x ∈ vs.map Prod.fst) (v : Int) : putK (envK vs) (Sum.inr (tx [x])) (.int v) = envK (setE vs x v) := by
  unfold putK
  rw [if_pos]
  · unfold envK setE
    rw [List.map_map, List.map_map]
    refine List.map_congr_left fun p _ => ?_
    show (if (Sum.inr (tx [p.1]) : Key) = Sum.inr (tx [x]) then (Sum.inr (tx [p.1]), V.int v) else (Sum.inr (tx [p.1]), V.int p.2)) = (Sum.inr (tx [(if p.1 = x then (x, v) else p).1]), V.int (if p.1 = x then (x, v) else p).2)
    by_cases e : p.1 = x
    · rw [if_pos (by rw [e]), if_pos e, e]
    · rw [if_neg fun z => e (one_inj z), if_neg e]
  · obtain ⟨p, hp, e⟩ := List.mem_map.mp h
    exact List.any_eq_true.mpr ⟨(Sum.inr (tx [p.1]), V.int p.2), List.mem_map.mpr ⟨p, hp, rfl⟩, decide_eq_true (by rw [← e])⟩
theorem envK_merge : ∀ (vs us : TcG.EnvM), ((us ++ vs).map Prod.fst).Nodup → mergeK (envK us) (envK vs) = envK (us ++ vs)
  | [], us, _ => by rw [List.append_nil]; rfl
  | p :: vs, us, h => by
    show mergeK (putK (envK us) (Sum.inr (tx [p.1])) (.int p.2)) (envK vs) = _
    have no : p.1 ∉ us.map Prod.fst := fun m => by
      rw [List.map_append] at h
      exact (List.nodup_append.mp h).2.2 p.1 m p.1 (by simp) rfl
    have e : putK (envK us) (Sum.inr (tx [p.1])) (.int p.2) = envK (us ++ [p]) := by
      rw [putK_fresh]
      · unfold envK
        rw [List.map_append]
        rfl
      · intro m
        unfold envK at m
        rw [List.map_map] at m
        obtain ⟨q, hq, e⟩ := List.mem_map.mp m
        exact no (List.mem_map.mpr ⟨q, hq, one_inj e⟩)
    rw [e, envK_merge vs (us ++ [p]) (by rw [List.append_assoc]; exact h), List.append_assoc]
    rfl
theorem envK_dict (vs : TcG.EnvM) (h : (vs.map Prod.fst).Nodup) : mergeK [] (envK vs) = envK vs := envK_merge vs [] h
/-! what a step does -/
def possE (vs : TcG.EnvM) : Stp → Bool
  | .wait x v => decide (v ≤ getE vs x)
  | _ => true
def afterE (vs : TcG.EnvM) : Stp → TcG.EnvM
  | .add x v => setE vs x (getE vs x + v)
  | .copy x y => setE vs x (getE vs y)
  | _ => vs
theorem afterE_names (vs : TcG.EnvM) (s : Stp) : (afterE vs s).map Prod.fst = vs.map Prod.fst := by
  cases s <;> first | exact setE_names _ _ _ | rfl
abbrev Thr := List (List Stp)
/-- the next step of a thread -/
def stepAt (T : Thr) (c : List Nat) (t : Nat) : Option Stp := (T.getD t [])[c.getD t 0]?
def openM (T : Thr) (c : List Nat) (vs : TcG.EnvM) : List Nat := (List.range T.length).filter fun t => match stepAt T c t with
  | some s => possE vs s
  | none => false
def incM (c : List Nat) (t : Nat) : List Nat := c.set t (c.getD t 0 + 1)
/-- where a schedule leads; the number of the first step that is not possible, else -/
def runM (T : Thr) : Nat → List Nat → TcG.EnvM → List Nat → Sum Nat (List Nat × TcG.EnvM)
  | _, c, vs, [] => .inr (c, vs)
  | k, c, vs, t :: r => if t ∈ openM T c vs then runM T (k + 1) (incM c t) (match stepAt T c t with | some s => afterE vs s | none => vs) r else .inl k
/-! in a heap -/
/-- tuples stay -/
def TK (H H' : Hp) : Prop := ∀ a o, ((∃ xs, o = .tup xs) ∨ ∃ q xs, o = .frz q (.tup xs)) → H a = some o → H' a = some o
theorem TK.of {H H' : Hp} (s : Same H H') : TK H H' := fun a o _ e => s a o e
theorem TK.mv {H H' : Hp} {b : Addr} {xs : List V} (hb : H b = some (.lst xs)) (m : Mv [b] H H') : TK H H' := fun a o h e => m a o (fun z => by
  rw [List.mem_singleton.mp z, hb] at e
  cases e
  rcases h with ⟨ys, h⟩ | ⟨q, ys, h⟩ <;> cases h) e
def StpAt (H : Hp) (q : Addr) (s : Stp) : Prop := H q = some (.tup s.vals)
def RowAt (H : Hp) (r : Addr) (row : List Stp) : Prop := ∃ ss : List Addr, H r = some (.tup (ss.map V.ref)) ∧ Paired (StpAt H) ss row
def EnvAt (H : Hp) (p : Addr) (vs : TcG.EnvM) : Prop := ∃ ps : List Addr, TupP H p (ps.map V.ref) ∧ Paired (fun q e => H q = some (.tup [.str (tx [e.1]), .int e.2])) ps vs
def ThrAt (H : Hp) (a : Addr) (T : Thr) : Prop := ∃ rs : List Addr, H a = some (.tup (rs.map V.ref)) ∧ Paired (RowAt H) rs T
/-- a program -/
structure ProgAt (H : Hp) (a : Addr) (T : Thr) (vs : TcG.EnvM) : Prop where
  ex : ∃ vp tp, H a = some (.tup [.str "program", .ref vp, .ref tp]) ∧ EnvAt H vp vs ∧ ThrAt H tp T
theorem paired_imp {α β : Type} {R S : α → β → Prop} {as : List α} {bs : List β} (h : ∀ a b, R a b → S a b) (p : Paired R as bs) : Paired S as bs := by
  induction p with
  | nil => exact .nil
  | cons a _ ih => exact .cons (h _ _ a) ih
theorem StpAt.tk {H H' : Hp} {q : Addr} {s : Stp} (h : StpAt H q s) (k : TK H H') : StpAt H' q s := k _ _ (.inl ⟨_, rfl⟩) h
theorem RowAt.tk {H H' : Hp} {r : Addr} {row : List Stp} (h : RowAt H r row) (k : TK H H') : RowAt H' r row := by
  obtain ⟨ss, h1, h2⟩ := h
  exact ⟨ss, k _ _ (.inl ⟨_, rfl⟩) h1, paired_imp (fun _ _ h => h.tk k) h2⟩
theorem EnvAt.tk {H H' : Hp} {p : Addr} {vs : TcG.EnvM} (h : EnvAt H p vs) (k : TK H H') : EnvAt H' p vs := by
  obtain ⟨ps, ⟨o, d, h1⟩, h2⟩ := h
  exact ⟨ps, ⟨o, d, k _ _ (.inr ⟨_, _, rfl⟩) h1⟩, paired_imp (fun _ _ h => k _ _ (.inl ⟨_, rfl⟩) h) h2⟩
theorem ThrAt.tk {H H' : Hp} {a : Addr} {T : Thr} (h : ThrAt H a T) (k : TK H H') : ThrAt H' a T := by
  obtain ⟨rs, h1, h2⟩ := h
  exact ⟨rs, k _ _ (.inl ⟨_, rfl⟩) h1, paired_imp (fun _ _ h => h.tk k) h2⟩
theorem ProgAt.tk {H H' : Hp} {a : Addr} {T : Thr} {vs : TcG.EnvM} (h : ProgAt H a T vs) (k : TK H H') : ProgAt H' a T vs := by
  obtain ⟨vp, tp, h1, h2, h3⟩ := h.ex
  exact ⟨vp, tp, k _ _ (.inl ⟨_, rfl⟩) h1, h2.tk k, h3.tk k⟩
/-- the dict of values -/
theorem EnvAt.pairs {K : PySem.W.Frag} {H : Hp} {ps : List Addr} {vs : TcG.EnvM} (h : Paired (fun q (e : Nat × Int) => H q = some (.tup [.str (tx [e.1]), .int e.2])) ps vs) : Paired (fun p kv => SqT K H p [kV kv.1, kv.2]) ps (envK vs) := by
  induction h with
  | nil => exact .nil
  | cons a _ ih => exact .cons (SqT.of a) ih
theorem paired_at {α β : Type} {R : α → β → Prop} {as : List α} {bs : List β} (p : Paired R as bs) : ∀ {j : Nat} {b : β}, bs[j]? = some b → ∃ a, as[j]? = some a ∧ R a b := by
  induction p with
  | nil => exact fun h => by simp at h
  | cons r _ ih =>
    intro j b h
    cases j with
    | zero => cases h; exact ⟨_, rfl, r⟩
    | succ j => obtain ⟨a, h1, h2⟩ := ih (by simpa using h); exact ⟨a, by simpa using h1, h2⟩
theorem paired_at' {α β : Type} {R : α → β → Prop} {as : List α} {bs : List β} (p : Paired R as bs) : ∀ {j : Nat} {a : α}, as[j]? = some a → ∃ b, bs[j]? = some b ∧ R a b := by
  induction p with
  | nil => exact fun h => by simp at h
  | cons r _ ih =>
    intro j a h
    cases j with
    | zero => cases h; exact ⟨_, rfl, r⟩
    | succ j => obtain ⟨b, h1, h2⟩ := ih (by simpa using h); exact ⟨b, by simpa using h1, h2⟩
theorem paired_unmap {α β γ : Type} {R : α → γ → Prop} {f : β → γ} : ∀ {as : List α} {bs : List β}, Paired R as (bs.map f) → Paired (fun a b => R a (f b)) as bs
  | [], [], _ => .nil
  | [], _ :: _, h => by cases h
  | _ :: _, [], h => by cases h
  | a :: as, b :: bs, h => by
    rw [List.map_cons] at h
    cases h with
    | cons r t => exact .cons r (paired_unmap t)
/-- a point: how many steps each thread has made, and the values -/
def PtAt (K : PySem.W.Frag) (H : Hp) (p : Addr) (c : List Nat) (vs : TcG.EnvM) : Prop := ∃ mp vp, H p = some (.tup [.ref mp, .ref vp]) ∧ SqT K H mp (natsV c) ∧ EnvAt H vp vs
end TcG
/-! Dicts whose keys are tuples of any depth, of whole numbers, texts and None. -/
namespace TcG
open PySem PySem.Spec PyProof.Rows L2
mutual
/-- the value x is the key k -/
inductive NK (H : Hp) : NestedKey → V → Prop
  | none : NK H .none .non
  | num (i : Int) : NK H (.num i) (.int i)
  | text (x : Str) : NK H (.text x) (.str x)
  | tup {b : Addr} {xs : List V} {ks : List NestedKey} : Rd H b (.tup xs) → NKs H ks xs → NK H (.tup ks) (.ref b)
inductive NKs (H : Hp) : List NestedKey → List V → Prop
  | nil : NKs H [] []
  | cons {k : NestedKey} {x : V} {ks : List NestedKey} {xs : List V} : NK H k x → NKs H ks xs → NKs H (k :: ks) (x :: xs)
end
theorem rd_tk {H H' : Hp} {b : Addr} {xs : List V} (t : TK H H') (h : Rd H b (.tup xs)) : Rd H' b (.tup xs) := by
  rcases h with h | ⟨o, h⟩
  · exact .inl (t _ _ (.inl ⟨_, rfl⟩) h)
  · exact .inr ⟨o, t _ _ (.inr ⟨_, _, rfl⟩) h⟩
mutual
theorem NK.tk {H H' : Hp} (t : TK H H') : ∀ {k : NestedKey} {x : V}, NK H k x → NK H' k x
  | _, _, .none => .none
  | _, _, .num i => .num i
  | _, _, .text x => .text x
  | _, _, .tup h r => .tup (rd_tk t h) (NKs.tk t r)
theorem NKs.tk {H H' : Hp} (t : TK H H') : ∀ {ks : List NestedKey} {xs : List V}, NKs H ks xs → NKs H' ks xs
  | _, _, .nil => .nil
  | _, _, .cons a b => .cons (NK.tk t a) (NKs.tk t b)
end
mutual
theorem nk_is {P : Program} {w : World} {H : Hp} {h : Heap} (ok : HOk P w H h) : ∀ {k : NestedKey} {x : V} {u : Value}, NK H k x → RelV x u → NestedIs h k u
  | _, _, u, .none, r => by
    obtain rfl : u = Value.none := r
    exact .none
  | _, _, u, .num i, r => by
    obtain ⟨t, rfl⟩ := (show ∃ t, u = Value.int i t from r)
    exact .int i t
  | _, _, u, .text x, r => by
    obtain ⟨t, rfl⟩ := (show ∃ t, u = Value.str x t from r)
    exact .text x t
  | _, _, u, .tup (b := b) h1 h2, r => by
    obtain rfl : u = Value.ref b := r
    obtain ⟨_, its, rv, o, ho, hc, n, hd⟩ := h1.ok ok
    exact .tup ho hc hd (by simpa using nks_are ok h2 rv)
theorem nks_are {P : Program} {w : World} {H : Hp} {h : Heap} (ok : HOk P w H h) : ∀ {ks : List NestedKey} {xs : List V} {us : List Value}, NKs H ks xs → Vals xs us → NestedAll h ks us
  | _, _, us, .nil, r => by
    cases r
    exact .nil
  | _, _, us, .cons a b, r => by
    cases r with
    | cons r1 r2 => exact .cons (nk_is ok a r1) (nks_are ok b r2)
end
/-- an object as it stands -/
def rawO (d : Addr) (o : Obj) : HO := .ext fun h => h.get? d = some o
theorem rawO_ok {P : Program} {w : World} {H : Hp} {h : Heap} {d : Addr} {o : Obj} (e : h.get? d = some o) : ObjOk P w H h d (rawO d o) := ⟨e, ⟨o, e⟩, fun h1 h2 x k => k o x⟩
/-- a dict with such keys -/
def NestAt (P : Program) (w : World) (H : Hp) (d : Addr) (kvs : List (NestedKey × V)) : Prop := kvs.length ≤ sizeLine ∧ (d == sysModules) = false ∧ ∃ (o : Obj) (es : Array DictEntry) (ep : Nat) (xs : List (NestedKey × Addr × Value)),
  H d = some (rawO d o) ∧ o.ExactDict ∧ o.data = .dict es ep ∧ es.toList = xs.map (entryOfKey (nestedKind P w)) ∧ (xs.map (·.1)).Nodup ∧ Paired (fun (p : NestedKey × V) (q : NestedKey × Addr × Value) => p.1 = q.1 ∧ NK H p.1 (.ref q.2.1) ∧ p.1.depth ≤ 8 ∧ RelV p.2 q.2.2) kvs xs
theorem NestAt.tk {P : Program} {w : World} {H H' : Hp} {d : Addr} {kvs : List (NestedKey × V)} (h : NestAt P w H d kvs) (t : TK H H') (e : ∀ o, H d = some o → H' d = some o) : NestAt P w H' d kvs := by
  obtain ⟨z, hd, o, es, ep, xs, h1, h2, h3, h4, h5, h6⟩ := h
  exact ⟨z, hd, o, es, ep, xs, e _ h1, h2, h3, h4, h5, paired_imp (fun _ _ x => ⟨x.1, x.2.1.tk t, x.2.2⟩) h6⟩
theorem NestAt.same {P : Program} {w : World} {H H' : Hp} {d : Addr} {kvs : List (NestedKey × V)} (h : NestAt P w H d kvs) (s : Same H H') : NestAt P w H' d kvs := h.tk (.of s) fun o e => s _ _ e
theorem nest_keyed {P : Program} {w : World} {H : Hp} {h : Heap} {d : Addr} {kvs : List (NestedKey × V)} (n : NestAt P w H d kvs) (ok : HOk P w H h) : ∃ vs : List (NestedKey × Value), KV kvs vs ∧ h.DictKeyed (nestedKind P w) d vs := by
  obtain ⟨z, hd, o, es, ep, xs, h1, h2, h3, h4, h5, h6⟩ := n
  have ho : h.get? d = some o := (show ObjOk P w H h d (rawO d o) from ok d _ h1).1
  refine ⟨pairsH xs, ?_, xs, ⟨o, es, ep, ho, h2, h3, h4, fun x hx => ?_, h5⟩, rfl⟩
  · unfold pairsH
    clear h4 h5
    induction h6 with
    | nil => exact .nil
    | cons a _ ih => exact .cons ⟨a.1, a.2.2.2⟩ (ih (by rw [List.length_cons] at z; omega))
  · obtain ⟨j, hj⟩ := List.mem_iff_getElem?.mp hx
    obtain ⟨p, _, e1, e2, e3, _⟩ := paired_at h6 hj
    exact ⟨by rw [← e1]; exact nk_is ok e2 rfl, by rw [← e1]; exact e3⟩
end TcG
/-! Such dicts: asked, read, written. -/
namespace TcG
open PySem PySem.Spec PyProof.Rows L2
section
variable {P : Program} {w : World} {H : Hp} {h : Heap} {d : Addr} {kvs : List (NestedKey × V)}
abbrev NPair (H : Hp) : NestedKey × V → NestedKey × Addr × Value → Prop := fun p q => p.1 = q.1 ∧ NK H p.1 (.ref q.2.1) ∧ p.1.depth ≤ 8 ∧ RelV p.2 q.2.2
theorem nest_dict (n : NestAt P w H d kvs) (ok : HOk P w H h) : ∃ xs : List (NestedKey × Addr × Value), Paired (NPair H) kvs xs ∧ h.DictOfH (nestedKind P w) d xs := by
  obtain ⟨z, hd, o, es, ep, xs, h1, h2, h3, h4, h5, h6⟩ := n
  have ho : h.get? d = some o := (show ObjOk P w H h d (rawO d o) from ok d _ h1).1
  refine ⟨xs, h6, o, es, ep, ho, h2, h3, h4, fun x hx => ?_, h5⟩
  obtain ⟨j, hj⟩ := List.mem_iff_getElem?.mp hx
  obtain ⟨p, _, e1, e2, e3, _⟩ := paired_at h6 hj
  exact ⟨by rw [← e1]; exact nk_is ok e2 rfl, by rw [← e1]; exact e3⟩
theorem npair_key {xs : List (NestedKey × Addr × Value)} (p : Paired (NPair H) kvs xs) (k : NestedKey) : RelO (valV kvs k) ((atKey xs k).map (·.2)) := by
  induction p with
  | nil => exact trivial
  | @cons a b as bs r _ ih =>
    by_cases e : a.1 = k
    · have e2 : b.1 = k := r.1.symm.trans e
      rw [valV_pos e]
      unfold atKey
      rw [List.find?_cons, decide_eq_true e2]
      exact r.2.2.2
    · have e2 : ¬ b.1 = k := fun z => e (r.1.trans z)
      rw [valV_neg e]
      unfold atKey at ih ⊢
      rw [List.find?_cons, decide_eq_false e2]
      exact ih
theorem npair_put {xs : List (NestedKey × Addr × Value)} {k : NestedKey} {b : Addr} {v : V} {u : Value} (p : Paired (NPair H) kvs xs) (hk : NK H k (.ref b)) (dk : k.depth ≤ 8) (r : RelV v u) : Paired (NPair H) (putK kvs k v) (storedH xs k b u) := by
  have same : (kvs.any fun kv => decide (kv.1 = k)) = (atKey xs k).isSome := by
    have q := (npair_key p k).isSome_eq
    rw [valV_any, q]
    cases atKey xs k <;> rfl
  unfold putK storedH
  rw [same]
  by_cases e : (atKey xs k).isSome = true
  · rw [if_pos e, if_pos e]
    clear same e
    induction p with
    | nil => exact .nil
    | @cons a c as bs r0 _ ih =>
      refine .cons ?_ ih
      unfold putAt
      dsimp only
      by_cases e1 : a.1 = k
      · rw [if_pos e1, if_pos (r0.1.symm.trans e1)]
        exact ⟨r0.1, r0.2.1, r0.2.2.1, r⟩
      · rw [if_neg e1, if_neg fun z => e1 (r0.1.trans z)]
        exact r0
  · rw [if_neg e, if_neg e]
    exact paired_snoc' p ⟨rfl, hk, dk, r⟩
where
  paired_snoc' {as : List (NestedKey × V)} {bs : List (NestedKey × Addr × Value)} {x : NestedKey × V} {y : NestedKey × Addr × Value} (p : Paired (NPair H) as bs) (r : NPair H x y) : Paired (NPair H) (as ++ [x]) (bs ++ [y]) := by
    induction p with
    | nil => exact .cons r .nil
    | cons a _ ih => exact .cons a ih
/-- what stands where such a dict is changed -/
theorem nest_made {xs : List (NestedKey × Addr × Value)} {h' : Heap} (z : kvs.length ≤ sizeLine) (hd : (d == sysModules) = false) (dd : h'.DictOfH (nestedKind P w) d xs) (p : Paired (NPair H) kvs xs) (nd : ∀ k x, NK H k x → NK (upd H d (rawO d ((h'.get? d).getD default))) k x) : ObjOk P w (upd H d (rawO d ((h'.get? d).getD default))) h' d (rawO d ((h'.get? d).getD default)) ∧ NestAt P w (upd H d (rawO d ((h'.get? d).getD default))) d kvs := by
  obtain ⟨o, es, ep, ho, h2, h3, h4, _, h5⟩ := dd
  rw [ho] at nd ⊢
  exact ⟨rawO_ok ho, z, hd, o, es, ep, xs, upd_same, h2, h3, h4, h5, paired_imp (fun _ _ x => ⟨x.1, nd _ _ x.2.1, x.2.2⟩) p⟩
mutual
theorem NK.put {o u : HO} (e : H d = some u) (nt : ∀ xs, u ≠ .tup xs) (nf : ∀ q xs, u ≠ .frz q (.tup xs)) : ∀ {k : NestedKey} {x : V}, NK H k x → NK (upd H d o) k x
  | _, _, .none => .none
  | _, _, .num i => .num i
  | _, _, .text x => .text x
  | _, _, .tup (b := b) h r => .tup (by
    have ne : b ≠ d := fun y => by
      rcases h with h | ⟨q, h⟩
      · rw [y, e] at h; exact nt _ (Option.some.inj h)
      · rw [y, e] at h; exact nf _ _ (Option.some.inj h)
    rcases h with h | ⟨q, h⟩
    · exact .inl (by rw [upd_ne ne]; exact h)
    · exact .inr ⟨q, by rw [upd_ne ne]; exact h⟩) (NKs.put e nt nf r)
theorem NKs.put {o u : HO} (e : H d = some u) (nt : ∀ xs, u ≠ .tup xs) (nf : ∀ q xs, u ≠ .frz q (.tup xs)) : ∀ {ks : List NestedKey} {xs : List V}, NKs H ks xs → NKs (upd H d o) ks xs
  | _, _, .nil => .nil
  | _, _, .cons a b => .cons (NK.put e nt nf a) (NKs.put e nt nf b)
end
end
section
variable {X : Cx} {pins : List (Addr × Obj)} {σ : L2.St} {H : Hp} {s : Shared} {d b : Addr} {kvs : List (NestedKey × V)} {k : NestedKey}
theorem NestAt.raw {P : Program} {w : World} (n : NestAt P w H d kvs) : ∃ o, H d = some (rawO d o) := by
  obtain ⟨_, _, o, _, _, _, h, _⟩ := n
  exact ⟨o, h⟩
theorem NestAt.there {P : Program} {w : World} (n : NestAt P w H d kvs) : ∃ u, H d = some u ∧ Mut (some u) ∧ (∀ xs, u ≠ .tup xs) ∧ ∀ q xs, u ≠ .frz q (.tup xs) := by
  obtain ⟨o, h⟩ := n.raw
  exact ⟨_, h, trivial, fun _ z => HO.noConfusion z, fun _ _ z => HO.noConfusion z⟩
/-- d[key] = v, and what is stored by a display or a comprehension -/
theorem nest_set {v : V} {r : Value} {Q : Unit → Shared → Prop} {E : Value → Shared → Prop} {A : Around} (hu : A.units + 8 < cLine) (I : Inv X pins σ H s) (n : NestAt X.prog X.w H d kvs) (hk : NK H k (.ref b)) (dk : k.depth ≤ 8) (few : kvs.length < sizeLine) (rv : RelV v r)
    (q : ∀ (s' : Shared) (H' : Hp), Inv X pins σ H' s' → (∃ o, H' = upd H d (rawO d o)) → NestAt X.prog X.w H' d (putK kvs k v) → Q () s') : wpAny (model X.prog X.w) A (dictSet d (.ref b) r) Q E s := by
  obtain ⟨xs, px, dd⟩ := nest_dict n I.hok
  obtain ⟨u, eu, mu, nt, nf⟩ := n.there
  have lx : kvs.length = xs.length := Paired.length px
  refine wpAny_dictSet_heap (knd := nestedKind X.prog X.w) (k := k) (hsz := by omega) (show A.units + 8 < cLine from hu) ⟨nk_is I.hok hk rfl, dk⟩ dd fun h' dd' sb => ?_
  have lp : (putK kvs k v).length ≤ sizeLine := by have := length_putK kvs k v; omega
  obtain ⟨ob, na⟩ := nest_made (H := H) lp n.2.1 dd' (npair_put px hk dk rv) (fun k x h => h.put eu nt nf)
  have he : ∃ q, h'.get? d = some q := let ⟨q, _, _, hq, _⟩ := dd'; ⟨q, hq⟩
  exact q _ _ (d_write I (by rw [eu]; exact mu) sb he ob) ⟨_, rfl⟩ na
/-- key in d, key not in d -/
def rInN (P : Program) (w : World) (neg : Bool) : R2 := fun x y H Q => ∃ (b d : Addr) (k : NestedKey) (kvs : List (NestedKey × V)), x = .ref b ∧ y = .ref d ∧ NK H k (.ref b) ∧ k.depth ≤ 8 ∧ NestAt P w H d kvs ∧ Q (.bl (if neg then !(valV kvs k).isSome else (valV kvs k).isSome)) H
theorem op_inN (hu : X.A.units + 9 < cLine) : OpR X (compareOp .In) (rInN X.prog X.w false) := by
  intro pins s σ H x y v u Q I rx ry h
  obtain ⟨b, d, k, kvs, rfl, rfl, hk, dk, n, q⟩ := h
  cases rx
  cases ry
  obtain ⟨xs, px, dd⟩ := nest_dict n I.hok
  refine wpAny_in_heap (knd := nestedKind X.prog X.w) (k := k) (by show X.A.in1.units + 8 < cLine; simp only [Around.in1_units]; omega) ⟨nk_is I.hok hk rfl, dk⟩ n.2.1 dd ?_
  have e := (npair_key px k).isSome_eq
  rw [Option.isSome_map] at e
  exact ⟨.bl (valV kvs k).isSome, H, I.tok _, by rw [e]; rfl, q⟩
theorem op_notInN (hu : X.A.units + 9 < cLine) : OpR X (compareOp .NotIn) (rInN X.prog X.w true) := by
  intro pins s σ H x y v u Q I rx ry h
  obtain ⟨b, d, k, kvs, rfl, rfl, hk, dk, n, q⟩ := h
  cases rx
  cases ry
  obtain ⟨xs, px, dd⟩ := nest_dict n I.hok
  show wpAny _ _ (do return Value.bool (!(← contains (.ref d) (.ref b)))) _ _ s
  refine wpAny_bind (wpAny_contains_heap (knd := nestedKind X.prog X.w) (k := k) (by show X.A.in1.units + 8 < cLine; simp only [Around.in1_units]; omega) ⟨nk_is I.hok hk rfl, dk⟩ n.2.1 dd (wpAny_pure ?_))
  have e := (npair_key px k).isSome_eq
  rw [Option.isSome_map] at e
  exact ⟨.bl (!(valV kvs k).isSome), H, I.tok _, by rw [e]; rfl, q⟩
end
end TcG
/-! d.get(key), d[key], d[key] = v of such dicts. -/
namespace TcG
open PySem PySem.Spec PyProof.Rows L2
def tNGet1 (P : Program) (w : World) (td ty : TE) : TE := fun σ H Q => td σ H fun x H1 => ∃ (d : Addr) (kvs0 : List (NestedKey × V)), x = .ref d ∧ NestAt P w H1 d kvs0 ∧ ty σ H1 fun y H2 => ∃ (b : Addr) (k : NestedKey) (kvs : List (NestedKey × V)), y = .ref b ∧ NK H2 k (.ref b) ∧ k.depth ≤ 8 ∧ NestAt P w H2 d kvs ∧ Q ((valV kvs k).getD .non) H2
def tNIx (P : Program) (w : World) (td ty : TE) : TE := fun σ H Q => td σ H fun x H1 => ty σ H1 fun y H2 => ∃ (d b : Addr) (k : NestedKey) (kvs : List (NestedKey × V)) (v : V), x = .ref d ∧ y = .ref b ∧ NK H2 k (.ref b) ∧ k.depth ≤ 8 ∧ NestAt P w H2 d kvs ∧ valV kvs k = some v ∧ Q v H2
def sNPut (P : Program) (w : World) (td ty tv : TE) : TS := fun D σ H => tv σ H fun v H1 => td σ H1 fun x H2 => ty σ H2 fun y H3 => ∃ (d b : Addr) (k : NestedKey) (kvs : List (NestedKey × V)), x = .ref d ∧ y = .ref b ∧ NK H3 k (.ref b) ∧ k.depth ≤ 8 ∧ NestAt P w H3 d kvs ∧ kvs.length < sizeLine ∧
  ∀ H', (∃ o, H' = upd H3 d (rawO d o)) → NestAt P w H' d (putK kvs k v) → D.nx σ H'
section
variable {X : Cx} {o e i value : Expr} {apos cpos pos pos' : Pos} {td ty tv : TE}
theorem nest_type {pins : List (Addr × Obj)} {σ : L2.St} {H : Hp} {s : Shared} {d : Addr} {kvs : List (NestedKey × V)} (I : Inv X pins σ H s) (n : NestAt X.prog X.w H d kvs) : s.TypeIs (.ref d) "dict" ∧ ∀ c, Value.ref d = .ref c → ∃ ob, s.heap.get? c = some ob ∧ ob.dict = none := by
  obtain ⟨xs, px, dd⟩ := nest_dict n I.hok
  refine ⟨dd.typeIs, fun c ec => ?_⟩
  cases ec
  obtain ⟨ob, _, _, ho, hx, _⟩ := dd
  exact ⟨ob, ho, hx.2.1⟩
theorem pe_nget1 (hu : X.A.units + 16 < cLine) (ho : PE X o td) (he : PE X e ty) (m : M1 X o "get" apos e cpos) : PE X (.Call (.Attribute o "get" apos) [e] [] cpos) (tNGet1 X.prog X.w td ty) := by
  refine ⟨fun pins s σ H Q I h => ?_⟩
  refine wpAny_Call_method m.base m.few m.line PySem.F.plainAttrs_dict PySem.F.slot_dict_get PySem.F.type_dict_get (thn (ho.run pins s σ H _ I h) fun u t1 ⟨x, H1, I1, rx, d, kvs0, ex, n0, q1⟩ => ?_)
  subst ex
  obtain rfl : u = Value.ref d := rx
  obtain ⟨y1, y2⟩ := nest_type I1 n0
  refine ⟨y1, y2, ?_⟩
  rw [m.trees]
  refine Calls.callWith_builtin rfl (Calls.evalArgs_plain (Calls.spliced_cons (thn (he.run pins t1 σ H1 _ I1 q1) fun iv t2 ⟨y, H2, I2, ry, b, k, kvs, ey, hk, dk, n, q2⟩ => Calls.spliced_nil ?_)))
  subst ey
  obtain rfl : iv = Value.ref b := ry
  obtain ⟨vs, rel, dd⟩ := nest_keyed n I2.hok
  refine get_keyed (knd := nestedKind X.prog X.w) (k := k) (by show X.A.in1.units + 8 < cLine; simp only [Around.in1_units]; omega) ⟨nk_is I2.hok hk rfl, dk⟩ n.2.1 dd ?_
  exact ⟨_, H2, I2.tok _, (rel.val k).getD (d := .non) (d' := .none) rfl, q2⟩
theorem pe_nix (hu : X.A.units + 16 < cLine) (ho : PE X o td) (hi : PE X i ty) (hs : NoSl i) : PE X (.Subscript o i pos) (tNIx X.prog X.w td ty) := by
  refine ⟨fun pins s σ H Q I h => ?_⟩
  refine subD_of PySem.F.slot_dict_getitem.lookup hs (thn (ho.run pins s σ H _ I h) fun u t1 ⟨x, H1, I1, rx, q1⟩ => thn (hi.run pins t1 σ H1 _ I1 q1) fun iv t2 ⟨y, H2, I2, ry, d, b, k, kvs, v, ex, ey, hk, dk, n, ev, q2⟩ => ?_)
  subst ex ey
  obtain rfl : u = Value.ref d := rx
  obtain rfl : iv = Value.ref b := ry
  obtain ⟨vs, rel, dd⟩ := nest_keyed n I2.hok
  refine ⟨(nest_type I2 n).1, ?_⟩
  have r := rel.val k
  rw [ev] at r
  obtain ⟨v', ev', rv⟩ : ∃ v', valueAt vs k = some v' ∧ RelV v v' := by
    cases e : valueAt vs k with
    | none => rw [e] at r; exact r.elim
    | some v' => rw [e] at r; exact ⟨v', rfl, r⟩
  exact getItem_keyed (knd := nestedKind X.prog X.w) (k := k) (by show X.A.in1.units + 8 < cLine; simp only [Around.in1_units]; omega) ⟨nk_is I2.hok hk rfl, dk⟩ dd ev' ⟨v, H2, I2.tok _, rv, q2⟩
theorem ps_nput (hu : X.A.units + 16 < cLine) (ho : PE X o td) (hi : PE X i ty) (hv : PE X value tv) (hs : swapsWith value (some (.Subscript o i pos')) pos.line X.env = pure false) : PS X (.Assign [.Subscript o i pos'] value pos) (sNPut X.prog X.w td ty tv) := by
  refine ⟨fun pins s σ H D I h => ?_⟩
  refine wpAny_Assign_Subscript (thn (hv.run pins s σ H _ I h) fun r t1 ⟨v, H1, I1, rv, q1⟩ => thn (ho.run pins t1 σ H1 _ I1 q1) fun u t2 ⟨x, H2, I2, rx, q2⟩ => thn (hi.run pins t2 σ H2 _ I2 q2) fun iv t3 ⟨y, H3, I3, ry, d, b, k, kvs, ex, ey, hk, dk, n, few, q3⟩ => ?_) hs
  subst ex ey
  obtain rfl : u = Value.ref d := rx
  obtain rfl : iv = Value.ref b := ry
  obtain ⟨xs, px, dd⟩ := nest_dict n I3.hok
  obtain ⟨u, eu, mu, nt, nf⟩ := n.there
  have lx : kvs.length = xs.length := Paired.length px
  refine wpAny_setItem_heap (knd := nestedKind X.prog X.w) (k := k) (hsz := by omega) (by show X.A.in1.units + 8 < cLine; simp only [Around.in1_units]; omega) ⟨nk_is I3.hok hk rfl, dk⟩ dd fun h' dd' sb => ?_
  have lp : (putK kvs k v).length ≤ sizeLine := by have := length_putK kvs k v; omega
  obtain ⟨ob, na⟩ := nest_made (H := H3) lp n.2.1 dd' (npair_put px hk dk rv) (fun k x h => h.put eu nt nf)
  have he : ∃ q, h'.get? d = some q := let ⟨q, _, _, hq, _⟩ := dd'; ⟨q, hq⟩
  exact ⟨σ, _, d_write I3 (by rw [eu]; exact mu) sb he ob, q3 _ ⟨_, rfl⟩ na⟩
end
end TcG
/-! {key: value}, key a tuple. -/
namespace TcG
open PySem PySem.Spec PyProof.Rows L2
def tNDisp1 (P : Program) (w : World) (tk tv : TE) : TE := fun σ H Q => ∀ D o, H D = none → NestAt P w (upd H D (rawO D o)) D [] → tk σ (upd H D (rawO D o)) fun y H2 => tv σ H2 fun z H3 => ∃ (b : Addr) (k : NestedKey), y = .ref b ∧ NK H3 k (.ref b) ∧ k.depth ≤ 8 ∧ NestAt P w H3 D [] ∧
  ∀ H', (∃ o, H' = upd H3 D (rawO D o)) → NestAt P w H' D [(k, z)] → Q (.ref D) H'
theorem nest_new {P : Program} {w : World} {H : Hp} {h : Heap} (far : sysModules < h.objs.size) : ObjOk P w (upd H h.objs.size (rawO h.objs.size { cls := .type "dict", data := .dict #[] })) (h.push { cls := .type "dict", data := .dict #[] }) h.objs.size (rawO h.objs.size { cls := .type "dict", data := .dict #[] }) ∧
    NestAt P w (upd H h.objs.size (rawO h.objs.size { cls := .type "dict", data := .dict #[] })) h.objs.size [] :=
  ⟨rawO_ok (Heap.get?_push_size _ rfl), Nat.zero_le _, beq_eq_false_iff_ne.mpr (Ne.symm (Nat.ne_of_lt far)), _, #[], 0, [], upd_same, ⟨rfl, rfl, rfl⟩, rfl, rfl, List.nodup_nil, .nil⟩
theorem pe_ndisp1 {X : Cx} {k v : Expr} {pos : Pos} {tk tv : TE} (hu : X.A.units + 16 < cLine) (hk : PE X k tk) (hv : PE X v tv) : PE X (.Dict [some k] [v] pos) (tNDisp1 X.prog X.w tk tv) := by
  refine ⟨fun pins s σ H Q I h => ?_⟩
  have shape : (evalEachOpt [some k] X.env).zip ((evalEach [v] X.env).map fun v => do let x ← v; standAt pos; pure x) = [(eval k X.env, (do let x ← eval v X.env; standAt pos; pure x))].map fun p => (some p.1, p.2) := rfl
  rw [arm_eval_Dict, shape, dictDisplay_pairs _ (by simp) (by show 1 < 17; decide)]
  refine wpAny_bind (wpAny_standAt (wpAny_bind ?_))
  unfold subDict
  refine wpAny_bind (wpAny_alloc ?_)
  refine wpAny_bind (wpAny_holding ?_)
  have lp : ∀ p : Sem Value × Sem Value, [p].length ≤ 15 := fun _ => (by show 1 ≤ 15; decide)
  rw [if_pos (lp _)]
  obtain ⟨ob, n0⟩ := nest_new (P := X.prog) (w := X.w) (H := H) I.big
  have hn : H s.heap.objs.size = none := I.fresh
  have I1 : Inv X pins σ _ { s with heap := s.heap.push { cls := .type "dict", data := .dict #[] } } := I.laid (t' := s.toks) (fun b u e => Heap.get?_push_of_some _ e) (Nat.le_refl _) ob
  have q := h _ _ hn n0
  refine wpAny_bind (evalPairs_cons ?_)
  refine thn (hk.run pins _ σ _ _ I1 q) fun kv t1 ⟨y, H2, I2, ry, q1⟩ => ?_
  refine wpAny_bind (thn (hv.run pins t1 σ H2 _ I2 q1) fun vv t2 ⟨z, H3, I3, rz, b, key, ey, nk, dk, n, q2⟩ => ?_)
  subst ey
  obtain rfl : kv = Value.ref b := ry
  refine wpAny_bind (wpAny_standAt (wpAny_pure ?_))
  refine evalPairs_nil ?_
  refine wpAny_holding ?_
  refine wpAny_bind ?_
  rw [List.forIn_cons]
  refine wpAny_bind (wpAny_bind (nest_set (X := X) (A := X.A) (by omega) I3 n nk dk (by decide) rz fun t3 H4 I4 e4 n4 => ?_))
  refine wpAny_pure ?_
  dsimp only
  rw [List.forIn_nil]
  refine wpAny_pure (wpAny_pure ?_)
  exact wpAny_pure (wpAny_pure ⟨.ref s.heap.objs.size, H4, I4, rfl, q2 H4 e4 n4⟩)
end TcG
/-! {key: value for .. in ..}, the keys tuples of any depth. -/
namespace TcG
open PySem PySem.Spec PyProof.Rows L2
/-- a turn that stores a pair -/
def NTurn (P : Program) (w : World) (D : Addr) (tk tv : TE) (σ : L2.St) (Nx : Hp → Prop) (H : Hp) : Prop := tk σ H fun y H4 => tv σ H4 fun z H5 => ∃ (b : Addr) (k : NestedKey) (kvs : List (NestedKey × V)), y = .ref b ∧ NK H5 k (.ref b) ∧ k.depth ≤ 8 ∧ NestAt P w H5 D kvs ∧ kvs.length < sizeLine ∧
  ∀ H6, (∃ o, H6 = upd H5 D (rawO D o)) → NestAt P w H6 D (putK kvs k z) → Nx H6
def tNDc (P : Program) (w : World) (wi : TI) (g : TG) (tt : TT) (tk tv : TE) (vs : List Nat) : TE := fun σ H Q => wi σ H fun J H1 => ∀ D o, H1 D = none → NestAt P w (upd H1 D (rawO D o)) D [] → ∃ W : Nat → Nat → Hp → Prop, (∃ m, W 0 m (upd H1 D (rawO D o))) ∧
  ∀ i m H, W i m H → (J.stop i H ∧ Q (.ref D) H) ∨ (J.go i H ∧ ∃ Nx : Hp → Prop, (∀ H', Nx H' → ∃ m', m' < m ∧ W (i + 1) m' H') ∧ ∀ x H', J.yld i H x H' → g x (wipe σ vs) H' fun σ2 H2 => wipe σ2 vs = wipe σ vs ∧ tt σ2 H2 fun b H3 => if b = true then NTurn P w D tk tv σ2 Nx H3 else Nx H3)
section
variable {X : Cx}
theorem pe_ndc {kx vx tg src : Expr} {ifs : List Expr} {sc : Scope} {own : List (Str × Nat)} {pos : Pos} {wi : TI} {g : TG} {tt : TT} {tk tv : TE} (hu : X.A.units + 16 < cLine) (calm : X.calm = true) (hN : X.N.Nodup) (hi : PI X tg src wi) (ok : BlkOk X.N X.env.scope sc own)
    (pg0 : ∀ (s : Shared) (H : Hp) (C : Addr) (cl : List (Str × Addr)) (fp : List Addr), PG (X.blk s H sc (compEnvC sc cl C X.env) fp) tg g) (pt0 : ∀ (s : Shared) (H : Hp) (C : Addr) (cl : List (Str × Addr)) (fp : List Addr), PTs (X.blk s H sc (compEnvC sc cl C X.env) fp) ifs tt)
    (pk0 : ∀ (s : Shared) (H : Hp) (C : Addr) (cl : List (Str × Addr)) (fp : List Addr), PE (X.blk s H sc (compEnvC sc cl C X.env) fp) kx tk) (pv0 : ∀ (s : Shared) (H : Hp) (C : Addr) (cl : List (Str × Addr)) (fp : List Addr), PE (X.blk s H sc (compEnvC sc cl C X.env) fp) vx tv)
    (plain : ∀ x, foldedSetIterable src X.env x = pure x := by intro _; rfl) : PE X (.DictComp kx vx [⟨tg, src, ifs, 0⟩] sc pos) (tNDc X.prog X.w wi g tt tk tv (own.map (·.2))) := by
  refine ⟨fun pins s σ H Q I h => ?_⟩
  rw [arm_eval_DictComp]
  have caught : ∀ y ∈ sc.names, y.2 = .free → ∃ c, X.env.cells.lookup y.1 = some c := fun y hy e => (ok.free y hy e).elim (fun z => I.ok.has _ (.inl z)) fun z => I.ok.has _ (.inr z)
  refine wpAny_comprehension_free (use := none) rfl plain (closure_ok caught) ok.kind (fun y hy e => by rw [ok.uniq y hy, e]) (thn (hi.run pins s σ H _ I h) fun xv r1 a1 => thn a1 fun iv r2 a2 => ?_)
  obtain ⟨it, fp, tn, J, G2, rfl, J2, T, at2, far2, q⟩ := a2
  refine wpAny_newObj_type (newEnv_comp ?_)
  -- the new dict
  obtain ⟨obD, n0⟩ := nest_new (P := X.prog) (w := X.w) (H := G2) J2.big
  have noD : G2 r2.heap.objs.size = none := J2.fresh
  obtain ⟨W, ⟨m0, start⟩, turn⟩ := q _ _ noD n0
  have J3 : Inv X pins σ _ ({ r2 with heap := r2.heap.push { cls := .type "dict", data := .dict #[] } } : Shared) := J2.laid (t' := r2.toks) (fun b u e => Heap.get?_push_of_some _ e) (Nat.le_refl _) obD
  generalize eG3 : upd G2 r2.heap.objs.size (rawO r2.heap.objs.size { cls := .type "dict", data := .dict #[] }) = G3 at J3 start
  generalize eD : r2.heap.objs.size = D at turn
  generalize eR3 : ({ r2 with heap := r2.heap.push { cls := .type "dict", data := .dict #[] } } : Shared) = r3 at J3
  have heap3 : r3.heap = r2.heap.push { cls := .type "dict", data := .dict #[] } := by rw [← eR3]
  -- what drives the walk stays
  have small : ∀ c ∈ fp, c < r2.heap.objs.size := fun c hc => (T.obj _ _ at2 c hc).elim fun u hu => Heap.lt_size hu.1
  have drive : ∀ c ∈ fp, FpOk X pins G3 c ∧ c < r3.heap.objs.size := fun c hc => by
    have l := small c hc
    rw [← eG3, heap3, Heap.size_push]
    refine ⟨⟨?_, (far2 c hc).2⟩, Nat.lt_succ_of_lt l⟩
    rw [upd_ne (Nat.ne_of_lt l)]
    exact (far2 c hc).1
  have at3 : tn 0 r3.heap := T.keep _ _ _ at2 fun c _ u e => by rw [heap3]; exact Heap.get?_push_of_some _ e
  have blk := block_start J3 ok hN drive
  have pg := pg0 r3 G3 r3.heap.objs.size (cellsFrom (r3.heap.objs.size + 1) sc.names (cloFrom X.env.cells sc.names [])) fp
  have pt := pt0 r3 G3 r3.heap.objs.size (cellsFrom (r3.heap.objs.size + 1) sc.names (cloFrom X.env.cells sc.names [])) fp
  have pk := pk0 r3 G3 r3.heap.objs.size (cellsFrom (r3.heap.objs.size + 1) sc.names (cloFrom X.env.cells sc.names [])) fp
  have pv := pv0 r3 G3 r3.heap.objs.size (cellsFrom (r3.heap.objs.size + 1) sc.names (cloFrom X.env.cells sc.names [])) fp
  show codeAny _ _ (.compStart (.DictComp kx vx [⟨tg, src, ifs, 0⟩] sc pos) 0 (.ref it) (.ref D) (compEnvC sc (cellsFrom (r3.heap.objs.size + 1) sc.names (cloFrom X.env.cells sc.names [])) r3.heap.objs.size X.env)) (compPost (model X.prog X.w) X.A X.xe none (EP X pins σ Q) (.ref D) r3.heap.objs.size) { r3 with heap := pushCells (r3.heap.push { cls := .type "dict", data := .dict #[] }) sc.names }
  generalize eC : compEnvC sc (cellsFrom (r3.heap.objs.size + 1) sc.names (cloFrom X.env.cells sc.names [])) r3.heap.objs.size X.env = ce at blk pg pt pk pv ⊢
  have ceL : ce.locals = r3.heap.objs.size := by rw [← eC]; rfl
  have noFp : ∀ c ∈ fp, G3 c = none := fun c hc => (drive c hc).1.1
  generalize eR4 : ({ r3 with heap := pushCells (r3.heap.push { cls := .type "dict", data := .dict #[] }) sc.names } : Shared) = r4 at blk ⊢
  have at4 : tn 0 r4.heap := T.keep _ _ _ at3 fun c _ u e => by rw [← eR4]; exact pushCells_keeps _ _ _ _ (Heap.get?_push_of_some _ e)
  have stat : ∀ {σ' : L2.St} {H' : Hp} {t : Shared}, Inv (X.blk r3 G3 sc ce fp) [] σ' H' t → (∀ c ∈ fp, H' c = none) → ∀ c ∈ fp, FpOk (X.blk r3 G3 sc ce fp) [] H' c := fun {σ' H' t} J no c hc =>
    ⟨no c hc, (J.ok.exf c hc).1, J.ok.exfs c hc, .inl hc, fun x e z => (J.ok.exf c hc).2 x e z, fun p hp => by simp at hp⟩
  have loop : codeAny (model X.prog X.w) X.A (.compLoop (.DictComp kx vx [⟨tg, src, ifs, 0⟩] sc pos) 0 (.ref it) (.ref D) ce) (compPost (model X.prog X.w) X.A X.xe none (EP X pins σ Q) (.ref D) r3.heap.objs.size) r4 := by
    refine compLoop_anyD (fun n t => ∃ i H', Inv (X.blk r3 G3 sc ce fp) [] (wipe σ (own.map (·.2))) H' t ∧ tn i t.heap ∧ (∀ c ∈ fp, H' c = none) ∧ W i n H') ?_ m0 ⟨0, G3, blk, at4, noFp, start⟩
    rintro n r5 ⟨i, G5, J5, at5, no5, now⟩
    rcases turn i n G5 now with ⟨stop, done⟩ | ⟨go, Nx, next, step⟩
    · refine thnF (T.done (X.blk r3 G3 sc ce fp) rfl rfl rfl calm i [] r5 _ G5 (fun _ _ => False) J5 (stat J5 no5) at5 stop) fun r r6 ⟨er, J6⟩ => ?_
      subst er
      have J7 : Inv X pins σ G5 r6 := J3.call' (ch := fp) J6.os J6.base J6.hok J6.bare fun c hc => (drive c hc).1.2.elim fun a1 a2 => ⟨a2.2.1, a1, a2.2.2.1, a2.2.2.2⟩
      have away : G5 r3.heap.objs.size = none := by
        rw [← ceL]
        exact J6.free
      obtain ⟨m, hm, _⟩ := J6.loc
      have hm : r6.heap.Ns ce.locals m := hm
      rw [ceL] at hm
      obtain ⟨a0, a1, _, a3, a4, a5⟩ := J3.fpOk (Nat.le_refl _) away
      exact ⟨m, hm, fun h2 sb => ⟨.ref D, G5, J7.turned (t' := r6.toks) (fun c u hc e => (sb.2 c hc).trans e) a0 a1 a3 a4 a5, rfl, done⟩⟩
    · refine thnF (T.item (X.blk r3 G3 sc ce fp) rfl rfl rfl calm i [] r5 _ G5 (fun _ _ => False) J5 (stat J5 no5) at5 go) fun r r6 ⟨u, er, a6⟩ => ?_
      subst er
      refine thnF a6 fun _ r7 ⟨x, G7, J7, rx7, yl7, at7, no7⟩ => ?_
      have held := J7.pinned (stat J7 no7) (T.obj _ _ at7)
      have close : ∀ {t : Shared} {G' : Hp} {σ8 : L2.St}, wipe σ8 (own.map (·.2)) = wipe σ (own.map (·.2)) → Inv (X.blk r3 G3 sc ce fp) ([] ++ pinsAt fp r7.heap) σ8 G' t → Nx G' → ∃ m, m < n ∧ ∃ i H', Inv (X.blk r3 G3 sc ce fp) [] (wipe σ (own.map (·.2))) H' t ∧ tn i t.heap ∧ (∀ c ∈ fp, H' c = none) ∧ W i m H' := fun {t G' σ8} same J nx => by
        obtain ⟨m', lt, now'⟩ := next G' nx
        have fixed : ∀ c ∈ fp, ∀ u, r7.heap.get? c = some u → t.heap.get? c = some u ∧ G' c = none := fun c hc u e =>
          (J.pin (c, u) (List.mem_append_right _ (List.mem_append_right _ (mem_pinsAt hc e)))).elim fun z1 z2 => ⟨z1, z2.1⟩
        refine ⟨m', lt, i + 1, G', (J.unpinned (pins := [])).weak (by rw [← same, wipe_length]) (fun j v e => (wipe_some (by rw [same]; exact e)).1), T.keep _ _ _ at7 fun c hc u e => (fixed c hc u e).1, fun c hc => ?_, now'⟩
        obtain ⟨u, e, _⟩ := T.obj _ _ at7 c hc
        exact (fixed c hc u e).2
      refine thnF (pg.run _ r7 _ G7 x u _ held rx7 (step x G7 yl7)) fun _ r8 ⟨σ8, G8, J8, same, q8⟩ => ?_
      refine thnF (pt.run _ r8 σ8 G8 _ J8 q8) fun b r9 ⟨G9, J9, q9⟩ => ?_
      cases b with
      | false =>
        rw [if_neg Bool.false_ne_true] at q9 ⊢
        exact close same J9 q9
      | true =>
        rw [if_pos rfl] at q9 ⊢
        refine thnF (pk.run _ r9 σ8 G9 _ J9 q9) fun kv r10 ⟨yk, G10, J10, ry, q10⟩ => ?_
        refine thnF (pv.run _ r10 σ8 G10 _ J10 q10) fun vv r11 ⟨yv, G11, J11, rv, b, key, kvs, ek, nk, dk, na, few, nx⟩ => ?_
        subst ek
        obtain rfl : kv = Value.ref b := ry
        exact nest_set (X := X.blk r3 G3 sc ce fp) (A := X.A) (by omega) J11 na nk dk few rv fun r12 G12 J12 e12 n12 => close same J12 (nx G12 e12 n12)
  exact codeAny_compStart_dict loop (T.self X.A 0 _ _ _ at4 loop)
end
end TcG
/-! x in d, where x may be None and d has whole numbers and texts. -/
namespace TcG
open PySem PySem.Spec PyProof.Rows L2
def leafK : Key → Leaf
  | .inl i => .num i
  | .inr x => .text x
theorem leafK_inj {a b : Key} (h : leafK a = leafK b) : a = b := by
  cases a <;> cases b <;> first | (injection h with h; rw [h]) | cases h
theorem leaf_of {P : Program} {w : World} {k : Key} {v : Value} (h : (mixKind P w).is k v = true) : (leafKind P w).is (leafK k) v = true := by
  rcases keyIs_shape (show keyIs k v = true from h) with ⟨i, t, rfl, rfl⟩ | ⟨x, t, rfl, rfl⟩
  · exact decide_eq_true rfl
  · exact h
theorem leaf_hash {P : Program} {w : World} (k : Key) : (leafKind P w).hash (leafK k) = (mixKind P w).hash k := by cases k <;> rfl
theorem leaf_pairs {P : Program} {w : World} {es : List DictEntry} {vs : List (Key × Value)} (p : PySem.Pairs (mixKind P w) es vs) : PySem.Pairs (leafKind P w) es (vs.map fun q => (leafK q.1, q.2)) := by
  induction p with
  | nil => exact .nil
  | cons a b _ ih => exact .cons (leaf_of a) b ih
theorem leaf_dict {P : Program} {w : World} {h : Heap} {d : Addr} {vs : List (Key × Value)} (dd : h.DictOf (mixKind P w) d vs) : h.DictOf (leafKind P w) d (vs.map fun q => (leafK q.1, q.2)) := by
  obtain ⟨o, es, ep, ho, hx, hd, hk, hp, nd⟩ := dd
  refine ⟨o, es, ep, ho, hx, hd, fun e he => ?_, leaf_pairs hp, ?_⟩
  · obtain ⟨k, h1, h2⟩ := hk e he
    exact ⟨leafK k, leaf_of h1, by rw [leaf_hash]; exact h2⟩
  · rw [List.map_map]
    have : (fun q : Key × Value => leafK q.1) = leafK ∘ Prod.fst := rfl
    show (vs.map (leafK ∘ Prod.fst)).Nodup
    rw [← List.map_map, List.nodup_iff_pairwise_ne, List.pairwise_map]
    exact (List.nodup_iff_pairwise_ne.mp nd).imp fun h e => h (leafK_inj e)
/-- what is told of x -/
def hasL (kvs : List (Key × V)) : V → Bool
  | .int i => (valV kvs (Sum.inl i)).isSome
  | .str x => (valV kvs (Sum.inr x)).isSome
  | _ => false
def rInL : R2 := fun x y H Q => ∃ (d : Addr) (kvs : List (Key × V)), y = .ref d ∧ Rd H d (.dK kvs) ∧ ((∃ i, x = .int i) ∨ (∃ z, x = .str z) ∨ x = .non) ∧ Q (.bl (hasL kvs x)) H
theorem op_inL {X : Cx} : OpR X (compareOp .In) rInL := by
  intro pins s σ H x y v u Q I rx ry h
  obtain ⟨d, kvs, rfl, hr, hx, q⟩ := h
  cases ry
  obtain ⟨z, hd, vs, rel, dd⟩ := dk_rd I.hok hr
  rcases hx with ⟨i, rfl⟩ | ⟨t, rfl⟩ | rfl
  · refine wpAny_in_of (kV_is (k := Sum.inl i) rx) hd dd.mapOf ?_
    rw [← (rel.val (Sum.inl i)).isSome_eq]
    exact ⟨.bl (valV kvs (Sum.inl i)).isSome, H, I.tok _, rfl, q⟩
  · refine wpAny_in_of (kV_is (k := Sum.inr t) rx) hd dd.mapOf ?_
    rw [← (rel.val (Sum.inr t)).isSome_eq]
    exact ⟨.bl (valV kvs (Sum.inr t)).isSome, H, I.tok _, rfl, q⟩
  · obtain rfl : v = Value.none := rx
    refine wpAny_in_of (knd := leafKind X.prog X.w) (k := Leaf.none) rfl hd (leaf_dict dd).mapOf ?_
    have e : valueAt (vs.map fun q => (leafK q.1, q.2)) Leaf.none = none := by
      unfold valueAt
      rw [List.find?_map]
      have : vs.find? ((fun kv : Leaf × Value => decide (kv.1 = Leaf.none)) ∘ fun q : Key × Value => (leafK q.1, q.2)) = none := List.find?_eq_none.mpr fun q _ => by
        show ¬ decide (leafK q.1 = Leaf.none) = true
        cases q.1 <;> simp [leafK]
      rw [this]
      rfl
    rw [e]
    exact ⟨.bl false, H, I.tok _, rfl, q⟩
end TcG
/-! Automata in plain Lean: edges, ends, the walk through pairs of states. -/
namespace TcG
open PySem PySem.Spec PyProof.Rows L2
theorem putK_new {α : Type} [DecidableEq α] {kvs : List (α × V)} {k : α} {v : V} (h : k ∉ kvs.map (·.1)) : putK kvs k v = kvs ++ [(k, v)] := by
  unfold putK
  rw [if_neg]
  intro z
  obtain ⟨p, hp, e⟩ := List.any_eq_true.mp z
  exact h (List.mem_map.mpr ⟨p, hp, of_decide_eq_true e⟩)
abbrev Edge := Nat × Nat × Nat
structure Aut where
  many : Nat
  start : Nat
  ends : List Nat
  edges : List Edge
abbrev StO := Option Nat
def stV : StO → V
  | none => .non
  | some n => .int (n : Int)
def stK : StO → NestedKey
  | none => .none
  | some n => .num (n : Int)
theorem stK_inj {a b : StO} (h : stK a = stK b) : a = b := by
  cases a with
  | none => cases b with
    | none => rfl
    | some n => cases h
  | some m => cases b with
    | none => cases h
    | some n =>
      have : (m : Int) = (n : Int) := by injection h
      rw [Int.ofNat.inj this]
theorem st_nk {H : Hp} (s : StO) : NK H (stK s) (stV s) := by
  cases s with
  | none => exact .none
  | some n => exact .num _
def hits (s x : Nat) (e : Edge) : Bool := decide (e.1 = s ∧ e.2.1 = x)
def goE (E : List Edge) : StO → Nat → StO
  | none, _ => none
  | some s, x => (E.find? (hits s x)).map (·.2.2)
def laterA (A : Aut) (s : StO) (x : Nat) : StO := goE A.edges s x
def endA (A : Aut) : StO → Bool
  | none => false
  | some s => decide (s ∈ A.ends)
/-- what the law's automata keep -/
structure AutOk (ls : List Nat) (A : Aut) : Prop where
  some : 1 ≤ A.many
  few : A.many ≤ 4
  start : A.start < A.many
  ends : A.ends.Nodup
  endsIn : ∀ s ∈ A.ends, s < A.many
  keys : (A.edges.map fun e => (e.1, e.2.1)).Nodup
  edgesIn : ∀ e ∈ A.edges, e.1 < A.many ∧ e.2.1 ∈ ls ∧ e.2.2 < A.many
def edgeKey (s : StO) (x : Nat) : NestedKey := .tup [stK s, .text (tx [x])]
theorem edgeKey_inj {s t : StO} {x y : Nat} (h : edgeKey s x = edgeKey t y) : s = t ∧ x = y := by
  injection h with h
  injection h with h1 h2
  injection h2 with h3 _
  injection h3 with h3
  exact ⟨stK_inj h1, List.cons.inj (tx_inj h3) |>.1⟩
theorem edgeKey_depth (s : StO) (x : Nat) : (edgeKey s x).depth ≤ 8 := by cases s <;> simp [edgeKey, stK, NestedKey.depth, NestedKey.depthAll]
def pairKey (p : StO × StO) : NestedKey := .tup [stK p.1, stK p.2]
theorem pairKey_inj {p q : StO × StO} (h : pairKey p = pairKey q) : p = q := by
  injection h with h
  injection h with h1 h2
  injection h2 with h3 _
  exact Prod.ext (stK_inj h1) (stK_inj h3)
theorem pairKey_depth (p : StO × StO) : (pairKey p).depth ≤ 8 := by
  obtain ⟨a, b⟩ := p
  cases a <;> cases b <;> simp [edgeKey, pairKey, stK, NestedKey.depth, NestedKey.depthAll]
def edgeK (E : List Edge) : List (NestedKey × V) := E.map fun e => (edgeKey (some e.1) e.2.1, .int (e.2.2 : Int))
theorem edgeK_at (E : List Edge) (s : StO) (x : Nat) : (valV (edgeK E) (edgeKey s x)).getD .non = stV (goE E s x) := by
  induction E with
  | nil => cases s <;> rfl
  | cons e E ih =>
    show (valV ((edgeKey (some e.1) e.2.1, .int (e.2.2 : Int)) :: edgeK E) _).getD _ = _
    by_cases h : some e.1 = s ∧ e.2.1 = x
    · obtain ⟨h1, h2⟩ := h
      rw [valV_pos (by rw [h1, h2]), ← h1]
      show _ = stV ((List.find? (hits e.1 x) (e :: E)).map _)
      rw [List.find?_cons, show hits e.1 x e = true from decide_eq_true ⟨rfl, h2⟩]
      rfl
    · rw [valV_neg (fun z => h ((edgeKey_inj z).imp id id)), ih]
      cases s with
      | none => rfl
      | some s =>
        show _ = stV ((List.find? (hits s x) (e :: E)).map _)
        rw [List.find?_cons, show hits s x e = false from decide_eq_false fun z => h ⟨by rw [z.1], z.2⟩]
        rfl
theorem edgeK_put {E : List Edge} {e : Edge} (h : (e.1, e.2.1) ∉ E.map fun e => (e.1, e.2.1)) : putK (edgeK E) (edgeKey (some e.1) e.2.1) (.int (e.2.2 : Int)) = edgeK (E ++ [e]) := by
  rw [putK_new]
  · unfold edgeK
    rw [List.map_append]
    rfl
  · intro m
    obtain ⟨kv, hkv, e1⟩ := List.mem_map.mp m
    obtain ⟨f, hf, rfl⟩ := List.mem_map.mp hkv
    obtain ⟨z1, z2⟩ := edgeKey_inj (show edgeKey (some f.1) f.2.1 = edgeKey (some e.1) e.2.1 from e1)
    exact h (List.mem_map.mpr ⟨f, hf, by rw [Option.some.inj z1, z2]⟩)
def endsK (L : List Nat) : List (Key × V) := L.map fun n : Nat => (Sum.inl (n : Int), V.bl true)
theorem endsK_at (L : List Nat) (s : StO) : hasL (endsK L) (stV s) = match s with | none => false | some s => decide (s ∈ L) := by
  cases s with
  | none => rfl
  | some s =>
    show (valV (endsK L) (Sum.inl (s : Int))).isSome = decide (s ∈ L)
    induction L with
    | nil => rfl
    | cons a L ih =>
      show (valV ((Sum.inl (a : Int), V.bl true) :: endsK L) _).isSome = _
      by_cases h : a = s
      · rw [valV_pos (by rw [h])]
        exact (decide_eq_true (by rw [h]; exact List.mem_cons_self)).symm
      · rw [valV_neg (fun z => h (Int.ofNat.inj (Sum.inl.inj z))), ih]
        refine decide_eq_decide.mpr ?_
        rw [List.mem_cons]
        exact ⟨.inr, fun z => z.elim (fun z => absurd z.symm h) id⟩
theorem endsK_put {L : List Nat} {n : Nat} (h : n ∉ L) : putK (endsK L) (Sum.inl (n : Int)) (.bl true) = endsK (L ++ [n]) := by
  rw [putK_new]
  · unfold endsK
    rw [List.map_append]
    rfl
  · intro m
    obtain ⟨kv, hkv, e1⟩ := List.mem_map.mp m
    obtain ⟨f, hf, rfl⟩ := List.mem_map.mp hkv
    exact h (by rw [← Int.ofNat.inj (Sum.inl.inj (show (Sum.inl (f : Int) : Key) = Sum.inl (n : Int) from e1))]; exact hf)
def pairsK (S : List (StO × StO)) : List (NestedKey × V) := S.map fun p => (pairKey p, .bl true)
theorem pairsK_at (S : List (StO × StO)) (p : StO × StO) : (valV (pairsK S) (pairKey p)).isSome = decide (p ∈ S) := by
  induction S with
  | nil => rfl
  | cons a S ih =>
    show (valV ((pairKey a, V.bl true) :: pairsK S) _).isSome = _
    by_cases h : a = p
    · rw [valV_pos (by rw [h])]
      exact (decide_eq_true (by rw [h]; exact List.mem_cons_self)).symm
    · rw [valV_neg (fun z => h (pairKey_inj z)), ih]
      refine decide_eq_decide.mpr ?_
      rw [List.mem_cons]
      exact ⟨.inr, fun z => z.elim (fun z => absurd z.symm h) id⟩
theorem pairsK_put {S : List (StO × StO)} {p : StO × StO} (h : p ∉ S) : putK (pairsK S) (pairKey p) (.bl true) = pairsK (S ++ [p]) := by
  rw [putK_new]
  · unfold pairsK
    rw [List.map_append]
    rfl
  · intro m
    obtain ⟨kv, hkv, e1⟩ := List.mem_map.mp m
    obtain ⟨f, hf, rfl⟩ := List.mem_map.mp hkv
    exact h (by rw [← pairKey_inj (show pairKey f = pairKey p from e1)]; exact hf)

/-! the walk -/
abbrev RwA := List Nat × StO × StO
abbrev Acc := List RwA × List (StO × StO)
section
variable (A B : Aut) (ls : List Nat)
def besideA (r : RwA) (x : Nat) : StO × StO := (laterA A r.2.1 x, laterA B r.2.2 x)
def stepX (r : RwA) (acc : Acc) (x : Nat) : Acc := if besideA A B r x ∈ acc.2 then acc else (acc.1 ++ [(r.1 ++ [x], besideA A B r x)], acc.2 ++ [besideA A B r x])
def stepRw (acc : Acc) (r : RwA) : Acc := ls.foldl (stepX A B r) acc
def levelA (rows : List RwA) (seen : List (StO × StO)) : Acc := rows.foldl (stepRw A B ls) ([], seen)
def walkA : Nat → Acc
  | 0 => ([([], some A.start, some B.start)], [(some A.start, some B.start)])
  | k + 1 => levelA A B ls (walkA k).1 (walkA k).2
def differA (r : RwA) : Bool := endA A r.2.1 != endA B r.2.2
def firstA (rows : List RwA) : Option (List Nat) := (rows.find? (differA A B)).map (·.1)
def dueA : Nat → Option (List Nat)
  | 0 => none
  | k + 1 => (dueA k).or (firstA A B (walkA A B ls k).1)
end
section
variable {A B : Aut} {ls : List Nat}
def AllIn (A B : Aut) (S : List (StO × StO)) : Prop := ∀ p ∈ S, (∀ s, p.1 = some s → s < A.many) ∧ ∀ s, p.2 = some s → s < B.many
theorem goE_lt {A : Aut} (h : AutOk ls A) (s : StO) (x : Nat) : ∀ t, laterA A s x = some t → t < A.many := by
  intro t e
  cases s with
  | none => cases e
  | some s =>
    have e : (A.edges.find? (hits s x)).map (·.2.2) = some t := e
    obtain ⟨f, hf, rfl⟩ := Option.map_eq_some_iff.mp e
    exact (h.edgesIn f (List.mem_of_find?_eq_some hf)).2.2
structure Fit (A B : Aut) (b : List (StO × StO)) (acc : Acc) : Prop where
  nodup : acc.2.Nodup
  all : AllIn A B acc.2
  cut : acc.2.length = b.length + acc.1.length
  words : ∀ n, (∀ r ∈ acc.1, r.1.length ≤ n) → True
theorem stepX_fit (hA : AutOk ls A) (hB : AutOk ls B) {b : List (StO × StO)} {r : RwA} {acc : Acc} {x : Nat} (h : Fit A B b acc) : Fit A B b (stepX A B r acc x) := by
  unfold stepX
  by_cases m : besideA A B r x ∈ acc.2
  · rw [if_pos m]; exact h
  · rw [if_neg m]
    refine ⟨?_, ?_, ?_, fun _ _ => trivial⟩
    · refine List.nodup_append.mpr ⟨h.nodup, List.nodup_cons.mpr ⟨List.not_mem_nil, List.nodup_nil⟩, fun a ha b hb e => m ?_⟩
      rw [← List.mem_singleton.mp hb, ← e]; exact ha
    · intro p hp
      rcases List.mem_append.mp hp with hp | hp
      · exact h.all p hp
      · rw [List.mem_singleton.mp hp]
        exact ⟨goE_lt hA _ _, goE_lt hB _ _⟩
    · rw [List.length_append, List.length_append, h.cut]
      simp only [List.length_singleton]
      omega
theorem stepRw_fit (hA : AutOk ls A) (hB : AutOk ls B) {b : List (StO × StO)} (xs : List Nat) {r : RwA} {acc : Acc} (h : Fit A B b acc) : Fit A B b (xs.foldl (stepX A B r) acc) := by
  induction xs generalizing acc with
  | nil => exact h
  | cons x xs ih => exact ih (stepX_fit hA hB h)
theorem level_fit (hA : AutOk ls A) (hB : AutOk ls B) {b : List (StO × StO)} (rows : List RwA) {acc : Acc} (h : Fit A B b acc) : Fit A B b (rows.foldl (stepRw A B ls) acc) := by
  induction rows generalizing acc with
  | nil => exact h
  | cons r rows ih => exact ih (stepRw_fit hA hB ls h)
theorem walk_fit (hA : AutOk ls A) (hB : AutOk ls B) : ∀ k, ∃ b, Fit A B b (walkA A B ls k) ∧ ((walkA A B ls k).1 ≠ [] → k ≤ b.length)
  | 0 => ⟨[], ⟨List.nodup_cons.mpr ⟨List.not_mem_nil, List.nodup_nil⟩, fun p hp => by
      rw [List.mem_singleton.mp hp]
      exact ⟨fun s e => by cases e; exact hA.start, fun s e => by cases e; exact hB.start⟩, rfl, fun _ _ => trivial⟩, fun _ => Nat.zero_le _⟩
  | k + 1 => by
    obtain ⟨b, f, q⟩ := walk_fit hA hB k
    refine ⟨(walkA A B ls k).2, level_fit hA hB _ ⟨f.nodup, f.all, by simp, fun _ _ => trivial⟩, fun ne => ?_⟩
    have nz : (walkA A B ls k).1 ≠ [] := fun e => ne (by
      show (levelA A B ls (walkA A B ls k).1 (walkA A B ls k).2).1 = []
      rw [e]
      rfl)
    have l1 := q nz
    have l2 : 1 ≤ (walkA A B ls k).1.length := List.length_pos_iff.mpr nz
    have := f.cut
    omega
def placesA (n : Nat) : List StO := none :: (List.range n).map some
theorem placesA_len (n : Nat) : (placesA n).length = n + 1 := by simp [placesA]
theorem placesA_mem {n : Nat} {s : StO} (h : ∀ t, s = some t → t < n) : s ∈ placesA n := by
  cases s with
  | none => exact List.mem_cons_self
  | some t => exact List.mem_cons_of_mem _ (List.mem_map.mpr ⟨t, List.mem_range.mpr (h t rfl), rfl⟩)
theorem allA_few (hA : AutOk ls A) (hB : AutOk ls B) {S : List (StO × StO)} (nd : S.Nodup) (h : AllIn A B S) : S.length ≤ 25 := by
  have sub : S ⊆ (placesA A.many).flatMap fun a => (placesA B.many).map fun b => (a, b) := fun p hp =>
    List.mem_flatMap.mpr ⟨p.1, placesA_mem (h p hp).1, List.mem_map.mpr ⟨p.2, placesA_mem (h p hp).2, rfl⟩⟩
  have le : S.length ≤ ((placesA A.many).flatMap fun a => (placesA B.many).map fun b => (a, b)).length := len_le_of_mem nd sub
  have eq : ∀ L : List StO, (L.flatMap fun a => (placesA B.many).map fun b => (a, b)).length = L.length * (B.many + 1) := fun L => by
    induction L with
    | nil => simp
    | cons a L ih => rw [List.flatMap_cons, List.length_append, ih, List.length_map, placesA_len, List.length_cons, Nat.add_mul, Nat.one_mul, Nat.add_comm]
  rw [eq, placesA_len] at le
  have h1 := hA.few
  have h2 := hB.few
  have : (A.many + 1) * (B.many + 1) ≤ 5 * 5 := Nat.mul_le_mul (by omega) (by omega)
  omega
theorem seen_few (hA : AutOk ls A) (hB : AutOk ls B) (k : Nat) : (walkA A B ls k).2.length ≤ 25 := by
  obtain ⟨b, f, _⟩ := walk_fit hA hB k
  exact allA_few hA hB f.nodup f.all
theorem rows_few (hA : AutOk ls A) (hB : AutOk ls B) (k : Nat) : (walkA A B ls k).1.length ≤ 25 := by
  obtain ⟨b, f, _⟩ := walk_fit hA hB k
  have := allA_few hA hB f.nodup f.all
  have := f.cut
  omega
theorem walk_ends (hA : AutOk ls A) (hB : AutOk ls B) {k : Nat} (h : (walkA A B ls k).1 ≠ []) : k ≤ 24 := by
  obtain ⟨b, f, q⟩ := walk_fit hA hB k
  have := allA_few hA hB f.nodup f.all
  have := f.cut
  have := q h
  have : 1 ≤ (walkA A B ls k).1.length := List.length_pos_iff.mpr h
  omega
theorem walk_nil {k : Nat} (h : (walkA A B ls k).1 = []) : ∀ d, (walkA A B ls (k + d)).1 = []
  | 0 => h
  | d + 1 => by
    show (levelA A B ls (walkA A B ls (k + d)).1 _).1 = []
    rw [walk_nil h d]
    rfl
theorem due_stays {k : Nat} {z : List Nat} (h : dueA A B ls k = some z) : ∀ d, dueA A B ls (k + d) = some z
  | 0 => h
  | d + 1 => by
    show (dueA A B ls (k + d)).or _ = _
    rw [due_stays h d]
    rfl
theorem due_none {k : Nat} (h : dueA A B ls k = none) (e : (walkA A B ls k).1 = []) : ∀ d, dueA A B ls (k + d) = none
  | 0 => h
  | d + 1 => by
    show (dueA A B ls (k + d)).or (firstA A B (walkA A B ls (k + d)).1) = _
    rw [due_none h e d, walk_nil e d]
    rfl
/-- what is told at a level -/
theorem due_hit (hA : AutOk ls A) (hB : AutOk ls B) {k : Nat} {z : List Nat} (h : dueA A B ls k = none) (f : firstA A B (walkA A B ls k).1 = some z) : dueA A B ls 26 = some z := by
  have ne : (walkA A B ls k).1 ≠ [] := fun e => by rw [e] at f; cases f
  have le := walk_ends hA hB ne
  have : dueA A B ls (k + 1) = some z := by
    show (dueA A B ls k).or _ = _
    rw [h, f]
    rfl
  have := due_stays this (26 - (k + 1))
  rwa [show k + 1 + (26 - (k + 1)) = 26 by omega] at this
theorem due_empty (hA : AutOk ls A) (hB : AutOk ls B) {k : Nat} (k25 : k ≤ 26) (h : dueA A B ls k = none) (e : (walkA A B ls k).1 = []) : dueA A B ls 26 = none := by
  have := due_none h e (26 - k)
  rwa [show k + (26 - k) = 26 by omega] at this
theorem due_next {k : Nat} (h : dueA A B ls k = none) (f : firstA A B (walkA A B ls k).1 = none) : dueA A B ls (k + 1) = none := by
  show (dueA A B ls k).or _ = _
  rw [h, f]
  rfl
end
end TcG
/-! sorted(d) of a dict of texts, of any size. -/
namespace TcG
open PySem PySem.Spec PyProof.Rows L2
def rSortedDA : List V → Hp → VK → Prop := fun vs H Q => ∃ (a : Addr) (kvs : List (Key × V)) (ks : List Str), vs = [.ref a] ∧ Rd H a (.dK kvs) ∧ kvs.map (·.1) = ks.map Sum.inr ∧ ks.length ≤ 100000 ∧
  ∀ (ys : List Str) (p : Addr), ys.Perm ks → sortedS ys = true → H p = none → Q (.ref p) (upd H p (.lst (ys.map V.str)))
theorem cr_sortedDA {X : Cx} (calm : X.calm = true) : CallR X (.builtin "sorted") rSortedDA := by
  intro pins s σ H vs us Q I r h
  obtain ⟨a, kvs, ks, rfl, hd, keys, few, q⟩ := h
  obtain ⟨u, rfl, ru⟩ := vals1 r
  cases ru
  obtain ⟨_, lo, ws, rel, dd⟩ := dk_rd I.hok hd
  obtain ⟨ep, place⟩ := dd.dictAt
  have kw : ws.map (·.1) = ks.map Sum.inr := by
    rw [← keys]
    exact rel.keys.symm
  have lw : ws.length = ks.length := by simpa using congrArg List.length kw
  have wl : ws.length ≤ sizeLine := by
    rw [lw]
    exact Nat.le_trans few (by decide)
  refine Calls.call_function_entry kind_sorted plain_sorted entry_sorted (args_sorted1 _) ?_
  unfold Builtin.«sorted»
  refine wpAny_bind (m := checkCount "sorted" 1 1 _) (wpAny_pure ?_)
  refine wpAny_bind (PySem.W.kdu_collect (A := X.A.in1) (PySem.W.kdl_dict (ep := ep) lo (kvs := ws) (knd := mixKind X.prog X.w)) (I.ok.hd calm) place wl fun h2 t2 acc keep items => ?_)
  have la : acc.toList.length = ks.length := by
    rw [Array.length_toList, items.1]
    exact lw
  have room : acc.toList.length ≤ sizeLine := by
    rw [la]
    exact Nat.le_trans few (by decide)
  have each : ∀ (l : List Str) (vs : List Value), vs.length = l.length → (∀ (j : Nat) v, vs[j]? = some v → ∃ y t, l[j]? = some y ∧ v = .str y t) → StrsAre vs l := by
    intro l
    induction l with
    | nil =>
      intro vs e _
      cases vs with
      | nil => exact .nil
      | cons _ _ => cases e
    | cons c r ih =>
      intro vs e h
      cases vs with
      | nil => cases e
      | cons v vs =>
        obtain ⟨y, t, e1, rfl⟩ := h 0 v rfl
        cases e1
        exact .cons _ t (ih vs (Nat.succ.inj e) fun j v hj => h (j + 1) v hj)
  have texts : StrsAre acc.toList ks := each ks acc.toList la fun j v hv => by
    obtain ⟨k, x, e1, e2⟩ := items.2 j v (by rw [← Array.getElem?_toList]; exact hv)
    have e3 : (ws.map (·.1))[j]? = some k := by rw [List.getElem?_map, e1]; rfl
    rw [kw, List.getElem?_map] at e3
    cases e4 : ks[j]? with
    | none =>
      rw [e4] at e3
      cases e3
    | some y =>
      rw [e4] at e3
      obtain rfl : Sum.inr y = k := Option.some.inj e3
      obtain ⟨t, ev⟩ := Value.isStrOf_shape (v := v) (x := y) e2
      exact ⟨y, t, rfl, ev⟩
  refine wpAny_bind (wpAny_newList ?_ room)
  have here : (h2.push (seqObj "list" acc.toList.toArray 0)).get? h2.objs.size = some (seqObj "list" acc.toList.toArray 0) := Heap.get?_push_size _ rfl
  show wpAny _ _ _ _ _ { s with toks := t2, heap := h2.push (seqObj "list" acc.toList.toArray 0) }
  refine wpAny_bind (wpAny_holding (wpAny_call_entry slot_list_sort ⟨_, here, rfl⟩ entry_list_sort (list_sort_treeKAny (s := { s with toks := t2, heap := h2.push (seqObj "list" acc.toList.toArray 0) }) strKind_oneLt here texts.keysOf (fun v₁ v₂ rest e => keyKind_strs (by rw [← e]; exact texts)) room fun st' hp hs => ⟨_, rfl, ?_⟩) (args_list_sort _)))
  obtain ⟨ys, b1, b2, b3⟩ := sorted_out_str texts hp hs
  obtain ⟨c, hc⟩ := sortedHeap_at (vs := acc.toList) (out := (arrOf st').map (·.2)) here
  have J : Inv X pins σ H { s with heap := h2, toks := t2 } := I.kept keep
  have small : (ys.map V.str).length ≤ sizeLine := by
    rw [List.length_map, b2.length_eq]
    exact Nat.le_trans few (by decide)
  refine wpAny_pure ⟨_, rfl, .ref h2.objs.size, upd H h2.objs.size (.lst (ys.map V.str)), J.laid (t' := t2) (fun b u e => ?_) (Nat.le_refl _) ⟨small, ((arrOf st').map (·.2)).toList, c, vals_of_strs b1, by rw [Array.toArray_toList]; exact hc⟩, rfl, q ys _ b2 b3 (J.hok.fresh (Nat.le_refl _))⟩
  have lt : b < h2.objs.size := Heap.lt_size e
  rw [sortedHeap_old (Nat.ne_of_lt lt) (by rw [size_push']; exact Nat.lt_succ_of_lt lt)]
  exact Heap.get?_push_of_some _ e
end TcG
/-! sorted(xs), xs a list or a tuple of data of any depth. -/
namespace TcG
open PySem PySem.Spec PyProof.Rows L2 PySem.W
def rSortedData (K : PySem.W.Frag) : List V → Hp → VK → Prop := fun vs H Q => ∃ (a : Addr) (xs : List V) (ds : List PyData), vs = [.ref a] ∧ (SqL K H a xs ∨ SqT K H a xs) ∧ DpAll K H xs ds ∧ AllAlike ds ∧ Sortable ds ∧ xs.length ≤ 100000 ∧ (∀ d ∈ ds, d.depth ≤ 60) ∧
  ∀ (L : List (V × PyData)) (p : Addr), L = (xs.zip ds).mergeSort (dataLe false Prod.snd) → H p = none → Q (.ref p) (upd H p (.lst (L.map Prod.fst)))
theorem each_zip : ∀ {xs : List V} {ds : List PyData} {us : List Value} {K : PySem.W.Frag} {H : Hp}, DpAll K H xs ds → Vals xs us → EachIs (fun v (b : V × PyData) => RelV b.1 v) us (xs.zip ds)
  | [], _, _, _, _, h, r => by cases h; cases r; exact .nil
  | x :: xs, _, _, _, _, h, r => by
    cases h with
    | cons h1 h2 =>
      cases r with
      | cons r1 r2 => exact .cons r1 (each_zip h2 r2)
theorem zip_snd : ∀ {xs : List V} {ds : List PyData} {K : PySem.W.Frag} {H : Hp}, DpAll K H xs ds → (xs.zip ds).map Prod.snd = ds ∧ xs.length = ds.length
  | [], _, _, _, h => by cases h; exact ⟨rfl, rfl⟩
  | x :: xs, _, _, _, h => by
    cases h with
    | cons h1 h2 =>
      obtain ⟨a, b⟩ := zip_snd h2
      exact ⟨by rw [List.zip_cons_cons, List.map_cons, a], by rw [List.length_cons, List.length_cons, b]⟩
theorem vals_of_each : ∀ {us : List Value} {L : List (V × PyData)}, EachIs (fun v (b : V × PyData) => RelV b.1 v) us L → Vals (L.map Prod.fst) us
  | _, _, .nil => .nil
  | _, _, .cons h t => .cons h (vals_of_each t)
theorem cr_sortedData {X : Cx} (hu : X.A.units + 65 < cLine) : CallR X (.builtin "sorted") (rSortedData X.K) := by
  intro pins s σ H vs us Q I r h
  obtain ⟨a, xs, ds, rfl, hx, dp, al, so, few, dep, q⟩ := h
  obtain ⟨u, rfl, ru⟩ := vals1 r
  cases ru
  have big : 100000 ≤ sizeLine := by decide
  obtain ⟨its, T, o, n, rv, hT, ho, hc, hd⟩ : ∃ (its : List Value) (T : String) (o : Obj) (n : Nat), Vals xs its ∧ (T = "list" ∨ T = "tuple") ∧ s.heap.get? a = some o ∧ o.cls = .type T ∧ o.data = .seq its.toArray n := by
    rcases hx with hx | hx
    · obtain ⟨its, rv, ⟨o, n, ho, hc, hdn, hdt⟩, hlen⟩ := I.list hx
      exact ⟨its, "list", _, n, rv, .inl rfl, ho, hc, hdt⟩
    · obtain ⟨its, rv, ⟨o, ho, hc, n, hd⟩, _⟩ := I.tuple hx
      exact ⟨its, "tuple", o, n, rv, .inr rfl, ho, hc, hd⟩
  have li : its.length = xs.length := rv.length.symm
  refine Calls.call_function_entry kind_sorted plain_sorted entry_sorted (args_sorted1 _) ?_
  unfold Builtin.«sorted»
  refine wpAny_bind (m := checkCount "sorted" 1 1 _) (wpAny_pure ?_)
  refine wpAny_bind (wpAny_collect_seq a hT ho hc hd (fun h2 keep => ?_) (by simp; omega))
  have J : Inv X pins σ H { s with heap := h2 } := I.kept keep
  refine wpAny_bind (wpAny_newList ?_ (by simp; omega))
  show wpAny _ _ _ _ _ { s with heap := h2.push (seqObj "list" its.toArray.toList.toArray 0) }
  have hoL : (h2.push (seqObj "list" its.toArray.toList.toArray 0)).get? h2.objs.size = some (seqObj "list" its.toArray.toList.toArray 0) := Heap.get?_push_size _ rfl
  obtain ⟨zs, zl⟩ := zip_snd dp
  have er : EachIs (fun v (b : V × PyData) => ∃ as, Reads (sortingHeap (h2.push (seqObj "list" its.toArray.toList.toArray 0)) h2.objs.size its.toArray.toList) v b.2 as) its.toArray.toList (xs.zip ds) := by
    obtain ⟨as, hr⟩ := Dp.readsAll J ds xs its dp rv
    have hr2 : ReadsAll h2 its ((xs.zip ds).map Prod.snd) as := by rw [zs]; exact hr
    refine (readsAll_each (h := h2) Prod.snd hr2).mono fun v b ⟨as, r⟩ => ⟨as, PyProof.Rows.Reads.keeps (fun b ob e => ?_) r⟩
    exact sortingHeap_old (Nat.ne_of_lt (Heap.lt_size e)) (Heap.get?_push_of_some _ e)
  refine wpAny_bind (wpAny_holding (wpAny_call_entry slot_list_sort ⟨_, hoL, rfl⟩ entry_list_sort (list_sort_vals (κ := dataKind (sortingHeap (h2.push (seqObj "list" its.toArray.toList.toArray 0)) h2.objs.size its.toArray.toList) ((xs.zip ds).map Prod.snd)) hoL
    (SortsAt.data (s := { s with heap := sortingHeap (h2.push (seqObj "list" its.toArray.toList.toArray 0)) h2.objs.size its.toArray.toList }) (each_map (R := fun v d => ∃ as, Reads _ v d as) Prod.snd er) (by rw [zs]; exact al) (by rw [zs]; exact so) fun d hd => ?_) (by simp; omega) ⟨.none, rfl, ?_⟩) (args_list_sort _)))
  · rw [zs] at hd
    have := dep d hd
    show X.A.units + 1 + 1 + d.depth < cLine
    omega
  have each := sortVals_data (h' := sortingHeap (h2.push (seqObj "list" its.toArray.toList.toArray 0)) h2.objs.size its.toArray.toList) (R := fun v (b : V × PyData) => RelV b.1 v) false (each_zip dp rv) er (by rw [zs]; exact al)
  generalize sortVals (dataKind (sortingHeap (h2.push (seqObj "list" its.toArray.toList.toArray 0)) h2.objs.size its.toArray.toList) ((xs.zip ds).map Prod.snd)) false its.toArray.toList its.toArray.toList = out at each
  obtain ⟨c, hc2⟩ := sortedHeap_at (vs := its.toArray.toList) (out := out.toArray) hoL
  have small : (((xs.zip ds).mergeSort (dataLe false Prod.snd)).map Prod.fst).length ≤ sizeLine := by
    rw [List.length_map, (List.mergeSort_perm _ _).length_eq, List.length_zip]
    omega
  refine wpAny_pure ⟨_, rfl, .ref h2.objs.size, upd H h2.objs.size (.lst (((xs.zip ds).mergeSort (dataLe false Prod.snd)).map Prod.fst)), J.laid (t' := s.toks) (fun b u e => ?_) (Nat.le_refl _) ⟨small, out, c, vals_of_each each, hc2⟩, rfl, q _ _ rfl (J.hok.fresh (Nat.le_refl _))⟩
  have lt : b < h2.objs.size := Heap.lt_size e
  rw [sortedHeap_old (Nat.ne_of_lt lt) (by rw [size_push']; exact Nat.lt_succ_of_lt lt)]
  exact Heap.get?_push_of_some _ e
end TcG
/-! What parts two words, as a value. -/
namespace TcG
open PySem PySem.Spec PyProof.Rows L2
theorem paper_keep {H H' : Hp} {v : V} {m : Option Paper} (h : PaperV H v m) (s : Same H H') : PaperV H' v m := by
  cases m with
  | none => exact h
  | some p =>
    cases p with
    | count x =>
      obtain ⟨r, e, hr⟩ := h
      exact ⟨r, e, s _ _ hr⟩
    | order x y =>
      obtain ⟨r, e, hr⟩ := h
      exact ⟨r, e, s _ _ hr⟩
theorem paper_none {H : Hp} {v : V} {m : Option Paper} (h : PaperV H v m) : decide (v = .non) = m.isNone := by
  cases m with
  | none =>
    have h : v = .non := h
    rw [h]
    rfl
  | some p =>
    cases p with
    | count x =>
      obtain ⟨r, e, hr⟩ := h
      rw [e]
      rfl
    | order x y =>
      obtain ⟨r, e, hr⟩ := h
      rw [e]
      rfl
theorem strs_same {K : PySem.W.Frag} {H : Hp} {n : Nat} {xs : List V} (h : xs.all flatV = true) : ∀ (i : Nat) (a b : V), xs[i]? = some a → xs[i]? = some b → SameR K H (n + 1) a b := fun i a b ha hb => by
  rw [ha] at hb
  cases hb
  exact .inl ⟨rfl, List.all_eq_true.mp h a (List.mem_of_getElem? ha)⟩
theorem paper_same {K : PySem.W.Frag} {H : Hp} {v u : V} {m : Option Paper} (h : PaperV H v m) (g : PaperV H u m) : SameR K H 2 v u := by
  cases m with
  | none =>
    have h : v = .non := h
    have g : u = .non := g
    rw [h, g]
    exact .inl ⟨rfl, rfl⟩
  | some p =>
    cases p with
    | count x =>
      obtain ⟨r, rfl, hr⟩ := h
      obtain ⟨t, rfl, ht⟩ := g
      exact .inr ⟨r, t, _, _, rfl, rfl, SqT.of hr, SqT.of ht, rfl, by show 2 ≤ 4000000; decide, strs_same rfl⟩
    | order x y =>
      obtain ⟨r, rfl, hr⟩ := h
      obtain ⟨t, rfl, ht⟩ := g
      exact .inr ⟨r, t, _, _, rfl, rfl, SqT.of hr, SqT.of ht, rfl, by show 3 ≤ 4000000; decide, strs_same rfl⟩
end TcG
/-! Cliques: sets of pairwise independent letters, and how many there are. -/
namespace TcG
open PySem PySem.Spec PyProof.Rows L2
variable {ps : List (List Nat)} {ls : List Nat}
def allInd (ps : List (List Nat)) (x : Nat) (c : List Nat) : Bool := c.all fun y => ind ps y x
theorem allInd_app {x : Nat} {a b : List Nat} : allInd ps x (a ++ b) = (allInd ps x a && allInd ps x b) := List.all_append
theorem allInd_one {x y : Nat} : allInd ps x [y] = ind ps y x := by
  unfold allInd
  rw [List.all_cons, List.all_nil, Bool.and_true]
/-- rising texts of pairwise independent letters -/
structure IsClq (ps : List (List Nat)) (ls c : List Nat) : Prop where
  up : c.Pairwise (· < ·)
  sub : ∀ x ∈ c, x ∈ ls
  free : c.Pairwise fun a b => ind ps a b = true
/-- all of them, as the laws make them -/
def stepC (ps : List (List Nat)) (F : List (List Nat)) (x : Nat) : List (List Nat) := F ++ (F.filter (allInd ps x)).map (· ++ [x])
def clqL (ps : List (List Nat)) (ls : List Nat) : List (List Nat) := ls.foldl (stepC ps) [[]]
theorem clqL_snoc (l : List Nat) (x : Nat) : clqL ps (l ++ [x]) = stepC ps (clqL ps l) x := by
  unfold clqL
  rw [List.foldl_append]
  rfl
theorem snoc_ind {P : List Nat → Prop} (h0 : P []) (hs : ∀ l x, P l → P (l ++ [x])) : ∀ l, P l := fun l => by
  have : ∀ r : List Nat, P r.reverse := fun r => by
    induction r with
    | nil => exact h0
    | cons x r ih => rw [List.reverse_cons]; exact hs _ _ ih
  rw [← List.reverse_reverse l]
  exact this _
theorem isclq_snoc {l c : List Nat} {x : Nat} (up : (l ++ [x]).Pairwise (· < ·)) : IsClq ps (l ++ [x]) c ↔ IsClq ps l c ∨ ∃ d, c = d ++ [x] ∧ IsClq ps l d ∧ allInd ps x d = true := by
  have below : ∀ y ∈ l, y < x := fun y hy => (List.pairwise_append.mp up).2.2 y hy x (List.mem_singleton.mpr rfl)
  constructor
  · intro h
    by_cases hx : x ∈ c
    · right
      obtain ⟨d, e, rfl⟩ := List.append_of_mem hx
      have ee : e = [] := by
        cases e with
        | nil => rfl
        | cons y e =>
          exfalso
          have h1 := (List.pairwise_append.mp h.up).2.1
          have lt := (List.pairwise_cons.mp h1).1 y List.mem_cons_self
          have my := h.sub y (List.mem_append_right _ (List.mem_cons_of_mem _ List.mem_cons_self))
          rcases List.mem_append.mp my with m | m
          · have := below y m; omega
          · have := List.mem_singleton.mp m; omega
      subst ee
      have h2 := List.pairwise_append.mp h.up
      have h3 := List.pairwise_append.mp h.free
      refine ⟨d, rfl, ⟨h2.1, fun y hy => ?_, h3.1⟩, List.all_eq_true.mpr fun y hy => h3.2.2 y hy x (List.mem_singleton.mpr rfl)⟩
      rcases List.mem_append.mp (h.sub y (List.mem_append_left _ hy)) with m | m
      · exact m
      · have := h2.2.2 y hy x (List.mem_singleton.mpr rfl)
        have := List.mem_singleton.mp m
        omega
    · left
      refine ⟨h.up, fun y hy => ?_, h.free⟩
      rcases List.mem_append.mp (h.sub y hy) with m | m
      · exact m
      · exact absurd (List.mem_singleton.mp m ▸ hy) hx
  · rintro (h | ⟨d, rfl, h, fr⟩)
    · exact ⟨h.up, fun y hy => List.mem_append_left _ (h.sub y hy), h.free⟩
    · refine ⟨List.pairwise_append.mpr ⟨h.up, List.pairwise_singleton _ _, fun y hy z hz => ?_⟩, fun y hy => ?_, List.pairwise_append.mpr ⟨h.free, List.pairwise_singleton _ _, fun y hy z hz => ?_⟩⟩
      · rw [List.mem_singleton.mp hz]
        exact below y (h.sub y hy)
      · rcases List.mem_append.mp hy with m | m
        · exact List.mem_append_left _ (h.sub y m)
        · exact List.mem_append_right _ m
      · rw [List.mem_singleton.mp hz]
        exact List.all_eq_true.mp fr y hy
theorem clqL_mem : ∀ (l : List Nat), l.Pairwise (· < ·) → ∀ c, c ∈ clqL ps l ↔ IsClq ps l c := by
  refine snoc_ind (fun _ c => ?_) fun l x ih up c => ?_
  · show c ∈ [[]] ↔ _
    rw [List.mem_singleton]
    constructor
    · rintro rfl
      exact ⟨.nil, fun _ h => (nomatch h), .nil⟩
    · intro h
      cases c with
      | nil => rfl
      | cons y c => exact absurd (h.sub y List.mem_cons_self) (by simp)
  · have up2 := (List.pairwise_append.mp up).1
    rw [clqL_snoc, isclq_snoc up]
    unfold stepC
    rw [List.mem_append, ih up2, List.mem_map]
    refine or_congr_right ⟨fun ⟨d, hd, e⟩ => ?_, fun ⟨d, e, h1, h2⟩ => ?_⟩
    · obtain ⟨h1, h2⟩ := List.mem_filter.mp hd
      exact ⟨d, e.symm, (ih up2 d).mp h1, h2⟩
    · exact ⟨d, List.mem_filter.mpr ⟨(ih up2 d).mpr h1, h2⟩, e.symm⟩
theorem clqL_nodup : ∀ (l : List Nat), l.Pairwise (· < ·) → (clqL ps l).Nodup := by
  refine snoc_ind (fun _ => by show ([[]] : List (List Nat)).Nodup; simp) fun l x ih up => ?_
  have up2 := (List.pairwise_append.mp up).1
  have below : ∀ y ∈ l, y < x := fun y hy => (List.pairwise_append.mp up).2.2 y hy x (List.mem_singleton.mpr rfl)
  rw [clqL_snoc]
  unfold stepC
  refine List.nodup_append.mpr ⟨ih up2, ?_, fun a ha b hb z => ?_⟩
  · rw [List.nodup_iff_pairwise_ne, List.pairwise_map]
    exact (List.nodup_iff_pairwise_ne.mp ((ih up2).sublist List.filter_sublist)).imp fun ne z => ne (List.append_cancel_right z)
  · obtain ⟨d, _, rfl⟩ := List.mem_map.mp hb
    have h := (clqL_mem l up2 a).mp ha
    have := h.sub x (by rw [z]; simp)
    have := below x this
    omega
/-- taking out what depends on a letter -/
theorem clqL_filter (x : Nat) : ∀ l : List Nat, (clqL ps l).filter (allInd ps x) = clqL ps (l.filter fun y => ind ps y x) := by
  refine snoc_ind rfl fun l y ih => ?_
  rw [clqL_snoc, List.filter_append]
  unfold stepC
  rw [List.filter_append, ih, List.filter_map]
  have e : (allInd ps x ∘ fun c : List Nat => c ++ [y]) = fun c => allInd ps x c && ind ps y x := by
    funext c
    show allInd ps x (c ++ [y]) = _
    rw [allInd_app, allInd_one]
  rw [e, List.filter_cons, List.filter_nil]
  cases h : ind ps y x with
  | false =>
    rw [if_neg Bool.false_ne_true, List.append_nil]
    have : ((clqL ps l).filter (allInd ps y)).filter (fun c => allInd ps x c && false) = [] := List.filter_eq_nil_iff.mpr fun c _ => by simp
    rw [this, List.map_nil, List.append_nil]
  | true =>
    rw [if_pos rfl, clqL_snoc]
    unfold stepC
    rw [← ih, List.filter_filter, List.filter_filter]
    refine congrArg _ (congrArg _ (List.filter_congr fun c _ => ?_))
    rw [Bool.and_true, Bool.and_comm]
/-- how many of k letters -/
def cntC (F : List (List Nat)) (k : Nat) : Nat := (F.filter fun c => decide (c.length = k)).length
theorem cntC_app (F G : List (List Nat)) (k : Nat) : cntC (F ++ G) k = cntC F k + cntC G k := by
  unfold cntC
  rw [List.filter_append, List.length_append]
theorem cntC_map (F : List (List Nat)) (x k : Nat) : cntC (F.map (· ++ [x])) k = if k = 0 then 0 else cntC F (k - 1) := by
  unfold cntC
  rw [List.filter_map, List.length_map]
  cases k with
  | zero =>
    rw [if_pos rfl, List.filter_eq_nil_iff.mpr fun c _ => by simp]
    rfl
  | succ k =>
    rw [if_neg (by omega)]
    refine congrArg List.length (List.filter_congr fun c _ => ?_)
    show decide ((c ++ [x]).length = k + 1) = _
    rw [List.length_append, List.length_singleton]
    exact decide_eq_decide.mpr (by omega)
/-- the same number, letter by letter -/
def numC (ps : List (List Nat)) : Nat → List Nat → Nat → Nat
  | _, [], k => if k = 0 then 1 else 0
  | 0, _ :: _, _ => 0
  | f + 1, x :: l, k => numC ps f l k + if k = 0 then 0 else numC ps f (l.filter fun y => ind ps y x) (k - 1)
theorem numC_fuel : ∀ (f g : Nat) (l : List Nat) (k : Nat), l.length ≤ f → l.length ≤ g → numC ps f l k = numC ps g l k
  | f, g, [], k, _, _ => by cases f <;> cases g <;> rfl
  | 0, _, _ :: _, _, h, _ => by simp at h
  | _ + 1, 0, _ :: _, _, _, h => by simp at h
  | f + 1, g + 1, x :: l, k, hf, hg => by
    rw [List.length_cons] at hf hg
    have lf := List.length_filter_le (fun y => ind ps y x) l
    show numC ps f l k + _ = numC ps g l k + _
    rw [numC_fuel f g l k (by omega) (by omega)]
    split
    · rfl
    · rw [numC_fuel f g _ (k - 1) (by omega) (by omega)]
def numK (ps : List (List Nat)) (l : List Nat) (k : Nat) : Nat := numC ps l.length l k
theorem numK_nil (k : Nat) : numK ps [] k = if k = 0 then 1 else 0 := rfl
theorem numK_cons (x : Nat) (l : List Nat) (k : Nat) : numK ps (x :: l) k = numK ps l k + if k = 0 then 0 else numK ps (l.filter fun y => ind ps y x) (k - 1) := by
  unfold numK
  rw [List.length_cons]
  show numC ps l.length l k + _ = _
  have lf := List.length_filter_le (fun y => ind ps y x) l
  rw [numC_fuel l.length (l.filter fun y => ind ps y x).length _ _ lf (Nat.le_refl _)]
theorem numK_perm {l m : List Nat} (p : l.Perm m) : ∀ k, numK ps l k = numK ps m k := by
  have main : ∀ (n : Nat) {l m : List Nat}, l.length ≤ n → l.Perm m → ∀ k, numK ps l k = numK ps m k := fun n => by
    induction n with
    | zero =>
      intro l m hl p k
      have : l = [] := List.length_eq_zero_iff.mp (by omega)
      subst this
      rw [p.nil_eq]
    | succ n ih =>
      intro l m hl p
      induction p with
      | nil => exact fun _ => rfl
      | cons x p2 _ =>
        intro k
        rw [List.length_cons] at hl
        rw [numK_cons, numK_cons, ih (by omega) p2 k]
        split
        · rfl
        · have := List.length_filter_le (fun y => ind ps y x)
          rw [ih (Nat.le_trans (this _) (by omega)) (p2.filter _) (k - 1)]
      | swap x y l =>
        intro k
        have com : ((l.filter fun z => ind ps z x).filter fun z => ind ps z y) = (l.filter fun z => ind ps z y).filter fun z => ind ps z x := by
          rw [List.filter_filter, List.filter_filter]
          exact List.filter_congr fun z _ => Bool.and_comm _ _
        rw [numK_cons, numK_cons, numK_cons, numK_cons, List.filter_cons, List.filter_cons]
        by_cases k0 : k = 0
        · rw [if_pos k0, if_pos k0, if_pos k0, if_pos k0]
        · rw [if_neg k0, if_neg k0, if_neg k0, if_neg k0]
          have e : ind ps x y = ind ps y x := ind_comm ps x y
          cases h : ind ps y x with
          | false =>
            rw [e, h, if_neg Bool.false_ne_true, if_neg Bool.false_ne_true]
            omega
          | true =>
            rw [e, h, if_pos rfl, if_pos rfl, numK_cons, numK_cons, com]
            omega
      | trans p q ih1 ih2 =>
        intro k
        rw [ih1 hl k, ih2 (by rw [← p.length_eq]; exact hl) k]
  exact fun k => main l.length (Nat.le_refl _) p k
theorem cnt_num : ∀ (n : Nat) (l : List Nat), l.length ≤ n → ∀ k, cntC (clqL ps l) k = numK ps l k := fun n => by
  induction n with
  | zero =>
    intro l hl k
    have : l = [] := List.length_eq_zero_iff.mp (by omega)
    subst this
    rw [numK_nil]
    show cntC [[]] k = _
    unfold cntC
    cases k with
    | zero => rfl
    | succ k => rfl
  | succ n ih =>
    intro l hl k
    rcases List.eq_nil_or_concat l with rfl | ⟨m, x, rfl⟩
    · rw [numK_nil]
      show cntC [[]] k = _
      unfold cntC
      cases k with
      | zero => rfl
      | succ k => rfl
    · rw [List.concat_eq_append] at hl ⊢
      rw [List.length_append, List.length_singleton] at hl
      have lf := List.length_filter_le (fun y => ind ps y x) m
      rw [clqL_snoc, numK_perm List.perm_append_comm k]
      show cntC (stepC ps (clqL ps m) x) k = numK ps (x :: m) k
      unfold stepC
      rw [cntC_app, cntC_map, clqL_filter, numK_cons, ih m (by omega) k]
      split
      · rfl
      · rw [ih _ (by omega) (k - 1)]
theorem cntL_num (l : List Nat) (k : Nat) : cntC (clqL ps l) k = numK ps l k := cnt_num l.length l (Nat.le_refl _) k
/-- any list of just these texts has as many of each size -/
theorem cntF_of {F : List (List Nat)} (up : ls.Pairwise (· < ·)) (nd : F.Nodup) (mem : ∀ c, c ∈ F ↔ IsClq ps ls c) (k : Nat) : cntC F k = numK ps ls k := by
  rw [← cntL_num]
  unfold cntC
  exact (((List.perm_ext_iff_of_nodup nd (clqL_nodup ls up)).mpr fun c => by rw [mem, clqL_mem ls up]).filter _).length_eq
end TcG
/-! Polynomials as lists, and the clique polynomial. -/
namespace TcG
open PySem PySem.Spec PyProof.Rows L2
variable {ps : List (List Nat)} {ls : List Nat}
def sgn (k : Nat) : Int := if k % 2 = 1 then -1 else 1
theorem sgn_add (a b : Nat) : sgn (a + b) = sgn a * sgn b := by
  unfold sgn
  have := Nat.mod_two_eq_zero_or_one a
  have := Nat.mod_two_eq_zero_or_one b
  split <;> split <;> split <;> omega
theorem sgn_ne (k : Nat) : sgn k ≠ 0 := by
  unfold sgn
  split <;> omega
def convI (f g : Nat → Int) (n : Nat) : Int := ((List.range (n + 1)).map fun i => f i * g (n - i)).sum
theorem isum_add {α : Type} (l : List α) (f g : α → Int) : (l.map fun x => f x + g x).sum = (l.map f).sum + (l.map g).sum := by
  induction l with
  | nil => rfl
  | cons a l ih => rw [List.map_cons, List.map_cons, List.map_cons, List.sum_cons, List.sum_cons, List.sum_cons, ih]; omega
theorem isum_zero {α : Type} (l : List α) (f : α → Int) (h : ∀ x ∈ l, f x = 0) : (l.map f).sum = 0 := by
  induction l with
  | nil => rfl
  | cons a l ih => rw [List.map_cons, List.sum_cons, h a List.mem_cons_self, ih fun x hx => h x (List.mem_cons_of_mem _ hx)]; rfl
theorem isum_mul {α : Type} (l : List α) (f : α → Int) (c : Int) : (l.map fun x => c * f x).sum = c * (l.map f).sum := by
  induction l with
  | nil => simp
  | cons a l ih => rw [List.map_cons, List.map_cons, List.sum_cons, List.sum_cons, ih, Int.mul_add]
theorem isum_congr {α : Type} (l : List α) {f g : α → Int} (h : ∀ x ∈ l, f x = g x) : (l.map f).sum = (l.map g).sum := by
  rw [List.map_congr_left h]
theorem conv_congr {f f' g g' : Nat → Int} {n : Nat} (hf : ∀ i, i ≤ n → f i = f' i) (hg : ∀ i, i ≤ n → g i = g' i) : convI f g n = convI f' g' n := by
  unfold convI
  refine isum_congr _ fun i hi => ?_
  have := List.mem_range.mp hi
  rw [hf i (by omega), hg (n - i) (by omega)]
theorem conv_add {f f' g : Nat → Int} {n : Nat} : convI (fun i => f i + f' i) g n = convI f g n + convI f' g n := by
  unfold convI
  rw [← isum_add]
  exact isum_congr _ fun i _ => Int.add_mul _ _ _
/-- one place further on -/
def shiftI (f : Nat → Int) (k : Nat) : Int := if k = 0 then 0 else f (k - 1)
theorem conv_shift {f g : Nat → Int} {n : Nat} : convI (shiftI f) g n = shiftI (convI f g) n := by
  unfold convI
  rw [List.range_succ_eq_map, List.map_cons, List.sum_cons, List.map_map]
  have h0 : shiftI f 0 * g (n - 0) = 0 := by show (0 : Int) * _ = 0; rw [Int.zero_mul]
  rw [h0, Int.zero_add]
  cases n with
  | zero => rfl
  | succ n =>
    show _ = ((List.range (n + 1)).map fun i => f i * g (n - i)).sum
    refine isum_congr _ fun i _ => ?_
    show shiftI f (i + 1) * g (n + 1 - (i + 1)) = _
    rw [Nat.add_sub_add_right]
    rfl
theorem conv_one {g : Nat → Int} {n : Nat} : convI (fun k => if k = 0 then 1 else 0) g n = g n := by
  unfold convI
  rw [List.range_succ_eq_map, List.map_cons, List.sum_cons, List.map_map, isum_zero]
  · show (if (0 : Nat) = 0 then (1 : Int) else 0) * g (n - 0) + 0 = g n
    rw [if_pos rfl, Int.one_mul, Int.add_zero, Nat.sub_zero]
  · intro i _
    show (if i + 1 = 0 then (1 : Int) else 0) * _ = 0
    rw [if_neg (by omega), Int.zero_mul]
def numI (ps : List (List Nat)) (l : List Nat) (k : Nat) : Int := (numK ps l k : Int)
theorem numI_cons (x : Nat) (l : List Nat) : numI ps (x :: l) = fun k => numI ps l k + shiftI (numI ps (l.filter fun y => ind ps y x)) k := by
  funext k
  unfold numI shiftI
  rw [numK_cons]
  split
  · simp
  · simp
/-- independent lots -/
theorem numI_conv (B : List Nat) : ∀ (n : Nat) (A : List Nat), A.length ≤ n → (∀ x ∈ A, ∀ y ∈ B, ind ps y x = true) → ∀ k, numI ps (A ++ B) k = convI (numI ps A) (numI ps B) k := fun n => by
  induction n with
  | zero =>
    intro A hA _ k
    have : A = [] := List.length_eq_zero_iff.mp (by omega)
    subst this
    rw [List.nil_append]
    refine Eq.trans conv_one.symm (conv_congr (fun i _ => ?_) fun _ _ => rfl)
    unfold numI
    rw [numK_nil]
    split <;> rfl
  | succ n ih =>
    intro A hA hind k
    cases A with
    | nil =>
      rw [List.nil_append]
      refine Eq.trans conv_one.symm (conv_congr (fun i _ => ?_) fun _ _ => rfl)
      unfold numI
      rw [numK_nil]
      split <;> rfl
    | cons x A =>
      rw [List.length_cons] at hA
      have lf := List.length_filter_le (fun y => ind ps y x) A
      have fB : B.filter (fun y => ind ps y x) = B := List.filter_eq_self.mpr fun y hy => hind x List.mem_cons_self y hy
      rw [List.cons_append, numI_cons, numI_cons, conv_add, conv_shift, List.filter_append, fB]
      show numI ps (A ++ B) k + shiftI (numI ps (A.filter (fun y => ind ps y x) ++ B)) k = _
      rw [ih A (by omega) fun z hz => hind z (List.mem_cons_of_mem _ hz)]
      congr 1
      unfold shiftI
      split
      · rfl
      · exact ih _ (by omega) (fun z hz => hind z (List.mem_cons_of_mem _ (List.mem_filter.mp hz).1)) _
theorem numK_zero (l : List Nat) : numK ps l 0 = 1 := by
  induction l with
  | nil => rfl
  | cons x l ih => rw [numK_cons, if_pos rfl, ih]
theorem numK_big : ∀ (n : Nat) (l : List Nat) (k : Nat), l.length ≤ n → l.length < k → numK ps l k = 0 := fun n => by
  induction n with
  | zero =>
    intro l k h hk
    have : l = [] := List.length_eq_zero_iff.mp (by omega)
    subst this
    rw [numK_nil, if_neg (by omega)]
  | succ n ih =>
    intro l k h hk
    cases l with
    | nil => rw [numK_nil, if_neg (by rw [List.length_nil] at hk; omega)]
    | cons x l =>
      rw [List.length_cons] at h hk
      have lf := List.length_filter_le (fun y => ind ps y x) l
      rw [numK_cons, if_neg (by omega), ih l k (by omega) (by omega), ih _ (k - 1) (by omega) (by omega)]
theorem numK_down : ∀ (n : Nat) (l : List Nat) (k : Nat), l.length ≤ n → numK ps l (k + 1) ≠ 0 → numK ps l k ≠ 0 := fun n => by
  induction n with
  | zero =>
    intro l k h hk
    have : l = [] := List.length_eq_zero_iff.mp (by omega)
    subst this
    exact absurd (numK_nil (ps := ps) (k + 1)) (by rw [if_neg (by omega)]; exact hk)
  | succ n ih =>
    intro l k h hk
    cases l with
    | nil => exact absurd (numK_nil (ps := ps) (k + 1)) (by rw [if_neg (by omega)]; exact hk)
    | cons x l =>
      rw [List.length_cons] at h
      have lf := List.length_filter_le (fun y => ind ps y x) l
      have e1 := numK_cons (ps := ps) x l (k + 1)
      rw [if_neg (Nat.succ_ne_zero k), Nat.add_sub_cancel] at e1
      cases k with
      | zero => rw [numK_zero]; omega
      | succ k =>
        have e2 := numK_cons (ps := ps) x l (k + 1)
        rw [if_neg (Nat.succ_ne_zero k), Nat.add_sub_cancel] at e2
        rw [e2]
        by_cases e : numK ps l (k + 1 + 1) = 0
        · have := ih (l.filter fun y => ind ps y x) k (by omega) (by omega)
          omega
        · have := ih l (k + 1) (by omega) e
          omega
/-- the clique polynomial of an alphabet -/
structure IsPoly (ps : List (List Nat)) (l : List Nat) (p : List Int) : Prop where
  ne : p ≠ []
  last : p.getD (p.length - 1) 0 ≠ 0
  at_ : ∀ k, p.getD k 0 = sgn k * numI ps l k
theorem getD_big {p : List Int} {k : Nat} (h : p.length ≤ k) : p.getD k 0 = 0 := by
  rw [List.getD_eq_getElem?_getD, List.getElem?_eq_none h]
  rfl
theorem IsPoly.one {l : List Nat} {p q : List Int} (h : IsPoly ps l p) (g : IsPoly ps l q) : p = q := by
  have hp : 0 < p.length := List.length_pos_iff.mpr h.ne
  have hq : 0 < q.length := List.length_pos_iff.mpr g.ne
  have le : p.length = q.length := by
    rcases Nat.lt_trichotomy p.length q.length with l | l | l
    · exact absurd ((g.at_ _).trans (h.at_ _).symm |>.trans (getD_big (by omega))) g.last
    · exact l
    · exact absurd ((h.at_ _).trans (g.at_ _).symm |>.trans (getD_big (by omega))) h.last
  refine List.ext_getElem? fun k => ?_
  rcases Nat.lt_or_ge k p.length with lt | ge
  · have a := h.at_ k
    have b := g.at_ k
    rw [List.getD_eq_getElem?_getD, List.getElem?_eq_getElem lt] at a
    rw [List.getD_eq_getElem?_getD, List.getElem?_eq_getElem (by omega)] at b
    rw [List.getElem?_eq_getElem lt, List.getElem?_eq_getElem (by omega)]
    have a : p[k] = _ := a
    have b : q[k] = _ := b
    rw [a, b]
  · rw [List.getElem?_eq_none ge, List.getElem?_eq_none (by omega)]
theorem IsPoly.perm {l m : List Nat} {p : List Int} (h : IsPoly ps l p) (e : l.Perm m) : IsPoly ps m p := ⟨h.ne, h.last, fun k => by rw [h.at_]; unfold numI; rw [numK_perm e]⟩
/-- sums of products, added up in place -/
def addP (r : List Int) (k : Nat) (v : Int) : List Int := r.set k (r.getD k 0 + v)
def mulRow (p q : List Int) (a : Nat) (r : List Int) (j : Nat) : List Int := (List.range j).foldl (fun r b => addP r (a + b) (p.getD a 0 * q.getD b 0)) r
def mulTo (p q : List Int) (i : Nat) : List Int := (List.range i).foldl (fun r a => mulRow p q a r q.length) (List.replicate (p.length + q.length - 1) 0)
def mulL (p q : List Int) : List Int := mulTo p q p.length
theorem addP_len (r : List Int) (k : Nat) (v : Int) : (addP r k v).length = r.length := by unfold addP; rw [List.length_set]
theorem addP_get {r : List Int} {k : Nat} (v : Int) (h : k < r.length) (n : Nat) : (addP r k v).getD n 0 = r.getD n 0 + if n = k then v else 0 := by
  unfold addP
  rw [List.getD_eq_getElem?_getD, List.getElem?_set]
  by_cases e : k = n
  · subst e
    rw [if_pos rfl, if_pos h, if_pos rfl]
    rfl
  · rw [if_neg e, if_neg (fun z => e z.symm), ← List.getD_eq_getElem?_getD, Int.add_zero]
theorem mulRow_next (p q : List Int) (a : Nat) (r : List Int) (j : Nat) : mulRow p q a r (j + 1) = addP (mulRow p q a r j) (a + j) (p.getD a 0 * q.getD j 0) := by
  unfold mulRow
  rw [List.range_succ, List.foldl_append]
  rfl
theorem mulTo_next (p q : List Int) (i : Nat) : mulTo p q (i + 1) = mulRow p q i (mulTo p q i) q.length := by
  unfold mulTo
  rw [List.range_succ, List.foldl_append]
  rfl
theorem mulRow_len (p q : List Int) (a : Nat) (r : List Int) : ∀ j, (mulRow p q a r j).length = r.length
  | 0 => rfl
  | j + 1 => by rw [mulRow_next, addP_len, mulRow_len p q a r j]
theorem mulTo_len (p q : List Int) : ∀ i, (mulTo p q i).length = p.length + q.length - 1
  | 0 => List.length_replicate
  | i + 1 => by rw [mulTo_next, mulRow_len, mulTo_len p q i]
theorem mulRow_get (p q : List Int) (a : Nat) (r : List Int) (n : Nat) : ∀ j, a + j ≤ r.length → (mulRow p q a r j).getD n 0 = r.getD n 0 + if a ≤ n ∧ n - a < j then p.getD a 0 * q.getD (n - a) 0 else 0
  | 0, _ => by rw [if_neg (by omega), Int.add_zero]; rfl
  | j + 1, h => by
    rw [mulRow_next, addP_get _ (by rw [mulRow_len]; omega), mulRow_get p q a r n j (by omega)]
    by_cases e : n = a + j
    · rw [if_pos e, if_neg (by omega), if_pos (by omega), Int.add_zero, e, Nat.add_sub_cancel_left]
    · rw [if_neg e, Int.add_zero]
      by_cases c : a ≤ n ∧ n - a < j
      · rw [if_pos c, if_pos (by omega)]
      · rw [if_neg c, if_neg (by omega)]
theorem mulTo_get (p q : List Int) (n : Nat) : ∀ i, i ≤ p.length → (mulTo p q i).getD n 0 = ((List.range i).map fun a => if a ≤ n ∧ n - a < q.length then p.getD a 0 * q.getD (n - a) 0 else 0).sum
  | 0, _ => by
    show (List.replicate (p.length + q.length - 1) (0 : Int)).getD n 0 = 0
    rw [List.getD_eq_getElem?_getD, List.getElem?_replicate]
    split <;> rfl
  | i + 1, h => by
    rw [mulTo_next, mulRow_get _ _ _ _ _ _ (by rw [mulTo_len]; omega), mulTo_get p q n i (by omega), List.range_succ, List.map_append, List.sum_append]
    simp
theorem sum_range_more (f : Nat → Int) (m : Nat) : ∀ d, (∀ i, m ≤ i → f i = 0) → ((List.range (m + d)).map f).sum = ((List.range m).map f).sum
  | 0, _ => rfl
  | d + 1, h => by
    rw [← Nat.add_assoc, List.range_succ, List.map_append, List.sum_append, sum_range_more f m d h]
    simp [h (m + d) (by omega)]
theorem sum_range_eq (f : Nat → Int) {m n : Nat} (hm : ∀ i, m ≤ i → f i = 0) (hn : ∀ i, n ≤ i → f i = 0) : ((List.range m).map f).sum = ((List.range n).map f).sum := by
  rcases Nat.le_total m n with l | l
  · obtain ⟨d, rfl⟩ := Nat.le.dest l
    exact (sum_range_more f m d hm).symm
  · obtain ⟨d, rfl⟩ := Nat.le.dest l
    exact sum_range_more f n d hn
theorem mulL_get (p q : List Int) (n : Nat) : (mulL p q).getD n 0 = convI (fun i => p.getD i 0) (fun i => q.getD i 0) n := by
  unfold mulL
  rw [mulTo_get p q n p.length (Nat.le_refl _)]
  have e1 : ∀ m, ((List.range m).map fun a => if a ≤ n ∧ n - a < q.length then p.getD a 0 * q.getD (n - a) 0 else 0).sum = ((List.range m).map fun a => if a ≤ n then p.getD a 0 * q.getD (n - a) 0 else 0).sum := fun m => isum_congr _ fun a _ => by
    by_cases c : a ≤ n
    · rw [if_pos c]
      by_cases d : n - a < q.length
      · rw [if_pos ⟨c, d⟩]
      · rw [if_neg (by omega), getD_big (p := q) (by omega), Int.mul_zero]
    · rw [if_neg c, if_neg (by omega)]
  rw [e1]
  have e2 : convI (fun i => p.getD i 0) (fun i => q.getD i 0) n = ((List.range (n + 1)).map fun a => if a ≤ n then p.getD a 0 * q.getD (n - a) 0 else 0).sum := isum_congr _ fun a ha => by
    have := List.mem_range.mp ha
    rw [if_pos (by omega)]
  rw [e2]
  refine sum_range_eq _ (fun i hi => ?_) fun i hi => by rw [if_neg (by omega)]
  split
  · rw [getD_big hi, Int.zero_mul]
  · rfl
theorem mulL_len (p q : List Int) : (mulL p q).length = p.length + q.length - 1 := mulTo_len p q p.length
theorem mulL_last {p q : List Int} (hp : p ≠ []) (hq : q ≠ []) : (mulL p q).getD (p.length + q.length - 2) 0 = p.getD (p.length - 1) 0 * q.getD (q.length - 1) 0 := by
  have l1 := List.length_pos_iff.mpr hp
  have l2 := List.length_pos_iff.mpr hq
  rw [mulL_get]
  unfold convI
  have e : p.length + q.length - 2 + 1 = (p.length - 1) + 1 + (q.length - 1) := by omega
  rw [e, sum_range_more _ (p.length - 1 + 1) (q.length - 1) fun i hi => by
    show p.getD i 0 * q.getD _ 0 = 0
    rw [getD_big (show p.length ≤ i by omega), Int.zero_mul], List.range_succ, List.map_append, List.sum_append, isum_zero]
  · have e2 : p.length + q.length - 2 - (p.length - 1) = q.length - 1 := by omega
    simp [e2]
  · intro i hi
    have := List.mem_range.mp hi
    show p.getD i 0 * q.getD (p.length + q.length - 2 - i) 0 = 0
    rw [getD_big (show q.length ≤ p.length + q.length - 2 - i by omega), Int.mul_zero]
/-- the polynomials of independent lots are multiplied -/
theorem IsPoly.mul {A B : List Nat} {p q : List Int} (hp : IsPoly ps A p) (hq : IsPoly ps B q) (hind : ∀ x ∈ A, ∀ y ∈ B, ind ps y x = true) : IsPoly ps (A ++ B) (mulL p q) := by
  have l1 := List.length_pos_iff.mpr hp.ne
  have l2 := List.length_pos_iff.mpr hq.ne
  refine ⟨fun z => ?_, ?_, fun k => ?_⟩
  · have := congrArg List.length z
    rw [mulL_len, List.length_nil] at this
    omega
  · rw [mulL_len, show p.length + q.length - 1 - 1 = p.length + q.length - 2 by omega, mulL_last hp.ne hq.ne]
    exact Int.mul_ne_zero hp.last hq.last
  · rw [mulL_get, numI_conv B A.length A (Nat.le_refl _) hind]
    unfold convI
    rw [← isum_mul]
    refine isum_congr _ fun i hi => ?_
    have := List.mem_range.mp hi
    show p.getD i 0 * q.getD (k - i) 0 = _
    rw [hp.at_, hq.at_, show sgn k = sgn i * sgn (k - i) by rw [← sgn_add]; congr 1; omega]
    ac_rfl
theorem IsPoly.unit : IsPoly ps [] [1] := ⟨by simp, by decide, fun k => by
  unfold numI
  rw [numK_nil]
  cases k with
  | zero => rfl
  | succ k => rw [if_neg (by omega)]; simp⟩
end TcG
/-! What a def leaves while a dict is walked through. -/
namespace TcG
open PySem PySem.Spec PyProof.Rows L2
theorem Gr.unlock {S : List Addr} {H H' : Hp} {d : Addr} {od : Obj} {u : HO} (hd : H d = some u) (nt : ∀ ps, u ≠ .tbl ps) (g : Gr S (upd H d (.frz od u)) H') (hf : H' d = some (.frz od u)) : Gr S H (upd H' d u) := by
  refine ⟨g.tab.put fun ps z => (by rw [hf] at z; cases z), fun b o _ n e => ?_, fun b e => ?_, fun b ps m e => ?_⟩
  · by_cases z : b = d
    · rw [z, upd_same, ← hd, ← z]
      exact e
    · rw [upd_ne z]
      exact g.keep b o (by simp) n (by rw [upd_ne z]; exact e)
  · by_cases z : b = d
    · rw [z, upd_same] at e
      cases e
    · rw [upd_ne z] at e
      have := g.there.back b e
      rw [upd_ne z] at this
      exact this
  · have z : b ≠ d := fun z => by
      rw [z, hd] at e
      exact nt ps (Option.some.inj e)
    rw [upd_ne z]
    exact g.there.out b ps m (by rw [upd_ne z]; exact e)
theorem Tabs.lock {S : List Addr} {H : Hp} {d : Addr} {od : Obj} {u : HO} (t : Tabs S H) (hd : H d = some u) (nt : ∀ ps, u ≠ .tbl ps) : Tabs S (upd H d (.frz od u)) := t.put fun ps z => by
  rw [hd] at z
  exact nt ps (Option.some.inj z)
theorem Alpha.lock {K : PySem.W.Frag} {H : Hp} {al d : Addr} {od : Obj} {kvs : List (Key × V)} {ls : List Nat} {ps : List (List Nat)} (h : Alpha K H al ls ps) (hd : H d = some (.dK kvs)) : Alpha K (upd H d (.frz od (.dK kvs))) al ls ps := by
  obtain ⟨pt, h1, h2⟩ := h
  have notT : ∀ p ∈ [d], ∀ u, Rd H p u → ∀ ys, u ≠ .tup ys := fun p hp u r ys z => by
    rw [List.mem_singleton.mp hp] at r
    have := rd_of hd (fun _ _ z => by cases z) r
    rw [this] at z
    cases z
  have k : Kp [d] H (upd H d (.frz od (.dK kvs))) := fun b o n _ e => by
    rw [upd_ne fun z => n (by rw [z]; exact List.mem_cons_self)]
    exact e
  exact ⟨pt, k.seqT h1 notT, k.seqT h2 notT⟩
end TcG
namespace TcG
open PySem PySem.Spec PyProof.Rows L2
/-- one table is written -/
theorem Gr.mvT {S : List Addr} {Pt : Addr} {H H' : Hp} (t : Tabs S H) (mem : Pt ∈ S) (mv : Mv [Pt] H H') (tab : GxR.TabG H' Pt) : Gr S H H' := by
  obtain ⟨ps0, e0, r0⟩ := t Pt mem
  refine ⟨fun P hP => ?_, fun a o _ nt e => ?_, fun a n => ?_, fun a ps m e => mv a _ (fun z => m (by rw [List.mem_singleton.mp z]; exact mem)) e⟩
  · by_cases e : P = Pt
    · rw [e]
      exact tab
    · obtain ⟨ps, e1, r⟩ := t P hP
      exact ⟨ps, mv P _ (fun z => e (List.mem_singleton.mp z)) e1, r⟩
  · refine mv a o (fun z => ?_) e
    rw [List.mem_singleton.mp z, e0] at e
    exact nt ps0 (Option.some.inj e).symm
  · by_cases e : a = Pt
    · obtain ⟨ps, e1, _⟩ := tab
      rw [e, e1] at n
      cases n
    · cases h : H a with
      | none => rfl
      | some o =>
        rw [mv a o (fun z => e (List.mem_singleton.mp z)) h] at n
        cases n
end TcG
namespace TcG
open PySem PySem.Spec PyProof.Rows L2
theorem seqT_same {K : PySem.W.Frag} {H H' : Hp} {a : Addr} {xs : List V} (h : SqT K H a xs) (s : Same H H') : SqT K H' a xs := (Kp.same (W := []) s).seqT h fun _ hp => nomatch hp
theorem seqL_same {K : PySem.W.Frag} {H H' : Hp} {a : Addr} {xs : List V} (h : SqL K H a xs) (s : Same H H') : SqL K H' a xs := (Kp.same (W := []) s).seqL h fun _ hp => nomatch hp
end TcG
/-! The making of a lambda touches the maker's own table only. -/
namespace TcG
open PySem PySem.Spec PyProof.Rows PySem.W L2
/-- all but what stands at P stays -/
def ExtP (P : Addr) (H H' : Hp) : Prop := ∀ b o, b ≠ P → H b = some o → H' b = some o
theorem ExtP.refl (P : Addr) (H : Hp) : ExtP P H H := fun _ _ _ h => h
theorem ExtP.trans {P : Addr} {H H1 H2 : Hp} (a : ExtP P H H1) (b : ExtP P H1 H2) : ExtP P H H2 := fun x o n h => b x o n (a x o n h)
theorem ExtP.of {P : Addr} {H H' : Hp} (s : Same H H') : ExtP P H H' := fun x o _ h => s x o h
theorem ExtP.mv {P : Addr} {H H' : Hp} (e : ExtP P H H') : Mv [P] H H' := fun x o n h => e x o (fun z => n (List.mem_singleton.mpr z)) h
theorem ExtP.there {P : Addr} {q : Str} {H H' : Hp} (e : ExtP P H H') (t : LamX.TabS H' P q) : ∀ a, H' a = none → H a = none := fun a h => by
  by_cases z : a = P
  · obtain ⟨ps, h1, _⟩ := t
    rw [z, h1] at h
    cases h
  · cases k : H a with
    | none => rfl
    | some o =>
      rw [e a o z k] at h
      cases h
/-- a table of lambdas stays where all but lists stay -/
theorem tabS_mv {W : List Addr} {P : Addr} {q : Str} {H H' : Hp} (t : LamX.TabS H P q) (m : Mv W H H') (n : ∀ w ∈ W, ∃ xs, H w = some (.lst xs)) : LamX.TabS H' P q := by
  obtain ⟨ps, h1, h2, h3⟩ := t
  refine ⟨ps, m _ _ (fun z => ?_) h1, h2, fun pos cv hc => ?_⟩
  · obtain ⟨xs, e⟩ := n _ z
    rw [h1] at e
    cases e
  · obtain ⟨c, e1, e2⟩ := h3 pos cv hc
    refine ⟨c, e1, m _ _ (fun z => ?_) e2⟩
    obtain ⟨xs, e⟩ := n _ z
    rw [e2] at e
    cases e
theorem tabS_gr {S : List Addr} {P : Addr} {q : Str} {H H' : Hp} (t : LamX.TabS H P q) (g : Gr S H H') (n : P ∉ S) : LamX.TabS H' P q := by
  obtain ⟨ps, h1, h2, h3⟩ := t
  refine ⟨ps, g.there.out _ _ n h1, h2, fun pos cv hc => ?_⟩
  obtain ⟨c, e1, e2⟩ := h3 pos cv hc
  exact ⟨c, e1, g.keep _ _ (by simp) LamX.codeO_ne e2⟩
theorem tabS_same {P : Addr} {q : Str} {H H' : Hp} (t : LamX.TabS H P q) (s : Same H H') : LamX.TabS H' P q := t.ext s
/-- what a lambda's making leaves of tables elsewhere -/
theorem Tabs.extP {S : List Addr} {P : Addr} {H H' : Hp} (t : Tabs S H) (e : ExtP P H H') (n : P ∉ S) : Tabs S H' := fun a ha => let ⟨ps, h1, r⟩ := t a ha; ⟨ps, e a _ (fun z => n (by rw [← z]; exact ha)) h1, r⟩

theorem lam_put {X : Cx} {pins : List (Addr × Obj)} {σ : L2.St} {H : Hp} {s : Shared} {c P : Addr} {ar : Arguments} {e : Expr} {sc : Scope} {at_ : Pos} {E Q : Value → Shared → Prop} (I : Inv X pins σ H s) (B : LamX.TabB X.base X.mg c P) (hcd : X.env.code = .ref c)
    (T : LamX.TabS H P (X.env.qual ++ "<lambda>")) (nod : defaultsOf ar X.env = ([], [])) (nof : ∀ y ∈ sc.names, y.2 ≠ .free)
    (go : ∀ (f d : Addr) (m v : Value) (H1 : Hp) (s1 : Shared), Inv X pins σ H1 s1 → ExtP P H H1 → LamX.TabS H1 P (X.env.qual ++ "<lambda>") → s1.heap.get? f = some (kla_obj "<lambda>" (X.env.qual ++ "<lambda>") ar e sc (cloFrom X.env.cells sc.names []) m d v) →
      H1 d = some (LamX.CodeO d (X.env.qual ++ "<lambda>")) → Q (.ref f) s1) : wpAny (model X.prog X.w) X.A (eval (.Lambda ar e sc at_) X.env) Q E s := by
  obtain ⟨ps, hP, tr, nm⟩ := T
  have real := I.hok P _ hP
  have glob := I.mod.glob.keeps I.bk
  have clo := closure_ok (scope := sc) (env := X.env) fun y hy z => absurd z (nof y hy)
  refine kla_eval nod ?_
  cases among : codeAmong at_ ps.toList with
  | some v =>
    obtain ⟨d, rfl, hd⟩ := nm _ _ among
    exact kla_makeFunctionHit (mg := X.mg) (P := P) (c := c) (ps := ps) clo I.ok.glob glob hcd (B.code.keeps I.bk) real tr among (B.bm.keeps I.bk) fun v h1 tk grow _ =>
      go _ d _ v H _ (I.kept fun x o z => Heap.get?_push_of_some _ (grow x o z)) (.refl P H) ⟨ps, hP, tr, nm⟩ (Heap.get?_push_size _ rfl) hd
  | none =>
    refine kla_makeFunction (mg := X.mg) (P := P) (c := c) (ps := ps) clo I.ok.glob glob hcd (B.code.keeps I.bk) real tr among B.gP (B.bm.keeps I.bk) fun d v h1 tk grow low high rec tab => ?_
    obtain ⟨d2, oc, vs, t, e2, r1, r2, r3⟩ := rec
    cases e2
    have nd : H d = none := I.hok.fresh low
    have J := LamX.inv_table (t' := tk) (more := #[rawInt at_.line, rawInt at_.col, .ref d]) (h' := h1.push (kla_obj "<lambda>" (X.env.qual ++ "<lambda>") ar e sc (cloFrom X.env.cells sc.names []) ((X.mg "__name__").getD .none) d v)) I hP
      (fun x o nx z => Heap.get?_push_of_some _ (grow x o nx z)) (Heap.get?_push_of_some _ tab) low ⟨oc, vs, t, Heap.get?_push_of_some _ r1, r2, r3⟩
    have ext : ExtP P H (upd (upd H P (.tbl (ps ++ #[rawInt at_.line, rawInt at_.col, .ref d]))) d (LamX.CodeO d (X.env.qual ++ "<lambda>"))) := fun x o nx z => by
      rw [upd_ne (ne_of_none z nd), upd_ne nx]
      exact z
    have list : (ps ++ #[rawInt at_.line, rawInt at_.col, .ref d]).toList = ps.toList ++ [rawInt at_.line, rawInt at_.col, .ref d] := Array.toList_append
    refine go _ d _ v _ _ J ext ⟨_, by rw [upd_ne (ne_of_none hP nd), upd_same], by rw [list]; exact TriplesOk_snoc _ _ _ _ tr, fun pos cv hc => ?_⟩ (Heap.get?_push_size _ rfl) upd_same
    rw [list] at hc
    rcases LamX.among_app _ tr hc with old | new
    · obtain ⟨b, e1, e2⟩ := nm _ _ old
      refine ⟨b, e1, ext _ _ (fun z => ?_) e2⟩
      rw [z, hP] at e2
      exact absurd (Option.some.inj e2).symm (LamX.codeO_ne ps)
    · exact ⟨d, new, upd_same⟩

/-- sorted(e, key=lambda y: (len(y), y)), e a list of texts: what it leaves -/
def tSortP (P : Addr) (q : Str) (te : TE) : TE := fun σ H Q => te σ H fun x H1 => ∃ (a : Addr) (xs : List Str), x = .ref a ∧ H1 a = some (.lst (xs.map V.str)) ∧ xs.length ≤ sizeLine ∧ (∀ x ∈ xs, x.length ≤ sizeLine) ∧ LamX.TabS H1 P q ∧
  ∀ (H2 : Hp) (ys : List Str) (p : Addr), ExtP P H1 H2 → LamX.TabS H2 P q → ys.Perm xs → ys = xs.mergeSort (dataLe false lamKey) → H2 p = none → Q (.ref p) (upd H2 p (.lst (ys.map V.str)))
theorem pe_sortedP {X : Cx} {c P : Addr} {e : Expr} {te : TE} {y q : Str} {k : Nat} {p p0 p1 p2 p3 p4 p5 lp kp pos : Pos} (TB : LamX.TabB X.base X.mg c P) (hcode : X.env.code = .ref c) (hq : q = X.env.qual ++ "<lambda>")
    (he : PE X e te) (hg : Gl X "sorted") (hms : X.mg "sorted" = none) (hml : X.mg "len" = none) (hr : Room 1 X.A) (dy : (y == ("__debug__" : Str)) = false) (yl : (Str.ofString "len" == y) = false)
    (hbind : ∀ (q : Str) (pm ctv cv v : Value), bindArgs (kla_fn "<lambda>" q (lamArgs y p0) (lamBody y p1 p2 p3 p4 p5 k) (lamScope y) [] pm cv ctv) ⟨[v], []⟩ = pure [(y, v)])
    (hs : backTo pos (starEach [e] X.env) = (false, eval e X.env) :: backTo pos (starEach [] X.env) := by rfl) (hpl : (backTo pos (starEach [e] X.env)).any (·.1) = false := by rfl) :
    PE X (.Call (.Name "sorted" p) [e] [⟨some "key", .Lambda (lamArgs y p0) (lamBody y p1 p2 p3 p4 p5 k) (lamScope y) lp, kp⟩] pos) (tSortP P q te) := by
  subst hq
  refine ⟨fun pins s σ H Q I h => ?_⟩
  refine wpAny_Call_Name_kw (ld_blt I hg hms (show bootBuiltins (Str.ofString "sorted") = some (.builtin "sorted") by decide +kernel) ?_)
  refine PyProof.Rows.callWith_kw (by
    rw [hs]
    refine Calls.spliced_cons (thn (he.run pins s σ H _ I h) fun u s1 ⟨x, H1, I1, r1, q1⟩ => Calls.spliced_nil ?_)
    obtain ⟨a, xs, rfl, ha, hz, hx, hT, q⟩ := q1
    obtain rfl : u = Value.ref a := r1
    show wpAny _ _ (evalAll [(do let v ← eval (.Lambda (lamArgs y p0) (lamBody y p1 p2 p3 p4 p5 k) (lamScope y) lp) X.env; standAt pos; pure v)]) _ _ s1
    refine wpAny_evalAll_cons (wpAny_bind (lam_put I1 TB hcode hT rfl (fun z hz => ?_) fun f c' pm ctv H2 s2 I2 ext hT2 hf hc' => wpAny_bind (wpAny_standAt (wpAny_pure (wpAny_evalAll_nil ?_)))))
    · refine fun ez => ?_
      rcases List.mem_cons.mp hz with e1 | hz
      · rw [e1] at ez
        cases ez
      · rw [List.mem_singleton.mp hz] at ez
        cases ez
    · have aP : a ≠ P := fun z => by
        obtain ⟨ps, h1, _⟩ := hT
        rw [z, h1] at ha
        cases ha
      have ha2 : H2 a = some (.lst (xs.map V.str)) := ext a _ aP ha
      refine sorted_lam I2 (SqL.of ha2) hz (by have := hr.un; omega) (fun x t h tk hxx kp => ?_) fun ys p pm2 so np => q H2 ys p ext hT2 pm2 so np
      have J := I2.kept (t' := tk) kp
      obtain ⟨⟨oc, vs, t', hoc, hdc, hvc⟩, _, _⟩ := I2.hok c' _ hc'
      obtain ⟨mb, h1, h2⟩ := J.mod.blt
      refine call_lam_len (kp _ _ hf) ⟨c', oc, vs, t', rfl, kp _ _ hoc, hdc, hvc⟩ ?_ J.nolimit rfl rfl rfl ?_ ?_ ?_ (hbind _ _ _ _ _) (J.mod.glob.keeps J.bk) hml (h1.keeps J.bk) ((h2 _ (by decide)).trans (by decide +kernel)) (hx x hxx) dy
      · have := hr.dp
        show X.A.depth < recursionLimit
        omega
      · intro z hz
        rcases List.mem_cons.mp hz with e1 | hz
        · rw [e1]
          exact fun z => by cases z
        · rw [List.mem_singleton.mp hz]
          exact fun z => by cases z
      · unfold lamScope
        rw [List.lookup_cons, beq_self_eq_true]
      · unfold lamScope
        rw [List.lookup_cons, yl, List.lookup_cons, beq_self_eq_true]) hs hpl rfl rfl
end TcG
namespace TcG
open PySem PySem.Spec PyProof.Rows PySem.W L2
theorem seqL_extP {K : Frag} {P : Addr} {q : Str} {H H' : Hp} {a : Addr} {xs : List V} (h : SqL K H a xs) (e : ExtP P H H') (t : LamX.TabS H P q) : SqL K H' a xs := by
  obtain ⟨ps, h1, _⟩ := t
  refine Kp.seqL (W := [P]) (fun a o n _ z => e a o (fun w => n (by rw [w]; exact List.mem_cons_self)) z) h fun p hp u r => ?_
  rw [List.mem_singleton.mp hp] at r
  have := rd_of h1 (fun _ _ z => by cases z) r
  rw [this]
  exact fun z => by cases z
theorem seqT_extP {K : Frag} {P : Addr} {q : Str} {H H' : Hp} {a : Addr} {xs : List V} (h : SqT K H a xs) (e : ExtP P H H') (t : LamX.TabS H P q) : SqT K H' a xs := by
  obtain ⟨ps, h1, _⟩ := t
  refine Kp.seqT (W := [P]) (fun a o n _ z => e a o (fun w => n (by rw [w]; exact List.mem_cons_self)) z) h fun p hp u r ys => ?_
  rw [List.mem_singleton.mp hp] at r
  have := rd_of h1 (fun _ _ z => by cases z) r
  rw [this]
  exact fun z => by cases z
theorem alpha_extP {K : Frag} {P : Addr} {q : Str} {H H' : Hp} {a : Addr} {ls : List Nat} {ps : List (List Nat)} (h : Alpha K H a ls ps) (e : ExtP P H H') (t : LamX.TabS H P q) : Alpha K H' a ls ps := by
  obtain ⟨pt, h1, h2⟩ := h
  exact ⟨pt, seqT_extP h1 e t, seqT_extP h2 e t⟩
theorem box_extP {K : Frag} {P : Addr} {q : Str} {H H' : Hp} {b dl : Addr} (h : Box K b dl H) (e : ExtP P H H') (t : LamX.TabS H P q) : Box K b dl H' := by
  obtain ⟨ds, n, hb, hn, hd⟩ := h
  have t' := t
  obtain ⟨ps, h1, _⟩ := t'
  exact ⟨ds, n, e _ _ (fun z => by rw [z, h1] at hb; cases hb) hb, hn, seqL_extP hd e t⟩
end TcG
/-! One dict is written: what stays. -/
namespace TcG
open PySem PySem.Spec PyProof.Rows L2
section
variable {K : PySem.W.Frag} {d : Addr} {kvs : List (Key × V)} {H H' : Hp}
theorem rd_dict (hd : H d = some (.dK kvs)) : ∀ p ∈ [d], ∀ u, Rd H p u → u = .dK kvs := fun p hp u r => by
  rw [List.mem_singleton.mp hp] at r
  exact rd_of hd (fun _ _ z => by cases z) r
theorem alpha_dict {al : Addr} {ls : List Nat} {ps : List (List Nat)} (h : Alpha K H al ls ps) (hd : H d = some (.dK kvs)) (m : Mv [d] H H') : Alpha K H' al ls ps := by
  obtain ⟨pt, h1, h2⟩ := h
  have notT : ∀ p ∈ [d], ∀ u, Rd H p u → ∀ ys, u ≠ .tup ys := fun p hp u r ys z => by
    rw [rd_dict hd p hp u r] at z
    cases z
  exact ⟨pt, m.seqT h1 notT, m.seqT h2 notT⟩
theorem box_dict {b dl : Addr} (h : Box K b dl H) (hd : H d = some (.dK kvs)) (m : Mv [d] H H') : Box K b dl H' := by
  obtain ⟨ds, n, hb, hn, hq⟩ := h
  refine ⟨ds, n, m _ _ (fun z => ?_) hb, hn, m.seqL hq fun p hp u r z => ?_⟩
  · rw [List.mem_singleton.mp z, hd] at hb
    cases hb
  · rw [rd_dict hd p hp u r] at z
    cases z
theorem tabs_dict {S : List Addr} (t : Tabs S H) (hd : H d = some (.dK kvs)) (m : Mv [d] H H') : Tabs S H' := fun P hP => by
  obtain ⟨ts, h1, r⟩ := t P hP
  refine ⟨ts, m _ _ (fun z => ?_) h1, r⟩
  rw [List.mem_singleton.mp z, hd] at h1
  cases h1
theorem tabS_dict {P : Addr} {q : Str} (t : LamX.TabS H P q) (hd : H d = some (.dK kvs)) (m : Mv [d] H H') : LamX.TabS H' P q := by
  obtain ⟨ts, h1, h2, h3⟩ := t
  refine ⟨ts, m _ _ (fun z => ?_) h1, h2, fun pos cv hc => ?_⟩
  · rw [List.mem_singleton.mp z, hd] at h1
    cases h1
  · obtain ⟨c, e1, e2⟩ := h3 pos cv hc
    refine ⟨c, e1, m _ _ (fun z => ?_) e2⟩
    rw [List.mem_singleton.mp z, hd] at e2
    cases e2
theorem lst_dict {p : Addr} {xs : List V} (h : H p = some (.lst xs)) (hd : H d = some (.dK kvs)) (m : Mv [d] H H') : H' p = some (.lst xs) := m _ _ (fun z => by
  rw [List.mem_singleton.mp z, hd] at h
  cases h) h
end
end TcG
/-! Lists of alphabets, and sorting them. -/
namespace TcG
open PySem PySem.Spec PyProof.Rows L2 PySem.W
def alfD (d : List Nat × List (List Nat)) : PyData := .tuple [.str (Str.ofString "alphabet"), .str (tx d.1), .tuple (d.2.map fun p => .str (tx p))]
def Alfs (K : PySem.W.Frag) (H : Hp) (rs : List Addr) (D : List (List Nat × List (List Nat))) : Prop := Paired (fun r (d : List Nat × List (List Nat)) => Alpha K H r d.1 d.2) rs D
theorem dp_txs (K : PySem.W.Frag) (H : Hp) : ∀ ps : List (List Nat), DpAll K H (txs ps) (ps.map fun p => .str (tx p))
  | [] => .nil
  | p :: ps => .cons (.str _) (dp_txs K H ps)
theorem Alpha.dp {K : PySem.W.Frag} {H : Hp} {r : Addr} {d : List Nat × List (List Nat)} (h : Alpha K H r d.1 d.2) : Dp K H (.ref r) (alfD d) := by
  obtain ⟨pt, h1, h2⟩ := h
  exact .tup h1 (.cons (.str _) (.cons (.str _) (.cons (.tup h2 (dp_txs K H d.2)) .nil)))
theorem Alfs.dp {K : PySem.W.Frag} {H : Hp} {rs : List Addr} {D : List (List Nat × List (List Nat))} (h : Alfs K H rs D) : DpAll K H (rs.map V.ref) (D.map alfD) := by
  unfold Alfs at h
  induction h with
  | nil => exact .nil
  | cons e _ ih => exact .cons (Alpha.dp e) ih
theorem Alfs.len {K : PySem.W.Frag} {H : Hp} {rs : List Addr} {D : List (List Nat × List (List Nat))} (h : Alfs K H rs D) : rs.length = D.length := by
  unfold Alfs at h
  induction h with
  | nil => rfl
  | cons _ _ ih => rw [List.length_cons, List.length_cons, ih]
theorem Alfs.mono {K : PySem.W.Frag} {H H' : Hp} {rs : List Addr} {D : List (List Nat × List (List Nat))} (m : ∀ r ls ps, Alpha K H r ls ps → Alpha K H' r ls ps) (h : Alfs K H rs D) : Alfs K H' rs D := by
  unfold Alfs at h ⊢
  induction h with
  | nil => exact .nil
  | cons e _ ih => exact .cons (m _ _ _ e) ih
theorem Alfs.same {K : PySem.W.Frag} {H H' : Hp} {rs : List Addr} {D : List (List Nat × List (List Nat))} (h : Alfs K H rs D) (m : Same H H') : Alfs K H' rs D := h.mono fun _ _ _ e => e.same m
theorem Alfs.gr {K : PySem.W.Frag} {S : List Addr} {H H' : Hp} {rs : List Addr} {D : List (List Nat × List (List Nat))} (h : Alfs K H rs D) (m : Gr S H H') : Alfs K H' rs D := h.mono fun _ _ _ e => e.gr m
theorem Alfs.snoc {K : PySem.W.Frag} {H : Hp} {rs : List Addr} {D : List (List Nat × List (List Nat))} {p : Addr} {d : List Nat × List (List Nat)} (h : Alfs K H rs D) (e : Alpha K H p d.1 d.2) : Alfs K H (rs ++ [p]) (D ++ [d]) := by
  unfold Alfs at h ⊢
  induction h with
  | nil => exact .cons e .nil
  | cons e1 _ ih => exact .cons e1 ih
theorem Alpha.putL {K : PySem.W.Frag} {H : Hp} {q : Addr} {o : HO} {xs : List V} {r : Addr} {ls : List Nat} {ps : List (List Nat)} (h : Alpha K H r ls ps) (hq : H q = some (.lst xs)) : Alpha K (upd H q o) r ls ps := by
  obtain ⟨pt, h1, h2⟩ := h
  have k : Kp [q] H (upd H q o) := fun a u m _ e => by rw [upd_ne fun z => m (by rw [z]; exact List.mem_cons_self)]; exact e
  have n : ∀ p ∈ [q], ∀ u, Rd H p u → ∀ ys, u ≠ .tup ys := fun p hp u hu ys z => by
    rw [List.mem_singleton.mp hp, z] at hu
    rcases hu with e | ⟨_, e⟩ <;> rw [hq] at e <;> cases e
  exact ⟨pt, k.seqT h1 n, k.seqT h2 n⟩
theorem Alfs.putL {K : PySem.W.Frag} {H : Hp} {q : Addr} {o : HO} {xs : List V} {rs : List Addr} {D : List (List Nat × List (List Nat))} (h : Alfs K H rs D) (hq : H q = some (.lst xs)) : Alfs K (upd H q o) rs D := h.mono fun _ _ _ e => e.putL hq
theorem Alfs.at {K : PySem.W.Frag} {H : Hp} {rs : List Addr} {D : List (List Nat × List (List Nat))} (h : Alfs K H rs D) : ∀ {i : Nat} {x : V}, (rs.map V.ref)[i]? = some x → ∃ r d, x = .ref r ∧ D[i]? = some d ∧ Alpha K H r d.1 d.2 := by
  unfold Alfs at h
  induction h with
  | nil => exact fun h => (nomatch h)
  | @cons p d _ _ e _ ih =>
    intro i x hx
    cases i with
    | zero => exact ⟨p, d, (Option.some.inj hx).symm, rfl, e⟩
    | succ i => exact ih hx
def leA (a b : List Nat × List (List Nat)) : Bool := dataLe false (id : PyData → PyData) (alfD a) (alfD b)
def sortA (D : List (List Nat × List (List Nat))) : List (List Nat × List (List Nat)) := D.mergeSort leA
theorem alfs_paired {K : PySem.W.Frag} {H : Hp} : ∀ (T : List (Addr × List Nat × List (List Nat))), (∀ t ∈ T, Alpha K H t.1 t.2.1 t.2.2) → Alfs K H (T.map Prod.fst) (T.map Prod.snd)
  | [], _ => .nil
  | t :: T, h => .cons (h t List.mem_cons_self) (alfs_paired T fun u hu => h u (List.mem_cons_of_mem _ hu))
theorem Alfs.zip {K : PySem.W.Frag} {H : Hp} {rs : List Addr} {D : List (List Nat × List (List Nat))} (h : Alfs K H rs D) : ∀ t ∈ rs.zip D, Alpha K H t.1 t.2.1 t.2.2 := by
  unfold Alfs at h
  induction h with
  | nil => exact fun t h => (nomatch h)
  | cons e _ ih =>
    intro t ht
    rw [List.zip_cons_cons] at ht
    rcases List.mem_cons.mp ht with z | z
    · rw [z]; exact e
    · exact ih t z
theorem alfs_sorted {K : PySem.W.Frag} {H : Hp} {rs : List Addr} {D : List (List Nat × List (List Nat))} {L : List (V × PyData)} (h : Alfs K H rs D) (e : L = ((rs.map V.ref).zip (D.map alfD)).mergeSort (dataLe false Prod.snd)) :
    ∃ rs', L.map Prod.fst = rs'.map V.ref ∧ Alfs K H rs' (sortA D) := by
  have z1 : (rs.map V.ref).zip (D.map alfD) = (rs.zip D).map fun t => (V.ref t.1, alfD t.2) := by
    rw [List.zip_map]
    rfl
  have z2 : ((rs.zip D).mergeSort fun a b => leA a.2 b.2).map (fun t => (V.ref t.1, alfD t.2)) = ((rs.zip D).map fun t => (V.ref t.1, alfD t.2)).mergeSort (dataLe false Prod.snd) := List.map_mergeSort fun a _ b _ => rfl
  have z3 : ((rs.zip D).mergeSort fun a b => leA a.2 b.2).map Prod.snd = ((rs.zip D).map Prod.snd).mergeSort leA := List.map_mergeSort fun a _ b _ => rfl
  rw [z1, ← z2] at e
  refine ⟨((rs.zip D).mergeSort fun a b => leA a.2 b.2).map Prod.fst, ?_, ?_⟩
  · rw [e, List.map_map, List.map_map]
    rfl
  · have := alfs_paired ((rs.zip D).mergeSort fun a b => leA a.2 b.2) fun t ht => h.zip t ((List.mergeSort_perm _ _).mem_iff.mp ht)
    rw [z3, List.map_snd_zip (by rw [h.len]; exact Nat.le_refl _)] at this
    exact this
theorem alfD_alike (d e : List Nat × List (List Nat)) : alike (alfD d) (alfD e) = true := by
  have : ∀ a b : List (List Nat), alikeAll (a.map fun p => PyData.str (tx p)) (b.map fun p => PyData.str (tx p)) = true := fun a => by
    induction a with
    | nil => intro b; cases b <;> rfl
    | cons x a ih =>
      intro b
      cases b with
      | nil => rfl
      | cons y b =>
        rw [List.map_cons, List.map_cons]
        unfold alikeAll
        rw [ih b]
        rfl
  unfold alfD
  simp [alike, alikeAll, this]
theorem alfD_depth (d : List Nat × List (List Nat)) : (alfD d).depth ≤ 60 := by
  have : ∀ a : List (List Nat), PyData.depthAll (a.map fun p => PyData.str (tx p)) ≤ 1 := fun a => by
    induction a with
    | nil => simp [PyData.depthAll]
    | cons x a ih =>
      rw [List.map_cons]
      simp only [PyData.depthAll, PyData.depth]
      omega
  have h := this d.2
  unfold alfD
  simp only [PyData.depthAll, PyData.depth]
  omega
theorem alfs_same {K : PySem.W.Frag} {H : Hp} {p q : Addr} {rs us : List Addr} {D : List (List Nat × List (List Nat))} {n : Nat} (hp : H p = some (.tup (rs.map V.ref))) (hq : H q = some (.tup (us.map V.ref))) (h1 : Alfs K H rs D) (h2 : Alfs K H us D) (lD : D.length ≤ 100) (lP : ∀ d ∈ D, d.2.length ≤ 1000) : SameR K H (n + 4) (.ref p) (.ref q) := by
  have l1 := h1.len
  have l2 := h2.len
  refine .inr ⟨p, q, _, _, rfl, rfl, SqT.of hp, SqT.of hq, by rw [List.length_map, List.length_map, l1, l2], by rw [List.length_map]; omega, fun i x y hx hy => ?_⟩
  obtain ⟨r, d, rfl, hd, pr, a1, a2⟩ := h1.at hx
  obtain ⟨u, e, rfl, he, pu, b1, b2⟩ := h2.at hy
  rw [hd] at he
  cases he
  refine .inr ⟨r, u, _, _, rfl, rfl, a1, b1, rfl, by show 3 ≤ _; omega, fun j x y hx hy => ?_⟩
  match j, hx, hy with
  | 0, hx, hy => cases hx; cases hy; exact .inl ⟨rfl, rfl⟩
  | 1, hx, hy => cases hx; cases hy; exact .inl ⟨rfl, rfl⟩
  | 2, hx, hy =>
    cases hx
    cases hy
    have := lP d (List.mem_of_getElem? hd)
    exact .inr ⟨pr, pu, _, _, rfl, rfl, a2, b2, rfl, by show (txs d.2).length ≤ _; unfold txs; rw [List.length_map]; omega, strs_same (txs_flat _)⟩
  | j + 3, hx, hy => exact (nomatch hx)
/-! the pairs of some letters -/
def subP (ps : List (List Nat)) (l : List Nat) : List (List Nat) := ps.filter fun p => p.all fun c => decide (c ∈ l)
theorem numC_congr {ps qs : List (List Nat)} : ∀ (f : Nat) (l : List Nat) (k : Nat), (∀ x ∈ l, ∀ y ∈ l, ind ps x y = ind qs x y) → numC ps f l k = numC qs f l k
  | f, [], k, _ => by cases f <;> rfl
  | 0, _ :: _, _, _ => rfl
  | f + 1, x :: l, k, h => by
    have e : (l.filter fun y => ind ps y x) = l.filter fun y => ind qs y x := List.filter_congr fun y hy => h y (List.mem_cons_of_mem _ hy) x List.mem_cons_self
    show numC ps f l k + _ = numC qs f l k + _
    rw [numC_congr f l k fun a ha b hb => h a (List.mem_cons_of_mem _ ha) b (List.mem_cons_of_mem _ hb), e]
    split
    · rfl
    · rw [numC_congr f _ (k - 1) fun a ha b hb => h a (List.mem_cons_of_mem _ (List.mem_filter.mp ha).1) b (List.mem_cons_of_mem _ (List.mem_filter.mp hb).1)]
theorem IsPoly.congr {ps qs : List (List Nat)} {l : List Nat} {p : List Int} (h : ∀ x ∈ l, ∀ y ∈ l, ind ps x y = ind qs x y) (g : IsPoly ps l p) : IsPoly qs l p := ⟨g.ne, g.last, fun k => by
  rw [g.at_]
  unfold numI numK
  rw [numC_congr _ _ _ h]⟩
theorem subP_ind {ps : List (List Nat)} {l : List Nat} {x y : Nat} (hx : x ∈ l) (hy : y ∈ l) : ind (subP ps l) x y = ind ps x y := by
  have e : ∀ a b, a ∈ l → b ∈ l → ([a, b] ∈ subP ps l ↔ [a, b] ∈ ps) := fun a b ha hb => by
    unfold subP
    rw [List.mem_filter]
    simp [ha, hb]
  unfold ind
  refine decide_eq_decide.mpr (e _ _ ?_ ?_)
  · rcases Nat.le_total x y with h | h
    · rw [Nat.min_eq_left h]; exact hx
    · rw [Nat.min_eq_right h]; exact hy
  · rcases Nat.le_total x y with h | h
    · rw [Nat.max_eq_right h]; exact hy
    · rw [Nat.max_eq_left h]; exact hx
end TcG
/-! The numbers of traces by the sums over cliques; cliques by their sizes. -/
namespace TcG
open PySem PySem.Spec PyProof.Rows L2
variable {ps : List (List Nat)} {ls : List Nat}
/-! cliques, those of fewer letters first -/
def extC (ps : List (List Nat)) (ls c : List Nat) : List (List Nat) := (ls.filter fun x => decide (c.drop (c.length - 1) < [x]) && allInd ps x c).map fun x => c ++ [x]
def rowC (ps : List (List Nat)) (ls : List Nat) : Nat → List (List Nat)
  | 0 => [[]]
  | k + 1 => (rowC ps ls k).flatMap (extC ps ls)
theorem last_lt {c : List Nat} {x : Nat} : c.drop (c.length - 1) < [x] ↔ ∀ y, c.getLast? = some y → y < x := by
  rcases List.eq_nil_or_concat c with rfl | ⟨d, y, rfl⟩
  · exact ⟨fun _ y h => (nomatch h), fun _ => List.nil_lt_cons _ _⟩
  · rw [List.concat_eq_append, List.length_append, List.length_singleton, Nat.add_sub_cancel, List.drop_left, List.getLast?_append]
    show [y] < [x] ↔ _
    constructor
    · intro h z e
      cases e
      rcases List.cons_lt_cons_iff.mp h with l | ⟨_, l⟩
      · exact l
      · exact absurd l (List.not_lt_nil _)
    · intro h
      exact List.cons_lt_cons_iff.mpr (.inl (h y rfl))
theorem ext_mem {c e : List Nat} (up : ls.Pairwise (· < ·)) (hc : IsClq ps ls c) : e ∈ extC ps ls c ↔ ∃ x, e = c ++ [x] ∧ IsClq ps ls e := by
  unfold extC
  rw [List.mem_map]
  constructor
  · rintro ⟨x, hx, rfl⟩
    obtain ⟨h1, h2⟩ := List.mem_filter.mp hx
    rw [Bool.and_eq_true, decide_eq_true_eq, last_lt] at h2
    refine ⟨x, rfl, List.pairwise_append.mpr ⟨hc.up, List.pairwise_singleton _ _, fun y hy z hz => ?_⟩, fun y hy => ?_, List.pairwise_append.mpr ⟨hc.free, List.pairwise_singleton _ _, fun y hy z hz => ?_⟩⟩
    · rw [List.mem_singleton.mp hz]
      rcases List.eq_nil_or_concat c with rfl | ⟨d, l, rfl⟩
      · cases hy
      · rw [List.concat_eq_append] at hy hc h2
        have l1 := h2.1 l (by simp)
        rcases List.mem_append.mp hy with m | m
        · have := (List.pairwise_append.mp hc.up).2.2 y m l (List.mem_singleton.mpr rfl)
          omega
        · rw [List.mem_singleton.mp m]; exact l1
    · rcases List.mem_append.mp hy with m | m
      · exact hc.sub y m
      · rw [List.mem_singleton.mp m]; exact h1
    · rw [List.mem_singleton.mp hz]
      exact List.all_eq_true.mp h2.2 y hy
  · rintro ⟨x, rfl, h⟩
    refine ⟨x, List.mem_filter.mpr ⟨h.sub x (by simp), ?_⟩, rfl⟩
    rw [Bool.and_eq_true, decide_eq_true_eq, last_lt]
    refine ⟨fun y e => ?_, List.all_eq_true.mpr fun y hy => (List.pairwise_append.mp h.free).2.2 y hy x (List.mem_singleton.mpr rfl)⟩
    exact (List.pairwise_append.mp h.up).2.2 y (List.mem_of_getLast? e) x (List.mem_singleton.mpr rfl)
theorem row_mem (up : ls.Pairwise (· < ·)) : ∀ k c, c ∈ rowC ps ls k ↔ IsClq ps ls c ∧ c.length = k
  | 0, c => by
    show c ∈ [[]] ↔ _
    rw [List.mem_singleton, List.length_eq_zero_iff]
    exact ⟨fun h => ⟨by rw [h]; exact ⟨.nil, fun _ h => (nomatch h), .nil⟩, h⟩, fun h => h.2⟩
  | k + 1, c => by
    show c ∈ (rowC ps ls k).flatMap (extC ps ls) ↔ _
    rw [List.mem_flatMap]
    constructor
    · rintro ⟨d, hd, hc⟩
      obtain ⟨h1, h2⟩ := (row_mem up k d).mp hd
      obtain ⟨x, rfl, h3⟩ := (ext_mem up h1).mp hc
      exact ⟨h3, by rw [List.length_append, h2]; rfl⟩
    · rintro ⟨h1, h2⟩
      rcases List.eq_nil_or_concat c with rfl | ⟨d, x, rfl⟩
      · cases h2
      · rw [List.concat_eq_append] at h1 h2 ⊢
        rw [List.length_append, List.length_singleton] at h2
        have hd : IsClq ps ls d := ⟨(List.pairwise_append.mp h1.up).1, fun y hy => h1.sub y (List.mem_append_left _ hy), (List.pairwise_append.mp h1.free).1⟩
        exact ⟨d, (row_mem up k d).mpr ⟨hd, by omega⟩, (ext_mem up hd).mpr ⟨x, rfl, h1⟩⟩
theorem app_lt : ∀ {c d x y : List Nat}, c < d → c.length = d.length → c ++ x < d ++ y
  | [], d, x, y, l, e => by
    have : d = [] := List.length_eq_zero_iff.mp e.symm
    rw [this] at l
    exact absurd l (List.lt_irrefl _)
  | a :: c, [], x, y, l, e => by cases e
  | a :: c, b :: d, x, y, l, e => by
    rcases List.cons_lt_cons_iff.mp l with l | ⟨h, l⟩
    · exact List.cons_lt_cons_iff.mpr (.inl l)
    · exact List.cons_lt_cons_iff.mpr (.inr ⟨h, app_lt l (Nat.succ.inj e)⟩)
theorem row_lt (up : ls.Pairwise (· < ·)) : ∀ k, (rowC ps ls k).Pairwise (· < ·)
  | 0 => List.pairwise_singleton _ _
  | k + 1 => by
    show ((rowC ps ls k).flatMap (extC ps ls)).Pairwise (· < ·)
    have ih := row_lt up k
    have len : ∀ c ∈ rowC ps ls k, c.length = k := fun c hc => ((row_mem up k c).mp hc).2
    generalize rowC ps ls k = F at ih len
    induction F with
    | nil => exact .nil
    | cons c F ih2 =>
      obtain ⟨h1, h2⟩ := List.pairwise_cons.mp ih
      rw [List.flatMap_cons]
      refine List.pairwise_append.mpr ⟨?_, ih2 h2 fun d hd => len d (List.mem_cons_of_mem _ hd), fun a ha b hb => ?_⟩
      · unfold extC
        rw [List.pairwise_map]
        exact (up.sublist List.filter_sublist).imp fun {x y} l => List.append_left_lt (List.cons_lt_cons_iff.mpr (.inl l))
      · unfold extC at ha
        obtain ⟨x, _, rfl⟩ := List.mem_map.mp ha
        obtain ⟨d, hd, hb⟩ := List.mem_flatMap.mp hb
        unfold extC at hb
        obtain ⟨y, _, rfl⟩ := List.mem_map.mp hb
        have l := h1 d hd
        have e : c.length = d.length := (len c List.mem_cons_self).trans (len d (List.mem_cons_of_mem _ hd)).symm
        exact app_lt l e
theorem row_nodup (up : ls.Pairwise (· < ·)) (k : Nat) : (rowC ps ls k).Nodup := by
  rw [List.nodup_iff_pairwise_ne]
  exact (row_lt up k).imp fun {a b} h z => by rw [z] at h; exact List.lt_irrefl _ h
theorem row_none (up : ls.Pairwise (· < ·)) {k : Nat} (h : ls.length < k) : rowC ps ls k = [] := by
  cases e : rowC ps ls k with
  | nil => rfl
  | cons c F =>
    have hc := (row_mem up k c).mp (by rw [e]; exact List.mem_cons_self)
    have := len_le_of_mem (hc.1.up.imp fun h => Nat.ne_of_lt h) hc.1.sub
    omega
theorem row_next_none {k : Nat} (h : rowC ps ls k = []) : ∀ d, rowC ps ls (k + d) = []
  | 0 => h
  | d + 1 => by
    show (rowC ps ls (k + d)).flatMap _ = []
    rw [row_next_none h d]
    rfl
/-- all of them up to some size -/
def clqT (ps : List (List Nat)) (ls : List Nat) (m : Nat) : List (List Nat) := (List.range m).flatMap (rowC ps ls)
theorem clqT_next (m : Nat) : clqT ps ls (m + 1) = clqT ps ls m ++ rowC ps ls m := by
  unfold clqT
  rw [List.range_succ, List.flatMap_append]
  simp
theorem clqT_mem (up : ls.Pairwise (· < ·)) (m : Nat) (c : List Nat) : c ∈ clqT ps ls m ↔ IsClq ps ls c ∧ c.length < m := by
  unfold clqT
  rw [List.mem_flatMap]
  constructor
  · rintro ⟨k, hk, hc⟩
    obtain ⟨h1, h2⟩ := (row_mem up k c).mp hc
    exact ⟨h1, by rw [h2]; exact List.mem_range.mp hk⟩
  · rintro ⟨h1, h2⟩
    exact ⟨c.length, List.mem_range.mpr h2, (row_mem up _ c).mpr ⟨h1, rfl⟩⟩
theorem clqT_all (up : ls.Pairwise (· < ·)) {m : Nat} (h : rowC ps ls m = []) (c : List Nat) : c ∈ clqT ps ls m ↔ IsClq ps ls c := by
  rw [clqT_mem up]
  refine ⟨fun h => h.1, fun hc => ⟨hc, ?_⟩⟩
  rcases Nat.lt_or_ge c.length m with l | l
  · exact l
  · exfalso
    obtain ⟨d, e⟩ := Nat.le.dest l
    have := (row_mem up _ c).mpr ⟨hc, rfl⟩
    rw [← e, row_next_none h d] at this
    cases this
theorem clqT_nodup (up : ls.Pairwise (· < ·)) : ∀ m, (clqT ps ls m).Nodup
  | 0 => .nil
  | m + 1 => by
    rw [clqT_next]
    refine List.nodup_append.mpr ⟨clqT_nodup up m, row_nodup up m, fun a ha b hb z => ?_⟩
    have h1 := ((clqT_mem up m a).mp ha).2
    have h2 := ((row_mem up m b).mp hb).2
    rw [z] at h1
    omega
theorem row_cnt (up : ls.Pairwise (· < ·)) (k : Nat) : (rowC ps ls k).length = numK ps ls k := by
  rw [← cntL_num]
  unfold cntC
  refine List.Perm.length_eq ((List.perm_ext_iff_of_nodup (row_nodup up k) ((clqL_nodup ls up).sublist List.filter_sublist)).mpr fun c => ?_)
  rw [row_mem up, List.mem_filter, clqL_mem ls up, decide_eq_true_eq]
/-! sums over cliques -/
theorem group (f : Nat → Int) (N : Nat) : ∀ F : List (List Nat), ((F.filter fun c => decide (c.length ≤ N)).map fun c => f c.length).sum = ((List.range (N + 1)).map fun k => (cntC F k : Int) * f k).sum
  | [] => by
    refine (isum_zero _ _ fun k _ => ?_).symm
    show ((0 : Nat) : Int) * _ = 0
    simp
  | c :: F => by
    have ih := group f N F
    have e1 : ∀ k, (cntC (c :: F) k : Int) * f k = (cntC F k : Int) * f k + if c.length = k then f k else 0 := fun k => by
      unfold cntC
      rw [List.filter_cons]
      by_cases e : c.length = k
      · rw [decide_eq_true e, if_pos rfl, if_pos e, List.length_cons]
        push_cast
        rw [Int.add_mul, Int.one_mul]
      · rw [decide_eq_false e, if_neg Bool.false_ne_true, if_neg e, Int.add_zero]
    rw [isum_congr _ fun k _ => e1 k, isum_add, ← ih, List.filter_cons]
    have one : ∀ n, ((List.range n).map fun k => if c.length = k then f k else 0).sum = if c.length < n then f c.length else 0 := fun n => by
      induction n with
      | zero => rfl
      | succ n ih =>
        rw [List.range_succ, List.map_append, List.sum_append, ih]
        by_cases e : c.length = n
        · rw [if_neg (by omega), if_pos (by omega)]
          simp [e]
        · by_cases l : c.length < n
          · rw [if_pos l, if_pos (by omega)]
            simp [e]
          · rw [if_neg l, if_neg (by omega)]
            simp [e]
    rw [one]
    by_cases l : c.length ≤ N
    · rw [decide_eq_true l, if_pos rfl, if_pos (by omega), List.map_cons, List.sum_cons]
      omega
    · rw [decide_eq_false l, if_neg Bool.false_ne_true, if_neg (by omega), Int.add_zero]
/-! the numbers of traces -/
def signedC (F : List (List Nat)) : List (Nat × Int) := (F.filter fun c => decide (c ≠ [])).map fun c => (c.length, if c.length % 2 = 1 then 1 else -1)
def nextN (S : List (Nat × Int)) (t : List Int) (m : Nat) : Int := ((S.filter fun s => decide (s.1 ≤ m)).map fun s => s.2 * t.getD (m - s.1) 0).sum
def trL (S : List (Nat × Int)) : Nat → List Int
  | 0 => [1]
  | m + 1 => trL S m ++ [nextN S (trL S m) (m + 1)]
theorem trL_len (S : List (Nat × Int)) : ∀ m, (trL S m).length = m + 1
  | 0 => rfl
  | m + 1 => by
    show (trL S m ++ [_]).length = _
    rw [List.length_append, trL_len S m]
    rfl
def trN (S : List (Nat × Int)) (n : Nat) : Int := (trL S n).getD n 0
theorem trL_get (S : List (Nat × Int)) : ∀ (m n : Nat), n ≤ m → (trL S m).getD n 0 = trN S n
  | 0, n, h => by
    have : n = 0 := by omega
    subst this
    rfl
  | m + 1, n, h => by
    rcases Nat.lt_or_ge m n with l | l
    · have : n = m + 1 := by omega
      subst this
      rfl
    · show (trL S m ++ [_]).getD n 0 = _
      rw [List.getD_eq_getElem?_getD, List.getElem?_append_left (by rw [trL_len]; omega), ← List.getD_eq_getElem?_getD]
      exact trL_get S m n l
theorem trN_zero (S : List (Nat × Int)) : trN S 0 = 1 := rfl
theorem trN_next (S : List (Nat × Int)) (h : ∀ s ∈ S, 0 < s.1) (m : Nat) : trN S (m + 1) = ((S.filter fun s => decide (s.1 ≤ m + 1)).map fun s => s.2 * trN S (m + 1 - s.1)).sum := by
  have e : trN S (m + 1) = nextN S (trL S m) (m + 1) := by
    unfold trN
    show (trL S m ++ [_]).getD (m + 1) 0 = _
    rw [List.getD_eq_getElem?_getD, List.getElem?_append_right (by rw [trL_len]; omega), trL_len, Nat.sub_self]
    rfl
  rw [e]
  unfold nextN
  refine isum_congr _ fun s hs => ?_
  obtain ⟨h1, h2⟩ := List.mem_filter.mp hs
  have := h s h1
  rw [trL_get S m _ (by omega)]
/-- THE PROMISE [n1]: the sums over cliques come to 0 -/
theorem cartier (up : ls.Pairwise (· < ·)) {F : List (List Nat)} (nd : F.Nodup) (mem : ∀ c, c ∈ F ↔ IsClq ps ls c) (n : Nat) : ((List.range (n + 1)).map fun k => sgn k * numI ps ls k * trN (signedC F) (n - k)).sum = if n = 0 then 1 else 0 := by
  cases n with
  | zero =>
    show (([0] : List Nat).map _).sum = _
    simp only [List.map_cons, List.map_nil, List.sum_cons, List.sum_nil]
    unfold numI
    rw [numK_zero]
    rfl
  | succ m =>
    rw [if_neg (by omega), List.range_succ_eq_map, List.map_cons, List.sum_cons, List.map_map]
    have pos : ∀ s ∈ signedC F, 0 < s.1 := fun s hs => by
      obtain ⟨c, hc, rfl⟩ := List.mem_map.mp hs
      have := of_decide_eq_true (List.mem_filter.mp hc).2
      exact List.length_pos_iff.mpr this
    have e0 : sgn 0 * numI ps ls 0 * trN (signedC F) (m + 1 - 0) = trN (signedC F) (m + 1) := by
      unfold numI
      rw [numK_zero]
      show (1 : Int) * 1 * _ = _
      simp
    rw [e0, trN_next _ pos]
    have e1 : ((((signedC F).filter fun s => decide (s.1 ≤ m + 1)).map fun s => s.2 * trN (signedC F) (m + 1 - s.1)).sum) = ((F.filter fun c => decide (c.length ≤ m + 1)).map fun c => (fun k => if k = 0 then (0 : Int) else - (sgn k * trN (signedC F) (m + 1 - k))) c.length).sum := by
      generalize trN (signedC F) = tr
      unfold signedC
      clear e0 pos mem nd
      induction F with
      | nil => rfl
      | cons c F ih =>
        rw [List.filter_cons, List.filter_cons]
        by_cases c0 : c = []
        · subst c0
          rw [decide_eq_false (by simp), if_neg Bool.false_ne_true, ih, decide_eq_true (by show (0 : Nat) ≤ _; omega), if_pos rfl, List.map_cons, List.sum_cons]
          simp
        · have l0 : 0 < c.length := List.length_pos_iff.mpr c0
          rw [decide_eq_true c0, if_pos rfl, List.map_cons, List.filter_cons]
          by_cases l : c.length ≤ m + 1
          · rw [decide_eq_true l, if_pos rfl, if_pos rfl, List.map_cons, List.map_cons, List.sum_cons, List.sum_cons, ih]
            congr 1
            show (if c.length % 2 = 1 then (1 : Int) else -1) * tr (m + 1 - c.length) = if c.length = 0 then 0 else - (sgn c.length * tr (m + 1 - c.length))
            rw [if_neg (show ¬ c.length = 0 by omega)]
            unfold sgn
            generalize tr (m + 1 - c.length) = z
            by_cases o : c.length % 2 = 1
            · rw [if_pos o, if_pos o]; omega
            · rw [if_neg o, if_neg o]; omega
          · rw [decide_eq_false l, if_neg Bool.false_ne_true, if_neg Bool.false_ne_true, ih]
    rw [e1, group (fun k => if k = 0 then (0 : Int) else - (sgn k * trN (signedC F) (m + 1 - k))) (m + 1) F]
    have e2 : ∀ k, (cntC F k : Int) = numI ps ls k := fun k => by unfold numI; rw [cntF_of up nd mem]
    rw [isum_congr _ fun k _ => by rw [e2 k], List.range_succ_eq_map, List.map_cons, List.sum_cons, List.map_map, if_pos rfl, Int.mul_zero, Int.zero_add, ← isum_add]
    refine isum_zero _ _ fun k _ => ?_
    show numI ps ls (k + 1) * (if k + 1 = 0 then 0 else - (sgn (k + 1) * trN (signedC F) (m + 1 - (k + 1)))) + sgn (k + 1) * numI ps ls (k + 1) * trN (signedC F) (m + 1 - (k + 1)) = 0
    rw [if_neg (by omega), Int.mul_neg, ← Int.mul_assoc, Int.mul_comm (numI ps ls (k + 1))]
    omega
end TcG
namespace TcG
open PySem PySem.Spec PyProof.Rows L2
variable {ps : List (List Nat)} {ls : List Nat}
theorem clqL_len : ∀ l : List Nat, (clqL ps l).length ≤ 2 ^ l.length := by
  refine snoc_ind (by show 1 ≤ 1; exact Nat.le_refl _) fun l x ih => ?_
  rw [clqL_snoc, List.length_append, List.length_singleton, Nat.pow_succ]
  unfold stepC
  rw [List.length_append, List.length_map]
  have := List.length_filter_le (allInd ps x) (clqL ps l)
  omega
theorem clqT_len (up : ls.Pairwise (· < ·)) (m : Nat) : (clqT ps ls m).length ≤ 2 ^ ls.length :=
  Nat.le_trans (len_le_of_mem (clqT_nodup up m) fun c hc => (clqL_mem ls up c).mpr ((clqT_mem up m c).mp hc).1) (clqL_len ls)
theorem clq_short {c : List Nat} (h : IsClq ps ls c) : c.length ≤ ls.length := len_le_of_mem (h.up.imp fun h => Nat.ne_of_lt h) h.sub
theorem apart_allInd (c : List Nat) (x : Nat) : (c.all fun y => [x].all fun z => ind ps y z) = allInd ps x c := by
  unfold allInd
  refine List.all_congr rfl fun y => ?_
  rw [List.all_cons, List.all_nil, Bool.and_true]
theorem cut_lastS (l : List Nat) : cutS (tx l) (some (-1)) none = tx (l.drop (l.length - 1)) := by
  unfold cutS
  rw [tx_length]
  have e : HT.sIx l.length 0 (some (-1)) = l.length - 1 := by
    show (if (-1 : Int) < 0 then ((-1 : Int) + (l.length : Int)).toNat else min (-1 : Int).toNat l.length) = l.length - 1
    rw [if_pos (by decide)]
    omega
  rw [e, HT.sIx_none]
  show (⟨((l.drop (l.length - 1)).take (l.length - (l.length - 1))).toArray⟩ : Str) = tx (l.drop (l.length - 1))
  unfold tx
  rw [List.take_of_length_le (by rw [List.length_drop]; omega)]
end TcG
/-! Lots and polynomials. -/
namespace TcG
open PySem PySem.Spec PyProof.Rows L2
variable {ps : List (List Nat)} {ls : List Nat}
theorem lotsM_sorted (cs : List Nat) : ∀ l ∈ lotsM ps cs, l.Pairwise (· ≤ ·) := by
  have h : ∀ (cs : List Nat) (L : List (List Nat)), (∀ l ∈ L, l.Pairwise (· ≤ ·)) → ∀ l ∈ cs.foldl (lotStep ps) L, l.Pairwise (· ≤ ·) := fun cs => by
    induction cs with
    | nil => exact fun L h => h
    | cons c cs ih =>
      intro L h
      refine ih _ fun l hl => ?_
      unfold lotStep at hl
      rcases List.mem_append.mp hl with m | m
      · exact h l (List.mem_filter.mp m).1
      · rw [List.mem_singleton.mp m]
        exact sortN_sorted _
  exact h cs [] fun _ h => nomatch h
theorem perms_map {L M : List (List Nat)} (h : Perms L M) : (∀ a ∈ L, a.Pairwise (· ≤ ·)) → M.map sortN = L := by
  induction h with
  | nil => exact fun _ => rfl
  | @cons a b L M p _ ih =>
    intro g
    rw [List.map_cons, ih fun a ha => g a (List.mem_cons_of_mem _ ha), ← sortN_of p (g a List.mem_cons_self)]
theorem lots2_map (cs : List Nat) : (lots2 ps cs).map sortN = lotsM ps cs := perms_map (lots_perms cs) (lotsM_sorted cs)
theorem lotsM_perm (cs : List Nat) : (lotsM ps cs).flatten.Perm cs := (lots_perms cs).flat.trans (lots2_perm cs)
theorem apart_sorted {a b : List Nat} (h : Apart ps a b) : Apart ps (sortN a) (sortN b) := fun x hx y hy => h x ((sortN_perm a).mem_iff.mp hx) y ((sortN_perm b).mem_iff.mp hy)
theorem lotsM_apart (cs : List Nat) : (lotsM ps cs).Pairwise (Apart ps) := by
  rw [← lots2_map, List.pairwise_map]
  exact (lots2_ok cs).apart.imp apart_sorted
theorem lotsM_up {cs : List Nat} (nd : cs.Nodup) : ∀ l ∈ lotsM ps cs, l.Pairwise (· < ·) := fun l hl =>
  lt_of_sorted (lotsM_sorted cs l hl) (((lotsM_perm (ps := ps) cs).nodup_iff.mpr nd).sublist (List.sublist_flatten_of_mem hl))
theorem lotsM_few {cs : List Nat} : ∀ l ∈ lotsM ps cs, l.length ≤ cs.length := fun l hl => by
  rw [← (lotsM_perm (ps := ps) cs).length_eq]
  exact (List.sublist_flatten_of_mem hl).length_le
/-- a lot against all before it -/
theorem apart_take {L : List (List Nat)} (h : L.Pairwise (Apart ps)) {i : Nat} {l : List Nat} (e : L[i]? = some l) : ∀ x ∈ (L.take i).flatten, ∀ y ∈ l, ind ps x y = true := fun x hx y hy => by
  obtain ⟨m, hm, xm⟩ := List.mem_flatten.mp hx
  obtain ⟨j, hj, rfl⟩ := List.mem_iff_getElem.mp hm
  rw [List.length_take] at hj
  rw [List.getElem_take] at xm
  obtain ⟨lt, rfl⟩ := List.getElem?_eq_some_iff.mp e
  exact List.pairwise_iff_getElem.mp h j i (by omega) lt (by omega) x xm y hy
theorem isPoly_len {l : List Nat} {p : List Int} (h : IsPoly ps l p) : p.length ≤ l.length + 1 := by
  have h1 := h.last
  rw [h.at_] at h1
  rcases Nat.lt_or_ge (l.length + 1) p.length with a | a
  · exfalso
    apply h1
    unfold numI
    rw [numK_big l.length l _ (Nat.le_refl _) (by omega)]
    simp
  · exact a
theorem isPoly_small {l : List Nat} {p : List Int} (h : IsPoly ps l p) (l6 : l.length ≤ 6) : ∀ x ∈ p, -(2 ^ 64) < x ∧ x < 2 ^ 64 := fun x hx => by
  obtain ⟨k, hk, rfl⟩ := List.mem_iff_getElem.mp hx
  have e : p[k] = sgn k * numI ps l k := by
    rw [← h.at_, List.getD_eq_getElem?_getD, List.getElem?_eq_getElem hk]
    rfl
  have b : numK ps l k ≤ 64 := by
    rw [← cntL_num]
    unfold cntC
    exact Nat.le_trans (List.length_filter_le _ _) (Nat.le_trans (clqL_len l) (Nat.le_trans (Nat.pow_le_pow_right (by decide) l6) (by decide)))
  rw [e]
  unfold numI sgn
  split <;> omega
/-- the sums over a polynomial -/
def sumTo (sg : List Int) (f : Nat → Int) (n k : Nat) : Int := ((List.range k).map fun j => if j ≤ n then sg.getD j 0 * f (n - j) else 0).sum
theorem sumTo_next (sg : List Int) (f : Nat → Int) (n k : Nat) : sumTo sg f n (k + 1) = sumTo sg f n k + if k ≤ n then sg.getD k 0 * f (n - k) else 0 := by
  unfold sumTo
  rw [List.range_succ, List.map_append, List.sum_append]
  simp
theorem sumTo_end (up : ls.Pairwise (· < ·)) {F : List (List Nat)} (nd : F.Nodup) (mem : ∀ c, c ∈ F ↔ IsClq ps ls c) {sg : List Int} (h : IsPoly ps ls sg) (n : Nat) : sumTo sg (trN (signedC F)) n sg.length = if n = 0 then 1 else 0 := by
  rw [← cartier up nd mem n]
  have e : ((List.range (n + 1)).map fun k => sgn k * numI ps ls k * trN (signedC F) (n - k)).sum = ((List.range (n + 1)).map fun j => if j ≤ n then sg.getD j 0 * trN (signedC F) (n - j) else 0).sum := isum_congr _ fun k hk => by
    have := List.mem_range.mp hk
    rw [if_pos (by omega), h.at_]
  rw [e]
  unfold sumTo
  refine sum_range_eq _ (fun i hi => ?_) fun i hi => by rw [if_neg (by omega)]
  split
  · rw [getD_big hi, Int.zero_mul]
  · rfl
end TcG
/-! xs[i] += e. -/
namespace TcG
open PySem PySem.Spec PyProof.Rows L2
theorem get_list {X : Cx} : PGet X (rIxL X.K) := by
  intro pins s σ H o i ov iv Q I rx ry h
  obtain ⟨p, xs, k, z, rfl, rfl, hq, he, q⟩ := h
  cases rx
  obtain ⟨t, rfl⟩ := ry
  obtain ⟨its, r, pl, hz⟩ := I.list hq
  obtain ⟨j, h1, h2, h3, h4, h5⟩ := atI_get he
  obtain ⟨w, ew, rw'⟩ := r.get h2
  have hl := r.length
  have hn := line63
  by_cases h0 : 0 ≤ k
  · have hj : k.toNat = j := by
      rw [seqIndex_of h0 h5] at h1
      exact Option.some.inj h1
    exact getItem_listL pl.isList h0 (by omega) (by rw [hj]; simpa using ew) ⟨z, H, I, rw', q⟩
  · have hj : (k + (its.toArray.size : Int)).toNat = j := by
      rw [seqIndex_neg (by omega) h4] at h1
      rw [List.size_toArray, ← hl]
      exact Option.some.inj h1
    exact wpAny_getItem_list_neg pl.isList (by omega) (by rw [List.size_toArray] <;> omega) (by omega) (by rw [hj]; simpa using ew) ⟨z, H, I, rw', q⟩
end TcG
/-! Lists of whole numbers, as values. -/
namespace TcG
open PySem PySem.Spec PyProof.Rows L2
def intsV (l : List Int) : List V := l.map V.int
theorem intsV_len (l : List Int) : (intsV l).length = l.length := List.length_map _
theorem intsV_app (a b : List Int) : intsV (a ++ b) = intsV a ++ intsV b := List.map_append
theorem intsV_at {l : List Int} {i : Nat} {n : Int} (h : l[i]? = some n) : (intsV l)[i]? = some (.int n) := by unfold intsV; rw [List.getElem?_map, h]; rfl
theorem intsV_get {l : List Int} {i : Nat} {x : V} (h : (intsV l)[i]? = some x) : ∃ n, l[i]? = some n ∧ x = .int n := by
  unfold intsV at h
  rw [List.getElem?_map] at h
  cases e : l[i]? with
  | none => rw [e] at h; cases h
  | some n =>
    rw [e] at h
    exact ⟨n, rfl, (Option.some.inj h).symm⟩
theorem natsV_intsV (l : List Nat) : natsV l = intsV (l.map fun n : Nat => (n : Int)) := by unfold natsV intsV; rw [List.map_map]; rfl
theorem intsV_flat (l : List Int) : (intsV l).all flatV = true := by
  unfold intsV
  rw [List.all_map, List.all_eq_true]
  intro p _
  rfl
theorem get_lt {l : List Int} {i : Nat} (h : i < l.length) : l[i]? = some (l.getD i 0) := by
  rw [List.getD_eq_getElem?_getD, List.getElem?_eq_getElem h]
  rfl
theorem intsV_set (l : List Int) (i : Nat) (v : Int) : (intsV l).set i (.int v) = intsV (l.set i v) := by
  unfold intsV
  rw [List.map_set]
/-- odd places have the other sign -/
def mirL (l : List Int) : List Int := (List.range l.length).map fun k => if k % 2 = 1 then - l.getD k 0 else l.getD k 0
theorem mirL_len (l : List Int) : (mirL l).length = l.length := by unfold mirL; rw [List.length_map, List.length_range]
theorem mirL_get (l : List Int) (k : Nat) : (mirL l).getD k 0 = sgn k * l.getD k 0 := by
  rcases Nat.lt_or_ge k l.length with h | h
  · unfold mirL
    rw [List.getD_eq_getElem?_getD, List.getElem?_map, List.getElem?_range h]
    show (if k % 2 = 1 then _ else _) = _
    unfold sgn
    split <;> omega
  · rw [getD_big h, getD_big (by rw [mirL_len]; exact h), Int.mul_zero]
/-- the polynomial by the numbers of cliques -/
theorem isPoly_mir {ps : List (List Nat)} {ls : List Nat} {m : Nat} (m0 : 0 < m) (h1 : numK ps ls (m - 1) ≠ 0) (h2 : ∀ k, m ≤ k → numK ps ls k = 0) : IsPoly ps ls (mirL ((List.range m).map fun k => (numK ps ls k : Int))) := by
  have g : ∀ k, ((List.range m).map fun k => (numK ps ls k : Int)).getD k 0 = numI ps ls k := fun k => by
    rcases Nat.lt_or_ge k m with h | h
    · rw [List.getD_eq_getElem?_getD, List.getElem?_map, List.getElem?_range h]
      rfl
    · rw [getD_big (by rw [List.length_map, List.length_range]; exact h)]
      unfold numI
      rw [h2 k h]
      rfl
  have l : (mirL ((List.range m).map fun k => (numK ps ls k : Int))).length = m := by rw [mirL_len, List.length_map, List.length_range]
  refine ⟨fun z => ?_, ?_, fun k => by rw [mirL_get, g]⟩
  · rw [z] at l
    rw [← l] at m0
    cases m0
  · rw [l, mirL_get, g]
    refine Int.mul_ne_zero (sgn_ne _) ?_
    unfold numI
    omega
end TcG
/-! Products of rows: order and brackets; every second place. -/
namespace TcG
open PySem PySem.Spec PyProof.Rows L2
theorem conv_head (f g : Nat → Int) (n : Nat) : convI f g n = f 0 * g n + shiftI (convI (fun k => f (k + 1)) g) n := by
  unfold convI
  rw [List.range_succ_eq_map, List.map_cons, List.sum_cons, List.map_map, Nat.sub_zero]
  congr 1
  cases n with
  | zero => rfl
  | succ n =>
    show _ = ((List.range (n + 1)).map fun i => f (i + 1) * g (n - i)).sum
    refine isum_congr _ fun i _ => ?_
    show f (i + 1) * g (n + 1 - (i + 1)) = _
    rw [Nat.add_sub_add_right]
theorem sum_turn (F : Nat → Int) : ∀ n, ((List.range (n + 1)).map F).sum = ((List.range (n + 1)).map fun i => F (n - i)).sum
  | 0 => rfl
  | n + 1 => by
    have ih := sum_turn (fun i => F (i + 1)) n
    rw [List.range_succ_eq_map, List.map_cons, List.sum_cons, List.map_map]
    have e1 : ((List.range (n + 1)).map (F ∘ Nat.succ)).sum = ((List.range (n + 1)).map fun i => F (i + 1)).sum := rfl
    rw [e1, ih, ← List.range_succ_eq_map, List.range_succ (n := n + 1), List.map_append, List.sum_append]
    have e2 : ((List.range (n + 1)).map fun i => F (n - i + 1)).sum = ((List.range (n + 1)).map fun i => F (n + 1 - i)).sum := isum_congr _ fun i hi => by
      have := List.mem_range.mp hi
      rw [show n - i + 1 = n + 1 - i by omega]
    rw [e2]
    simp
    omega
theorem conv_comm (f g : Nat → Int) (n : Nat) : convI f g n = convI g f n := by
  unfold convI
  rw [sum_turn]
  refine isum_congr _ fun i hi => ?_
  have := List.mem_range.mp hi
  rw [show n - (n - i) = i by omega, Int.mul_comm]
theorem conv_scal (c : Int) (f g : Nat → Int) (n : Nat) : convI (fun k => c * f k) g n = c * convI f g n := by
  unfold convI
  rw [← isum_mul]
  exact isum_congr _ fun i _ => Int.mul_assoc _ _ _
theorem conv_assoc (g h : Nat → Int) : ∀ (n : Nat) (f : Nat → Int), convI (convI f g) h n = convI f (convI g h) n := fun n => by
  induction n with
  | zero =>
    intro f
    rw [conv_head, conv_head f g, conv_head f, conv_head g h]
    show (f 0 * g 0 + 0) * h 0 + 0 = f 0 * (g 0 * h 0 + 0) + 0
    rw [Int.add_zero, Int.add_zero, Int.add_zero, Int.add_zero, Int.mul_assoc]
  | succ n ih =>
    intro f
    have e : convI f g = fun k => f 0 * g k + shiftI (convI (fun k => f (k + 1)) g) k := funext fun k => conv_head f g k
    rw [e, conv_add, conv_scal, conv_shift, conv_head f]
    show _ + convI (convI (fun k => f (k + 1)) g) h n = _ + convI (fun k => f (k + 1)) (convI g h) n
    rw [ih]
/-- the other sign at odd places -/
def mirF (f : Nat → Int) : Nat → Int := fun k => sgn k * f k
theorem sgn_sq (k : Nat) : sgn k * sgn k = 1 := by
  unfold sgn
  split <;> rfl
theorem conv_odd (q : Nat → Int) {k : Nat} (o : k % 2 = 1) : convI q (mirF q) k = 0 := by
  have e : convI (mirF q) q k = sgn k * convI q (mirF q) k := by
    unfold convI
    rw [← isum_mul]
    refine isum_congr _ fun i hi => ?_
    have := List.mem_range.mp hi
    unfold mirF
    have s : sgn k * sgn (k - i) = sgn i := by
      have : sgn k = sgn i * sgn (k - i) := by rw [← sgn_add]; congr 1; omega
      rw [this, Int.mul_assoc, sgn_sq, Int.mul_one]
    rw [← s]
    ac_rfl
  rw [conv_comm] at e
  have s1 : sgn k = -1 := by unfold sgn; rw [if_pos o]
  rw [s1] at e
  omega
/-- only even places of the one: every second place of the other -/
theorem sum_even (F : Nat → Int) (odd : ∀ i, i % 2 = 1 → F i = 0) : ∀ j r, r < 2 → ((List.range (2 * j + r + 1)).map F).sum = ((List.range (j + 1)).map fun a => F (2 * a)).sum := fun j => by
  induction j with
  | zero =>
    intro r hr
    match r, hr with
    | 0, _ => rfl
    | 1, _ =>
      show ([0, 1].map F).sum = ([0].map fun a => F (2 * a)).sum
      simp [odd 1 rfl]
  | succ j ih =>
    intro r hr
    have e1 : ((List.range (2 * j + 2 + 1)).map F).sum = ((List.range (j + 1 + 1)).map fun a => F (2 * a)).sum := by
      rw [List.range_succ (n := 2 * j + 2), List.map_append, List.sum_append, show 2 * j + 2 = 2 * j + 1 + 1 by omega, ih 1 (by omega), List.range_succ (n := j + 1), List.map_append, List.sum_append]
      simp [show 2 * (j + 1) = 2 * j + 1 + 1 by omega]
    match r, hr with
    | 0, _ => exact e1
    | 1, _ =>
      rw [show 2 * (j + 1) + 1 + 1 = (2 * j + 2 + 1) + 1 by omega, List.range_succ, List.map_append, List.sum_append, e1]
      simp [odd (2 * j + 2 + 1) (by omega)]
theorem conv_half (v s : Nat → Int) (odd : ∀ i, i % 2 = 1 → v i = 0) (j r : Nat) (hr : r < 2) : convI v s (2 * j + r) = convI (fun a => v (2 * a)) (fun a => s (2 * a + r)) j := by
  unfold convI
  rw [sum_even _ (fun i hi => by rw [odd i hi, Int.zero_mul]) j r hr]
  refine isum_congr _ fun a ha => ?_
  have := List.mem_range.mp ha
  show v (2 * a) * s (2 * j + r - 2 * a) = v (2 * a) * s (2 * (j - a) + r)
  rw [show 2 * j + r - 2 * a = 2 * (j - a) + r by omega]
/-- one step of the doubling -/
theorem conv_step {p q s : Nat → Int} (h : ∀ k, convI q s k = p k) (r : Nat) (hr : r < 2) (j : Nat) : convI (fun a => convI q (mirF q) (2 * a)) (fun a => s (2 * a + r)) j = convI p (mirF q) (2 * j + r) := by
  rw [← conv_half _ _ (fun i hi => conv_odd q hi) j r hr, conv_assoc]
  have e : convI (mirF q) s = convI s (mirF q) := funext fun k => conv_comm _ _ k
  have e2 : p = convI q s := funext fun k => (h k).symm
  rw [e, ← conv_assoc, e2]
/-! the same modulo a number -/
def Eqm (m a b : Int) : Prop := m ∣ a - b
theorem Eqm.refl (m a : Int) : Eqm m a a := by unfold Eqm; rw [Int.sub_self]; exact Int.dvd_zero m
theorem Eqm.symm {m a b : Int} (h : Eqm m a b) : Eqm m b a := by
  unfold Eqm at h ⊢
  rw [← Int.neg_sub]
  exact Int.dvd_neg.mpr h
theorem Eqm.trans {m a b c : Int} (h : Eqm m a b) (g : Eqm m b c) : Eqm m a c := by
  unfold Eqm at h g ⊢
  have := Int.dvd_add h g
  rwa [show a - b + (b - c) = a - c by omega] at this
theorem Eqm.add {m a b c d : Int} (h : Eqm m a b) (g : Eqm m c d) : Eqm m (a + c) (b + d) := by
  unfold Eqm at h g ⊢
  have := Int.dvd_add h g
  rwa [show a - b + (c - d) = a + c - (b + d) by omega] at this
theorem Eqm.mul {m a b c d : Int} (h : Eqm m a b) (g : Eqm m c d) : Eqm m (a * c) (b * d) := by
  unfold Eqm at h g ⊢
  have h1 := Int.dvd_mul_of_dvd_left (c := c) h
  have h2 := Int.dvd_mul_of_dvd_right (b := b) g
  have := Int.dvd_add h1 h2
  rwa [show (a - b) * c + b * (c - d) = a * c - b * d by rw [Int.sub_mul, Int.mul_sub]; omega] at this
theorem Eqm.sub {m a b c d : Int} (h : Eqm m a b) (g : Eqm m c d) : Eqm m (a - c) (b - d) := by
  unfold Eqm at h g ⊢
  have := Int.dvd_sub h g
  rwa [show a - b - (c - d) = a - c - (b - d) by omega] at this
theorem Eqm.mod (m a : Int) : Eqm m (a % m) a := by
  unfold Eqm
  have := Int.emod_add_mul_ediv a m
  exact ⟨- (a / m), by rw [Int.mul_neg]; omega⟩
theorem Eqm.eq {m a b : Int} (h : Eqm m a b) : a % m = b % m := Int.emod_eq_emod_iff_emod_sub_eq_zero.mpr (Int.emod_eq_zero_of_dvd h)
theorem Eqm.sum {α : Type} {m : Int} (l : List α) {f g : α → Int} (h : ∀ x ∈ l, Eqm m (f x) (g x)) : Eqm m (l.map f).sum (l.map g).sum := by
  induction l with
  | nil => exact .refl _ _
  | cons a l ih => exact (h a List.mem_cons_self).add (ih fun x hx => h x (List.mem_cons_of_mem _ hx))
theorem Eqm.conv {m : Int} {f f' g g' : Nat → Int} (hf : ∀ k, Eqm m (f k) (f' k)) (hg : ∀ k, Eqm m (g k) (g' k)) (n : Nat) : Eqm m (convI f g n) (convI f' g' n) := .sum _ fun i _ => (hf i).mul (hg _)
end TcG
/-! How many least words there are: the sums over cliques (Cartier and Foata). -/
namespace TcG
open PySem PySem.Spec PyProof.Rows L2
variable {ps : List (List Nat)} {ls : List Nat}
/-- all words of n letters -/
def wordsN (ls : List Nat) : Nat → List (List Nat)
  | 0 => [[]]
  | n + 1 => (wordsN ls n).flatMap fun w => ls.map fun x => w ++ [x]
theorem wordsN_mem : ∀ (n : Nat) (w : List Nat), w ∈ wordsN ls n ↔ w.length = n ∧ ∀ c ∈ w, c ∈ ls
  | 0, w => by
    show w ∈ [[]] ↔ _
    rw [List.mem_singleton, List.length_eq_zero_iff]
    exact ⟨fun h => ⟨h, by rw [h]; exact fun _ h => nomatch h⟩, fun h => h.1⟩
  | n + 1, w => by
    show w ∈ (wordsN ls n).flatMap _ ↔ _
    rw [List.mem_flatMap]
    constructor
    · rintro ⟨u, hu, h⟩
      obtain ⟨x, hx, rfl⟩ := List.mem_map.mp h
      obtain ⟨l, i⟩ := (wordsN_mem n u).mp hu
      refine ⟨by rw [List.length_append, List.length_singleton, l], fun c hc => ?_⟩
      rcases List.mem_append.mp hc with m | m
      · exact i c m
      · rw [List.mem_singleton.mp m]; exact hx
    · rintro ⟨l, i⟩
      rcases List.eq_nil_or_concat w with rfl | ⟨u, x, rfl⟩
      · cases l
      · rw [List.concat_eq_append] at l i ⊢
        rw [List.length_append, List.length_singleton] at l
        exact ⟨u, (wordsN_mem n u).mpr ⟨by omega, fun c hc => i c (List.mem_append_left _ hc)⟩, List.mem_map.mpr ⟨x, i x (by simp), rfl⟩⟩
theorem wordsN_nodup (nd : ls.Nodup) : ∀ n, (wordsN ls n).Nodup
  | 0 => by show ([[]] : List (List Nat)).Nodup; simp
  | n + 1 => by
    show ((wordsN ls n).flatMap fun w => ls.map fun x => w ++ [x]).Nodup
    have ih := wordsN_nodup nd n
    generalize wordsN ls n = W at ih
    induction W with
    | nil => exact .nil
    | cons w W ih2 =>
      obtain ⟨h1, h2⟩ := List.nodup_cons.mp ih
      rw [List.flatMap_cons]
      refine List.nodup_append.mpr ⟨?_, ih2 h2, fun a ha b hb z => ?_⟩
      · rw [List.nodup_iff_pairwise_ne, List.pairwise_map]
        exact (List.nodup_iff_pairwise_ne.mp nd).imp fun ne z => ne (List.cons.inj (List.append_cancel_left z)).1
      · obtain ⟨x, _, rfl⟩ := List.mem_map.mp ha
        obtain ⟨u, hu, hb⟩ := List.mem_flatMap.mp hb
        obtain ⟨y, _, rfl⟩ := List.mem_map.mp hb
        have := (List.append_inj' z rfl).1
        exact h1 (this ▸ hu)
/-- the least words among them -/
def nfL (ps : List (List Nat)) (ls : List Nat) (n : Nat) : List (List Nat) := (wordsN ls n).filter fun w => decide (w = leastM ps w)
theorem nfL_mem {n : Nat} {w : List Nat} : w ∈ nfL ps ls n ↔ w.length = n ∧ (∀ c ∈ w, c ∈ ls) ∧ w = leastM ps w := by
  unfold nfL
  rw [List.mem_filter, wordsN_mem, decide_eq_true_eq, and_assoc]
theorem nfL_nodup (nd : ls.Nodup) (n : Nat) : (nfL ps ls n).Nodup := (wordsN_nodup nd n).sublist List.filter_sublist
/-- all letters of a clique lead -/
def Leads (ps : List (List Nat)) (c t : List Nat) : Bool := c.all fun x => decide (x ∈ firstsM ps t)
theorem leads_mem {c t : List Nat} : Leads ps c t = true ↔ ∀ x ∈ c, Lead ps t x := by
  unfold Leads
  rw [List.all_eq_true]
  exact ⟨fun h x hx => mem_firsts.mp (of_decide_eq_true (h x hx)), fun h x hx => decide_eq_true (mem_firsts.mpr (h x hx))⟩
theorem clq_lead : ∀ {c u : List Nat}, c.Pairwise (· < ·) → (c.Pairwise fun a b => ind ps a b = true) → ∀ x ∈ c, Lead ps (c ++ u) x
  | [], _, _, _, _, h => nomatch h
  | y :: c, u, up, fr, x, hx => by
    obtain ⟨u1, u2⟩ := List.pairwise_cons.mp up
    obtain ⟨f1, f2⟩ := List.pairwise_cons.mp fr
    rcases List.mem_cons.mp hx with e | m
    · rw [e]
      exact lead_self
    · have := u1 x m
      exact (lead_cons (by omega)).mpr ⟨f1 x m, clq_lead u2 f2 x m⟩
theorem clq_peel (pr : Pairs ls ps) : ∀ {c t : List Nat}, c.Pairwise (· < ·) → (c.Pairwise fun a b => ind ps a b = true) → (∀ x ∈ t, x ∈ ls) → (∀ x ∈ c, Lead ps t x) → ∃ v, Exs ps t (c ++ v)
  | [], t, _, _, _, _ => ⟨t, .refl t⟩
  | x :: c, t, up, fr, it, h => by
    obtain ⟨u1, u2⟩ := List.pairwise_cons.mp up
    obtain ⟨f1, f2⟩ := List.pairwise_cons.mp fr
    have lx := h x List.mem_cons_self
    have e := lead_erase lx
    obtain ⟨v, hv⟩ := clq_peel pr u2 f2 (erase_in it) fun y hy => by
      have ly := (lead_alike pr it e (h y (List.mem_cons_of_mem _ hy))).1
      have := u1 y hy
      exact ((lead_cons (by omega)).mp ly).2
    exact ⟨v, e.trans (hv.pre [x])⟩
theorem clq_cancel (pr : Pairs ls ps) : ∀ {c u v : List Nat}, (∀ x ∈ c ++ u, x ∈ ls) → Exs ps (c ++ u) (c ++ v) → Exs ps u v
  | [], _, _, _, h => h
  | x :: c, u, v, i, h => clq_cancel pr (c := c) (fun y hy => i y (List.mem_cons_of_mem _ hy)) (exs_cancel pr i h)
theorem least_len (w : List Nat) : (leastM ps w).length = w.length := turn_len _ _ _
/-- the words whose firsts hold a clique are as many as those of the letters that are left -/
theorem clq_count (pr : Pairs ls ps) (nd : ls.Nodup) {c : List Nat} (hc : IsClq ps ls c) {n : Nat} (hn : c.length ≤ n) : ((nfL ps ls n).filter (Leads ps c)).length = (nfL ps ls (n - c.length)).length := by
  rw [← List.length_map (f := fun u => leastM ps (c ++ u)) (as := nfL ps ls (n - c.length))]
  refine List.Perm.length_eq ((List.perm_ext_iff_of_nodup ((nfL_nodup nd n).sublist List.filter_sublist) ?_).mpr fun t => ?_)
  · have h : ∀ (W : List (List Nat)), W.Nodup → (∀ u ∈ W, (∀ x ∈ u, x ∈ ls) ∧ u = leastM ps u) → (W.map fun u => leastM ps (c ++ u)).Nodup := fun W => by
      induction W with
      | nil => exact fun _ _ => .nil
      | cons u W ih =>
        intro nw h
        obtain ⟨n1, n2⟩ := List.nodup_cons.mp nw
        rw [List.map_cons, List.nodup_cons]
        refine ⟨fun m => ?_, ih n2 fun v hv => h v (List.mem_cons_of_mem _ hv)⟩
        obtain ⟨v, hv, e⟩ := List.mem_map.mp m
        obtain ⟨iu, eu⟩ := h u List.mem_cons_self
        obtain ⟨iv, ev⟩ := h v (List.mem_cons_of_mem _ hv)
        have icu : ∀ x ∈ c ++ u, x ∈ ls := fun x hx => (List.mem_append.mp hx).elim (hc.sub x) (iu x)
        have icv : ∀ x ∈ c ++ v, x ∈ ls := fun x hx => (List.mem_append.mp hx).elim (hc.sub x) (iv x)
        have e1 : Exs ps (c ++ u) (c ++ v) := by
          have a := least_exs pr icu
          have b := least_exs pr icv
          rw [e] at b
          exact a.trans b.symm
        have e2 := clq_cancel pr icu e1
        have : u = v := by rw [eu, ev, least_alike pr iu e2]
        exact n1 (this ▸ hv)
    exact h _ (nfL_nodup nd _) fun u hu => (nfL_mem.mp hu).2
  · rw [List.mem_filter, List.mem_map, leads_mem, nfL_mem]
    constructor
    · rintro ⟨⟨lt, it, et⟩, hl⟩
      obtain ⟨v, hv⟩ := clq_peel pr hc.up hc.free it hl
      have iv : ∀ x ∈ v, x ∈ ls := fun x hx => it x (hv.perm.mem_iff.mpr (List.mem_append_right _ hx))
      have lv := hv.perm.length_eq
      rw [List.length_append] at lv
      refine ⟨leastM ps v, nfL_mem.mpr ⟨by rw [least_len]; omega, fun x hx => iv x ((least_exs pr iv).perm.mem_iff.mpr hx), (least_twice pr iv).symm⟩, ?_⟩
      rw [et]
      refine (least_alike pr it (hv.trans ((least_exs pr iv).pre c))).symm
    · rintro ⟨u, hu, rfl⟩
      obtain ⟨lu, iu, eu⟩ := nfL_mem.mp hu
      have icu : ∀ x ∈ c ++ u, x ∈ ls := fun x hx => (List.mem_append.mp hx).elim (hc.sub x) (iu x)
      have ex := least_exs pr icu
      refine ⟨⟨by rw [least_len, List.length_append]; omega, fun x hx => icu x (ex.perm.mem_iff.mpr hx), (least_twice pr icu).symm⟩, fun x hx => (lead_alike pr icu ex (clq_lead hc.up hc.free x hx)).1⟩
/-- the alternating sum over the subsets of independent letters -/
theorem alt_sum : ∀ F : List Nat, F ≠ [] → (F.Pairwise fun a b => ind ps a b = true) → ((clqL ps F).map fun c => sgn c.length).sum = 0 := fun F ne fr => by
  rcases List.eq_nil_or_concat F with rfl | ⟨G, x, rfl⟩
  · exact absurd rfl ne
  · rw [List.concat_eq_append] at fr ⊢
    have h := List.pairwise_append.mp fr
    rw [clqL_snoc]
    unfold stepC
    have sub : ∀ l : List Nat, ∀ c ∈ clqL ps l, ∀ y ∈ c, y ∈ l := snoc_ind (fun c hc y hy => by
      have hc : c ∈ [[]] := hc
      rw [List.mem_singleton.mp hc] at hy
      cases hy) fun l z ih c hc y hy => by
      rw [clqL_snoc] at hc
      unfold stepC at hc
      rcases List.mem_append.mp hc with m | m
      · exact List.mem_append_left _ (ih c m y hy)
      · obtain ⟨d, hd, rfl⟩ := List.mem_map.mp m
        rcases List.mem_append.mp hy with m2 | m2
        · exact List.mem_append_left _ (ih d (List.mem_filter.mp hd).1 y m2)
        · exact List.mem_append_right _ m2
    have all : (clqL ps G).filter (allInd ps x) = clqL ps G := List.filter_eq_self.mpr fun c hc => List.all_eq_true.mpr fun y hy => h.2.2 y (sub G c hc y hy) x (List.mem_singleton.mpr rfl)
    rw [all, List.map_append, List.sum_append, List.map_map]
    have e : ((clqL ps G).map ((fun c => sgn c.length) ∘ fun c => c ++ [x])).sum = ((clqL ps G).map fun c => (-1) * sgn c.length).sum := isum_congr _ fun c _ => by
      show sgn (c ++ [x]).length = -1 * sgn c.length
      rw [List.length_append, List.length_singleton, sgn_add, Int.mul_comm]
      rfl
    rw [e, isum_mul]
    omega
theorem isum_perm {α : Type} {l m : List α} (p : l.Perm m) (f : α → Int) : (l.map f).sum = (m.map f).sum := by
  induction p with
  | nil => rfl
  | cons x _ ih => rw [List.map_cons, List.map_cons, List.sum_cons, List.sum_cons, ih]
  | swap x y l => simp only [List.map_cons, List.sum_cons]; omega
  | trans _ _ a b => rw [a, b]
theorem isum_if {α : Type} (l : List α) (b : α → Bool) (f : α → Int) : (l.map fun x => if b x = true then f x else 0).sum = ((l.filter b).map f).sum := by
  induction l with
  | nil => rfl
  | cons a l ih =>
    rw [List.map_cons, List.sum_cons, ih, List.filter_cons]
    cases b a with
    | true => rw [if_pos rfl, if_pos rfl, List.map_cons, List.sum_cons]
    | false => rw [if_neg Bool.false_ne_true, if_neg Bool.false_ne_true, Int.zero_add]
theorem isum_swap {α β : Type} (l : List α) (m : List β) (f : α → β → Int) : (l.map fun a => (m.map fun b => f a b).sum).sum = (m.map fun b => (l.map fun a => f a b).sum).sum := by
  induction l with
  | nil => exact (isum_zero _ _ fun _ _ => rfl).symm
  | cons a l ih =>
    rw [List.map_cons, List.sum_cons, ih, ← isum_add]
    exact isum_congr _ fun b _ => by rw [List.map_cons, List.sum_cons]
theorem isum_const {α : Type} (l : List α) (c : Int) : (l.map fun _ => c).sum = c * (l.length : Int) := by
  induction l with
  | nil => simp
  | cons a l ih =>
    rw [List.map_cons, List.sum_cons, ih, List.length_cons]
    push_cast
    rw [Int.mul_add]
    omega
/-- the firsts of a word are independent -/
theorem firsts_free (pr : Pairs ls ps) {t : List Nat} (it : ∀ x ∈ t, x ∈ ls) : (firstsM ps t).Pairwise fun a b => ind ps a b = true := by
  have up := firsts_lt (ps := ps) t
  refine List.pairwise_iff_getElem.mpr fun i j hi hj lt => ?_
  have l := List.pairwise_iff_getElem.mp up i j hi hj lt
  have li := mem_firsts.mp (List.getElem_mem hi)
  have lj := mem_firsts.mp (List.getElem_mem hj)
  exact ((lead_cons (by omega)).mp (lead_alike pr it (lead_erase li) lj).1).1
theorem firsts_sum (pr : Pairs ls ps) (up : ls.Pairwise (· < ·)) {F : List (List Nat)} (nd : F.Nodup) (mem : ∀ c, c ∈ F ↔ IsClq ps ls c) {t : List Nat} (it : ∀ x ∈ t, x ∈ ls) (ne : t ≠ []) : ((F.filter fun c => Leads ps c t).map fun c => sgn c.length).sum = 0 := by
  rw [← alt_sum (ps := ps) (firstsM ps t) (firsts_ne ne) (firsts_free pr it)]
  refine isum_perm ((List.perm_ext_iff_of_nodup (nd.sublist List.filter_sublist) (clqL_nodup _ (firsts_lt t))).mpr fun c => ?_) _
  rw [List.mem_filter, mem, clqL_mem _ (firsts_lt t), leads_mem]
  constructor
  · rintro ⟨h, l⟩
    exact ⟨h.up, fun x hx => mem_firsts.mpr (l x hx), h.free⟩
  · intro h
    exact ⟨⟨h.up, fun x hx => it x (lead_mem (mem_firsts.mp (h.sub x hx))), h.free⟩, fun x hx => mem_firsts.mp (h.sub x hx)⟩
/-- THE PROMISE: the sums over the cliques come to 0 for the numbers of least words -/
theorem foata (pr : Pairs ls ps) (up : ls.Pairwise (· < ·)) {F : List (List Nat)} (nd : F.Nodup) (mem : ∀ c, c ∈ F ↔ IsClq ps ls c) {n : Nat} (hn : 0 < n) : ((F.filter fun c => decide (c.length ≤ n)).map fun c => sgn c.length * ((nfL ps ls (n - c.length)).length : Int)).sum = 0 := by
  have ndl : ls.Nodup := up.imp fun h => Nat.ne_of_lt h
  have e1 : ((F.filter fun c => decide (c.length ≤ n)).map fun c => sgn c.length * ((nfL ps ls (n - c.length)).length : Int)).sum = (F.map fun c => sgn c.length * (((nfL ps ls n).filter (Leads ps c)).length : Int)).sum := by
    rw [← isum_if F (fun c => decide (c.length ≤ n))]
    refine isum_congr _ fun c hc => ?_
    by_cases l : c.length ≤ n
    · rw [if_pos (decide_eq_true l), clq_count pr ndl ((mem c).mp hc) l]
    · rw [if_neg (fun z => l (of_decide_eq_true z))]
      have : (nfL ps ls n).filter (Leads ps c) = [] := List.filter_eq_nil_iff.mpr fun t ht hl => by
        obtain ⟨lt, it, _⟩ := nfL_mem.mp ht
        have hq := (mem c).mp hc
        obtain ⟨v, hv⟩ := clq_peel pr hq.up hq.free it (leads_mem.mp hl)
        have := hv.perm.length_eq
        rw [List.length_append] at this
        omega
      rw [this]
      simp
  rw [e1]
  have e2 : ∀ c, sgn c.length * (((nfL ps ls n).filter (Leads ps c)).length : Int) = ((nfL ps ls n).map fun t => if Leads ps c t = true then sgn c.length else 0).sum := fun c => by
    rw [isum_if _ (Leads ps c), isum_const]
  rw [isum_congr _ fun c _ => e2 c, isum_swap]
  refine isum_zero _ _ fun t ht => ?_
  obtain ⟨lt, it, _⟩ := nfL_mem.mp ht
  rw [isum_if F (fun c => Leads ps c t) fun c => sgn c.length]
  exact firsts_sum pr up nd mem it fun z => by rw [z] at lt; simp at lt; omega
theorem conv_one_eq {q f g : Nat → Int} (one : q 0 = 1) (h : ∀ n, convI q f n = convI q g n) : ∀ n, f n = g n := fun n => by
  induction n using Nat.strongRecOn with
  | ind n ih =>
    have e := h n
    rw [conv_head, conv_head q g, one, Int.one_mul, Int.one_mul] at e
    have : shiftI (convI (fun k => q (k + 1)) f) n = shiftI (convI (fun k => q (k + 1)) g) n := by
      cases n with
      | zero => rfl
      | succ n =>
        show convI _ f n = convI _ g n
        unfold convI
        refine isum_congr _ fun i hi => ?_
        have := List.mem_range.mp hi
        rw [ih (n - i) (by omega)]
    omega
/-- the numbers of traces are the numbers of least words -/
theorem traces_count (pr : Pairs ls ps) (up : ls.Pairwise (· < ·)) {F : List (List Nat)} (nd : F.Nodup) (mem : ∀ c, c ∈ F ↔ IsClq ps ls c) (n : Nat) : ((nfL ps ls n).length : Int) = trN (signedC F) n := by
  refine conv_one_eq (q := fun k => sgn k * numI ps ls k) (f := fun n => ((nfL ps ls n).length : Int)) (g := trN (signedC F)) ?_ (fun n => ?_) n
  · show sgn 0 * numI ps ls 0 = 1
    unfold numI
    rw [numK_zero]
    rfl
  · have c := cartier up nd mem n
    show _ = ((List.range (n + 1)).map fun k => sgn k * numI ps ls k * trN (signedC F) (n - k)).sum
    rw [c]
    cases n with
    | zero =>
      rw [if_pos rfl, conv_head]
      show sgn 0 * numI ps ls 0 * ((nfL ps ls 0).length : Int) + 0 = 1
      have : nfL ps ls 0 = [[]] := by
        unfold nfL
        show [[]].filter _ = _
        rw [List.filter_cons, if_pos (decide_eq_true (show ([] : List Nat) = leastM ps [] from rfl)), List.filter_nil]
      rw [this]
      unfold numI
      rw [numK_zero]
      rfl
    | succ n =>
      rw [if_neg (by omega)]
      have f := foata pr up nd mem (Nat.succ_pos n)
      have gr := group (fun k => sgn k * ((nfL ps ls (n + 1 - k)).length : Int)) (n + 1) F
      have gr : ((F.filter fun c => decide (c.length ≤ n + 1)).map fun c => sgn c.length * ((nfL ps ls (n + 1 - c.length)).length : Int)).sum = _ := gr
      rw [f] at gr
      rw [gr]
      unfold convI
      refine isum_congr _ fun k _ => ?_
      rw [cntF_of up nd mem]
      show sgn k * (numK ps ls k : Int) * ((nfL ps ls (n + 1 - k)).length : Int) = (numK ps ls k : Int) * (sgn k * ((nfL ps ls (n + 1 - k)).length : Int))
      ac_rfl
end TcG
/-! Least words by barred letters. -/
namespace TcG
open PySem PySem.Spec PyProof.Rows L2
variable {ps : List (List Nat)} {ls : List Nat}
/-- y could pass back ahead of a greater letter -/
def BarS (ps : List (List Nat)) (w : List Nat) (y : Nat) : Prop := ∃ p z q, w = p ++ z :: q ∧ y < z ∧ ind ps z y = true ∧ ∀ u ∈ q, ind ps u y = true
/-- no letter could -/
def NF (ps : List (List Nat)) (w : List Nat) : Prop := ∀ p y r, w = p ++ y :: r → ¬ BarS ps p y
theorem ind_selfP (pr : Pairs ls ps) (y : Nat) : ind ps y y = false := by
  unfold ind
  refine decide_eq_false fun h => ?_
  obtain ⟨a, b, e, lt, _⟩ := pr _ h
  simp at e
  omega
theorem nf_cons (pr : Pairs ls ps) {c : Nat} {w : List Nat} : NF ps (c :: w) ↔ (∀ y, Lead ps (c :: w) y → c ≤ y) ∧ NF ps w := by
  constructor
  · intro h
    refine ⟨fun y l => ?_, fun p y r e b => ?_⟩
    · rcases Nat.lt_or_ge y c with lt | ge
      · exfalso
        obtain ⟨i, p, q, e, np, hp⟩ := (lead_cons (by omega)).mp l
        exact h (c :: p) y q (by rw [e]; rfl) ⟨[], c, p, rfl, lt, i, hp⟩
      · exact ge
    · obtain ⟨p1, z, q, rfl, lt, i, hq⟩ := b
      exact h (c :: (p1 ++ z :: q)) y r (by rw [e]; rfl) ⟨c :: p1, z, q, rfl, lt, i, hq⟩
  · rintro ⟨h1, h2⟩ p y r e ⟨p1, z, q, rfl, lt, i, hq⟩
    cases p1 with
    | nil =>
      have e1 := List.cons.inj e
      have ez : c = z := e1.1
      have ew : w = q ++ y :: r := e1.2
      subst ez
      have ny : y ∉ q := fun m => by have := hq y m; rw [ind_selfP pr] at this; cases this
      have := h1 y ((lead_cons (by omega)).mpr ⟨i, q, r, ew, ny, hq⟩)
      omega
    | cons d p1 =>
      have e1 := List.cons.inj e
      exact h2 (p1 ++ z :: q) y r (by rw [e1.2]; rfl) ⟨p1, z, q, rfl, lt, i, hq⟩
theorem nf_snoc {x : Nat} {w : List Nat} : NF ps (w ++ [x]) ↔ NF ps w ∧ ¬ BarS ps w x := by
  constructor
  · intro h
    exact ⟨fun p y r e => h p y (r ++ [x]) (by rw [e]; simp), h w x [] rfl⟩
  · rintro ⟨h1, h2⟩ p y r e
    rcases List.eq_nil_or_concat r with rfl | ⟨r', z, rfl⟩
    · obtain ⟨e1, e2⟩ := List.append_inj' e rfl
      have ex : x = y := (List.cons.inj e2).1
      rw [← e1, ← ex]
      exact h2
    · rw [List.concat_eq_append] at e
      have e' : w ++ [x] = (p ++ y :: r') ++ [z] := by rw [e]; simp
      exact h1 p y r' (List.append_inj' e' rfl).1
theorem nf_least (pr : Pairs ls ps) : ∀ w : List Nat, NF ps w ↔ w = leastM ps w
  | [] => ⟨fun _ => rfl, fun _ p y r e => by simp at e⟩
  | c :: w => by
    rw [nf_cons pr, nf_least pr w]
    have fup := firsts_lt (ps := ps) (c :: w)
    have fc : c ∈ firstsM ps (c :: w) := mem_firsts.mpr lead_self
    constructor
    · rintro ⟨h1, h2⟩
      obtain ⟨r, hr⟩ := head_least fup fc fun d hd => h1 d (mem_firsts.mp hd)
      rw [least_step hr, ← h2]
    · intro h
      have e : leastM ps (c :: w) = (firstsM ps (c :: w)).head?.getD 0 :: leastM ps ((c :: w).erase ((firstsM ps (c :: w)).head?.getD 0)) := by
        unfold leastM
        have el : ((c :: w).erase ((firstsM ps (c :: w)).head?.getD 0)).length = w.length := by
          have hm : (firstsM ps (c :: w)).head?.getD 0 ∈ c :: w := by
            cases ef : firstsM ps (c :: w) with
            | nil => rw [ef] at fc; cases fc
            | cons d r =>
              show d ∈ _
              exact lead_mem (mem_firsts.mp (by rw [ef]; exact List.mem_cons_self))
          rw [List.length_erase_of_mem hm]
          rfl
        rw [el]
        rfl
      rw [e] at h
      have hc := (List.cons.inj h).1
      have hw := (List.cons.inj h).2
      rw [← hc, List.erase_cons_head] at hw
      refine ⟨fun y l => ?_, hw⟩
      have hy := mem_firsts.mpr l
      cases ef : firstsM ps (c :: w) with
      | nil => rw [ef] at fc; cases fc
      | cons d r =>
        rw [ef] at hc hy fup
        have hc : c = d := hc
        rcases List.mem_cons.mp hy with e | m
        · omega
        · have := (List.pairwise_cons.mp fup).1 y m
          omega
/-- the barred letters, one letter behind -/
def barM (ps : List (List Nat)) (ls B : List Nat) (x : Nat) : List Nat := ls.filter fun y => ind ps y x && (decide (y ∈ B) || decide (y < x))
def barW (ps : List (List Nat)) (ls : List Nat) (w : List Nat) : List Nat := w.foldl (barM ps ls) []
theorem barW_snoc (w : List Nat) (x : Nat) : barW ps ls (w ++ [x]) = barM ps ls (barW ps ls w) x := by
  unfold barW
  rw [List.foldl_append]
  rfl
theorem bars_snoc {w : List Nat} {x y : Nat} : BarS ps (w ++ [x]) y ↔ ind ps x y = true ∧ (BarS ps w y ∨ y < x) := by
  constructor
  · rintro ⟨p, z, q, e, lt, i, hq⟩
    rcases List.eq_nil_or_concat q with rfl | ⟨q', u, rfl⟩
    · obtain ⟨e1, e2⟩ := List.append_inj' e rfl
      have ex : x = z := (List.cons.inj e2).1
      subst ex
      exact ⟨i, .inr lt⟩
    · rw [List.concat_eq_append] at e hq
      have e' : w ++ [x] = (p ++ z :: q') ++ [u] := by rw [e]; simp
      obtain ⟨e1, e2⟩ := List.append_inj' e' rfl
      have ex : x = u := (List.cons.inj e2).1
      subst ex
      exact ⟨hq x (by simp), .inl ⟨p, z, q', e1, lt, i, fun v hv => hq v (List.mem_append_left _ hv)⟩⟩
  · rintro ⟨i, ⟨p, z, q, rfl, lt, iz, hq⟩ | lt⟩
    · refine ⟨p, z, q ++ [x], by simp, lt, iz, fun v hv => ?_⟩
      rcases List.mem_append.mp hv with m | m
      · exact hq v m
      · rw [List.mem_singleton.mp m]; exact i
    · exact ⟨w, x, [], rfl, lt, i, fun _ h => nomatch h⟩
theorem barW_mem : ∀ (w : List Nat) (y : Nat), y ∈ barW ps ls w ↔ y ∈ ls ∧ BarS ps w y := by
  refine snoc_ind (fun y => ?_) fun w x ih y => ?_
  · show y ∈ [] ↔ _
    refine ⟨fun h => (nomatch h), fun ⟨_, p, z, q, e, _⟩ => by simp at e⟩
  · rw [barW_snoc, bars_snoc]
    unfold barM
    rw [List.mem_filter, Bool.and_eq_true, Bool.or_eq_true, decide_eq_true_eq, decide_eq_true_eq, ih, ind_comm ps y x]
    constructor
    · rintro ⟨h1, h2, h3 | h3⟩
      · exact ⟨h1, h2, .inl h3.2⟩
      · exact ⟨h1, h2, .inr h3⟩
    · rintro ⟨h1, h2, h3 | h3⟩
      · exact ⟨h1, h2, .inl ⟨h1, h3⟩⟩
      · exact ⟨h1, h2, .inr h3⟩
/-- the least words, letter by letter -/
def trsL (ps : List (List Nat)) (ls : List Nat) : Nat → List (List Nat)
  | 0 => [[]]
  | n + 1 => (trsL ps ls n).flatMap fun w => (ls.filter fun x => decide (x ∉ barW ps ls w)).map fun x => w ++ [x]
theorem trsL_mem (pr : Pairs ls ps) : ∀ (n : Nat) (w : List Nat), w ∈ trsL ps ls n ↔ w ∈ nfL ps ls n
  | 0, w => by
    rw [nfL_mem]
    show w ∈ [[]] ↔ _
    rw [List.mem_singleton]
    constructor
    · rintro rfl
      exact ⟨rfl, fun _ h => (nomatch h), rfl⟩
    · rintro ⟨l, _⟩
      exact List.length_eq_zero_iff.mp l
  | n + 1, w => by
    show w ∈ (trsL ps ls n).flatMap _ ↔ _
    rw [List.mem_flatMap, nfL_mem]
    constructor
    · rintro ⟨u, hu, h⟩
      obtain ⟨x, hx, rfl⟩ := List.mem_map.mp h
      obtain ⟨l, i, e⟩ := nfL_mem.mp ((trsL_mem pr n u).mp hu)
      obtain ⟨hx, nb⟩ := List.mem_filter.mp hx
      have nb := of_decide_eq_true nb
      rw [barW_mem] at nb
      refine ⟨by rw [List.length_append, List.length_singleton, l], fun c hc => ?_, (nf_least pr _).mp (nf_snoc.mpr ⟨(nf_least pr u).mpr e, fun b => nb ⟨hx, b⟩⟩)⟩
      rcases List.mem_append.mp hc with m | m
      · exact i c m
      · rw [List.mem_singleton.mp m]; exact hx
    · rintro ⟨l, i, e⟩
      rcases List.eq_nil_or_concat w with rfl | ⟨u, x, rfl⟩
      · cases l
      · rw [List.concat_eq_append] at l i e ⊢
        rw [List.length_append, List.length_singleton] at l
        obtain ⟨n1, n2⟩ := nf_snoc.mp ((nf_least pr _).mpr e)
        refine ⟨u, (trsL_mem pr n u).mpr (nfL_mem.mpr ⟨by omega, fun c hc => i c (List.mem_append_left _ hc), (nf_least pr u).mp n1⟩), List.mem_map.mpr ⟨x, List.mem_filter.mpr ⟨i x (by simp), decide_eq_true fun b => n2 ((barW_mem u x).mp b).2⟩, rfl⟩⟩
theorem trsL_len (pr : Pairs ls ps) (n : Nat) : ∀ w ∈ trsL ps ls n, w.length = n := fun w hw => (nfL_mem.mp ((trsL_mem pr n w).mp hw)).1
theorem trsL_lt (pr : Pairs ls ps) (up : ls.Pairwise (· < ·)) : ∀ n, (trsL ps ls n).Pairwise (· < ·)
  | 0 => List.pairwise_singleton _ _
  | n + 1 => by
    show ((trsL ps ls n).flatMap _).Pairwise (· < ·)
    have ih := trsL_lt pr up n
    have len := trsL_len pr n
    generalize trsL ps ls n = F at ih len
    induction F with
    | nil => exact .nil
    | cons c F ih2 =>
      obtain ⟨h1, h2⟩ := List.pairwise_cons.mp ih
      rw [List.flatMap_cons]
      refine List.pairwise_append.mpr ⟨?_, ih2 h2 fun d hd => len d (List.mem_cons_of_mem _ hd), fun a ha b hb => ?_⟩
      · rw [List.pairwise_map]
        exact (up.sublist List.filter_sublist).imp fun {x y} l => List.append_left_lt (List.cons_lt_cons_iff.mpr (.inl l))
      · obtain ⟨x, _, rfl⟩ := List.mem_map.mp ha
        obtain ⟨d, hd, hb⟩ := List.mem_flatMap.mp hb
        obtain ⟨y, _, rfl⟩ := List.mem_map.mp hb
        exact app_lt (h1 d hd) ((len c List.mem_cons_self).trans (len d (List.mem_cons_of_mem _ hd)).symm)
theorem trsL_count (pr : Pairs ls ps) (up : ls.Pairwise (· < ·)) {F : List (List Nat)} (nd : F.Nodup) (mem : ∀ c, c ∈ F ↔ IsClq ps ls c) (n : Nat) : ((trsL ps ls n).length : Int) = trN (signedC F) n := by
  rw [← traces_count pr up nd mem n]
  have nd1 : (trsL ps ls n).Nodup := by
    rw [List.nodup_iff_pairwise_ne]
    exact (trsL_lt pr up n).imp fun {a b} h z => by rw [z] at h; exact List.lt_irrefl _ h
  have p := (List.perm_ext_iff_of_nodup nd1 (nfL_nodup (up.imp fun h => Nat.ne_of_lt h) n)).mpr (trsL_mem pr n)
  rw [p.length_eq]
end TcG
/-! The names that a step touches, as a text. -/
namespace TcG
open PySem PySem.Spec PyProof.Rows L2
theorem touch_two (x y : Nat) : (Stp.copy x y).touch.map (fun c => [c]) = if x = y then [[x]] else if x < y then [[x], [y]] else [[y], [x]] := by
  show (if x = y then [x] else if x < y then [x, y] else [y, x]).map _ = _
  by_cases e : x = y
  · rw [if_pos e, if_pos e]; rfl
  · rw [if_neg e, if_neg e]
    by_cases l : x < y
    · rw [if_pos l, if_pos l]; rfl
    · rw [if_neg l, if_neg l]; rfl
theorem one_lt {a b : Nat} (h : a < b) : [a] < [b] := List.cons_lt_cons_iff.mpr (.inl h)
theorem touch_join {x y : Nat} {ys : List Str} (nd : ys.Nodup) (mem : ∀ z, z ∈ ys ↔ decide (z ∈ [tx [x], tx [y]]) = true) (so : sortedS ys = true) : Txt.join (tx []) ys = tx (Stp.copy x y).touch := by
  obtain ⟨F, ndF, hF⟩ : ∃ F : List (List Nat), F.Nodup ∧ ∀ u, u ∈ F ↔ u = [x] ∨ u = [y] := by
    by_cases e : x = y
    · exact ⟨[[x]], by simp, fun u => by rw [e]; simp⟩
    · exact ⟨[[x], [y]], by simp [e], fun u => by simp⟩
  have pm : ys.Perm (F.map tx) := by
    refine (List.perm_ext_iff_of_nodup nd ?_).mpr fun z => ?_
    · rw [List.nodup_iff_pairwise_ne, List.pairwise_map]
      exact (List.nodup_iff_pairwise_ne.mp ndF).imp fun h e => h (tx_inj e)
    · rw [mem z, decide_eq_true_eq, List.mem_map]
      constructor
      · intro h
        rcases List.mem_cons.mp h with h | h
        · exact ⟨[x], (hF _).mpr (.inl rfl), h.symm⟩
        · exact ⟨[y], (hF _).mpr (.inr rfl), (List.mem_singleton.mp h).symm⟩
      · rintro ⟨u, hu, rfl⟩
        rcases (hF u).mp hu with rfl | rfl <;> simp
  obtain ⟨L, rfl, pL, upL⟩ := str_sorted ndF pm so
  have eL : L = (Stp.copy x y).touch.map (fun c => [c]) := by
    refine rising_one (R := (· < ·)) List.lt_irrefl (fun _ _ _ => List.lt_trans) _ _ upL ?_ fun u => ?_
    · rw [touch_two]
      by_cases e : x = y
      · rw [if_pos e]; exact List.pairwise_singleton _ _
      · rw [if_neg e]
        by_cases l : x < y
        · rw [if_pos l]; exact List.pairwise_pair.mpr (one_lt l)
        · rw [if_neg l]; exact List.pairwise_pair.mpr (one_lt (by omega))
    · rw [pL.mem_iff, hF, touch_two]
      by_cases e : x = y
      · rw [if_pos e, e]; simp
      · rw [if_neg e]
        by_cases l : x < y
        · rw [if_pos l]; simp
        · rw [if_neg l]; simp [or_comm]
  rw [join_flat, eL]
  congr 1
  generalize (Stp.copy x y).touch = t
  induction t with
  | nil => rfl
  | cons a t ih => rw [List.map_cons, List.flatten_cons, ih]; rfl
theorem touch_sum {x y : Nat} {ys : List Str} (nd : ys.Nodup) (mem : ∀ z, z ∈ ys ↔ decide (z ∈ [tx [x], tx [y]]) = true) : ys.length ≤ 2 ∧ (ys.map (·.length)).sum ≤ 2 := by
  have two : ys.length ≤ 2 := len_le_of_mem (G := [tx [x], tx [y]]) nd fun z hz => of_decide_eq_true ((mem z).mp hz)
  have each : ∀ z ∈ ys, z.length = 1 := fun z hz => by
    rcases List.mem_cons.mp (of_decide_eq_true ((mem z).mp hz)) with e | e
    · rw [e]; rfl
    · rw [List.mem_singleton.mp e]; rfl
  refine ⟨two, ?_⟩
  have e : (ys.map (·.length)).sum = ys.length := by
    clear nd mem two
    induction ys with
    | nil => rfl
    | cons z ys ih =>
      rw [List.map_cons, List.sum_cons, List.length_cons, ih fun u hu => each u (List.mem_cons_of_mem _ hu), each z List.mem_cons_self]
      omega
  omega
theorem same_put {H H' : Hp} {p : Addr} {o : HO} (s : Same H H') (np : H p = none) : Same H (upd H' p o) := fun z u e => by
  rw [upd_ne (ne_of_none e np)]
  exact s z u e
/-! the next steps -/
def rLenQ (K : PySem.W.Frag) : List V → Hp → VK → Prop := fun xs H Q => ∃ p ys, xs = [.ref p] ∧ (SqL K H p ys ∨ SqT K H p ys) ∧ Q (.int ys.length) H
def rTupQ (K : PySem.W.Frag) : List V → Hp → VK → Prop := fun xs H Q => ∃ p ys, xs = [.ref p] ∧ ((SqL K H p ys ∧ ∀ l, H l = none → Q (.ref l) (upd H l (.tup ys))) ∨ (SqT K H p ys ∧ Q (.ref p) H))
def nstL (T : Thr) (c : List Nat) (n : Nat) : List (Nat × Stp) := (List.range n).filterMap fun t => (stepAt T c t).map fun s => (t, s)
def nstM (T : Thr) (c : List Nat) : List (Nat × Stp) := nstL T c T.length
theorem nstL_succ (T : Thr) (c : List Nat) (n : Nat) : nstL T c (n + 1) = nstL T c n ++ (match stepAt T c n with | some s => [(n, s)] | none => []) := by
  unfold nstL
  rw [List.range_succ, List.filterMap_append]
  congr 1
  rw [List.filterMap_cons, List.filterMap_nil]
  cases stepAt T c n <;> rfl
theorem nstL_lt {T : Thr} {c : List Nat} {n : Nat} {e : Nat × Stp} (h : e ∈ nstL T c n) : e.1 < n ∧ stepAt T c e.1 = some e.2 := by
  obtain ⟨t, ht, e2⟩ := List.mem_filterMap.mp h
  cases e3 : stepAt T c t with
  | none => rw [e3] at e2; cases e2
  | some s =>
    rw [e3] at e2
    cases e2
    exact ⟨List.mem_range.mp ht, e3⟩
theorem nstL_len (T : Thr) (c : List Nat) : ∀ n, (nstL T c n).length ≤ n
  | 0 => Nat.zero_le _
  | n + 1 => by
    rw [nstL_succ, List.length_append]
    have := nstL_len T c n
    cases stepAt T c n with
    | none => show _ + 0 ≤ _; omega
    | some s => show _ + 1 ≤ _; omega
def nstK (qs : List (Nat × Addr)) : List (Key × V) := qs.map fun e => (Sum.inl (e.1 : Int), V.ref e.2)
theorem nstK_put {qs : List (Nat × Addr)} {i : Nat} {q : Addr} (h : ∀ e ∈ qs, e.1 < i) : putK (nstK qs) (Sum.inl (i : Int)) (.ref q) = nstK (qs ++ [(i, q)]) := by
  rw [putK_fresh]
  · unfold nstK
    rw [List.map_append]
    rfl
  · intro m
    unfold nstK at m
    rw [List.map_map] at m
    obtain ⟨e, he, e2⟩ := List.mem_map.mp m
    have e3 : ((e.1 : Nat) : Int) = (i : Int) := Sum.inl.inj e2
    have := h e he
    omega
def NextAt (H : Hp) (d : Addr) (L : List (Nat × Stp)) : Prop := ∃ qs : List (Nat × Addr), H d = some (.dK (nstK qs)) ∧ Paired (fun e (u : Nat × Stp) => e.1 = u.1 ∧ StpAt H e.2 u.2) qs L
theorem openM_next (T : Thr) (c : List Nat) (us : TcG.EnvM) : openM T c us = ((nstM T c).filter fun e => possE us e.2).map Prod.fst := by
  unfold openM nstM nstL
  generalize List.range T.length = R
  induction R with
  | nil => rfl
  | cons t R ih =>
    rw [List.filter_cons, List.filterMap_cons]
    cases e : stepAt T c t with
    | none => exact ih
    | some s =>
      show (if possE us s = true then _ else _) = (List.filter (fun e => possE us e.2) ((t, s) :: _)).map Prod.fst
      rw [List.filter_cons]
      show _ = (if possE us s = true then _ else _ : List (Nat × Stp)).map Prod.fst
      cases possE us s with
      | true => rw [if_pos rfl, if_pos rfl, List.map_cons, ih]
      | false => rw [if_neg Bool.false_ne_true, if_neg Bool.false_ne_true]; exact ih
theorem paired_snoc {α β : Type} {R : α → β → Prop} {as : List α} {bs : List β} {a : α} {b : β} (p : Paired R as bs) (r : R a b) : Paired R (as ++ [a]) (bs ++ [b]) := by
  induction p with
  | nil => exact .cons r .nil
  | cons x _ ih => exact .cons x ih
end TcG
/-! Runs of a program. -/
namespace TcG
open PySem PySem.Spec PyProof.Rows L2
theorem inV_nats (t : Nat) (L : List Nat) : inV (.int (t : Int)) (natsV L) = decide (t ∈ L) := by
  unfold inV natsV
  rw [List.any_map]
  have key : ∀ n : Nat, ((fun y => eqV y (.int (t : Int))) ∘ fun n : Nat => V.int (n : Int)) n = decide (n = t) := fun n => by
    show ((n : Int) == (t : Int)) = _
    by_cases h : n = t
    · rw [h]
      simp
    · rw [decide_eq_false h]
      exact beq_eq_false_iff_ne.mpr fun z => h (by omega)
  rw [Bool.eq_iff_iff, List.any_eq_true, decide_eq_true_eq]
  constructor
  · intro ⟨n, hn, e⟩
    rw [key] at e
    rw [← of_decide_eq_true e]
    exact hn
  · intro h
    exact ⟨t, h, by rw [key]; exact decide_eq_true rfl⟩
theorem ixN_nat' {n j : Nat} (h : j < n) : ixN n (j : Int) = some j := by
  unfold ixN
  rw [if_pos (by omega), if_pos (by omega)]
  rfl
theorem nats_flat (L : List Nat) : (natsV L).all flatV = true := by
  unfold natsV
  rw [List.all_map, List.all_eq_true]
  intro n _
  rfl
theorem open_step {T : Thr} {c : List Nat} {us : TcG.EnvM} {t : Nat} (h : t ∈ openM T c us) : ∃ st, stepAt T c t = some st ∧ t < T.length := by
  obtain ⟨h1, h2⟩ := List.mem_filter.mp h
  cases e : stepAt T c t with
  | none => rw [e] at h2; cases h2
  | some st => exact ⟨st, rfl, List.mem_range.mp h1⟩
theorem incM_len (c : List Nat) (t : Nat) : (incM c t).length = c.length := List.length_set ..
theorem runM_go {T : Thr} {k t : Nat} {c : List Nat} {us : TcG.EnvM} {r : List Nat} {st : Stp} (h : t ∈ openM T c us) (e : stepAt T c t = some st) : runM T k c us (t :: r) = runM T (k + 1) (incM c t) (afterE us st) r := by
  show (if t ∈ openM T c us then runM T (k + 1) (incM c t) (match stepAt T c t with | some s => afterE us s | none => us) r else .inl k) = _
  rw [if_pos h, e]
theorem runM_no {T : Thr} {k t : Nat} {c : List Nat} {us : TcG.EnvM} {r : List Nat} (h : t ∉ openM T c us) : runM T k c us (t :: r) = .inl k := by
  show (if t ∈ openM T c us then runM T (k + 1) (incM c t) (match stepAt T c t with | some s => afterE us s | none => us) r else .inl k) = _
  rw [if_neg h]
theorem fits_env {T : Thr} {us vs : TcG.EnvM} (h : ∀ row ∈ T, ∀ s ∈ row, ∀ x ∈ s.names, x ∈ us.map Prod.fst) (e : vs.map Prod.fst = us.map Prod.fst) : ∀ row ∈ T, ∀ s ∈ row, ∀ x ∈ s.names, x ∈ vs.map Prod.fst := fun row hr s hs x hx => by rw [e]; exact h row hr s hs x hx
theorem runM_snoc {T : Thr} : ∀ (r : List Nat) (k : Nat) (c : List Nat) (us : TcG.EnvM) {c' : List Nat} {us' : TcG.EnvM} {t : Nat} {st : Stp}, runM T k c us r = .inr (c', us') → t ∈ openM T c' us' → stepAt T c' t = some st → runM T k c us (r ++ [t]) = .inr (incM c' t, afterE us' st)
  | [], k, c, us, c', us', t, st, h, ho, e => by
    cases h
    show runM T k c us [t] = _
    rw [runM_go ho e]
    rfl
  | a :: r, k, c, us, c', us', t, st, h, ho, e => by
    by_cases ha : a ∈ openM T c us
    · obtain ⟨s1, hs1, _⟩ := open_step ha
      rw [runM_go ha hs1] at h
      show runM T k c us (a :: (r ++ [t])) = _
      rw [runM_go ha hs1]
      exact runM_snoc r _ _ _ h ho e
    · rw [runM_no ha] at h
      cases h
/-- what a run keeps -/
theorem runM_keeps {T : Thr} : ∀ (r : List Nat) (k : Nat) (c : List Nat) (us : TcG.EnvM) {c' : List Nat} {us' : TcG.EnvM}, runM T k c us r = .inr (c', us') → c'.length = c.length ∧ us'.map Prod.fst = us.map Prod.fst
  | [], k, c, us, c', us', h => by
    cases h
    exact ⟨rfl, rfl⟩
  | a :: r, k, c, us, c', us', h => by
    by_cases ha : a ∈ openM T c us
    · obtain ⟨s1, hs1, _⟩ := open_step ha
      rw [runM_go ha hs1] at h
      obtain ⟨h1, h2⟩ := runM_keeps r _ _ _ h
      exact ⟨by rw [h1, incM_len], by rw [h2, afterE_names]⟩
    · rw [runM_no ha] at h
      cases h
end TcG
/-! While things are drawn out of a box: what stands stays, new lists grow. -/
namespace TcG
open PySem PySem.Spec PyProof.Rows L2
structure Dr (K : PySem.W.Frag) (b dl : Addr) (H0 H : Hp) : Prop where
  box0 : Box K b dl H0
  box : Box K b dl H
  mv : Mv [b] H0 H
section
variable {K : PySem.W.Frag} {b dl : Addr} {H0 H H' : Hp}
theorem Dr.refl (h : Box K b dl H) : Dr K b dl H H := ⟨h, h, .refl _ _⟩
theorem Dr.trans {H1 H2 : Hp} (h : Dr K b dl H H1) (g : Dr K b dl H1 H2) : Dr K b dl H H2 := ⟨h.box0, g.box, h.mv.trans g.mv⟩
theorem Dr.same (h : Dr K b dl H0 H) (s : Same H H') : Dr K b dl H0 H' := ⟨h.box0, h.box.same s, h.mv.trans (.of_same s)⟩
theorem Dr.go (h : Dr K b dl H0 H) (m : Mv [b] H H') (bx : Box K b dl H') : Dr K b dl H0 H' := ⟨h.box0, bx, h.mv.trans m⟩
theorem Dr.ne (h : Dr K b dl H0 H) {p : Addr} (np : H p = none) : p ≠ b := fun z => by
  obtain ⟨ds, n, hb, _⟩ := h.box
  rw [z, hb] at np
  cases np
theorem Dr.free (h : Dr K b dl H0 H) {p : Addr} (np : H p = none) : H0 p = none := by
  cases e : H0 p with
  | none => rfl
  | some o =>
    have := h.mv p o (fun z => h.ne np (List.mem_singleton.mp z)) e
    rw [np] at this
    cases this
theorem Dr.put (h : Dr K b dl H0 H) {p : Addr} {o : HO} (np : H0 p = none) : Dr K b dl H0 (upd H p o) := ⟨h.box0, h.box0.put np h.box, fun a u n e => by
  rw [upd_ne (ne_of_none e np)]
  exact h.mv a u n e⟩
/-- what was new stays over a draw -/
theorem Dr.keep (h : Dr K b dl H0 H) {p : Addr} {o : HO} (np : H0 p = none) (m : Mv [b] H H') (e : H p = some o) : H' p = some o := by
  refine m p o (fun z => ?_) e
  obtain ⟨ds, n, hb, _⟩ := h.box0
  rw [List.mem_singleton.mp z, hb] at np
  cases np
theorem Dr.tk (h : Dr K b dl H0 H) (m : Mv [b] H H') : TK H H' := by
  obtain ⟨ds, n, hb, _⟩ := h.box
  exact TK.mv hb m
theorem TK.refl (H : Hp) : TK H H := fun _ _ _ e => e
theorem TK.trans {H1 H2 : Hp} (a : TK H H1) (c : TK H1 H2) : TK H H2 := fun x o h e => c x o h (a x o h e)
theorem TK.put {p : Addr} {xs : List V} {o : HO} (e : H p = some (.lst xs)) : TK H (upd H p o) := fun x u h g => by
  rw [upd_ne fun z => by
    rw [z, e] at g
    cases g
    rcases h with ⟨_, h⟩ | ⟨_, _, h⟩ <;> cases h]
  exact g
end
/-- values and rows while they are drawn -/
structure LayR (K : PySem.W.Frag) (b dl : Addr) (H0 : Hp) (vp : Addr) (us : TcG.EnvM) (rp : Addr) (rs : List Addr) (T : Thr) (H : Hp) : Prop where
  d : Dr K b dl H0 H
  env : EnvAt H vp us
  nr : H0 rp = none
  hr : H rp = some (.lst (rs.map V.ref))
  pr : Paired (RowAt H) rs T
/-- .. and the steps of a row -/
structure LayS (K : PySem.W.Frag) (b dl : Addr) (H0 : Hp) (vp : Addr) (us : TcG.EnvM) (rp : Addr) (rs : List Addr) (T : Thr) (sp : Addr) (ss : List Addr) (row : List Stp) (H : Hp) : Prop where
  r : LayR K b dl H0 vp us rp rs T H
  ns : H0 sp = none
  ne : rp ≠ sp
  hs : H sp = some (.lst (ss.map V.ref))
  ps : Paired (StpAt H) ss row
section
variable {K : PySem.W.Frag} {b dl vp rp sp : Addr} {H0 H H' : Hp} {us : TcG.EnvM} {rs ss : List Addr} {T : Thr} {row : List Stp}
theorem LayR.go (h : LayR K b dl H0 vp us rp rs T H) (m : Mv [b] H H') (bx : Box K b dl H') : LayR K b dl H0 vp us rp rs T H' :=
  ⟨h.d.go m bx, h.env.tk (h.d.tk m), h.nr, h.d.keep h.nr m h.hr, paired_imp (fun _ _ x => x.tk (h.d.tk m)) h.pr⟩
theorem LayR.same (h : LayR K b dl H0 vp us rp rs T H) (s : Same H H') : LayR K b dl H0 vp us rp rs T H' :=
  ⟨h.d.same s, h.env.tk (.of s), h.nr, s _ _ h.hr, paired_imp (fun _ _ x => x.tk (.of s)) h.pr⟩
theorem LayS.go (h : LayS K b dl H0 vp us rp rs T sp ss row H) (m : Mv [b] H H') (bx : Box K b dl H') : LayS K b dl H0 vp us rp rs T sp ss row H' :=
  ⟨h.r.go m bx, h.ns, h.ne, h.r.d.keep h.ns m h.hs, paired_imp (fun _ _ x => x.tk (h.r.d.tk m)) h.ps⟩
theorem LayS.same (h : LayS K b dl H0 vp us rp rs T sp ss row H) (s : Same H H') : LayS K b dl H0 vp us rp rs T sp ss row H' :=
  ⟨h.r.same s, h.ns, h.ne, s _ _ h.hs, paired_imp (fun _ _ x => x.tk (.of s)) h.ps⟩
theorem LayS.add (h : LayS K b dl H0 vp us rp rs T sp ss row H) {q : Addr} {st : Stp} (hq : H q = some (.tup st.vals)) : LayS K b dl H0 vp us rp rs T sp (ss ++ [q]) (row ++ [st]) (upd H sp (.lst (ss.map V.ref ++ [V.ref q]))) := by
  have k : TK H (upd H sp (.lst (ss.map V.ref ++ [V.ref q]))) := TK.put h.hs
  refine ⟨⟨h.r.d.put h.ns, h.r.env.tk k, h.r.nr, by rw [upd_ne h.ne]; exact h.r.hr, paired_imp (fun _ _ x => x.tk k) h.r.pr⟩, h.ns, h.ne, ?_, paired_snoc (paired_imp (fun _ _ x => x.tk k) h.ps) (k _ _ (.inl ⟨_, rfl⟩) hq)⟩
  rw [upd_same, List.map_append]
  rfl
theorem LayR.add (h : LayR K b dl H0 vp us rp rs T H) {r : Addr} {row : List Stp} (hr : RowAt H r row) : LayR K b dl H0 vp us rp (rs ++ [r]) (T ++ [row]) (upd H rp (.lst (rs.map V.ref ++ [V.ref r]))) := by
  have k : TK H (upd H rp (.lst (rs.map V.ref ++ [V.ref r]))) := TK.put h.hr
  refine ⟨h.d.put h.nr, h.env.tk k, h.nr, ?_, paired_snoc (paired_imp (fun _ _ x => x.tk k) h.pr) (hr.tk k)⟩
  rw [upd_same, List.map_append]
  rfl
end
/-- the letters of names -/
def xyz (n : Nat) : List Nat := [120, 121, 122].take n
theorem xyz_len {n : Nat} (h : n ≤ 3) : (xyz n).length = n := by unfold xyz; rw [List.length_take]; show min n 3 = n; omega
theorem xyz_up (n : Nat) : (xyz n).Pairwise (· < ·) := (show [120, 121, 122].Pairwise (· < ·) by decide).sublist (List.take_sublist n _)
theorem seqT_put {K : PySem.W.Frag} {H : Hp} {p a : Addr} {o : HO} {xs ys : List V} (h : H p = some (.lst ys)) (g : SqT K H a xs) : SqT K (upd H p o) a xs := by
  rcases g with (g | ⟨q, g⟩) | g
  · exact .inl (.inl (by rw [upd_ne fun z => by rw [z, h] at g; cases g]; exact g))
  · exact .inl (.inr ⟨q, by rw [upd_ne fun z => by rw [z, h] at g; cases g]; exact g⟩)
  · exact .inr g
/-- isinstance of a class above -/
theorem kit_sub {K : PySem.W.Frag} {D C : Addr} (h1 : PySem.W.isClsIn K C = true) (h2 : PySem.W.typeIn K (.ref C) = some (.type "type")) (h3 : PySem.W.subIn K (.ref D) (.ref C) = some true) : PySem.W.kitOne K (.ref D) (.ref C) = some true := by
  have e2 : ((PySem.W.clsIn K C).isSome && PySem.W.typeIn K (.ref C) == some (.type "type")) = true := by
    have h1' : (PySem.W.clsIn K C).isSome = true := h1
    rw [h1', h2]
    rfl
  unfold PySem.W.kitOne PySem.W.kitCls
  cases e1 : (Value.ref D == Value.ref C) with
  | true => rw [if_pos rfl]
  | false =>
    rw [if_neg Bool.false_ne_true]
    show (if ((PySem.W.clsIn K C).isSome && PySem.W.typeIn K (.ref C) == some (.type "type")) = true then PySem.W.subIn K (.ref D) (.ref C) else none) = some true
    rw [if_pos e2]
    exact h3
end TcG
/-! A dict comprehension over any walk. -/
namespace TcG
open PySem PySem.Spec PyProof.Rows L2
/-- one turn of it, D the dict that is made -/
abbrev DcTurn (g : TG) (tt : TT) (tk tv : TE) (vs : List Nat) (σ : L2.St) (D : Addr) (N : Hp → Prop) (x : V) (H : Hp) : Prop :=
  g x (wipe σ vs) H fun σ' H' => wipe σ' vs = wipe σ vs ∧ tt σ' H' fun b K1 => if b = true then tk σ' K1 fun y K2 => tv σ' K2 fun z K3 => ∃ kvs k, y = kV k ∧ K3 D = some (.dK kvs) ∧ kvs.length < sizeLine ∧ N (upd K3 D (.dK (putK kvs k z))) else N K1
theorem dc_it {J : It} {n : Nat} {G : Hp → Prop} {Y : Nat → Hp → V → Hp → Prop} (w : Walk J n G Y) {g : TG} {tt : TT} {tk tv : TE} {vs : List Nat} {σ : L2.St} {H1 : Hp} {D : Addr} {R : Hp → Prop} (I : Nat → Hp → Prop)
    (base : I 0 (upd H1 D (.dK []))) (good : ∀ i H, i ≤ n → I i H → G H) (turn : ∀ i x H H', i < n → I i H → Y i H x H' → DcTurn g tt tk tv vs σ D (I (i + 1)) x H') (out : ∀ H, I n H → R H) :
    ∃ W : Nat → Nat → Hp → Prop, (∃ m, W 0 m (upd H1 D (.dK []))) ∧ ∀ i m H, W i m H → (J.stop i H ∧ R H) ∨ (J.go i H ∧ ∃ N : Hp → Prop, (∀ H', N H' → ∃ k, k < m ∧ W (i + 1) k H') ∧ ∀ x H', J.yld i H x H' → DcTurn g tt tk tv vs σ D N x H') := by
  refine ⟨fun i m H => i ≤ n ∧ m = n - i ∧ I i H, ⟨n, Nat.zero_le _, rfl, base⟩, fun i m H ⟨le, em, h⟩ => ?_⟩
  have ok := good i H le h
  rcases Nat.lt_or_ge i n with lt | ge
  · exact .inr ⟨w.goes i H lt ok, I (i + 1), fun H' h' => ⟨n - (i + 1), by omega, lt, rfl, h'⟩, fun x H' y => turn i x H H' lt h (w.yields i H x H' lt ok y)⟩
  · cases Nat.le_antisymm le ge
    exact .inl ⟨w.stops H ok, out H h⟩
theorem dc_text {l : List Nat} {g : TG} {tt : TT} {tk tv : TE} {vs : List Nat} {σ : L2.St} {H1 : Hp} {D : Addr} {R : Hp → Prop} (I : Nat → Hp → Prop) (base : I 0 (upd H1 D (.dK []))) (turn : ∀ i c H, l[i]? = some c → I i H → DcTurn g tt tk tv vs σ D (I (i + 1)) (.str (tx [c])) H) (out : ∀ H, I l.length H → R H) :
    ∃ W : Nat → Nat → Hp → Prop, (∃ m, W 0 m (upd H1 D (.dK []))) ∧ ∀ i m H, W i m H → ((Its (tx l)).stop i H ∧ R H) ∨ ((Its (tx l)).go i H ∧ ∃ N : Hp → Prop, (∀ H', N H' → ∃ k, k < m ∧ W (i + 1) k H') ∧ ∀ x H', (Its (tx l)).yld i H x H' → DcTurn g tt tk tv vs σ D N x H') := by
  have size : (tx l).cps.size = l.length := tx_length l
  refine dc_it walk_str I base (fun _ _ _ _ => trivial) (fun i x H H' _ h y => ?_) (fun H h => out H (by rw [size] at h; exact h))
  obtain ⟨rfl, c, hc, rfl⟩ := y
  exact turn i c H' (by simpa [tx] using hc) h
end TcG
/-! Automata on the heap. -/
namespace TcG
open PySem PySem.Spec PyProof.Rows L2
theorem seqT_tk {K : PySem.W.Frag} {H H' : Hp} {a : Addr} {xs : List V} (t : TK H H') (h : SqT K H a xs) : SqT K H' a xs := by
  rcases h with (h | ⟨q, h⟩) | h
  · exact .inl (.inl (t _ _ (.inl ⟨_, rfl⟩) h))
  · exact .inl (.inr ⟨q, t _ _ (.inr ⟨_, _, rfl⟩) h⟩)
  · exact .inr h
def numV (L : List Nat) : List V := L.map fun n : Nat => V.int (n : Int)
theorem numV_len (L : List Nat) : (numV L).length = L.length := List.length_map _
def EdgeAt (K : PySem.W.Frag) (H : Hp) (r : Addr) (e : Edge) : Prop := SqT K H r [.int (e.1 : Nat), .str (tx [e.2.1]), .int (e.2.2 : Nat)]
structure AutIn (K : PySem.W.Frag) (H : Hp) (a : Addr) (A : Aut) (en ed : Addr) (es : List Addr) : Prop where
  top : SqT K H a [.str "automaton", .int (A.many : Nat), .int (A.start : Nat), .ref en, .ref ed]
  ends : SqT K H en (numV A.ends)
  rows : SqT K H ed (es.map V.ref)
  edges : Paired (EdgeAt K H) es A.edges
def AutAt (K : PySem.W.Frag) (H : Hp) (a : Addr) (A : Aut) : Prop := ∃ en ed es, AutIn K H a A en ed es
theorem AutIn.tk {K : PySem.W.Frag} {H H' : Hp} {a en ed : Addr} {A : Aut} {es : List Addr} (h : AutIn K H a A en ed es) (t : TK H H') : AutIn K H' a A en ed es :=
  ⟨seqT_tk t h.top, seqT_tk t h.ends, seqT_tk t h.rows, paired_imp (fun _ _ x => seqT_tk t x) h.edges⟩
theorem AutAt.tk {K : PySem.W.Frag} {H H' : Hp} {a : Addr} {A : Aut} (h : AutAt K H a A) (t : TK H H') : AutAt K H' a A := by
  obtain ⟨en, ed, es, g⟩ := h
  exact ⟨en, ed, es, g.tk t⟩
theorem AutIn.len {K : PySem.W.Frag} {H : Hp} {a en ed : Addr} {A : Aut} {es : List Addr} (h : AutIn K H a A en ed es) : es.length = A.edges.length := Paired.length h.edges
/-- a turn of a comprehension whose keys are tuples -/
theorem ndc_it {P : Program} {w : World} {J : It} {n : Nat} {G : Hp → Prop} {Y : Nat → Hp → V → Hp → Prop} (wk : Walk J n G Y) {g : TG} {tt : TT} {tk tv : TE} {vs : List Nat} {σ : L2.St} {H0 : Hp} {D : Addr} {R : Hp → Prop} (I : Nat → Hp → Prop)
    (base : I 0 H0) (good : ∀ i H, i ≤ n → I i H → G H)
    (turn : ∀ i x H H', i < n → I i H → Y i H x H' → g x (wipe σ vs) H' fun σ2 H2 => wipe σ2 vs = wipe σ vs ∧ tt σ2 H2 fun b H3 => if b = true then NTurn P w D tk tv σ2 (I (i + 1)) H3 else I (i + 1) H3) (out : ∀ H, I n H → R H) :
    ∃ W : Nat → Nat → Hp → Prop, (∃ m, W 0 m H0) ∧ ∀ i m H, W i m H → (J.stop i H ∧ R H) ∨ (J.go i H ∧ ∃ Nx : Hp → Prop, (∀ H', Nx H' → ∃ m', m' < m ∧ W (i + 1) m' H') ∧ ∀ x H', J.yld i H x H' → g x (wipe σ vs) H' fun σ2 H2 => wipe σ2 vs = wipe σ vs ∧ tt σ2 H2 fun b H3 => if b = true then NTurn P w D tk tv σ2 Nx H3 else Nx H3) := by
  refine ⟨fun i m H => i ≤ n ∧ m = n - i ∧ I i H, ⟨n, Nat.zero_le _, rfl, base⟩, fun i m H ⟨le, em, h⟩ => ?_⟩
  have ok := good i H le h
  rcases Nat.lt_or_ge i n with lt | ge
  · exact .inr ⟨wk.goes i H lt ok, I (i + 1), fun H' h' => ⟨n - (i + 1), by omega, lt, rfl, h'⟩, fun x H' y => turn i x H H' lt h (wk.yields i H x H' lt ok y)⟩
  · cases Nat.le_antisymm le ge
    exact .inl ⟨wk.stops H ok, out H h⟩
theorem TK.new {H : Hp} {p : Addr} {o : HO} (n : H p = none) : TK H (upd H p o) := .of (same_new n)
theorem TK.rawput {P : Program} {w : World} {H : Hp} {d : Addr} {kvs : List (NestedKey × V)} {o : HO} (n : NestAt P w H d kvs) : TK H (upd H d o) := by
  obtain ⟨q, e⟩ := n.raw
  intro x u h g
  rw [upd_ne fun z => by
    rw [z, e] at g
    cases g
    rcases h with ⟨_, h⟩ | ⟨_, _, h⟩ <;> cases h]
  exact g
theorem TK.dput {H : Hp} {p : Addr} {kvs : List (Key × V)} {o : HO} (e : H p = some (.dK kvs)) : TK H (upd H p o) := fun x u h g => by
  rw [upd_ne fun z => by
    rw [z, e] at g
    cases g
    rcases h with ⟨_, h⟩ | ⟨_, _, h⟩ <;> cases h]
  exact g
end TcG
/-! The walk through pairs of states, as it stands on the heap. -/
namespace TcG
open PySem PySem.Spec PyProof.Rows L2
theorem TK.mvN {P : Program} {w : World} {H H' : Hp} {d : Addr} {kvs : List (NestedKey × V)} (n : NestAt P w H d kvs) (m : Mv [d] H H') : TK H H' := by
  obtain ⟨q, e⟩ := n.raw
  intro x u h g
  refine m x u (fun z => ?_) g
  rw [List.mem_singleton.mp z, e] at g
  cases g
  rcases h with ⟨_, h⟩ | ⟨_, _, h⟩ <;> cases h
theorem NestAt.mv {P : Program} {w : World} {H H' : Hp} {d s : Addr} {kvs us : List (NestedKey × V)} (h : NestAt P w H d kvs) (n : NestAt P w H s us) (ne : d ≠ s) (m : Mv [s] H H') : NestAt P w H' d kvs :=
  h.tk (.mvN n m) fun o e => m d o (fun z => ne (List.mem_singleton.mp z)) e
def RowA (H : Hp) (r : Addr) (x : RwA) : Prop := H r = some (.tup [.str (tx x.1), stV x.2.1, stV x.2.2])
theorem RowA.tk {H H' : Hp} {r : Addr} {x : RwA} (t : TK H H') (h : RowA H r x) : RowA H' r x := t _ _ (.inl ⟨_, rfl⟩) h
theorem pair_nk {H : Hp} {q : Addr} {p : StO × StO} (h : H q = some (.tup [stV p.1, stV p.2])) : NK H (pairKey p) (.ref q) :=
  .tup (.inl h) (.cons (st_nk p.1) (.cons (st_nk p.2) .nil))
structure LayO (P : Program) (w : World) (H0 : Hp) (sp p : Addr) (rs : List Addr) (acc : Acc) (H : Hp) : Prop where
  mv : Mv [sp] H0 H
  np : H0 p = none
  ne : p ≠ sp
  hp : H p = some (.lst (rs.map V.ref))
  pr : Paired (RowA H) rs acc.1
  seen : NestAt P w H sp (pairsK acc.2)
section
variable {P : Program} {w : World} {H0 H H' : Hp} {sp p : Addr} {rs : List Addr} {acc : Acc}
theorem LayO.same (h : LayO P w H0 sp p rs acc H) (s : Same H H') : LayO P w H0 sp p rs acc H' :=
  ⟨h.mv.trans (.of_same s), h.np, h.ne, s _ _ h.hp, paired_imp (fun _ _ x => x.tk (.of s)) h.pr, h.seen.same s⟩
/-- a pair is seen, and its row found -/
theorem LayO.add (h : LayO P w H0 sp p rs acc H) {o : HO} (H1 : Hp) {x : RwA} (e1 : H1 = upd H sp o) (n1 : NestAt P w H1 sp (pairsK (acc.2 ++ [x.2]))) {r : Addr} (nr : H1 r = none) :
    LayO P w H0 sp p (rs ++ [r]) (acc.1 ++ [x], acc.2 ++ [x.2]) (upd (upd H1 r (.tup [.str (tx x.1), stV x.2.1, stV x.2.2])) p (.lst (rs.map V.ref ++ [V.ref r]))) := by
  have k1 : TK H H1 := by rw [e1]; exact TK.rawput h.seen
  have hp1 : H1 p = some (.lst (rs.map V.ref)) := by rw [e1, upd_ne h.ne]; exact h.hp
  have s2 := same_new (o := .tup [.str (tx x.1), stV x.2.1, stV x.2.2]) nr
  have hp2 := s2 _ _ hp1
  have hr2 : (upd H1 r (.tup [.str (tx x.1), stV x.2.1, stV x.2.2])) r = some (.tup [.str (tx x.1), stV x.2.1, stV x.2.2]) := upd_same
  have n2 := n1.same s2
  have k2 : TK H (upd H1 r (.tup [.str (tx x.1), stV x.2.1, stV x.2.2])) := k1.trans (.of s2)
  have m2 : Mv [sp] H0 (upd H1 r (.tup [.str (tx x.1), stV x.2.1, stV x.2.2])) := h.mv.trans (.trans (fun a u n e => by
    rw [e1, upd_ne fun z => n (List.mem_singleton.mpr z)]; exact e) (.of_same s2))
  generalize upd H1 r (.tup [.str (tx x.1), stV x.2.1, stV x.2.2]) = H2 at hp2 hr2 n2 k2 m2
  have k3 : TK H2 (upd H2 p (.lst (rs.map V.ref ++ [V.ref r]))) := TK.put hp2
  refine ⟨fun a u n e => ?_, h.np, h.ne, ?_, paired_snoc (paired_imp (fun _ _ y => y.tk (k2.trans k3)) h.pr) (k3 _ _ (.inl ⟨_, rfl⟩) hr2), n2.tk k3 fun q e => ?_⟩
  · rw [upd_ne (ne_of_none e h.np)]
    exact m2 a u n e
  · rw [upd_same, List.map_append]
    rfl
  · rw [upd_ne h.ne.symm]
    exact e
end
section
variable {A B : Aut} {ls : List Nat}
theorem stepRw_words {n : Nat} {r : RwA} (hr : r.1.length = n) : ∀ (xs : List Nat) (acc : Acc), (∀ q ∈ acc.1, q.1.length = n + 1) → ∀ q ∈ (xs.foldl (stepX A B r) acc).1, q.1.length = n + 1
  | [], _, h => h
  | x :: xs, acc, h => stepRw_words hr xs _ (by
    unfold stepX
    by_cases m : besideA A B r x ∈ acc.2
    · rw [if_pos m]; exact h
    · rw [if_neg m]
      intro q hq
      rcases List.mem_append.mp hq with hq | hq
      · exact h q hq
      · rw [List.mem_singleton.mp hq, List.length_append, hr]
        rfl)
theorem level_words {n : Nat} : ∀ (rows : List RwA) (acc : Acc), (∀ r ∈ rows, r.1.length = n) → (∀ q ∈ acc.1, q.1.length = n + 1) → ∀ q ∈ (rows.foldl (stepRw A B ls) acc).1, q.1.length = n + 1
  | [], _, _, h => h
  | r :: rows, acc, hr, h => level_words rows _ (fun q hq => hr q (List.mem_cons_of_mem _ hq)) (stepRw_words (hr r List.mem_cons_self) ls acc h)
theorem walk_words : ∀ k, ∀ q ∈ (walkA A B ls k).1, q.1.length = k
  | 0 => fun q hq => by rw [List.mem_singleton.mp hq]; rfl
  | k + 1 => level_words _ _ (walk_words k) fun q hq => nomatch hq
end
theorem AutOk.ends_few {ls : List Nat} {A : Aut} (h : AutOk ls A) : A.ends.length ≤ 4 := by
  have := len_le_of_mem h.ends (G := List.range A.many) fun s hs => List.mem_range.mpr (h.endsIn s hs)
  rw [List.length_range] at this
  exact Nat.le_trans this h.few
theorem flatN_len {α β : Type} (f : α → List β) (n : Nat) : ∀ L : List α, (∀ a ∈ L, (f a).length = n) → (L.flatMap f).length = L.length * n
  | [], _ => by simp
  | a :: L, h => by
    rw [List.flatMap_cons, List.length_append, h a List.mem_cons_self, flatN_len f n L fun b hb => h b (List.mem_cons_of_mem _ hb), List.length_cons, Nat.add_mul, Nat.one_mul, Nat.add_comm]
theorem AutOk.edges_few {ls : List Nat} {A : Aut} (h : AutOk ls A) : A.edges.length ≤ 4 * ls.length := by
  have := len_le_of_mem h.keys (G := (List.range A.many).flatMap fun s => ls.map fun x => (s, x)) fun p hp => by
    obtain ⟨e, he, rfl⟩ := List.mem_map.mp hp
    exact List.mem_flatMap.mpr ⟨e.1, List.mem_range.mpr (h.edgesIn e he).1, List.mem_map.mpr ⟨e.2.1, (h.edgesIn e he).2.1, rfl⟩⟩
  rw [flatN_len _ ls.length _ fun a _ => List.length_map _, List.length_range, List.length_map] at this
  exact Nat.le_trans this (Nat.mul_le_mul_right _ h.few)
def dueV : Option (List Nat) → V
  | none => .non
  | some z => .str (tx z)
theorem first_take {A B : Aut} {rows : List RwA} {i : Nat} {r : RwA} (h : firstA A B (rows.take i) = none) (e : rows[i]? = some r) : (differA A B r = true → firstA A B rows = some r.1) ∧ (differA A B r = false → firstA A B (rows.take (i + 1)) = none) := by
  have h0 : (rows.take i).find? (differA A B) = none := Option.map_eq_none_iff.mp h
  constructor
  · intro d
    unfold firstA
    rw [← List.take_append_drop (i + 1) rows, take_next e, List.append_assoc, List.find?_append, h0, List.singleton_append, List.find?_cons, d]
    rfl
  · intro d
    unfold firstA
    rw [take_next e, List.find?_append, h0, List.find?_cons, d]
    rfl
/-- what stands in a walk -/
structure LayQ (P : Program) (w : World) (H0 : Hp) (A B : Aut) (et tb e1 e2 d1 d2 sp rp : Addr) (rs : List Addr) (acc : Acc) (H : Hp) : Prop where
  sm : Same H0 H
  np : H0 sp = none
  het : H et = some (.tup [.ref e1, .ref e2])
  htb : H tb = some (.tup [.ref d1, .ref d2])
  he1 : H e1 = some (.dK (endsK A.ends))
  he2 : H e2 = some (.dK (endsK B.ends))
  n1 : NestAt P w H d1 (edgeK A.edges)
  n2 : NestAt P w H d2 (edgeK B.edges)
  ne1 : d1 ≠ sp
  ne2 : d2 ≠ sp
  hrp : H rp = some (.lst (rs.map V.ref))
  pr : Paired (RowA H) rs acc.1
  seen : NestAt P w H sp (pairsK acc.2)
theorem LayQ.step {P : Program} {w : World} {H0 H H' : Hp} {A B : Aut} {et tb e1 e2 d1 d2 sp rp p : Addr} {rs qs : List Addr} {acc ac2 : Acc} (h : LayQ P w H0 A B et tb e1 e2 d1 d2 sp rp rs acc H) (g : LayO P w H sp p qs ac2 H') : LayQ P w H0 A B et tb e1 e2 d1 d2 sp p qs ac2 H' := by
  obtain ⟨o, eo⟩ := h.seen.raw
  have away : ∀ x u, H x = some u → (∀ z, u ≠ rawO sp z) → H' x = some u := fun x u e n => g.mv x u (fun z => by
    rw [List.mem_singleton.mp z, eo] at e
    exact n _ (Option.some.inj e).symm) e
  exact ⟨fun x u e => g.mv x u (fun z => by rw [List.mem_singleton.mp z, h.np] at e; cases e) (h.sm x u e), h.np, away _ _ h.het (fun _ z => by cases z), away _ _ h.htb (fun _ z => by cases z), away _ _ h.he1 (fun _ z => by cases z), away _ _ h.he2 (fun _ z => by cases z),
    h.n1.mv h.seen h.ne1 g.mv, h.n2.mv h.seen h.ne2 g.mv, h.ne1, h.ne2, g.hp, g.pr, g.seen⟩
end TcG
namespace TcG
open PySem PySem.Spec PyProof.Rows L2
theorem goE_take {E : List Edge} {i : Nat} {s : StO} {x : Nat} {e : Edge} (h : goE (E.take i) s x = none) (he : E[i]? = some e) : (some e.1 = s ∧ e.2.1 = x → goE E s x = some e.2.2) ∧ (¬ (some e.1 = s ∧ e.2.1 = x) → goE (E.take (i + 1)) s x = none) := by
  cases s with
  | none => exact ⟨fun z => (by cases z.1), fun _ => rfl⟩
  | some s =>
    have h0 : (E.take i).find? (hits s x) = none := Option.map_eq_none_iff.mp h
    constructor
    · rintro ⟨z1, z2⟩
      have z1 := Option.some.inj z1
      show (E.find? (hits s x)).map _ = _
      rw [← List.take_append_drop (i + 1) E, take_next he, List.append_assoc, List.find?_append, h0, List.singleton_append, List.find?_cons, show hits s x e = true from decide_eq_true ⟨z1, z2⟩]
      rfl
    · intro z
      show ((E.take (i + 1)).find? (hits s x)).map _ = _
      rw [take_next he, List.find?_append, h0, List.find?_cons, show hits s x e = false from decide_eq_false fun y => z ⟨by rw [y.1], y.2⟩]
      rfl
end TcG
/-! The walk through pairs of states with lists. -/
namespace TcG
open PySem PySem.Spec PyProof.Rows L2
def RowL (H : Hp) (r : Addr) (x : RwA) : Prop := H r = some (.lst [.str (tx x.1), stV x.2.1, stV x.2.2])
def PairA (H : Hp) (r : Addr) (p : StO × StO) : Prop := H r = some (.tup [stV p.1, stV p.2])
theorem RowL.ne {H : Hp} {r p : Addr} {x : RwA} {qs : List Addr} (h : RowL H r x) (hp : H p = some (.lst (qs.map V.ref))) : r ≠ p := fun z => by
  unfold RowL at h
  rw [z, hp] at h
  injection h with h
  injection h with h
  cases qs with
  | nil => cases h
  | cons q qs => cases h
theorem RowL.put {H : Hp} {r p : Addr} {x : RwA} {qs : List Addr} {o : HO} (h : RowL H r x) (hp : H p = some (.lst (qs.map V.ref))) : RowL (upd H p o) r x := by
  unfold RowL
  rw [upd_ne (h.ne hp)]
  exact h
structure LayL (H0 : Hp) (sp p : Addr) (ss rs : List Addr) (acc : Acc) (H : Hp) : Prop where
  mv : Mv [sp] H0 H
  np : H0 p = none
  ne : p ≠ sp
  hp : H p = some (.lst (rs.map V.ref))
  pr : Paired (RowL H) rs acc.1
  hs : H sp = some (.lst (ss.map V.ref))
  seen : Paired (PairA H) ss acc.2
section
variable {H0 H H' : Hp} {sp p : Addr} {ss rs : List Addr} {acc : Acc}
theorem LayL.same (h : LayL H0 sp p ss rs acc H) (s : Same H H') : LayL H0 sp p ss rs acc H' :=
  ⟨h.mv.trans (.of_same s), h.np, h.ne, s _ _ h.hp, paired_imp (fun _ _ x => s _ _ x) h.pr, s _ _ h.hs, paired_imp (fun _ _ x => s _ _ x) h.seen⟩
/-- a pair is seen -/
theorem LayL.see (h : LayL H0 sp p ss rs acc H) {q : Addr} {pr : StO × StO} (hq : PairA H q pr) : LayL H0 sp p (ss ++ [q]) rs (acc.1, acc.2 ++ [pr]) (upd H sp (.lst (ss.map V.ref ++ [V.ref q]))) := by
  have k : TK H (upd H sp (.lst (ss.map V.ref ++ [V.ref q]))) := TK.put h.hs
  refine ⟨fun a u n e => ?_, h.np, h.ne, ?_, paired_imp (fun _ _ x => x.put h.hs) h.pr, ?_, paired_snoc (paired_imp (fun _ _ x => k _ _ (.inl ⟨_, rfl⟩) x) h.seen) (k _ _ (.inl ⟨_, rfl⟩) hq)⟩
  · rw [upd_ne fun z => n (List.mem_singleton.mpr z)]
    exact h.mv a u n e
  · rw [upd_ne h.ne]
    exact h.hp
  · rw [upd_same, List.map_append]
    rfl
/-- a row is found -/
theorem LayL.find (h : LayL H0 sp p ss rs acc H) {r : Addr} {x : RwA} (hr : RowL H r x) : LayL H0 sp p ss (rs ++ [r]) (acc.1 ++ [x], acc.2) (upd H p (.lst (rs.map V.ref ++ [V.ref r]))) := by
  have k : TK H (upd H p (.lst (rs.map V.ref ++ [V.ref r]))) := TK.put h.hp
  refine ⟨fun a u n e => ?_, h.np, h.ne, ?_, paired_snoc (paired_imp (fun _ _ x => x.put h.hp) h.pr) (hr.put h.hp), ?_, paired_imp (fun _ _ x => k _ _ (.inl ⟨_, rfl⟩) x) h.seen⟩
  · rw [upd_ne (ne_of_none e h.np)]
    exact h.mv a u n e
  · rw [upd_same, List.map_append]
    rfl
  · rw [upd_ne h.ne.symm]
    exact h.hs
end
def stD : StO → PyData
  | none => .none
  | some n => .int (n : Int)
def stPairD (p : StO × StO) : PyData := .tuple [stD p.1, stD p.2]
theorem st_dp {K : PySem.W.Frag} {H : Hp} (s : StO) : Dp K H (stV s) (stD s) := by
  cases s with
  | none => exact .non
  | some n => exact .int _
theorem pair_dp {K : PySem.W.Frag} {H : Hp} {r : Addr} {p : StO × StO} (h : PairA H r p) : Dp K H (.ref r) (stPairD p) := .tup (SqT.of h) (.cons (st_dp _) (.cons (st_dp _) .nil))
theorem pairs_dp {K : PySem.W.Frag} {H : Hp} {ss : List Addr} {S : List (StO × StO)} (h : Paired (PairA H) ss S) : DpAll K H (ss.map V.ref) (S.map stPairD) := by
  induction h with
  | nil => exact .nil
  | cons e _ ih => exact .cons (pair_dp e) ih
theorem stD_eqv (a b : StO) : PyData.eqv (stD a) (stD b) = decide (a = b) := by
  cases a with
  | none => cases b <;> rfl
  | some m =>
    cases b with
    | none => rfl
    | some n =>
      show ((m : Int) == (n : Int)) = _
      by_cases h : m = n
      · rw [h]
        simp
      · rw [decide_eq_false fun z => h (Option.some.inj z), beq_eq_false_iff_ne]
        exact fun z => h (Int.ofNat.inj z)
theorem pairD_eqv (p q : StO × StO) : PyData.eqv (stPairD p) (stPairD q) = decide (p = q) := by
  obtain ⟨a, b⟩ := p
  obtain ⟨c, d⟩ := q
  show (PyData.eqv (stD a) (stD c) && (PyData.eqv (stD b) (stD d) && true)) = _
  rw [stD_eqv, stD_eqv, Bool.and_true, ← Bool.decide_and]
  exact decide_eq_decide.mpr ⟨fun z => Prod.ext z.1 z.2, fun z => ⟨(Prod.mk.inj z).1, (Prod.mk.inj z).2⟩⟩
theorem pairs_in (S : List (StO × StO)) (p : StO × StO) : ((S.map stPairD).any fun z => PyData.eqv z (stPairD p)) = decide (p ∈ S) := by
  induction S with
  | nil => rfl
  | cons a S ih =>
    rw [List.map_cons, List.any_cons, ih, pairD_eqv, ← Bool.decide_or]
    refine decide_eq_decide.mpr ?_
    rw [List.mem_cons]
    exact ⟨fun z => z.imp Eq.symm id, fun z => z.imp Eq.symm id⟩
theorem pair_shaped (p : StO × StO) : SeqAt.shaped (stPairD p) = true := by
  obtain ⟨a, b⟩ := p
  cases a <;> cases b <;> rfl
theorem pairs_lay : ∀ S : List (StO × StO), PyData.canLayAll0 (S.map stPairD) = true ∧ PyData.depthAll (S.map stPairD) ≤ 1
  | [] => ⟨rfl, Nat.zero_le _⟩
  | p :: S => by
    obtain ⟨h1, h2⟩ := pairs_lay S
    obtain ⟨a, b⟩ := p
    constructor
    · show ((stPairD (a, b)).canLay0 && PyData.canLayAll0 (S.map stPairD)) = true
      rw [h1]
      cases a <;> cases b <;> rfl
    · show max (stPairD (a, b)).depth (PyData.depthAll (S.map stPairD)) ≤ 1
      have : (stPairD (a, b)).depth = 1 := by cases a <;> cases b <;> rfl
      omega
theorem pairs_shaped (S : List (StO × StO)) : SeqAt.shaped (.list (S.map stPairD)) = true := by
  obtain ⟨h1, h2⟩ := pairs_lay S
  show (PyData.canLayAll0 (S.map stPairD) && decide (PyData.depthAll (S.map stPairD) + 1 ≤ 64)) = true
  rw [h1, decide_eq_true (by omega)]
  rfl
theorem inV_st (A : Aut) (s : StO) : inV (stV s) (numV A.ends) = endA A s := by
  cases s with
  | some n => exact inV_nats n A.ends
  | none =>
    show inV .non (numV A.ends) = false
    unfold inV numV
    rw [List.any_map, List.any_eq_false]
    exact fun x _ => Bool.false_ne_true
theorem dueV_flat (d : Option (List Nat)) : flatV (dueV d) = true := by cases d <;> rfl
theorem or_next {A B : Aut} {d : Option (List Nat)} {rows : List RwA} {i : Nat} {r : RwA} (he : rows[i]? = some r) : d.or (firstA A B (rows.take (i + 1))) = (d.or (firstA A B (rows.take i))).or (if differA A B r = true then some r.1 else none) := by
  have : firstA A B (rows.take (i + 1)) = (firstA A B (rows.take i)).or (if differA A B r = true then some r.1 else none) := by
    unfold firstA
    rw [take_next he, List.find?_append, List.find?_cons]
    cases (rows.take i).find? (differA A B) with
    | some x => rfl
    | none => cases differA A B r <;> rfl
  rw [this, Option.or_assoc]
end TcG
/-! A statement with a word about what stands behind it. -/
namespace TcG
open PySem PySem.Spec PyProof.Rows L2
def tMid (t : TS) : TS := fun D σ H => ∃ J : L2.St → Hp → Prop, t { D with nx := J } σ H ∧ ∀ σ' H', J σ' H' → D.nx σ' H'
theorem ps_mid {X : Cx} {st : Stmt} {t : TS} (h : PS X st t) : PS X st (tMid t) := by
  refine ⟨fun pins s σ H D I hw => ?_⟩
  obtain ⟨J, hw, q⟩ := hw
  refine thn (h.run pins s σ H _ I hw) fun f s1 r => ?_
  cases f with
  | next => obtain ⟨σ', H', I2, e⟩ := r; exact ⟨σ', H', I2, q _ _ e⟩
  | brk => exact r
  | cont => exact r
  | ret v => exact r
theorem cut_initS (l : List Nat) : cutS (tx l) none (some (-1)) = tx (l.take (l.length - 1)) := by
  unfold cutS
  rw [tx_length]
  have e : HT.sIx l.length l.length (some (-1)) = l.length - 1 := by
    show (if (-1 : Int) < 0 then ((-1 : Int) + (l.length : Int)).toNat else min (-1 : Int).toNat l.length) = l.length - 1
    rw [if_pos (by decide)]
    omega
  rw [e, HT.sIx_none]
  show (⟨((l.drop 0).take (l.length - 1 - 0)).toArray⟩ : Str) = tx (l.take (l.length - 1))
  rw [List.drop_zero, Nat.sub_zero]
  rfl
end TcG
/-! What stands while a law draws, calls defs and makes new things: the box, the alphabet, the tables, and lists and tuples that are known. -/
namespace TcG
open PySem PySem.Spec PyProof.Rows L2
structure HS (K : PySem.W.Frag) (b dl al Pl : Addr) (q : Str) (S : List Addr) (ls : List Nat) (ps : List (List Nat)) (Z : List (Addr × HO)) (H : Hp) : Prop where
  box : Box K b dl H
  alpha : Alpha K H al ls ps
  tab : Tabs S H
  lam : LamX.TabS H Pl q
  out : Pl ∉ S
  known : ∀ z ∈ Z, H z.1 = some z.2
  ok : ∀ z ∈ Z, z.1 ≠ b ∧ ∀ ts, z.2 ≠ .tbl ts
theorem box_is {K : PySem.W.Frag} {b dl : Addr} {H : Hp} (h : Box K b dl H) : ∀ w ∈ [b], ∃ xs, H w = some (.lst xs) := fun w hw => by
  obtain ⟨ds, n, hb, _⟩ := h
  exact ⟨_, by rw [List.mem_singleton.mp hw]; exact hb⟩
theorem box_new {K : PySem.W.Frag} {b dl p : Addr} {H : Hp} (h : Box K b dl H) (n : H p = none) : p ≠ b := fun z => by
  obtain ⟨xs, e⟩ := box_is h b List.mem_cons_self
  rw [← z, n] at e
  cases e
section
variable {K : PySem.W.Frag} {b dl al Pl : Addr} {q : Str} {S : List Addr} {ls : List Nat} {ps : List (List Nat)} {Z : List (Addr × HO)} {H H' : Hp}
theorem HS.get (h : HS K b dl al Pl q S ls ps Z H) {p : Addr} {o : HO} (m : (p, o) ∈ Z) : H p = some o := h.known _ m
theorem HS.less (h : HS K b dl al Pl q S ls ps Z H) {Z' : List (Addr × HO)} (m : ∀ z ∈ Z', z ∈ Z) : HS K b dl al Pl q S ls ps Z' H := ⟨h.box, h.alpha, h.tab, h.lam, h.out, fun z hz => h.known z (m z hz), fun z hz => h.ok z (m z hz)⟩
theorem HS.know (h : HS K b dl al Pl q S ls ps Z H) {p : Addr} {o : HO} (hp : H p = some o) (nb : p ≠ b) (nt : ∀ ts, o ≠ .tbl ts) : HS K b dl al Pl q S ls ps ((p, o) :: Z) H :=
  ⟨h.box, h.alpha, h.tab, h.lam, h.out, fun z hz => by
    rcases List.mem_cons.mp hz with rfl | hz
    · exact hp
    · exact h.known z hz, fun z hz => by
    rcases List.mem_cons.mp hz with rfl | hz
    · exact ⟨nb, nt⟩
    · exact h.ok z hz⟩
theorem HS.gr (h : HS K b dl al Pl q S ls ps Z H) (g : Gr S H H') : HS K b dl al Pl q S ls ps Z H' :=
  ⟨h.box.gr g, h.alpha.gr g, g.tab, tabS_gr h.lam g h.out, h.out, fun z hz => g.keep z.1 z.2 (by simp) (h.ok z hz).2 (h.known z hz), h.ok⟩
theorem HS.same (h : HS K b dl al Pl q S ls ps Z H) (s : Same H H') : HS K b dl al Pl q S ls ps Z H' := ⟨h.box.same s, h.alpha.same s, h.tab.same s, tabS_same h.lam s, h.out, fun z hz => s z.1 z.2 (h.known z hz), h.ok⟩
theorem HS.mv (h : HS K b dl al Pl q S ls ps Z H) (m : Mv [b] H H') (hB : Box K b dl H') : HS K b dl al Pl q S ls ps Z H' :=
  ⟨hB, h.alpha.mvB h.box m, h.box.tabs m h.tab, tabS_mv h.lam m (box_is h.box), h.out, fun z hz => m z.1 z.2 (fun e => (h.ok z hz).1 (List.mem_singleton.mp e)) (h.known z hz), h.ok⟩
theorem tabS_ne {p : Addr} {o : HO} (t : LamX.TabS H Pl q) (hp : H p = some o) (nt : ∀ ts, o ≠ .tbl ts) : p ≠ Pl := fun z => by
  obtain ⟨ts, h1, _⟩ := t
  rw [z, h1] at hp
  exact nt ts (Option.some.inj hp).symm
theorem HS.ext (h : HS K b dl al Pl q S ls ps Z H) (e : ExtP Pl H H') (t : LamX.TabS H' Pl q) : HS K b dl al Pl q S ls ps Z H' :=
  ⟨box_extP h.box e h.lam, alpha_extP h.alpha e h.lam, h.tab.extP e h.out, t, h.out, fun z hz => e z.1 z.2 (tabS_ne h.lam (h.known z hz) (h.ok z hz).2) (h.known z hz), h.ok⟩
theorem HS.new (h : HS K b dl al Pl q S ls ps Z H) {p : Addr} {o : HO} (n : H p = none) (nt : ∀ ts, o ≠ .tbl ts) : HS K b dl al Pl q S ls ps ((p, o) :: Z) (upd H p o) := (h.same (same_new n)).know upd_same (box_new h.box n) nt
/-- what was new is written again -/
theorem HS.put {H0 : Hp} {p : Addr} {xs ys : List V} (h0 : HS K b dl al Pl q S ls ps [] H0) (np : H0 p = none) (h : HS K b dl al Pl q S ls ps Z H) (out : ∀ z ∈ Z, z.1 ≠ p) (hp : H p = some (.lst xs)) : HS K b dl al Pl q S ls ps Z (upd H p (.lst ys)) := by
  have m : Mv [p] H (upd H p (.lst ys)) := .put
  have notT : ∀ r ∈ [p], ∀ u, Rd H r u → ∀ zs, u ≠ .tup zs := fun r hr u rd zs z => by
    rw [List.mem_singleton.mp hr] at rd
    have := rd_of hp (fun _ _ z => by cases z) rd
    rw [this] at z
    cases z
  refine ⟨h0.box.put np h.box, ?_, h.tab.put fun ts z => (by rw [hp] at z; cases z), tabS_mv h.lam m fun r hr => ⟨xs, by rw [List.mem_singleton.mp hr]; exact hp⟩, h.out, fun z hz => ?_, h.ok⟩
  · obtain ⟨pt, h1, h2⟩ := h.alpha
    exact ⟨pt, m.seqT h1 notT, m.seqT h2 notT⟩
  · rw [upd_ne (out z hz)]
    exact h.known z hz
end
end TcG
/-! The text of the law by its places. -/
namespace Tc
open PySem PySem.Spec PyProof.Rows L2 TcG
def topS (i : Nat) : Stmt := PySem.Challenge.pw_traceclasses_k46_words_that_tell_automat.main.body.getD i (.Pass ⟨0, 0, 0, 0⟩)
-- topS 0: (PySem.Stmt.Assign
abbrev s_edge_table : Stmt := topS 1
theorem sc_edge_table : FnScope ["automaton"] ["automaton"] (defScope s_edge_table) :=
  ⟨rfl, rfl, rfl, by decide +kernel, rfl, by decide +kernel, by decide +kernel⟩
-- edge_table: 0 automaton
abbrev s_end_table : Stmt := topS 2
theorem sc_end_table : FnScope ["automaton"] ["automaton"] (defScope s_end_table) :=
  ⟨rfl, rfl, rfl, by decide +kernel, rfl, by decide +kernel, by decide +kernel⟩
-- end_table: 0 automaton
abbrev s_equal : Stmt := topS 3
theorem sc_equal : FnScope ["alphabet", "automaton", "other", "ends", "tables", "row", "seen", "word", "state", "beside"] ["alphabet", "automaton", "other"] (defScope s_equal) :=
  ⟨rfl, rfl, rfl, by decide +kernel, rfl, by decide +kernel, by decide +kernel⟩
-- equal: 0 alphabet, 1 automaton, 2 other, 3 ends, 4 tables, 5 row, 6 seen, 7 word, 8 state, 9 beside
abbrev s_one_letter_on : Stmt := topS 4
theorem sc_one_letter_on : FnScope ["letters", "tables", "row", "seen", "found", "word", "state", "beside", "letter", "pair"] ["letters", "tables", "row", "seen"] (defScope s_one_letter_on) :=
  ⟨rfl, rfl, rfl, by decide +kernel, rfl, by decide +kernel, by decide +kernel⟩
-- one_letter_on: 0 letters, 1 tables, 2 row, 3 seen, 4 found, 5 word, 6 state, 7 beside, 8 letter, 9 pair
-- topS 5: (PySem.Stmt.Assign
abbrev s_law_draw : Stmt := topS 6
theorem sc_law_draw : FnScope ["box", "many", "at"] ["box", "many"] (defScope s_law_draw) :=
  ⟨rfl, rfl, rfl, by decide +kernel, rfl, by decide +kernel, by decide +kernel⟩
-- law_draw: 0 box, 1 many, 2 at
abbrev s_law_cell : Stmt := topS 7
theorem sc_law_cell : FnScope ["script", "k"] ["script", "k"] (defScope s_law_cell) :=
  ⟨rfl, rfl, rfl, by decide +kernel, rfl, by decide +kernel, by decide +kernel⟩
-- law_cell: 0 script, 1 k
abbrev s_law_digits : Stmt := topS 8
theorem sc_law_digits : FnScope ["script", "first", "last", "digits", "k", "cell", "turn", "seed"] ["script", "first", "last"] (defScope s_law_digits) :=
  ⟨rfl, rfl, rfl, by decide +kernel, rfl, by decide +kernel, by decide +kernel⟩
-- law_digits: 0 script, 1 first, 2 last, 3 digits, 4 k, 5 cell, 6 turn, 7 seed
abbrev s_law_box : Stmt := topS 9
theorem sc_law_box : FnScope ["script", "first", "last"] ["script", "first", "last"] (defScope s_law_box) :=
  ⟨rfl, rfl, rfl, by decide +kernel, rfl, by decide +kernel, by decide +kernel⟩
-- law_box: 0 script, 1 first, 2 last
abbrev s_law_alphabet : Stmt := topS 10
theorem sc_law_alphabet : FnScope ["box", "most", "letters", "pairs", "j", "k"] ["box", "most"] (defScope s_law_alphabet) :=
  ⟨rfl, rfl, rfl, by decide +kernel, rfl, by decide +kernel, by decide +kernel⟩
-- law_alphabet: 0 box, 1 most, 2 letters, 3 pairs, 4 j, 5 k
abbrev s_law_automaton : Stmt := topS 11
theorem sc_law_automaton : FnScope ["box", "alphabet", "most", "many", "state", "ends", "edges", "x"] ["box", "alphabet", "most"] (defScope s_law_automaton) :=
  ⟨rfl, rfl, rfl, by decide +kernel, rfl, by decide +kernel, by decide +kernel⟩
-- law_automaton: 0 box, 1 alphabet, 2 most, 3 many, 4 state, 5 ends, 6 edges, 7 x [box is a cell]
abbrev s_law_same : Stmt := topS 12
theorem sc_law_same : FnScope ["actual", "expected", "k"] ["actual", "expected"] (defScope s_law_same) :=
  ⟨rfl, rfl, rfl, by decide +kernel, rfl, by decide +kernel, by decide +kernel⟩
-- law_same: 0 actual, 1 expected, 2 k
abbrev s_law_later : Stmt := topS 13
theorem sc_law_later : FnScope ["automaton", "state", "x", "edge"] ["automaton", "state", "x"] (defScope s_law_later) :=
  ⟨rfl, rfl, rfl, by decide +kernel, rfl, by decide +kernel, by decide +kernel⟩
-- law_later: 0 automaton, 1 state, 2 x, 3 edge
abbrev s_law_turned_automaton : Stmt := topS 14
theorem sc_law_turned_automaton : FnScope ["box", "automaton", "kind", "state", "ends", "k", "edge", "rows", "last", "edges"] ["box", "automaton"] (defScope s_law_turned_automaton) :=
  ⟨rfl, rfl, rfl, by decide +kernel, rfl, by decide +kernel, by decide +kernel⟩
-- law_turned_automaton: 0 box, 1 automaton, 2 kind, 3 state, 4 ends, 5 k, 6 edge, 7 rows, 8 last, 9 edges [state is a cell] [last is a cell]
abbrev s_law : Stmt := topS 15
theorem sc_law : FnScope ["script", "box", "turn", "alphabet", "one", "two", "level", "seen", "due", "k", "later", "row", "x", "pair"] ["script"] (defScope s_law) :=
  ⟨rfl, rfl, rfl, by decide +kernel, rfl, by decide +kernel, by decide +kernel⟩
-- law: 0 script, 1 box, 2 turn, 3 alphabet, 4 one, 5 two, 6 level, 7 seen, 8 due, 9 k, 10 later, 11 row, 12 x, 13 pair
end Tc
namespace Tc
open PySem PySem.Spec PyProof.Rows L2 TcG
section
variable {P : Program} {w : World} {K : PySem.W.Frag} {mg : Str → Option Value} {base : Heap}
/-! _law_cell -/
def sp_cell (K : PySem.W.Frag) : Sp := fun vs H Q _ => ∃ (a : Addr) (ns : List Int) (k : Int), vs = [.ref a, .int k] ∧ SqL K H a (ns.map V.int) ∧ 0 ≤ k ∧ ∀ z : Int, Q (.int z) H
theorem ok_cell {f : Addr} {fd : FuncData} {k : Nat} (F : Fun K "_law_cell" "_law_cell" s_law_cell f fd) (ml : mg "len" = none) : FnOk P w K mg base CX0 (k + 1) f fd ["script", "k"] (sp_cell K) := by
  refine F.ok sc_law_cell (fun vs H Q E h => ?_) (fun cdv A outer s H vs Q E hr h => ?_)
  · obtain ⟨a, ns, k, rfl, _⟩ := h
    rfl
  · obtain ⟨a, ns, k, rfl, hS, hk, q⟩ := h
    refine ⟨_, pss_cons (ps_if (pt_cmpR op_lt (pv 1) (pe_callB call_len_seq (by rfl) ml PySem.boot_len (pa_cons (pv 0) pa_nil)) (nomark _))
        (pss_one (ps_ret (pe_ix ix_list (pv 0) (pv 1) (fun _ _ => rfl)))) pss_nil)
      (pss_one (ps_ret pe_int)), ?_⟩
    refine ⟨.int k, rfl, .ref a, rfl, a, _, rfl, .inl hS, _, _, rfl, rfl, _, rfl, ite2 (fun e => ?_) (fun e => ?_)⟩
    · have e0 : k < ((ns.map V.int).length : Int) := of_decide_eq_true e
      rw [List.length_map] at e0
      obtain ⟨j, rfl⟩ : ∃ j : Nat, k = (j : Int) := ⟨k.toNat, by omega⟩
      have hj : j < ns.length := by omega
      refine ⟨.ref a, rfl, .int j, rfl, a, _, _, .int ns[j], rfl, rfl, hS, atI_nat ?_, q _⟩
      rw [List.getElem?_map, List.getElem?_eq_getElem hj]
      rfl
    · exact q _

/-! _law_digits -/
def sp_digits (K : PySem.W.Frag) : Sp := fun vs H Q _ => ∃ (a : Addr) (ns : List Int), vs = [.ref a, .int 0, .int 63] ∧ SqL K H a (ns.map V.int) ∧
  ∀ (p : Addr) (ds : List Int) (H' : Hp), Same H H' → H p = none → H' p = some (.lst (ds.map V.int)) → Q (.ref p) H'
theorem ok_digits {f fC : Addr} {fd fdC : FuncData} (F : Fun K "_law_digits" "_law_digits" s_law_digits f fd) (FC : Fun K "_law_cell" "_law_cell" s_law_cell fC fdC) (gC : mg "_law_cell" = some (.ref fC))
    (ml : mg "len" = none) (mr : mg "range" = none) (mi : mg "int" = none) : FnOk P w K mg base CX0 2 f fd ["script", "first", "last"] (sp_digits K) := by
  have GC : FnOk P w K mg base CX0 1 fC fdC ["script", "k"] (sp_cell K) := ok_cell FC ml
  have bC : Binds K fdC ["script", "k"] [] := FC.binds fun _ _ _ _ _ _ us hl => match us, hl with | [_, _], _ => rfl
  refine F.ok sc_law_digits (fun vs H Q E h => ?_) (fun cdv A outer s H vs Q E hr h => ?_)
  · obtain ⟨a, ns, rfl, _⟩ := h
    rfl
  · obtain ⟨a, ns, rfl, hS, q⟩ := h
    have nd := sc_law_digits.nd
    refine ⟨_, pss_cons (ps_set (i := 3) nd rfl (.inl rfl) (pe_lst pa_nil))
      (pss_cons (ps_for PassesOwn.never rfl (pi_range2 (by rfl) mr (pa_cons (pv 1) (pa_cons (pv 2) pa_nil))) (pg_name (i := 4) nd rfl (.inl rfl))
        (pss_cons (ps_set (i := 5) nd rfl (.inl rfl) (pe_call GC hr (by rfl) gC FC.kp bC .nil pass0 (pa_cons (pv 0) (pa_cons (pv 4) pa_nil))))
        (C8.pss_cut (ps_if (pt_cmpR op_lt (pv 5) pe_int (nomark _))
            (pss_one (ps_set (i := 5) nd rfl (.inl rfl) (pe_op op_sub pe_int (pe_op op_mul pe_int (pv 5))))) pss_nil)
        (pss_one (ps_if (pt_cmpR op_ge (pv 5) (pe_op op_pow pe_int pe_int) (nomark _))
            (pss_one (ps_for PassesOwn.never rfl (pi_range1 (by rfl) mr (pa_cons pe_int pa_nil)) (pg_name (i := 6) nd rfl (.inl rfl))
              (pss_one (ps_if (pt_cmpR op_gt (pv 5) pe_int (nomark _))
                (pss_cons (ps_expr (pe_bm PySem.F.plainAttrs_list PySem.F.slot_list_append PySem.F.type_list_append mt_append (pv 3)
                    (pa_cons (pe_op op_modN (pe_callTy call_int1 (by rfl) mi (by decide +kernel) (pa_cons (pv 5) pa_nil)) pe_int) pa_nil)))
                  (pss_one (ps_set (i := 5) nd rfl (.inl rfl) (pe_op op_fdiv (pv 5) pe_int)))) pss_nil))))
            (pss_cons (ps_set (i := 7) nd rfl (.inl rfl) (pe_op op_modN (pe_callTy call_int1 (by rfl) mi (by decide +kernel)
                (pa_cons (pe_op op_add (pe_op op_add (pe_op op_mul (pv 5) pe_int) (pe_op op_mul (pv 4) pe_int)) pe_int) pa_nil)) pe_int))
              (pss_one (ps_for PassesOwn.never rfl (pi_range1 (by rfl) mr (pa_cons pe_int pa_nil)) (pg_name (i := 6) nd rfl (.inl rfl))
                (pss_cons (ps_set (i := 7) nd rfl (.inl rfl) (pe_op op_modN (pe_callTy call_int1 (by rfl) mi (by decide +kernel)
                    (pa_cons (pe_op op_add (pe_op op_add (pe_op op_mul (pv 7) pe_int) (pe_op op_mul pe_int (pv 6))) pe_int) pa_nil)) pe_int))
                  (pss_one (ps_expr (pe_bm PySem.F.plainAttrs_list PySem.F.slot_list_append PySem.F.type_list_append mt_append (pv 3)
                    (pa_cons (pe_op op_modN (pe_callTy call_int1 (by rfl) mi (by decide +kernel) (pa_cons (pe_op op_fdiv (pv 7) pe_int) pa_nil)) pe_int) pa_nil)))))))))))))
      (pss_one (ps_ret (pv 3)))), ?_⟩
    refine ⟨Nat.zero_le _, fun p np => ?_⟩
    -- the turns: at most 60 digits each
    refine ⟨.int 0, rfl, .int 63, rfl, 0, 63, rfl, ⟨by decide, by decide, by decide, by decide⟩, for_range (lo := 0) (n := 63)
      (fun i σ H' => ∃ ds y4 y5 y6 y7, σ = [some (.ref a), some (.int 0), some (.int 63), some (.ref p), y4, y5, y6, y7] ∧ Same H H' ∧ H' p = some (.lst (List.map V.int ds)) ∧ ds.length ≤ 60 * i)
      ⟨[], none, none, none, none, rfl, same_new np, upd_same, Nat.le_refl _⟩ (fun i σ H1 hi hW => ?_) (fun σ H1 hW => ?_)⟩
    · obtain ⟨ds, y4, y5, y6, y7, rfl, sm, hp, hl⟩ := hW
      refine ⟨.ref a, rfl, .int (0 + (i : Int)), rfl, a, ns, 0 + (i : Int), rfl, sm.seq hS, by omega, fun z => ?_⟩
      -- the number, no more below 0
      refine ⟨fun σ' H' => ∃ z' : Int, σ' = [some (.ref a), some (.int 0), some (.int 63), some (.ref p), some (.int (0 + (i : Int))), some (.int z'), y6, y7] ∧ H' = H1,
        ⟨.int z, rfl, z, 0, rfl, rfl, _, rfl, ite2 (fun _ => ⟨.int z, rfl, 2, z, rfl, rfl, .inl ⟨by decide, by decide⟩, 1, _, rfl, rfl, _, rfl, rfl⟩) (fun _ => ⟨z, rfl, rfl⟩)⟩, ?_⟩
      rintro σ' H' ⟨z, rfl, rfl⟩
      refine ⟨.int z, rfl, 10, 18, rfl, rfl, ⟨by decide, by decide, by decide⟩, z, _, rfl, rfl, _, rfl, ite2 (fun _ => ?_) (fun _ => ?_)⟩
      · -- a great number: its digits
        refine ⟨60, rfl, by decide, by decide, for_range (lo := 0) (n := 60)
          (fun j σ H2 => ∃ ds z y6, σ = [some (.ref a), some (.int 0), some (.int 63), some (.ref p), some (.int (0 + (i : Int))), some (.int z), y6, y7] ∧ Same H H2 ∧ H2 p = some (.lst (List.map V.int ds)) ∧ ds.length ≤ 60 * i + j)
          ⟨ds, z, y6, rfl, sm, hp, hl⟩ (fun j σ H2 hj hV => ?_) (fun σ H2 hV => ?_)⟩
        · obtain ⟨ds, z, y6, rfl, sm, hp, hl⟩ := hV
          refine ⟨.int z, rfl, z, 0, rfl, rfl, _, rfl, ite2 (fun _ => ?_) (fun _ => ?_)⟩
          · refine ⟨.ref p, rfl, .inl ⟨rfl, _, SqL.of hp⟩, .int z, rfl, .inl ⟨z, rfl, z, 1000, rfl, rfl, (by decide : (1000 : Int) ≠ 0), p, _, _, rfl, rfl, hp, ?_, ?_⟩⟩
            · rw [List.length_map]
              exact Nat.lt_of_le_of_lt (show ds.length ≤ 10000 by omega) (by decide)
            · refine ⟨.int z, rfl, z, 1000, rfl, rfl, ⟨by decide, by decide⟩, ds ++ [z.fmod 1000], z / 1000, some (.int (0 + (j : Int))), rfl, fun b o e => ?_, ?_, ?_⟩
              · rw [upd_ne (ne_of_none e np)]
                exact sm b o e
              · rw [upd_same, List.map_append]
                rfl
              · rw [List.length_append, List.length_singleton]
                omega
          · exact ⟨ds, z, some (.int (0 + (j : Int))), rfl, sm, hp, by omega⟩
        · obtain ⟨ds, z, y6, rfl, sm, hp, hl⟩ := hV
          exact ⟨ds, _, _, _, _, rfl, sm, hp, by omega⟩
      · -- another one: drawn on from it
        refine ⟨.int z, rfl, z, 48271, rfl, rfl, .inr ⟨by decide, by decide⟩, .int (0 + (i : Int)), rfl, 0 + (i : Int), 69621, rfl, rfl, .inr ⟨by decide, by decide⟩, _, _, rfl, rfl, _, 11, rfl, rfl, .inl ⟨_, rfl, ?_⟩⟩
        refine ⟨_, 2147483647, rfl, rfl, (by decide : (2147483647 : Int) ≠ 0), 12, rfl, by decide, by decide, for_range (lo := 0) (n := 12)
          (fun j σ H2 => ∃ (ds : List Int) (z x : Int) (y6 : Option V), σ = [some (.ref a), some (.int 0), some (.int 63), some (.ref p), some (.int (0 + (i : Int))), some (.int z), y6, some (.int x)] ∧ Same H H2 ∧ H2 p = some (.lst (List.map V.int ds)) ∧ ds.length ≤ 60 * i + j)
          ⟨ds, z, _, y6, rfl, sm, hp, hl⟩ (fun j σ H2 hj hV => ?_) (fun σ H2 hV => ?_)⟩
        · obtain ⟨ds, z, x, y6, rfl, sm, hp, hl⟩ := hV
          refine ⟨.int x, rfl, x, 16807, rfl, rfl, .inr ⟨by decide, by decide⟩, .int (0 + (j : Int)), rfl, 7, _, rfl, rfl, .inl ⟨by decide, by decide⟩, _, _, rfl, rfl, _, 1, rfl, rfl, .inl ⟨_, rfl, _, 2147483647, rfl, rfl, (by decide : (2147483647 : Int) ≠ 0), ?_⟩⟩
          refine ⟨.ref p, rfl, .inl ⟨rfl, _, SqL.of hp⟩, .int _, rfl, _, 997, rfl, rfl, ⟨by decide, by decide⟩, .inl ⟨_, rfl, _, 1000, rfl, rfl, (by decide : (1000 : Int) ≠ 0), p, _, _, rfl, rfl, hp, ?_, ?_⟩⟩
          · rw [List.length_map]
            exact Nat.lt_of_le_of_lt (show ds.length ≤ 10000 by omega) (by decide)
          · refine ⟨ds ++ [((x * 16807 + 7 * (0 + (j : Int)) + 1).fmod 2147483647 / 997).fmod 1000], z, _, some (.int (0 + (j : Int))), rfl, fun b o e => ?_, ?_, ?_⟩
            · rw [upd_ne (ne_of_none e np)]
              exact sm b o e
            · rw [upd_same, List.map_append]
              rfl
            · rw [List.length_append, List.length_singleton]
              omega
        · obtain ⟨ds, z, x, y6, rfl, sm, hp, hl⟩ := hV
          exact ⟨ds, _, _, _, _, rfl, sm, hp, by omega⟩
    · obtain ⟨ds, y4, y5, y6, y7, rfl, sm, hp, hl⟩ := hW
      exact ⟨.ref p, rfl, q p ds H1 sm np hp⟩

/-! _law_box -/
def sp_box (K : PySem.W.Frag) : Sp := fun vs H Q _ => ∃ (a : Addr) (ns : List Int), vs = [.ref a, .int 0, .int 63] ∧ SqL K H a (ns.map V.int) ∧
  ∀ (b dl : Addr) (H' : Hp), Same H H' → H b = none → Box K b dl H' → Q (.ref b) H'
theorem ok_box {f fC fD : Addr} {fd fdC fdD : FuncData} (F : Fun K "_law_box" "_law_box" s_law_box f fd) (FC : Fun K "_law_cell" "_law_cell" s_law_cell fC fdC) (gC : mg "_law_cell" = some (.ref fC))
    (FD : Fun K "_law_digits" "_law_digits" s_law_digits fD fdD) (gD : mg "_law_digits" = some (.ref fD))
    (ml : mg "len" = none) (mr : mg "range" = none) (mi : mg "int" = none) : FnOk P w K mg base CX0 3 f fd ["script", "first", "last"] (sp_box K) := by
  have GD : FnOk P w K mg base CX0 2 fD fdD ["script", "first", "last"] (sp_digits K) := ok_digits FD FC gC ml mr mi
  have bD : Binds K fdD ["script", "first", "last"] [] := FD.binds fun _ _ _ _ _ _ us hl => match us, hl with | [_, _, _], _ => rfl
  refine F.ok sc_law_box (fun vs H Q E h => ?_) (fun cdv A outer s H vs Q E hr h => ?_)
  · obtain ⟨a, ns, rfl, _⟩ := h
    rfl
  · obtain ⟨a, ns, rfl, hS, q⟩ := h
    refine ⟨_, pss_one (ps_ret (pe_lst (pa_cons (pe_call GD hr (by rfl) gD FD.kp bD .nil pass0 (pa_cons (pv 0) (pa_cons (pv 1) (pa_cons (pv 2) pa_nil)))) (pa_cons pe_int pa_nil)))), ?_⟩
    refine ⟨.ref a, rfl, .int 0, rfl, .int 63, rfl, a, ns, rfl, hS, fun p ds H1 sm np hp => ⟨by show 2 ≤ sizeLine; decide, fun b nb => ?_⟩⟩
    exact q b p _ (sm.trans (same_new nb)) (sm.free nb) ⟨ds, 0, upd_same, Int.le_refl _, (same_new nb).seq (SqL.of hp)⟩

/-! _law_draw -/
def sp_draw (K : PySem.W.Frag) : Sp := fun vs H Q _ => ∃ (b dl : Addr) (m : Int), vs = [.ref b, .int m] ∧ Box K b dl H ∧ 0 < m ∧
  ∀ (r : Int) (H' : Hp), 0 ≤ r → r < m → Mv [b] H H' → Box K b dl H' → Q (.int r) H'
theorem ok_draw {f : Addr} {fd : FuncData} {k : Nat} (F : Fun K "_law_draw" "_law_draw" s_law_draw f fd) (ml : mg "len" = none) (mi : mg "int" = none) : FnOk P w K mg base CX0 (k + 1) f fd ["box", "many"] (sp_draw K) := by
  refine F.ok sc_law_draw (fun vs H Q E h => ?_) (fun cdv A outer s H vs Q E hr h => ?_)
  · obtain ⟨b, dl, m, rfl, _⟩ := h
    rfl
  · obtain ⟨b, dl, m, rfl, ⟨ds, n, hb, hn, hd⟩, hm, q⟩ := h
    have nd := sc_law_draw.nd
    refine ⟨_, pss_cons (ps_set (i := 2) nd rfl (.inl rfl) (pe_ix ix_list (pv 0) pe_int (fun _ _ => rfl)))
      (pss_cons (ps_asg (pe_op op_add (pv 2) pe_int) (pg_sub (pv 0) pe_int set_list))
      (pss_cons (ps_if (pt_cmpR op_lt (pv 2) (pe_callB call_len_seq (by rfl) ml PySem.boot_len (pa_cons (pe_ix ix_list (pv 0) pe_int (fun _ _ => rfl)) pa_nil)) (nomark _))
        (pss_one (ps_ret (pe_op op_modN (pe_callTy call_int1 (by rfl) mi (by decide +kernel) (pa_cons (pe_ix ix_list (pe_ix ix_list (pv 0) pe_int (fun _ _ => rfl)) (pv 2) (fun _ _ => rfl)) pa_nil)) (pv 1)))) pss_nil)
      (pss_one (ps_ret pe_int)))), ?_⟩
    -- at = box[1]; box[1] = at + 1
    refine ⟨.ref b, rfl, b, _, 1, .int n, rfl, rfl, SqL.of hb, atI_nat (j := 1) rfl, ?_⟩
    refine ⟨.int n, rfl, n, 1, rfl, rfl, .ref b, rfl, b, _, 1, 1, rfl, rfl, hb, rfl, ?_⟩
    have h1 : (upd H b (.lst [.ref dl, .int (n + 1)])) b = some (.lst [.ref dl, .int (n + 1)]) := upd_same
    have m1 : Mv [b] H (upd H b (.lst [.ref dl, .int (n + 1)])) := Mv.put
    have hd1 : SqL K (upd H b (.lst [.ref dl, .int (n + 1)])) dl (ds.map V.int) := m1.seqL hd fun p hp u r => by
      rw [List.mem_singleton.mp hp] at r
      rw [rd_of hb (fun _ _ z => by cases z) r]
      exact box_list_ne ds
    have box1 : Box K b dl (upd H b (.lst [.ref dl, .int (n + 1)])) := ⟨ds, n + 1, h1, by omega, hd1⟩
    -- if at < len(box[0])
    refine ⟨.int n, rfl, .ref b, rfl, b, _, 0, .ref dl, rfl, rfl, SqL.of h1, atI_nat (j := 0) rfl, dl, _, rfl, .inl hd1, n, _, rfl, rfl, _, rfl, ite2 (fun e => ?_) (fun e => ?_)⟩
    · have e0 : n < ((ds.map V.int).length : Int) := of_decide_eq_true e
      rw [List.length_map] at e0
      obtain ⟨j, rfl⟩ : ∃ j : Nat, n = (j : Int) := ⟨n.toNat, by omega⟩
      have hj : j < ds.length := by omega
      have g : (ds.map V.int)[j]? = some (.int ds[j]) := by
        rw [List.getElem?_map, List.getElem?_eq_getElem hj]
        rfl
      have rg := fmod_range (x := ds[j]) hm
      exact ⟨.ref b, rfl, b, _, 0, .ref dl, rfl, rfl, SqL.of h1, atI_nat (j := 0) rfl, .int j, rfl, dl, _, j, .int ds[j], rfl, rfl, hd1, atI_nat g, .inl ⟨_, rfl, .int m, rfl, _, m, rfl, rfl, by omega, q _ _ rg.1 rg.2 m1 box1⟩⟩
    · exact q 0 _ (Int.le_refl _) hm m1 box1
end
end Tc
namespace Tc
open PySem PySem.Spec PyProof.Rows L2 TcG
section
variable {P : Program} {w : World} {K : PySem.W.Frag} {mg : Str → Option Value} {base : Heap}
theorem kitF {a b : String} (h : kitB a b = some false := by decide +kernel) : PySem.W.kitOne K (.type a) (.type b) = some false := kit_ty h
theorem kitT {a b : String} (h : kitB a b = some true := by decide +kernel) : PySem.W.kitOne K (.type a) (.type b) = some true := kit_ty h

/-- isinstance(x, T), T a built-in type that is named -/
theorem pe_isi {X : Cx} {T : String} {i : Nat} {x n : Str} {p1 p2 p3 p4 : Pos} (mi : X.mg "isinstance" = none) (gi : Gl X "isinstance") (gT : Gl X n) (mT : X.mg n = none) (bT : bootBuiltins n = some (.type T)) (hv : PE X (.Name x p1) (tVar i))
    (hn : n ≠ "__name__" := by decide) (hd : (n == ("__debug__" : Str)) = false := by decide)
    (he : starEach [.Name x p1, .Name n p2] X.env = (false, eval (.Name x p1) X.env) :: starEach [.Name n p2] X.env := by rfl) (hpl : (backTo p4 (starEach [.Name n p2] X.env)).any (·.1) = false := by rfl)
    (he2 : starEach [.Name n p2] X.env = (false, eval (.Name n p2) X.env) :: starEach [] X.env := by rfl) :
    PE X (.Call (.Name "isinstance" p3) [.Name x p1, .Name n p2] [] p4) (tCB (rIsi X.K) (tCons (tVar i) (tCons (tC (.ty T)) tNil))) :=
  pe_callB call_isi gi mi (by decide +kernel) (pa_cons hv (pa_cons (pe_bltn gT mT bT rfl hn hd) pa_nil)) (by decide) (by decide) he hpl

def sp_same (K : PySem.W.Frag) (n : Nat) : Sp := fun vs H Q _ => ∃ x y : V, vs = [x, y] ∧ SameR K H n x y ∧ Q (.bl true) H
structure SameM (mg : Str → Option Value) : Prop where
  isi : mg "isinstance" = none
  tup : mg "tuple" = none
  bool : mg "bool" = none
  int : mg "int" = none
  str : mg "str" = none
  len : mg "len" = none
  range : mg "range" = none
theorem ok_same {f : Addr} {fd : FuncData} (F : Fun K "_law_same" "_law_same" s_law_same f fd) (gS : mg "_law_same" = some (.ref f)) (M : SameM mg) : ∀ n, FnOk P w K mg base CX0 n f fd ["actual", "expected"] (sp_same K n)
  | 0 => ⟨fun vs H Q E h => by obtain ⟨x, y, _, z, _⟩ := h; exact z.elim, fun A outer s H args us vs Q E hr e0 hb r h => by obtain ⟨x, y, _, z, _⟩ := h; exact z.elim⟩
  | n + 1 => by
    have GS : FnOk P w K mg base CX0 n f fd ["actual", "expected"] (sp_same K n) := ok_same F gS M n
    have bS : Binds K fd ["actual", "expected"] [] := F.binds fun _ _ _ _ _ _ us hl => match us, hl with | [_, _], _ => rfl
    refine F.ok sc_law_same (fun vs H Q E h => ?_) (fun cdv A outer s H vs Q E hr h => ?_)
    · obtain ⟨x, y, rfl, _⟩ := h
      rfl
    · obtain ⟨x, y, rfl, hs, q⟩ := h
      have nd := sc_law_same.nd
      refine ⟨_, pss_cons (ps_if (pt_val (pe_isi (T := "tuple") M.isi (by rfl) (by rfl) M.tup (by decide +kernel) (pv 1)))
          (pss_cons (ps_if (PW.pt (pw_or (pt_not (pt_val (pe_isi (T := "tuple") M.isi (by rfl) (by rfl) M.tup (by decide +kernel) (pv 0))))
              (pw_or1 (pt_cmpR op_ne (pe_callB call_len_seq (by rfl) M.len PySem.boot_len (pa_cons (pv 0) pa_nil)) (pe_callB call_len_seq (by rfl) M.len PySem.boot_len (pa_cons (pv 1) pa_nil)) (nomark _)))))
            (pss_one (ps_ret pe_bl)) pss_nil)
          (pss_cons (ps_for PassesOwn.never rfl (pi_range1 (by rfl) M.range (pa_cons (pe_callB call_len_seq (by rfl) M.len PySem.boot_len (pa_cons (pv 1) pa_nil)) pa_nil)) (pg_name (i := 2) nd rfl (.inl rfl))
            (pss_one (ps_if (pt_not (pt_val (pe_call GS hr (by rfl) gS F.kp bS .nil pass0 (pa_cons (pe_ix ix_tup (pv 0) (pv 2) (fun _ _ => rfl)) (pa_cons (pe_ix ix_tup (pv 1) (pv 2) (fun _ _ => rfl)) pa_nil))))) (pss_one (ps_ret pe_bl)) pss_nil)))
          (pss_one (ps_ret pe_bl)))) pss_nil)
        (pss_cons (ps_if (pt_cmpR op_isN (pv 1) pe_non (nomark _)) (pss_one (ps_ret (pe_cmpR op_isN (pv 0) pe_non (nomark _)))) pss_nil)
        (pss_cons (ps_if (pt_val (pe_isi (T := "bool") M.isi (by rfl) (by rfl) M.bool (by decide +kernel) (pv 1))) (pss_one (ps_ret (pe_and (pe_isi (T := "bool") M.isi (by rfl) (by rfl) M.bool (by decide +kernel) (pv 0)) (pe_one (pe_cmpR op_eq (pv 0) (pv 1) (nomark _)))))) pss_nil)
        (pss_cons (ps_if (pt_val (pe_isi (T := "int") M.isi (by rfl) (by rfl) M.int (by decide +kernel) (pv 1))) (pss_one (ps_ret (pe_and (pe_isi (T := "int") M.isi (by rfl) (by rfl) M.int (by decide +kernel) (pv 0))
            (pe_and (pe_not (pe_isi (T := "bool") M.isi (by rfl) (by rfl) M.bool (by decide +kernel) (pv 0))) (pe_one (pe_cmpR op_eq (pv 0) (pv 1) (nomark _))))))) pss_nil)
        (pss_one (ps_ret (pe_and (pe_isi (T := "str") M.isi (by rfl) (by rfl) M.str (by decide +kernel) (pv 0)) (pe_one (pe_cmpR op_eq (pv 0) (pv 1) (nomark _))))))))), ?_⟩
      rcases hs with ⟨rfl, fl⟩ | ⟨a, b, xs, ys, rfl, rfl, hx, hy, el, small, all⟩
      · cases x with
        | non =>
          exact ⟨.non, rfl, .non, .ty "tuple", .type "NoneType", _, false, rfl, .ty _, .base .non, kitF, false, rfl, iteF ⟨.non, rfl, rfl, true, rfl, iteT ⟨.non, rfl, rfl, q⟩⟩⟩
        | bl b =>
          refine ⟨.bl b, rfl, .bl b, .ty "tuple", .type "bool", _, false, rfl, .ty _, .base (.bl b), kitF, false, rfl, iteF ⟨.bl b, rfl, rfl, false, rfl, iteF ⟨.bl b, rfl, .bl b, .ty "bool", .type "bool", _, true, rfl, .ty _, .base (.bl b), kitT, true, rfl, iteT
            ⟨.bl b, rfl, .bl b, .ty "bool", .type "bool", _, true, rfl, .ty _, .base (.bl b), kitT, true, rfl, iteT ⟨.bl b, rfl, .bl b, rfl, rfl, ?_⟩⟩⟩⟩⟩
          rw [decide_eq_true rfl]
          exact q
        | int i =>
          refine ⟨.int i, rfl, .int i, .ty "tuple", .type "int", _, false, rfl, .ty _, .base (.int i), kitF, false, rfl, iteF ⟨.int i, rfl, rfl, false, rfl, iteF ⟨.int i, rfl, .int i, .ty "bool", .type "int", _, false, rfl, .ty _, .base (.int i), kitF, false, rfl, iteF
            ⟨.int i, rfl, .int i, .ty "int", .type "int", _, true, rfl, .ty _, .base (.int i), kitT, true, rfl, iteT ⟨.int i, rfl, .int i, .ty "int", .type "int", _, true, rfl, .ty _, .base (.int i), kitT, true, rfl, iteT
              ⟨.int i, rfl, .int i, .ty "bool", .type "int", _, false, rfl, .ty _, .base (.int i), kitF, false, rfl, true, rfl, iteT ⟨.int i, rfl, .int i, rfl, rfl, ?_⟩⟩⟩⟩⟩⟩⟩
          rw [decide_eq_true rfl]
          exact q
        | str z =>
          refine ⟨.str z, rfl, .str z, .ty "tuple", .type "str", _, false, rfl, .ty _, .base (.str z), kitF, false, rfl, iteF ⟨.str z, rfl, rfl, false, rfl, iteF ⟨.str z, rfl, .str z, .ty "bool", .type "str", _, false, rfl, .ty _, .base (.str z), kitF, false, rfl, iteF
            ⟨.str z, rfl, .str z, .ty "int", .type "str", _, false, rfl, .ty _, .base (.str z), kitF, false, rfl, iteF ⟨.str z, rfl, .str z, .ty "str", .type "str", _, true, rfl, .ty _, .base (.str z), kitT, true, rfl, iteT ⟨.str z, rfl, .str z, rfl, rfl, ?_⟩⟩⟩⟩⟩⟩
          rw [decide_eq_true rfl]
          exact q
        | _ => cases fl
      · refine ⟨.ref b, rfl, .ref b, .ty "tuple", .type "tuple", _, true, rfl, .ty _, tyx_tup hy, kitT, true, rfl, iteT ?_⟩
        refine ⟨.ref a, rfl, .ref a, .ty "tuple", .type "tuple", _, true, rfl, .ty _, tyx_tup hx, kitT, true, rfl, iteF ?_⟩
        refine ⟨.ref a, rfl, a, xs, rfl, .inr hx, .ref b, rfl, b, ys, rfl, .inr hy, rfl, _, rfl, ?_⟩
        rw [el, decide_eq_true rfl]
        refine iteF ⟨.ref b, rfl, b, ys, rfl, .inr hy, (ys.length : Int), rfl, by omega, by omega, ?_⟩
        refine for_range (lo := 0) (n := ((ys.length : Int)).toNat) (fun i σ H' => ∃ y2, σ = [some (.ref a), some (.ref b), y2] ∧ H' = H) ⟨none, rfl, rfl⟩ (fun i σ H1 hi hW => ?_) (fun σ H1 hW => ?_)
        · obtain ⟨y2, rfl, rfl⟩ := hW
          have hi2 : i < ys.length := by omega
          have hi1 : i < xs.length := by omega
          refine ⟨.ref a, rfl, .int (0 + (i : Int)), rfl, a, xs, 0 + (i : Int), xs[i], rfl, rfl, hx, at_eq (by omega) (List.getElem?_eq_getElem hi1), .ref b, rfl, .int (0 + (i : Int)), rfl, b, ys, 0 + (i : Int), ys[i], rfl, rfl, hy, at_eq (by omega) (List.getElem?_eq_getElem hi2), ?_⟩
          exact ⟨xs[i], ys[i], rfl, all i _ _ (List.getElem?_eq_getElem hi1) (List.getElem?_eq_getElem hi2), true, rfl, iteF ⟨some (.int (0 + (i : Int))), rfl, rfl⟩⟩
        · obtain ⟨y2, rfl, rfl⟩ := hW
          exact q
end
end Tc
namespace Tc
open PySem PySem.Spec PyProof.Rows L2 TcG
theorem small_line {n : Nat} (h : n ≤ 100000) : n ≤ sizeLine := Nat.le_trans h (by decide)

end Tc
namespace Tc
open PySem PySem.Spec PyProof.Rows L2 TcG
section
variable {P : Program} {w : World} {K : PySem.W.Frag} {mg : Str → Option Value} {base : Heap}
theorem ne_lst {H : Hp} {p q : Addr} {o : HO} {xs : List V} (hp : H p = some (.lst xs)) (hq : H q = some o) (h : ∀ ys, o = .lst ys → ys ≠ xs) : p ≠ q := fun e => by
  rw [e, hq] at hp
  cases hp
  exact h _ rfl rfl

/-! _law_alphabet -/
def sp_alphabet (K : PySem.W.Frag) : Sp := fun vs H Q _ => ∃ (b dl : Addr) (m : Int), vs = [.ref b, .int m] ∧ Box K b dl H ∧ 1 ≤ m ∧ m ≤ 6 ∧
  ∀ (a : Addr) (n : Nat) (ps : List (List Nat)) (H' : Hp), (n : Int) ≤ m → Drawn n ps → Mv [b] H H' → Box K b dl H' → Alpha K H' a (alph n) ps → Q (.ref a) H'
theorem ok_alphabet {f fD : Addr} {fd fdD : FuncData} (F : Fun K "_law_alphabet" "_law_alphabet" s_law_alphabet f fd) (FD : Fun K "_law_draw" "_law_draw" s_law_draw fD fdD) (gD : mg "_law_draw" = some (.ref fD))
    (ml : mg "len" = none) (mi : mg "int" = none) (mr : mg "range" = none) (ms : mg "sorted" = none) (mt : mg "tuple" = none) : FnOk P w K mg base CX0 2 f fd ["box", "most"] (sp_alphabet K) := by
  have GD : FnOk P w K mg base CX0 1 fD fdD ["box", "many"] (sp_draw K) := ok_draw FD ml mi
  have bD : Binds K fdD ["box", "many"] [] := FD.binds fun _ _ _ _ _ _ us hl => match us, hl with | [_, _], _ => rfl
  refine F.ok sc_law_alphabet (fun vs H Q E h => ?_) (fun cdv A outer s H vs Q E hr h => ?_)
  · obtain ⟨b, dl, m, rfl, _⟩ := h
    rfl
  · obtain ⟨b, dl, m, rfl, hB, m1, m6, q⟩ := h
    have nd := sc_law_alphabet.nd
    refine ⟨_, pss_cons (ps_set (i := 2) nd rfl (.inl rfl) (pe_slice sl_str pe_str po_none (po_some (pe_op op_add pe_int (pe_call GD hr (by rfl) gD FD.kp bD .nil pass0 (pa_cons (pv 0) (pa_cons (pv 1) pa_nil)))))))
      (pss_cons (ps_set (i := 3) nd rfl (.inl rfl) (pe_lst pa_nil))
      (pss_cons (ps_for PassesOwn.never rfl (pi_range1 (by rfl) mr (pa_cons (pe_callB call_len_str (by rfl) ml PySem.boot_len (pa_cons (pv 2) pa_nil)) pa_nil)) (pg_name (i := 4) nd rfl (.inl rfl))
        (pss_one (ps_for PassesOwn.never rfl (pi_range2 (by rfl) mr (pa_cons (pe_op op_add (pv 4) pe_int) (pa_cons (pe_callB call_len_str (by rfl) ml PySem.boot_len (pa_cons (pv 2) pa_nil)) pa_nil))) (pg_name (i := 5) nd rfl (.inl rfl))
          (pss_one (ps_if (pt_cmpR op_lt (pe_call GD hr (by rfl) gD FD.kp bD .nil pass0 (pa_cons (pv 0) (pa_cons pe_int pa_nil))) pe_int (nomark _))
            (pss_one (ps_expr (pe_bm PySem.F.plainAttrs_list PySem.F.slot_list_append PySem.F.type_list_append mt_append (pv 3)
              (pa_cons (pe_op op_add_str (pe_ix ix_str (pv 2) (pv 4) (fun _ _ => rfl)) (pe_ix ix_str (pv 2) (pv 5) (fun _ _ => rfl))) pa_nil)))) pss_nil)))))
      (pss_one (ps_ret (pe_tup (pa_cons pe_str (pa_cons (pv 2) (pa_cons (pe_callTy call_tuple_of (by rfl) mt (by decide +kernel)
        (pa_cons (pe_callB cr_sortedS (by rfl) ms (by decide +kernel) (pa_cons (pv 3) pa_nil)) pa_nil)) pa_nil)))))))), ?_⟩
    -- letters = 'abcdef'[:1 + r]
    refine ⟨.ref b, rfl, .int m, rfl, b, dl, m, rfl, hB, by omega, fun r H1 r0 rm mv1 hB1 => ⟨1, r, rfl, rfl, 1 + r, rfl, ?_⟩⟩
    obtain ⟨n, en⟩ : ∃ n : Nat, 1 + r = (n : Int) := ⟨(1 + r).toNat, by omega⟩
    have n1 : 1 ≤ n := by omega
    have n6 : n ≤ 6 := by omega
    have nm : (n : Int) ≤ m := by omega
    refine ⟨tx [97, 98, 99, 100, 101, 102], rfl, by show (6 : Nat) ≤ sizeLine; decide, ?_⟩
    rw [en, cut_to]
    -- pairs = []
    refine ⟨Nat.zero_le _, fun p np => ?_⟩
    have len : (tx (alph n)).length = n := by rw [tx_length, alph_len n6]
    have zl : (tx (alph n)).length ≤ sizeLine := by
      rw [len]
      exact small_line (by omega)
    have hp1 : (upd H1 p (.lst [])) p = some (.lst (txs [])) := upd_same
    -- all pairs of places
    refine ⟨.str (tx (alph n)), rfl, tx (alph n), rfl, zl, ((tx (alph n)).length : Int), rfl, by rw [len]; omega, by rw [len]; omega, ?_⟩
    have e1 : (((tx (alph n)).length : Int)).toNat = n := by rw [len]; omega
    rw [e1]
    have step : ∀ i, i < n → (alph n)[i]? = some (97 + i) := fun i hi => alph_at n6 hi
    refine for_range (lo := 0) (n := n) (fun i σ H' => ∃ prs y4 y5, σ = [some (.ref b), some (.int m), some (.str (tx (alph n))), some (.ref p), y4, y5] ∧ Mv [b] H H' ∧ Box K b dl H' ∧ H' p = some (.lst (txs prs)) ∧ prs.Sublist (((alph n).take i).flatMap (pairsWith (alph n))))
      ⟨[], none, none, rfl, mv1.trans (Mv.new np), hB1.same (same_new np), hp1, List.Sublist.refl _⟩ (fun i σ H2 hi hW => ?_) (fun σ H2 hW => ?_)
    · obtain ⟨prs, y4, y5, rfl, mv2, hB2, hp2, sub⟩ := hW
      refine ⟨.int (0 + (i : Int)), rfl, _, 1, rfl, rfl, .str (tx (alph n)), rfl, tx (alph n), rfl, zl, 0 + (i : Int) + 1, ((tx (alph n)).length : Int), rfl, by rw [len]; omega, ?_⟩
      have e2 : (((tx (alph n)).length : Int) - (0 + (i : Int) + 1)).toNat = n - (i + 1) := by rw [len]; omega
      rw [e2]
      refine for_range (lo := 0 + (i : Int) + 1) (n := n - (i + 1)) (fun t σ H' => ∃ prs y5, σ = [some (.ref b), some (.int m), some (.str (tx (alph n))), some (.ref p), some (.int (0 + (i : Int))), y5] ∧ Mv [b] H H' ∧ Box K b dl H' ∧ H' p = some (.lst (txs prs)) ∧
          prs.Sublist (((alph n).take i).flatMap (pairsWith (alph n)) ++ (((alph n).drop (i + 1)).take t).map fun y => [97 + i, y]))
        ⟨prs, y5, rfl, mv2, hB2, hp2, by simpa using sub⟩ (fun t σ H3 ht hV => ?_) (fun σ H3 hV => ?_)
      · obtain ⟨prs, y5, rfl, mv3, hB3, hp3, sub⟩ := hV
        have hd : ((alph n).drop (i + 1))[t]? = some (97 + (i + 1 + t)) := by
          rw [List.getElem?_drop]
          exact step _ (by omega)
        have nx : (((alph n).drop (i + 1)).take (t + 1)).map (fun y => [97 + i, y]) = (((alph n).drop (i + 1)).take t).map (fun y => [97 + i, y]) ++ [[97 + i, 97 + (i + 1 + t)]] := by
          rw [take_next hd, List.map_append]
          rfl
        refine ⟨.ref b, rfl, b, dl, 5, rfl, hB3, by decide, fun r H4 r0 r5 mv4 hB4 => ⟨r, 2, rfl, rfl, _, rfl, ?_⟩⟩
        have hpb : p ≠ b := by
          obtain ⟨ds, nn, hb, _⟩ := hB3
          refine ne_lst hp3 hb fun ys e z => ?_
          cases e
          unfold txs at z
          cases prs with
          | nil => cases z
          | cons x l => cases z
        have hp4 : H4 p = some (.lst (txs prs)) := mv4 p _ (fun z => hpb (List.mem_singleton.mp z)) hp3
        refine ite2 (fun _ => ?_) (fun _ => ?_)
        · refine ⟨.ref p, rfl, .inl ⟨rfl, _, SqL.of hp4⟩, .str (tx (alph n)), rfl, .int (0 + (i : Int)), rfl, tx (alph n), 0 + (i : Int), 97 + i, rfl, rfl, zl, at_eq (z := 0 + (i : Int)) (j := i) (by omega) (step i hi), ?_⟩
          refine ⟨.str (tx (alph n)), rfl, .int (0 + (i : Int) + 1 + (t : Int)), rfl, tx (alph n), 0 + (i : Int) + 1 + (t : Int), 97 + (i + 1 + t), rfl, rfl, zl, at_eq (z := 0 + (i : Int) + 1 + (t : Int)) (j := i + 1 + t) (by omega) (step (i + 1 + t) (by omega)), ?_⟩
          refine ⟨_, _, rfl, rfl, by show (1 + 1 : Nat) ≤ sizeLine; decide, p, _, _, rfl, rfl, hp4, ?_, ?_⟩
          · unfold txs
            rw [List.length_map]
            have h1 := sub.length_le
            rw [List.length_append, List.length_map, List.length_take] at h1
            have h2 := flat_len (alph n) ((alph n).take i)
            rw [alph_len n6, List.length_take, alph_len n6] at h2
            have h3 : min i n * n ≤ 6 * 6 := Nat.mul_le_mul (by omega) n6
            refine Nat.lt_of_le_of_lt (show prs.length ≤ 100 by omega) (by decide)
          · have e3 : (⟨#[97 + i]⟩ : Str) ++ ⟨#[97 + (i + 1 + t)]⟩ = tx [97 + i, 97 + (i + 1 + t)] := tx_append [97 + i] [97 + (i + 1 + t)]
            rw [e3]
            refine ⟨prs ++ [[97 + i, 97 + (i + 1 + t)]], some (.int (0 + (i : Int) + 1 + (t : Int))), rfl, fun a o na e => ?_, ?_, ?_, ?_⟩
            · have e5 := (mv3.trans mv4) a o na e
              have nap : a ≠ p := fun z => by
                rw [z] at e
                have := mv1 p _ (fun y => hpb (List.mem_singleton.mp y)) e
                rw [np] at this
                cases this
              rw [upd_ne nap]
              exact e5
            · exact hB1.put np hB4
            · rw [upd_same]
              unfold txs
              rw [List.map_append]
              rfl
            · rw [nx, ← List.append_assoc]
              exact List.Sublist.append sub (List.Sublist.refl _)
        · refine ⟨prs, some (.int (0 + (i : Int) + 1 + (t : Int))), rfl, mv3.trans mv4, hB4, hp4, ?_⟩
          rw [nx, ← List.append_assoc]
          exact List.Sublist.trans sub (List.sublist_append_left _ _)
      · obtain ⟨prs, y5, rfl, mv3, hB3, hp3, sub⟩ := hV
        refine ⟨prs, _, _, rfl, mv3, hB3, hp3, ?_⟩
        rw [take_next (step i hi), List.flatMap_append]
        have e4 : ((alph n).drop (i + 1)).take (n - (i + 1)) = (alph n).drop (i + 1) := List.take_of_length_le (by rw [List.length_drop, alph_len n6]; exact Nat.le_refl _)
        rw [e4, ← alph_pairs n6 hi] at sub
        simpa using sub
    · obtain ⟨prs, y4, y5, rfl, mv2, hB2, hp2, sub⟩ := hW
      have e5 : (alph n).take n = alph n := List.take_of_length_le (by rw [alph_len n6]; exact Nat.le_refl _)
      rw [e5] at sub
      rw [txs_map] at hp2
      refine ⟨.str (tx (alph n)), rfl, .ref p, rfl, p, prs.map tx, rfl, SqL.of hp2, ?_, fun ys c pm so nc => ?_⟩
      · rw [List.length_map]
        have h1 := sub.length_le
        have h2 := alph_count n6
        exact Nat.lt_of_le_of_lt (Nat.le_trans h1 h2) (by decide)
      · obtain ⟨ps, rfl, dr⟩ := drawn_of n6 n1 sub pm so
        refine ⟨c, _, rfl, .inl ⟨SqL.of upd_same, fun t nt => ⟨by show 3 ≤ sizeLine; decide, fun a na => ?_⟩⟩⟩
        have sm : Same H2 (upd (upd (upd H2 c (.lst ((ps.map tx).map V.str))) t (.tup ((ps.map tx).map V.str))) a (.tup [.str "alphabet", .str (tx (alph n)), .ref t])) := (same_new nc).trans ((same_new nt).trans (same_new na))
        refine q a n ps _ nm dr (mv2.trans (Mv.of_same sm)) (hB2.same sm) ⟨t, SqT.of upd_same, SqT.of ?_⟩
        rw [upd_ne (fun z => by rw [← z, upd_same] at na; cases na), upd_same, txs_map]
end
end Tc
/-! Automata as they are drawn. -/
namespace TcG
open PySem PySem.Spec PyProof.Rows L2
def placesE (ls : List Nat) (n : Nat) : List (Nat × Nat) := (List.range n).flatMap fun s => ls.map fun x => (s, x)
theorem placesE_succ (ls : List Nat) (n : Nat) : placesE ls (n + 1) = placesE ls n ++ ls.map fun x => (n, x) := by
  unfold placesE
  rw [List.range_succ, List.flatMap_append, List.flatMap_cons, List.flatMap_nil, List.append_nil]
theorem placesE_nodup {ls : List Nat} (nd : ls.Nodup) (n : Nat) : (placesE ls n).Nodup := by
  rw [List.nodup_iff_pairwise_ne]
  refine List.pairwise_flatMap.mpr ⟨fun s _ => ?_, ?_⟩
  · rw [List.pairwise_map]
    exact (List.nodup_iff_pairwise_ne.mp nd).imp fun h e => h (Prod.mk.inj e).2
  · refine List.Pairwise.imp ?_ (List.nodup_iff_pairwise_ne.mp List.nodup_range)
    intro a c h x hx y hy e
    obtain ⟨u, _, rfl⟩ := List.mem_map.mp hx
    obtain ⟨v, _, rfl⟩ := List.mem_map.mp hy
    exact h (Prod.mk.inj e).1
theorem placesE_mem {ls : List Nat} {n : Nat} {p : Nat × Nat} (h : p ∈ placesE ls n) : p.1 < n ∧ p.2 ∈ ls := by
  obtain ⟨s, hs, hp⟩ := List.mem_flatMap.mp h
  obtain ⟨x, hx, rfl⟩ := List.mem_map.mp hp
  exact ⟨List.mem_range.mp hs, hx⟩
theorem placesE_len (ls : List Nat) (n : Nat) : (placesE ls n).length = n * ls.length := by
  unfold placesE
  rw [flatN_len _ ls.length _ fun a _ => List.length_map _, List.length_range]
def keysE (E : List Edge) : List (Nat × Nat) := E.map fun e => (e.1, e.2.1)
/-- what is drawn of an automaton -/
structure LayE (K : PySem.W.Frag) (b dl : Addr) (H0 : Hp) (en : Addr) (ends : List Nat) (ep : Addr) (es : List Addr) (E : List Edge) (H : Hp) : Prop where
  d : Dr K b dl H0 H
  hen : SqT K H en (numV ends)
  nep : H0 ep = none
  hep : H ep = some (.lst (es.map V.ref))
  pr : Paired (EdgeAt K H) es E
section
variable {K : PySem.W.Frag} {b dl en ep : Addr} {H0 H H' : Hp} {ends : List Nat} {es : List Addr} {E : List Edge}
theorem LayE.go (h : LayE K b dl H0 en ends ep es E H) (m : Mv [b] H H') (bx : Box K b dl H') : LayE K b dl H0 en ends ep es E H' :=
  ⟨h.d.go m bx, seqT_tk (h.d.tk m) h.hen, h.nep, h.d.keep h.nep m h.hep, paired_imp (fun _ _ x => seqT_tk (h.d.tk m) x) h.pr⟩
theorem LayE.same (h : LayE K b dl H0 en ends ep es E H) (s : Same H H') : LayE K b dl H0 en ends ep es E H' :=
  ⟨h.d.same s, seqT_tk (.of s) h.hen, h.nep, s _ _ h.hep, paired_imp (fun _ _ x => seqT_tk (.of s) x) h.pr⟩
theorem LayE.add (h : LayE K b dl H0 en ends ep es E H) {r : Addr} {e : Edge} (hr : EdgeAt K H r e) : LayE K b dl H0 en ends ep (es ++ [r]) (E ++ [e]) (upd H ep (.lst (es.map V.ref ++ [V.ref r]))) := by
  have k : TK H (upd H ep (.lst (es.map V.ref ++ [V.ref r]))) := TK.put h.hep
  refine ⟨h.d.put h.nep, seqT_tk k h.hen, h.nep, ?_, paired_snoc (paired_imp (fun _ _ x => seqT_tk k x) h.pr) (seqT_tk k hr)⟩
  rw [upd_same, List.map_append]
  rfl
end
/-- an automaton whose edges go from places of their own -/
theorem aut_ok {ls : List Nat} {n s : Nat} {ends : List Nat} {E : List Edge} (nl : ls.Nodup) (n1 : 1 ≤ n) (n4 : n ≤ 4) (hs : s < n) (he : ends.Sublist (List.range n)) (hk : (keysE E).Sublist (placesE ls n)) (ht : ∀ e ∈ E, e.2.2 < n) : AutOk ls ⟨n, s, ends, E⟩ :=
  ⟨n1, n4, hs, he.nodup List.nodup_range, fun x hx => List.mem_range.mp (he.subset hx), hk.nodup (placesE_nodup nl n), fun e m => by
    obtain ⟨a, c⟩ := placesE_mem (hk.subset (List.mem_map.mpr ⟨e, m, rfl⟩))
    exact ⟨a, c, ht e m⟩⟩
end TcG
/-! Automata turned a little. -/
namespace TcG
open PySem PySem.Spec PyProof.Rows L2 PySem.W
theorem paired_zip {α β : Type} {R : α → β → Prop} : ∀ (T : List (α × β)), (∀ t ∈ T, R t.1 t.2) → Paired R (T.map Prod.fst) (T.map Prod.snd)
  | [], _ => .nil
  | t :: T, h => .cons (h t List.mem_cons_self) (paired_zip T fun u hu => h u (List.mem_cons_of_mem _ hu))
theorem paired_mem {α β : Type} {R : α → β → Prop} {as : List α} {bs : List β} (h : Paired R as bs) : ∀ t ∈ as.zip bs, R t.1 t.2 := by
  induction h with
  | nil => exact fun t h => (nomatch h)
  | cons e _ ih =>
    intro t ht
    rw [List.zip_cons_cons] at ht
    rcases List.mem_cons.mp ht with z | z
    · rw [z]
      exact e
    · exact ih t z
theorem paired_sorted {β : Type} {R : Addr → β → Prop} {f : β → PyData} {rs : List Addr} {D : List β} {L : List (V × PyData)} (h : Paired R rs D) (e : L = ((rs.map V.ref).zip (D.map f)).mergeSort (dataLe false Prod.snd)) :
    ∃ (rs' : List Addr) (D' : List β), L.map Prod.fst = rs'.map V.ref ∧ Paired R rs' D' ∧ D'.Perm D := by
  have z1 : (rs.map V.ref).zip (D.map f) = (rs.zip D).map fun t => (V.ref t.1, f t.2) := by
    rw [List.zip_map]
    rfl
  have z2 : ((rs.zip D).mergeSort fun a b => dataLe false (id : PyData → PyData) (f a.2) (f b.2)).map (fun t => (V.ref t.1, f t.2)) = ((rs.zip D).map fun t => (V.ref t.1, f t.2)).mergeSort (dataLe false Prod.snd) := List.map_mergeSort fun a _ b _ => rfl
  rw [z1, ← z2] at e
  have pm := List.mergeSort_perm (rs.zip D) fun a b => dataLe false (id : PyData → PyData) (f a.2) (f b.2)
  refine ⟨((rs.zip D).mergeSort fun a b => dataLe false (id : PyData → PyData) (f a.2) (f b.2)).map Prod.fst, ((rs.zip D).mergeSort fun a b => dataLe false (id : PyData → PyData) (f a.2) (f b.2)).map Prod.snd, ?_, ?_, ?_⟩
  · rw [e, List.map_map, List.map_map]
    rfl
  · exact paired_zip _ fun t ht => paired_mem h t (pm.mem_iff.mp ht)
  · have := pm.map Prod.snd
    rw [List.map_snd_zip (by rw [Paired.length h]; exact Nat.le_refl _)] at this
    exact this
def edgeD (e : Edge) : PyData := .tuple [.int (e.1 : Nat), .str (tx [e.2.1]), .int (e.2.2 : Nat)]
theorem edge_dp {K : PySem.W.Frag} {H : Hp} {rs : List Addr} {E : List Edge} (h : Paired (EdgeAt K H) rs E) : DpAll K H (rs.map V.ref) (E.map edgeD) := by
  induction h with
  | nil => exact .nil
  | cons e _ ih => exact .cons (.tup e (.cons (.int _) (.cons (.str _) (.cons (.int _) .nil)))) ih
theorem edgeD_alike (d e : Edge) : alike (edgeD d) (edgeD e) = true := rfl
theorem edgeD_depth (e : Edge) : (edgeD e).depth ≤ 60 := by
  unfold edgeD
  simp only [PyData.depthAll, PyData.depth]
  decide
section
variable {ls : List Nat} {A : Aut}
theorem AutOk.ends' (h : AutOk ls A) {s : Nat} (hs : s < A.many) {E : List Nat} (p : E.Perm ((A.ends.filter fun e => decide (e ≠ s)) ++ if s ∈ A.ends then [] else [s])) : AutOk ls ⟨A.many, A.start, E, A.edges⟩ := by
  refine ⟨h.some, h.few, h.start, ?_, fun x hx => ?_, h.keys, h.edgesIn⟩
  · refine p.nodup_iff.mpr (List.nodup_append.mpr ⟨h.ends.filter _, by split <;> simp, fun a ha b hb e => ?_⟩)
    have := of_decide_eq_true (List.mem_filter.mp ha).2
    split at hb
    · cases hb
    · rw [List.mem_singleton.mp hb] at e
      exact this e
  · rcases List.mem_append.mp (p.mem_iff.mp hx) with m | m
    · exact h.endsIn x (List.mem_filter.mp m).1
    · split at m
      · cases m
      · rw [List.mem_singleton.mp m]
        exact hs
theorem AutOk.edge' (h : AutOk ls A) {k : Nat} {e : Edge} (he : A.edges[k]? = Option.some e) {t : Nat} (ht : t < A.many) : AutOk ls ⟨A.many, A.start, A.ends, A.edges.take k ++ [(e.1, e.2.1, t)] ++ A.edges.drop (k + 1)⟩ := by
  have eq : A.edges = A.edges.take k ++ [e] ++ A.edges.drop (k + 1) := by
    rw [← take_next he, List.take_append_drop]
  refine ⟨h.some, h.few, h.start, h.ends, h.endsIn, ?_, fun x hx => ?_⟩
  · have := h.keys
    rw [eq, List.map_append, List.map_append] at this
    rw [List.map_append, List.map_append]
    exact this
  · rcases List.mem_append.mp hx with m | m
    · rcases List.mem_append.mp m with m | m
      · exact h.edgesIn x (List.mem_of_mem_take m)
      · rw [List.mem_singleton.mp m]
        have := h.edgesIn e (List.mem_of_getElem? he)
        exact ⟨this.1, this.2.1, ht⟩
    · exact h.edgesIn x (List.mem_of_mem_drop m)
def mirE (l : Nat) (e : Edge) : Edge := (l - e.1, e.2.1, l - e.2.2)
theorem AutOk.mirror (h : AutOk ls A) {E : List Edge} {N : List Nat} (pE : E.Perm (A.edges.map (mirE (A.many - 1)))) (pN : N.Perm (A.ends.map fun n => A.many - 1 - n)) : AutOk ls ⟨A.many, A.many - 1 - A.start, N, E⟩ := by
  have m1 := h.some
  refine ⟨h.some, h.few, by show A.many - 1 - A.start < A.many; omega, ?_, fun x hx => ?_, ?_, fun x hx => ?_⟩
  · refine pN.nodup_iff.mpr (List.nodup_iff_pairwise_ne.mpr ?_)
    rw [List.pairwise_map]
    refine List.Pairwise.imp_of_mem ?_ (List.nodup_iff_pairwise_ne.mp h.ends)
    intro a b ha hb n e
    have := h.endsIn a ha
    have := h.endsIn b hb
    omega
  · obtain ⟨y, hy, rfl⟩ := List.mem_map.mp (pN.mem_iff.mp hx)
    show A.many - 1 - y < A.many
    omega
  · refine (pE.map _).nodup_iff.mpr ?_
    rw [List.map_map]
    have := h.keys
    rw [List.nodup_iff_pairwise_ne, List.pairwise_map] at this ⊢
    refine List.Pairwise.imp_of_mem ?_ this
    intro a b ha hb n e
    have a1 := (h.edgesIn a ha).1
    have b1 := (h.edgesIn b hb).1
    have e1 : A.many - 1 - a.1 = A.many - 1 - b.1 := (Prod.mk.inj e).1
    have e2 : a.2.1 = b.2.1 := (Prod.mk.inj e).2
    exact n (Prod.ext (show a.1 = b.1 by omega) e2)
  · obtain ⟨y, hy, rfl⟩ := List.mem_map.mp (pE.mem_iff.mp hx)
    have := h.edgesIn y hy
    exact ⟨by show A.many - 1 - y.1 < A.many; omega, this.2.1, by show A.many - 1 - y.2.2 < A.many; omega⟩
end
theorem perm_nats {L : List Nat} {ns : List Int} (p : ns.Perm (L.map fun n : Nat => (n : Int))) : ∃ L' : List Nat, ns.map V.int = numV L' ∧ L'.Perm L := by
  refine ⟨ns.map Int.toNat, ?_, ?_⟩
  · unfold numV
    rw [List.map_map]
    refine List.map_congr_left fun x hx => ?_
    obtain ⟨n, _, rfl⟩ := List.mem_map.mp (p.mem_iff.mp hx)
    rfl
  · have := p.map Int.toNat
    rw [List.map_map] at this
    have e : L.map (Int.toNat ∘ fun n : Nat => (n : Int)) = L := by
      conv => rhs; rw [← List.map_id L]
      exact List.map_congr_left fun n _ => rfl
    rw [e] at this
    exact this
theorem numV_ints (L : List Nat) : numV L = (L.map fun n : Nat => (n : Int)).map V.int := by
  unfold numV
  rw [List.map_map]
  rfl
theorem paired_take {α β : Type} {R : α → β → Prop} {as : List α} {bs : List β} (h : Paired R as bs) : ∀ n, Paired R (as.take n) (bs.take n) := by
  induction h with
  | nil => intro n; rw [List.take_nil, List.take_nil]; exact .nil
  | cons e _ ih =>
    intro n
    cases n with
    | zero => exact .nil
    | succ n => exact .cons e (ih n)
theorem paired_drop {α β : Type} {R : α → β → Prop} {as : List α} {bs : List β} (h : Paired R as bs) : ∀ n, Paired R (as.drop n) (bs.drop n) := by
  induction h with
  | nil => intro n; rw [List.drop_nil, List.drop_nil]; exact .nil
  | cons e t ih =>
    intro n
    cases n with
    | zero => exact .cons e t
    | succ n => exact ih n
theorem paired_append {α β : Type} {R : α → β → Prop} {as cs : List α} {bs ds : List β} (h : Paired R as bs) (g : Paired R cs ds) : Paired R (as ++ cs) (bs ++ ds) := by
  induction h with
  | nil => exact g
  | cons e _ ih => exact .cons e ih
end TcG
namespace Tc
open PySem PySem.Spec PyProof.Rows L2 TcG
section
variable {P : Program} {w : World} {K : PySem.W.Frag} {mg : Str → Option Value} {base : Heap}
theorem sc_edge_table4 : FnScope ["automaton", "state", "letter", "other"] ["automaton"] (defScope s_edge_table) :=
  ⟨rfl, rfl, rfl, by decide +kernel, rfl, by decide +kernel, by decide +kernel⟩
theorem hu16 {A : Around} {k : Nat} (hr : Room k A) : A.units + 16 < cLine := by
  have := hr.un
  omega
theorem hu9 {A : Around} {k : Nat} (hr : Room k A) : A.units + 9 < cLine := by
  have := hr.un
  omega
theorem edge_nk {H : Hp} {q : Addr} {s : StO} {x : Nat} (h : H q = some (.tup [stV s, .str (tx [x])])) : NK H (edgeKey s x) (.ref q) :=
  .tup (.inl h) (.cons (st_nk s) (.cons (.text _) .nil))
def sp_etab (P : Program) (w : World) (K : PySem.W.Frag) : Sp := fun vs H Q _ => ∃ (a : Addr) (A : Aut), vs = [.ref a] ∧ AutAt K H a A ∧ (A.edges.map fun e => (e.1, e.2.1)).Nodup ∧ A.edges.length ≤ 1000 ∧
  ∀ (D : Addr) (H' : Hp), Same H H' → NestAt P w H' D (edgeK A.edges) → Q (.ref D) H'
theorem ok_etab {f : Addr} {fd : FuncData} {k : Nat} (F : Fun K "edge_table" "edge_table" s_edge_table f fd) : FnOk P w K mg base CX0 (k + 1) f fd ["automaton"] (sp_etab P w K) := by
  refine F.ok sc_edge_table4 (fun vs H Q E h => ?_) (fun cdv A outer s H vs Q E hr h => ?_)
  · obtain ⟨a, A, rfl, _⟩ := h
    rfl
  · obtain ⟨a, A, rfl, ⟨en, ed, es, hA⟩, keys, few, q⟩ := h
    have nd := sc_edge_table4.nd
    refine ⟨_, pss_one (ps_ret (pe_ndc (own := [("state", 1), ("letter", 2), ("other", 3)]) (g := (gTup K 3 (gCons (gName 1) (gCons (gName 2) (gCons (gName 3) gNil))))) (tt := tYes) (tk := (tTup (tCons (tVar 1) (tCons (tVar 2) tNil)))) (tv := (tVar 3)) (hu16 hr) rfl nd (pi_tup (pe_ix ix_tup (pv 0) pe_int (fun _ _ => rfl))) (blkOk_by (own := [("state", 1), ("letter", 2), ("other", 3)]) (N := ["automaton", "state", "letter", "other"]) (sc := defScope s_edge_table) (by decide +kernel))
              (fun _ _ _ _ _ => (pg_tup rfl (pgs_cons (pg_name (i := 1) nd rfl (.inl rfl)) (pgs_cons (pg_name (i := 2) nd rfl (.inl rfl)) (pgs_cons (pg_name (i := 3) nd rfl (.inl rfl)) pgs_nil))))) (fun _ _ _ _ _ => pts_nil) (fun _ _ _ _ _ => (pe_tup (pa_cons (pv 1) (pa_cons (pv 2) pa_nil)))) (fun _ _ _ _ _ => (pv 3)))), ?_⟩
    refine ⟨.ref a, rfl, a, _, 4, .ref ed, rfl, rfl, hA.top, atI_nat (j := 4) rfl, ed, rfl, ⟨_, hA.rows⟩, fun D o nD n0 => ?_⟩
    refine ndc_it (walk_tup (xs := es.map V.ref)) (fun i H' => Same H H' ∧ NestAt P w H' D (edgeK (A.edges.take i))) ⟨same_new nD, n0⟩ (fun i H' _ hV => Same.seqT hV.1 hA.rows) (fun i x H1 H1' hi hV hY => ?_) (fun H1 hV => ?_)
    · obtain ⟨sm, n1⟩ := hV
      obtain ⟨rfl, hx⟩ := hY
      rw [List.getElem?_map] at hx
      obtain ⟨r, hr2, rfl⟩ := Option.map_eq_some_iff.mp hx
      obtain ⟨e, he, hr1⟩ := paired_at' hA.edges hr2
      refine ⟨r, _, rfl, Same.seqT sm hr1, rfl, _, _, rfl, _, _, rfl, _, _, rfl, rfl, rfl, tYes_of ⟨.int (e.1 : Nat), rfl, .str (tx [e.2.1]), rfl, by show 2 ≤ sizeLine; decide, fun q0 nq => ⟨.int (e.2.2 : Nat), rfl, q0, edgeKey (some e.1) e.2.1, _, rfl, edge_nk (s := some e.1) upd_same, edgeKey_depth _ _, n1.same (same_new nq), ?_, fun H6 e6 n6 => ?_⟩⟩⟩
      · unfold edgeK
        rw [List.length_map, List.length_take]
        exact Nat.lt_of_le_of_lt (show _ ≤ 1000 by omega) (by decide)
      · obtain ⟨o6, rfl⟩ := e6
        have fresh : (e.1, e.2.1) ∉ (A.edges.take i).map fun e => (e.1, e.2.1) := by
          have nk := keys
          rw [← List.take_append_drop i A.edges, List.map_append] at nk
          have hd : e ∈ A.edges.drop i := List.mem_of_getElem? (i := 0) (by rw [List.getElem?_drop]; exact he)
          intro m
          exact (List.nodup_append.mp nk).2.2 _ m _ (List.mem_map.mpr ⟨e, hd, rfl⟩) rfl
        rw [edgeK_put fresh, ← take_next he] at n6
        refine ⟨fun z o ez => ?_, n6⟩
        have hz := sm z o ez
        rw [upd_ne (ne_of_none ez nD), upd_ne (ne_of_none hz nq)]
        exact hz
    · obtain ⟨sm, n1⟩ := hV
      rw [List.length_map, hA.len, List.take_length] at n1
      exact q D H1 sm n1
end
end Tc
namespace Tc
open PySem PySem.Spec PyProof.Rows L2 TcG
section
variable {P : Program} {w : World} {K : PySem.W.Frag} {mg : Str → Option Value} {base : Heap}
theorem sc_end_table2 : FnScope ["automaton", "state"] ["automaton"] (defScope s_end_table) :=
  ⟨rfl, rfl, rfl, by decide +kernel, rfl, by decide +kernel, by decide +kernel⟩
def sp_endtab (K : PySem.W.Frag) : Sp := fun vs H Q _ => ∃ (a : Addr) (A : Aut), vs = [.ref a] ∧ AutAt K H a A ∧ A.ends.Nodup ∧ A.ends.length ≤ 1000 ∧
  ∀ (D : Addr) (H' : Hp), Same H H' → H D = none → H' D = some (.dK (endsK A.ends)) → Q (.ref D) H'
theorem numV_at {L : List Nat} {i : Nat} {x : V} (h : (numV L)[i]? = some x) : ∃ n : Nat, L[i]? = some n ∧ x = .int (n : Int) := by
  unfold numV at h
  rw [List.getElem?_map] at h
  obtain ⟨n, e, rfl⟩ := Option.map_eq_some_iff.mp h
  exact ⟨n, e, rfl⟩
theorem ok_endtab {f : Addr} {fd : FuncData} {k : Nat} (F : Fun K "end_table" "end_table" s_end_table f fd) : FnOk P w K mg base CX0 (k + 1) f fd ["automaton"] (sp_endtab K) := by
  refine F.ok sc_end_table2 (fun vs H Q E h => ?_) (fun cdv A outer s H vs Q E hr h => ?_)
  · obtain ⟨a, A, rfl, _⟩ := h
    rfl
  · obtain ⟨a, A, rfl, ⟨en, ed, es, hA⟩, nodup, few, q⟩ := h
    have nd := sc_end_table2.nd
    refine ⟨_, pss_one (ps_ret (pe_dc (own := [("state", 1)]) (g := (gName 1)) (tt := tYes) (tk := (tVar 1)) (tv := (tC (.bl true))) rfl nd (pi_tup (pe_ix ix_tup (pv 0) pe_int (fun _ _ => rfl))) (blkOk_by (own := [("state", 1)]) (N := ["automaton", "state"]) (sc := defScope s_end_table) (by decide +kernel))
              (fun _ _ _ _ _ => (pg_name (i := 1) nd rfl (.inl rfl))) (fun _ _ _ _ _ => pts_nil) (fun _ _ _ _ _ => (pv 1)) (fun _ _ _ _ _ => pe_bl))), ?_⟩
    refine ⟨.ref a, rfl, a, _, 3, .ref en, rfl, rfl, hA.top, atI_nat (j := 3) rfl, en, rfl, ⟨_, hA.ends⟩, fun D nD => ?_⟩
    refine dc_it (walk_tup (xs := numV A.ends)) (fun i H' => Same H H' ∧ H' D = some (.dK (endsK (A.ends.take i)))) ⟨same_new nD, upd_same⟩ (fun i H' _ hV => Same.seqT hV.1 hA.ends) (fun i x H1 H1' hi hV hY => ?_) (fun H1 hV => ?_)
    · obtain ⟨sm, hD⟩ := hV
      obtain ⟨rfl, hx⟩ := hY
      obtain ⟨n, hn, rfl⟩ := numV_at hx
      have fresh : n ∉ A.ends.take i := by
        have nk := nodup
        rw [← List.take_append_drop i A.ends] at nk
        have hd : n ∈ A.ends.drop i := List.mem_of_getElem? (i := 0) (by rw [List.getElem?_drop]; exact hn)
        exact fun m => (List.nodup_append.mp nk).2.2 _ m _ hd rfl
      refine ⟨rfl, tYes_of ⟨.int (n : Nat), rfl, endsK (A.ends.take i), Sum.inl (n : Int), rfl, hD, ?_, fun z o ez => ?_, ?_⟩⟩
      · unfold endsK
        rw [List.length_map, List.length_take]
        exact Nat.lt_of_le_of_lt (show _ ≤ 1000 by omega) (by decide)
      · rw [upd_ne (ne_of_none ez nD)]
        exact sm z o ez
      · rw [upd_same, endsK_put fresh, ← take_next hn]
    · obtain ⟨sm, hD⟩ := hV
      rw [numV_len, List.take_length] at hD
      exact q D H1 sm nD hD
end
end Tc
namespace Tc
open PySem PySem.Spec PyProof.Rows L2 TcG
section
variable {P : Program} {w : World} {K : PySem.W.Frag} {mg : Str → Option Value} {base : Heap}
theorem sc_one_letter_on10 : FnScope ["letters", "tables", "row", "seen", "found", "word", "state", "beside", "letter", "pair"] ["letters", "tables", "row", "seen"] (defScope s_one_letter_on) :=
  ⟨rfl, rfl, rfl, by decide +kernel, rfl, by decide +kernel, by decide +kernel⟩
def sp_onel (P : Program) (w : World) (K : PySem.W.Frag) : Sp := fun vs H Q _ => ∃ (tb rp sp d1 d2 : Addr) (ls : List Nat) (A B : Aut) (rows : List RwA) (rs : List Addr) (S : List (StO × StO)), vs = [.str (tx ls), .ref tb, .ref rp, .ref sp] ∧ SqT K H tb [.ref d1, .ref d2] ∧ AutOk ls A ∧ AutOk ls B ∧
  NestAt P w H d1 (edgeK A.edges) ∧ NestAt P w H d2 (edgeK B.edges) ∧ H rp = some (.lst (rs.map V.ref)) ∧ Paired (RowA H) rs rows ∧ NestAt P w H sp (pairsK S) ∧ d1 ≠ sp ∧ d2 ≠ sp ∧ S.Nodup ∧ AllIn A B S ∧ (∀ r ∈ rows, r.1.length ≤ 100) ∧
  ∀ (p : Addr) (rs' : List Addr) (H' : Hp), LayO P w H sp p rs' (levelA A B ls rows S) H' → Q (.ref p) H'
theorem ok_onel {f : Addr} {fd : FuncData} {k : Nat} (F : Fun K "one_letter_on" "one_letter_on" s_one_letter_on f fd) : FnOk P w K mg base CX0 (k + 1) f fd ["letters", "tables", "row", "seen"] (sp_onel P w K) := by
  refine F.ok sc_one_letter_on10 (fun vs H Q E h => ?_) (fun cdv A0 outer s H vs Q E hr h => ?_)
  · obtain ⟨tb, rp, sp, d1, d2, ls, A, B, rows, rs, S, rfl, _⟩ := h
    rfl
  · obtain ⟨tb, rp, sp, d1, d2, ls, A, B, rows, rs, S, rfl, hT, hA, hB, n1, n2, hrp, prow, nS, ne1, ne2, ndS, allS, short, q⟩ := h
    have nd := sc_one_letter_on10.nd
    refine ⟨_, pss_cons (ps_set (i := 4) nd rfl (.inl rfl) (pe_lst pa_nil))
        (pss_cons (ps_for PassesOwn.never rfl (pi_list (pv 2)) (pg_tup rfl (pgs_cons (pg_name (i := 5) nd rfl (.inl rfl)) (pgs_cons (pg_name (i := 6) nd rfl (.inl rfl)) (pgs_cons (pg_name (i := 7) nd rfl (.inl rfl)) pgs_nil))))
        (pss_one (ps_for PassesOwn.never rfl (pi_str (pv 0)) (pg_name (i := 8) nd rfl (.inl rfl))
        (pss_cons (ps_set (i := 9) nd rfl (.inl rfl) (pe_tup (pa_cons (pe_nget1 (hu16 hr) (pe_ix ix_tup (pv 1) pe_int (fun _ _ => rfl)) (pe_tup (pa_cons (pv 6) (pa_cons (pv 8) pa_nil))) ⟨by rfl, by rfl, by rfl, by rfl⟩) (pa_cons (pe_nget1 (hu16 hr) (pe_ix ix_tup (pv 1) pe_int (fun _ _ => rfl)) (pe_tup (pa_cons (pv 7) (pa_cons (pv 8) pa_nil))) ⟨by rfl, by rfl, by rfl, by rfl⟩) pa_nil))))
        (pss_one (ps_if (pt_cmpR (op_notInN (hu9 hr)) (pv 9) (pv 3) rfl)
        (pss_cons (ps_nput (hu16 hr) (pv 3) (pv 9) pe_bl rfl)
        (pss_one (ps_expr (pe_bm PySem.F.plainAttrs_list PySem.F.slot_list_append PySem.F.type_list_append mt_append (pv 4) (pa_cons (pe_tup (pa_cons (pe_op op_add_str (pv 5) (pv 8)) (pa_cons (pe_ix ix_tup (pv 9) pe_int (fun _ _ => rfl)) (pa_cons (pe_ix ix_tup (pv 9) pe_int (fun _ _ => rfl)) pa_nil)))) pa_nil))))) pss_nil))))))
        (pss_one (ps_ret (pv 4)))), ?_⟩
    have l100 : ls.length ≤ sizeLine → True := fun _ => trivial
    refine ⟨Nat.zero_le _, fun p np => ?_⟩
    have s0 := same_new (o := .lst []) np
    have lay0 : LayO P w H sp p [] ([], S) (upd H p (.lst [])) := by
      obtain ⟨o, e⟩ := nS.raw
      exact ⟨.of_same s0, np, (fun z => by rw [z, e] at np; cases np), upd_same, .nil, nS.same s0⟩
    have keepN1 : ∀ {H'}, Mv [sp] H H' → NestAt P w H' d1 (edgeK A.edges) := fun m => n1.mv nS ne1 m
    have keepN2 : ∀ {H'}, Mv [sp] H H' → NestAt P w H' d2 (edgeK B.edges) := fun m => n2.mv nS ne2 m
    have keepT : ∀ {H'}, Mv [sp] H H' → SqT K H' tb [.ref d1, .ref d2] := fun m => seqT_tk (.mvN nS m) hT
    have rpne : rp ≠ sp := fun z => by
      obtain ⟨o, e⟩ := nS.raw
      rw [z, e] at hrp
      cases hrp
    have keepR : ∀ {H'}, Mv [sp] H H' → H' rp = some (.lst (rs.map V.ref)) := fun m => m _ _ (fun z => rpne (List.mem_singleton.mp z)) hrp
    have fit0 : Fit A B S ([], S) := ⟨ndS, allS, by simp, fun _ _ => trivial⟩
    refine ⟨.ref rp, rfl, rp, rfl, ⟨_, SqL.of (s0 _ _ hrp)⟩, for_it (walk_list (xs := rs.map V.ref)) (fun i σ H' => ∃ (acc : Acc) (qs : List Addr) (y5 y6 y7 y8 y9 : Option V), σ = [some (.str (tx ls)), some (.ref tb), some (.ref rp), some (.ref sp), some (.ref p), y5, y6, y7, y8, y9] ∧ LayO P w H sp p qs acc H' ∧ Fit A B S acc ∧ acc = (rows.take i).foldl (stepRw A B ls) ([], S))
      ⟨_, [], none, none, none, none, none, rfl, lay0, fit0, rfl⟩ (fun i σ H' _ hV => ?_) (fun i x σ H1 H1' hi hV hY => ?_) (fun σ H1 hV => ?_)⟩
    · obtain ⟨acc, qs, y5, y6, y7, y8, y9, _, L, _⟩ := hV
      exact SqL.of (keepR L.mv)
    · obtain ⟨acc, qs, y5, y6, y7, y8, y9, rfl, L1, F1, ea⟩ := hV
      obtain ⟨rfl, hx⟩ := hY
      rw [List.getElem?_map] at hx
      obtain ⟨r, hr2, rfl⟩ := Option.map_eq_some_iff.mp hx
      obtain ⟨row, he, hrow⟩ := paired_at' prow hr2
      have mrow := List.mem_of_getElem? he
      have zr := short row mrow
      refine ⟨r, _, rfl, SqT.of (RowA.tk (.mvN nS L1.mv) hrow), rfl, _, _, rfl, _, _, rfl, _, _, rfl, rfl, .str (tx ls), rfl, tx ls, rfl, ?_⟩
      refine for_text (l := ls) (fun j σ H' => ∃ (acc2 : Acc) (qs : List Addr) (y8 y9 : Option V), σ = [some (.str (tx ls)), some (.ref tb), some (.ref rp), some (.ref sp), some (.ref p), some (.str (tx row.1)), some (stV row.2.1), some (stV row.2.2), y8, y9] ∧ LayO P w H sp p qs acc2 H' ∧ Fit A B S acc2 ∧ acc2 = (ls.take j).foldl (stepX A B row) acc)
        ⟨acc, qs, y8, y9, rfl, L1, F1, rfl⟩ (fun j c σ H2 hc hW => ?_) (fun σ H2 hW => ?_)
      · obtain ⟨acc2, qs, y8, y9, rfl, L2, F2, e2⟩ := hW
        have F3 : Fit A B S (stepX A B row acc2 c) := stepX_fit hA hB F2
        have e3 : stepX A B row acc2 c = (ls.take (j + 1)).foldl (stepX A B row) acc := by rw [take_next hc, List.foldl_append, ← e2]; rfl
        refine ⟨.ref tb, rfl, tb, _, 0, .ref d1, rfl, rfl, keepT L2.mv, atI_nat (j := 0) rfl, d1, _, rfl, keepN1 L2.mv, stV row.2.1, rfl, .str (tx [c]), rfl, by show 2 ≤ sizeLine; decide, fun q1 nq1 => ?_⟩
        have s1 := same_new (o := .tup [stV row.2.1, .str (tx [c])]) nq1
        have L3 := L2.same s1
        refine ⟨q1, edgeKey row.2.1 c, _, rfl, edge_nk upd_same, edgeKey_depth _ _, keepN1 L3.mv, ?_⟩
        rw [edgeK_at]
        generalize upd H2 q1 (.tup [stV row.2.1, .str (tx [c])]) = H3 at L3
        refine ⟨.ref tb, rfl, tb, _, 1, .ref d2, rfl, rfl, keepT L3.mv, atI_nat (j := 1) rfl, d2, _, rfl, keepN2 L3.mv, stV row.2.2, rfl, .str (tx [c]), rfl, by show 2 ≤ sizeLine; decide, fun q2 nq2 => ?_⟩
        have s2 := same_new (o := .tup [stV row.2.2, .str (tx [c])]) nq2
        have L4 := L3.same s2
        refine ⟨q2, edgeKey row.2.2 c, _, rfl, edge_nk upd_same, edgeKey_depth _ _, keepN2 L4.mv, ?_⟩
        rw [edgeK_at]
        generalize upd H3 q2 (.tup [stV row.2.2, .str (tx [c])]) = H4 at L4
        refine ⟨by show 2 ≤ sizeLine; decide, fun q3 nq3 => ?_⟩
        have eb : besideA A B row c = (goE A.edges row.2.1 c, goE B.edges row.2.2 c) := rfl
        have s3 := same_new (o := .tup [stV (goE A.edges row.2.1 c), stV (goE B.edges row.2.2 c)]) nq3
        have L5 := L4.same s3
        have hq3 : (upd H4 q3 (.tup [stV (goE A.edges row.2.1 c), stV (goE B.edges row.2.2 c)])) q3 = some (.tup [stV (besideA A B row c).1, stV (besideA A B row c).2]) := upd_same
        generalize upd H4 q3 (.tup [stV (goE A.edges row.2.1 c), stV (goE B.edges row.2.2 c)]) = H5 at L5 hq3
        obtain ⟨pr, eb2⟩ : ∃ pr, besideA A B row c = pr := ⟨_, rfl⟩
        rw [eb2] at hq3
        have few := allA_few hA hB F2.nodup F2.all
        have fewq : qs.length ≤ 25 := by
          have a1 : qs.length = acc2.1.length := Paired.length L5.pr
          have a2 := F2.cut
          omega
        refine ⟨.ref q3, rfl, .ref sp, rfl, q3, sp, pairKey pr, pairsK acc2.2, rfl, rfl, pair_nk hq3, pairKey_depth _, L5.seen, ?_⟩
        rw [pairsK_at]
        by_cases m : pr ∈ acc2.2
        · rw [decide_eq_true m]
          have ex : stepX A B row acc2 c = acc2 := by unfold stepX; rw [eb2, if_pos m]
          refine ⟨_, rfl, iteF ⟨acc2, qs, _, _, rfl, L5, F2, ?_⟩⟩
          rw [← e3, ex]
        · rw [decide_eq_false m]
          have ex : stepX A B row acc2 c = (acc2.1 ++ [(row.1 ++ [c], pr)], acc2.2 ++ [pr]) := by unfold stepX; rw [eb2, if_neg m]
          refine ⟨_, rfl, iteT ⟨.ref sp, rfl, .ref q3, rfl, sp, q3, pairKey pr, pairsK acc2.2, rfl, rfl, pair_nk hq3, pairKey_depth _, L5.seen, ?_, fun H6 e6 n6 => ?_⟩⟩
          · unfold pairsK
            rw [List.length_map]
            exact Nat.lt_of_le_of_lt few (by decide)
          · obtain ⟨o6, e6⟩ := e6
            rw [pairsK_put m] at n6
            have k6 : TK H5 H6 := by rw [e6]; exact TK.rawput L5.seen
            have hq6 := k6 _ _ (.inl ⟨_, rfl⟩) hq3
            have hp6 : H6 p = some (.lst (qs.map V.ref)) := by rw [e6, upd_ne L5.ne]; exact L5.hp
            refine ⟨.ref p, rfl, .inl ⟨rfl, _, SqL.of hp6⟩, .str (tx row.1), rfl, .str (tx [c]), rfl, tx row.1, tx [c], rfl, rfl, small_line (by rw [tx_length, tx_length]; simp only [List.length_singleton]; omega), .ref q3, rfl, q3, _, 0, stV pr.1, rfl, rfl, SqT.of hq6, atI_nat (j := 0) rfl, .ref q3, rfl, q3, _, 1, stV pr.2, rfl, rfl, SqT.of hq6, atI_nat (j := 1) rfl, by show 3 ≤ sizeLine; decide, fun r3 nr3 => ?_⟩
            rw [tx_append]
            have L7 := L5.add H6 (x := (row.1 ++ [c], pr)) e6 n6 nr3
            refine ⟨p, _, _, rfl, rfl, same_new nr3 _ _ hp6, ?_, (acc2.1 ++ [(row.1 ++ [c], pr)], acc2.2 ++ [pr]), qs ++ [r3], _, _, rfl, L7, by rw [← ex]; exact F3, by rw [← e3, ex]⟩
            rw [List.length_map]
            exact Nat.lt_of_le_of_lt fewq (by decide)
      · obtain ⟨acc2, qs, y8, y9, rfl, L2, F2, e2⟩ := hW
        rw [List.take_length] at e2
        refine ⟨acc2, qs, _, _, _, _, _, rfl, L2, F2, ?_⟩
        rw [take_next he, List.foldl_append, ← ea, e2]
        rfl
    · obtain ⟨acc, qs, y5, y6, y7, y8, y9, rfl, L1, F1, ea⟩ := hV
      rw [List.length_map, Paired.length prow, List.take_length] at ea
      rw [ea] at L1
      exact ⟨.ref p, rfl, q p qs H1 L1⟩
end
end Tc
namespace Tc
open PySem PySem.Spec PyProof.Rows L2 TcG
section
variable {P : Program} {w : World} {K : PySem.W.Frag} {mg : Str → Option Value} {base : Heap}
theorem sc_equal10 : FnScope ["alphabet", "automaton", "other", "ends", "tables", "row", "seen", "word", "state", "beside"] ["alphabet", "automaton", "other"] (defScope s_equal) :=
  ⟨rfl, rfl, rfl, by decide +kernel, rfl, by decide +kernel, by decide +kernel⟩
theorem endsK_end (A : Aut) (s : StO) : hasL (endsK A.ends) (stV s) = endA A s := (endsK_at _ _).trans (by cases s <;> rfl)
def sp_equal (K : PySem.W.Frag) : Sp := fun vs H Q _ => ∃ (al a b : Addr) (ls : List Nat) (ps : List (List Nat)) (A B : Aut), vs = [.ref al, .ref a, .ref b] ∧ Alpha K H al ls ps ∧ AutAt K H a A ∧ AutAt K H b B ∧ AutOk ls A ∧ AutOk ls B ∧ ls.length ≤ 100 ∧
  ∀ (H' : Hp), Same H H' → Q (dueV (dueA A B ls 26)) H'
theorem ok_equal {f fG fN fO : Addr} {fd fdG fdN fdO : FuncData} {k : Nat} (F : Fun K "equal" "equal" s_equal f fd) (FG : Fun K "edge_table" "edge_table" s_edge_table fG fdG) (gG : mg "edge_table" = some (.ref fG)) (FN : Fun K "end_table" "end_table" s_end_table fN fdN) (gN : mg "end_table" = some (.ref fN)) (FO : Fun K "one_letter_on" "one_letter_on" s_one_letter_on fO fdO) (gO : mg "one_letter_on" = some (.ref fO)) : FnOk P w K mg base CX0 (k + 2) f fd ["alphabet", "automaton", "other"] (sp_equal K) := by
  have G_edge_table : FnOk P w K mg base CX0 (k + 1) fG fdG ["automaton"] (sp_etab P w K) := ok_etab FG
  have b_edge_table : Binds K fdG ["automaton"] [] := FG.binds fun _ _ _ _ _ _ us hl => match us, hl with | [_], _ => rfl
  have G_end_table : FnOk P w K mg base CX0 (k + 1) fN fdN ["automaton"] (sp_endtab K) := ok_endtab FN
  have b_end_table : Binds K fdN ["automaton"] [] := FN.binds fun _ _ _ _ _ _ us hl => match us, hl with | [_], _ => rfl
  have G_one_letter_on : FnOk P w K mg base CX0 (k + 1) fO fdO ["letters", "tables", "row", "seen"] (sp_onel P w K) := ok_onel FO
  have b_one_letter_on : Binds K fdO ["letters", "tables", "row", "seen"] [] := FO.binds fun _ _ _ _ _ _ us hl => match us, hl with | [_, _, _, _], _ => rfl
  refine F.ok sc_equal10 (fun vs H Q E h => ?_) (fun cdv A0 outer s H vs Q E hr h => ?_)
  · obtain ⟨al, a, b, ls, ps, A, B, rfl, _⟩ := h
    rfl
  · obtain ⟨al, a, b, ls, ps, A, B, rfl, ⟨pt, hal, _⟩, ⟨en, ed, es, hA⟩, ⟨en2, ed2, es2, hB⟩, oA, oB, l100, q⟩ := h
    have nd := sc_equal10.nd
    have t16 := hu16 hr
    refine ⟨_, pss_cons (ps_set (i := 3) nd rfl (.inl rfl) (pe_tup (pa_cons (pe_call G_end_table hr (by rfl) gN FN.kp b_end_table .nil pass0 (pa_cons (pv 1) pa_nil)) (pa_cons (pe_call G_end_table hr (by rfl) gN FN.kp b_end_table .nil pass0 (pa_cons (pv 2) pa_nil)) pa_nil))))
        (pss_cons (ps_set (i := 4) nd rfl (.inl rfl) (pe_tup (pa_cons (pe_call G_edge_table hr (by rfl) gG FG.kp b_edge_table .nil pass0 (pa_cons (pv 1) pa_nil)) (pa_cons (pe_call G_edge_table hr (by rfl) gG FG.kp b_edge_table .nil pass0 (pa_cons (pv 2) pa_nil)) pa_nil))))
        (pss_cons (ps_set (i := 5) nd rfl (.inl rfl) (pe_lst (pa_cons (pe_tup (pa_cons pe_str (pa_cons (pe_ix ix_tup (pv 1) pe_int (fun _ _ => rfl)) (pa_cons (pe_ix ix_tup (pv 2) pe_int (fun _ _ => rfl)) pa_nil)))) pa_nil)))
        (pss_cons (ps_set (i := 6) nd rfl (.inl rfl) (pe_ndisp1 (hu16 hr) (pe_tup (pa_cons (pe_ix ix_tup (pv 1) pe_int (fun _ _ => rfl)) (pa_cons (pe_ix ix_tup (pv 2) pe_int (fun _ _ => rfl)) pa_nil))) pe_bl))
        (pss_cons (ps_while PassesOwn.never (pt_truth (pv 5) (by intro _; rfl))
        (pss_cons (ps_for PassesOwn.never rfl (pi_list (pv 5)) (pg_tup rfl (pgs_cons (pg_name (i := 7) nd rfl (.inl rfl)) (pgs_cons (pg_name (i := 8) nd rfl (.inl rfl)) (pgs_cons (pg_name (i := 9) nd rfl (.inl rfl)) pgs_nil))))
        (pss_one (ps_if (pt_cmpR op_ne (pe_cmpR op_inL (pv 8) (pe_ix ix_tup (pv 3) pe_int (fun _ _ => rfl)) rfl) (pe_cmpR op_inL (pv 9) (pe_ix ix_tup (pv 3) pe_int (fun _ _ => rfl)) rfl) (nomark _))
        (pss_one (ps_ret (pv 7))) pss_nil)))
        (pss_one (ps_set (i := 5) nd rfl (.inl rfl) (pe_call G_one_letter_on hr (by rfl) gO FO.kp b_one_letter_on .nil pass0 (pa_cons (pe_ix ix_tup (pv 0) pe_int (fun _ _ => rfl)) (pa_cons (pv 4) (pa_cons (pv 5) (pa_cons (pv 6) pa_nil)))))))))
        (pss_one (ps_ret pe_non)))))), ?_⟩
    refine ⟨.ref a, rfl, a, A, rfl, ⟨en, ed, es, hA⟩, oA.ends, Nat.le_trans oA.ends_few (by decide), fun e1 H1 s1 ne1 he1 => ⟨.ref b, rfl, b, B, rfl, AutAt.tk ⟨en2, ed2, es2, hB⟩ (.of s1), oB.ends, Nat.le_trans oB.ends_few (by decide), fun e2 H2 s2 ne2 he2 => ⟨by show 2 ≤ sizeLine; decide, fun et net => ?_⟩⟩⟩
    have s3 := same_new (o := .tup [.ref e1, .ref e2]) net
    have t3 := s1.trans (s2.trans s3)
    have he1' := s3 _ _ (s2 _ _ he1)
    have he2' := s3 _ _ he2
    have het : (upd H2 et (.tup [.ref e1, .ref e2])) et = some (.tup [.ref e1, .ref e2]) := upd_same
    generalize upd H2 et (.tup [.ref e1, .ref e2]) = H3 at t3 he1' he2' het
    refine ⟨.ref a, rfl, a, A, rfl, AutAt.tk ⟨en, ed, es, hA⟩ (.of t3), oA.keys, Nat.le_trans oA.edges_few (by omega), fun d1 H4 s4 n1 => ⟨.ref b, rfl, b, B, rfl, AutAt.tk ⟨en2, ed2, es2, hB⟩ (.of (t3.trans s4)), oB.keys, Nat.le_trans oB.edges_few (by omega), fun d2 H5 s5 n2 => ⟨by show 2 ≤ sizeLine; decide, fun tb ntb => ?_⟩⟩⟩
    have s6 := same_new (o := .tup [.ref d1, .ref d2]) ntb
    have u6 := (s4.trans s5).trans s6
    have t6 := t3.trans u6
    have n1' := n1.same (s5.trans s6)
    have n2' := n2.same s6
    have htb : (upd H5 tb (.tup [.ref d1, .ref d2])) tb = some (.tup [.ref d1, .ref d2]) := upd_same
    generalize upd H5 tb (.tup [.ref d1, .ref d2]) = H6 at u6 t6 n1' n2' htb
    refine ⟨.ref a, rfl, a, _, 2, _, rfl, rfl, Same.seqT t6 hA.top, atI_nat (j := 2) rfl, .ref b, rfl, b, _, 2, _, rfl, rfl, Same.seqT t6 hB.top, atI_nat (j := 2) rfl, by show 3 ≤ sizeLine; decide, fun r0 nr0 => ⟨by show 1 ≤ sizeLine; decide, fun rp nrp => ?_⟩⟩
    have s7 := same_new (o := .tup [.str "", .int (A.start : Nat), .int (B.start : Nat)]) nr0
    have s8 := same_new (o := .lst [.ref r0]) nrp
    have u8 := s7.trans s8
    have hr0 : RowA (upd (upd H6 r0 (.tup [.str "", .int (A.start : Nat), .int (B.start : Nat)])) rp (.lst [.ref r0])) r0 ([], some A.start, some B.start) := s8 _ _ upd_same
    have hrp : (upd (upd H6 r0 (.tup [.str "", .int (A.start : Nat), .int (B.start : Nat)])) rp (.lst [.ref r0])) rp = some (.lst ([r0].map V.ref)) := upd_same
    generalize upd (upd H6 r0 (.tup [.str "", .int (A.start : Nat), .int (B.start : Nat)])) rp (.lst [.ref r0]) = H8 at u8 hr0 hrp
    have t8 := t6.trans u8
    intro sp o nsp nS
    have s9 := same_new (o := rawO sp o) nsp
    refine ⟨.ref a, rfl, a, _, 2, _, rfl, rfl, Same.seqT (t8.trans s9) hA.top, atI_nat (j := 2) rfl, .ref b, rfl, b, _, 2, _, rfl, rfl, Same.seqT (t8.trans s9) hB.top, atI_nat (j := 2) rfl, by show 2 ≤ sizeLine; decide, fun q0 nq0 => ?_⟩
    have s10 := same_new (o := .tup [.int (A.start : Nat), .int (B.start : Nat)]) nq0
    have hq0 : (upd (upd H8 sp (rawO sp o)) q0 (.tup [.int (A.start : Nat), .int (B.start : Nat)])) q0 = some (.tup [stV (some A.start), stV (some B.start)]) := upd_same
    have nS' := nS.same s10
    have rp8 : rp ≠ sp := fun z => by rw [← z, hrp] at nsp; cases nsp
    have u10 := s9.trans s10
    generalize upd (upd H8 sp (rawO sp o)) q0 (.tup [.int (A.start : Nat), .int (B.start : Nat)]) = H10 at u10 hq0 nS'
    refine ⟨q0, pairKey (some A.start, some B.start), rfl, pair_nk hq0, pairKey_depth _, nS', fun H11 e11 n11 => ?_⟩
    obtain ⟨o11, e11⟩ := e11
    -- the start of the walk
    have sp0 : ∀ {X : Hp}, Same X H8 → X sp = none := fun {X} sX => by
      cases e : X sp with
      | none => rfl
      | some u =>
        rw [sX _ _ e] at nsp
        cases nsp
    have go : ∀ x u, H8 x = some u → H11 x = some u := fun x u e => by
      rw [e11, upd_ne (ne_of_none e nsp)]
      exact u10 _ _ e
    have nest11 : ∀ {d : Addr} {kvs : List (NestedKey × V)}, NestAt P w H8 d kvs → NestAt P w H11 d kvs := fun n => by
      refine n.tk (.trans (.of u10) (by rw [e11]; exact TK.rawput nS')) fun q e => go _ _ e
    have L0 : LayQ P w H A B et tb e1 e2 d1 d2 sp rp [r0] (walkA A B ls 0) H11 := by
      have n1s := n1'.same u8
      have n2s := n2'.same u8
      refine ⟨fun x u e => go _ _ (t8 _ _ e), sp0 t8, go _ _ (u8 _ _ (u6 _ _ het)), go _ _ (u8 _ _ htb), go _ _ (u8 _ _ (u6 _ _ he1')), go _ _ (u8 _ _ (u6 _ _ he2')), nest11 n1s, nest11 n2s, fun z => ?_, fun z => ?_, go _ _ hrp, .cons (go _ _ hr0) .nil, n11⟩
      · obtain ⟨q1, e⟩ := n1s.raw
        rw [z, nsp] at e
        cases e
      · obtain ⟨q1, e⟩ := n2s.raw
        rw [z, nsp] at e
        cases e
    clear nS nS' n11 e11 go nest11 sp0
    refine ⟨fun m σ H' => ∃ (k : Nat) (rp : Addr) (rs : List Addr) (y7 y8 y9 : Option V), σ = [some (.ref al), some (.ref a), some (.ref b), some (.ref et), some (.ref tb), some (.ref rp), some (.ref sp), y7, y8, y9] ∧ LayQ P w H A B et tb e1 e2 d1 d2 sp rp rs (walkA A B ls k) H' ∧ dueA A B ls k = none ∧ k ≤ 26 ∧ m = 27 - k,
      ⟨27, 0, rp, [r0], none, none, none, rfl, L0, rfl, by decide, rfl⟩, fun m σ H' hW => ?_⟩
    obtain ⟨k, rp, rs, y7, y8, y9, rfl, L, due, k26, em⟩ := hW
    have lrs : rs.length = (walkA A B ls k).1.length := Paired.length L.pr
    refine ⟨.ref rp, rfl, !(rs.map V.ref).isEmpty, .inl ⟨_, SqL.of L.hrp, rfl⟩, ?_⟩
    by_cases ne : (walkA A B ls k).1 = []
    · have er : rs = [] := List.length_eq_zero_iff.mp (by rw [lrs, ne]; rfl)
      rw [er]
      refine iteF ?_
      have := q H' L.sm
      rw [due_empty oA oB k26 due ne] at this
      exact this
    · have k24 := walk_ends oA oB ne
      have er : (!(rs.map V.ref).isEmpty) = true := by
        cases rs with
        | nil =>
          exact absurd (List.length_eq_zero_iff.mp lrs.symm) ne
        | cons r rs => rfl
      rw [er]
      refine iteT ⟨fun σ' H'' => ∃ m', m' < m ∧ ∃ (k : Nat) (rp : Addr) (rs : List Addr) (y7 y8 y9 : Option V), σ' = [some (.ref al), some (.ref a), some (.ref b), some (.ref et), some (.ref tb), some (.ref rp), some (.ref sp), y7, y8, y9] ∧ LayQ P w H A B et tb e1 e2 d1 d2 sp rp rs (walkA A B ls k) H'' ∧ dueA A B ls k = none ∧ k ≤ 26 ∧ m' = 27 - k, fun _ _ h => h, ?_⟩
      refine ⟨.ref rp, rfl, rp, rfl, ⟨_, SqL.of L.hrp⟩, for_it (walk_list (xs := rs.map V.ref)) (fun i σ H'' => ∃ (y7 y8 y9 : Option V), σ = [some (.ref al), some (.ref a), some (.ref b), some (.ref et), some (.ref tb), some (.ref rp), some (.ref sp), y7, y8, y9] ∧ H'' = H' ∧ firstA A B ((walkA A B ls k).1.take i) = none)
        ⟨y7, y8, y9, rfl, rfl, rfl⟩ (fun i σ H'' _ hV => ?_) (fun i x σ H1 H1' hi hV hY => ?_) (fun σ H1 hV => ?_)⟩
      · obtain ⟨_, _, _, _, rfl, _⟩ := hV
        exact SqL.of L.hrp
      · obtain ⟨y7, y8, y9, rfl, rfl, no⟩ := hV
        obtain ⟨rfl, hx⟩ := hY
        rw [List.getElem?_map] at hx
        obtain ⟨r, hr2, rfl⟩ := Option.map_eq_some_iff.mp hx
        obtain ⟨row, he, hrow⟩ := paired_at' L.pr hr2
        have isSt : ∀ s : StO, (∃ i, stV s = .int i) ∨ (∃ z, stV s = .str z) ∨ stV s = .non := fun s => by
          cases s with
          | none => exact .inr (.inr rfl)
          | some n => exact .inl ⟨_, rfl⟩
        refine ⟨r, _, rfl, SqT.of hrow, rfl, _, _, rfl, _, _, rfl, _, _, rfl, rfl, stV row.2.1, rfl, .ref et, rfl, et, _, 0, .ref e1, rfl, rfl, SqT.of L.het, atI_nat (j := 0) rfl, e1, _, rfl, .inl L.he1, isSt _, stV row.2.2, rfl, .ref et, rfl, et, _, 1, .ref e2, rfl, rfl, SqT.of L.het, atI_nat (j := 1) rfl, e2, _, rfl, .inl L.he2, isSt _, rfl, _, rfl, ?_⟩
        rw [endsK_end, endsK_end]
        obtain ⟨hit, miss⟩ := first_take no he
        have ed : (!decide (V.bl (endA A row.2.1) = V.bl (endA B row.2.2))) = differA A B row := by
          unfold differA
          generalize endA A row.2.1 = x
          generalize endA B row.2.2 = y
          cases x <;> cases y <;> rfl
        rw [ed]
        cases d : differA A B row with
        | true =>
          have := q H1' L.sm
          rw [due_hit oA oB due (hit d)] at this
          exact iteT ⟨.str (tx row.1), rfl, this⟩
        | false => exact iteF ⟨_, _, _, rfl, rfl, miss d⟩
      · obtain ⟨y7, y8, y9, rfl, rfl, no⟩ := hV
        rw [List.length_map, lrs, List.take_length] at no
        obtain ⟨bb, fb, _⟩ := walk_fit (ls := ls) oA oB k
        refine ⟨.ref al, rfl, al, _, 1, .str (tx ls), rfl, rfl, Same.seqT L.sm hal, atI_nat (j := 1) rfl, .ref tb, rfl, .ref rp, rfl, .ref sp, rfl, tb, rp, sp, d1, d2, ls, A, B, _, rs, _, rfl, SqT.of L.htb, oA, oB, L.n1, L.n2, L.hrp, L.pr, L.seen, L.ne1, L.ne2, fb.nodup, fb.all, fun r hr => by rw [walk_words k r hr]; omega, fun p rs' H2 LO => ?_⟩
        exact ⟨27 - (k + 1), by omega, k + 1, p, rs', _, _, _, rfl, L.step LO, due_next due no, by omega, rfl⟩
end
end Tc
namespace Tc
open PySem PySem.Spec PyProof.Rows L2 TcG
section
variable {P : Program} {w : World} {K : PySem.W.Frag} {mg : Str → Option Value} {base : Heap}
theorem sc_law_later4 : FnScope ["automaton", "state", "x", "edge"] ["automaton", "state", "x"] (defScope s_law_later) :=
  ⟨rfl, rfl, rfl, by decide +kernel, rfl, by decide +kernel, by decide +kernel⟩
def sp_later (K : PySem.W.Frag) : Sp := fun vs H Q _ => ∃ (a : Addr) (A : Aut) (s : StO) (x : Nat), vs = [.ref a, stV s, .str (tx [x])] ∧ AutAt K H a A ∧ Q (stV (laterA A s x)) H
theorem ok_later {f : Addr} {fd : FuncData} {k : Nat} (F : Fun K "_law_later" "_law_later" s_law_later f fd) : FnOk P w K mg base CX0 (k + 1) f fd ["automaton", "state", "x"] (sp_later K) := by
  refine F.ok sc_law_later4 (fun vs H Q E h => ?_) (fun cdv A0 outer s H vs Q E hr h => ?_)
  · obtain ⟨a, A, s, x, rfl, _⟩ := h
    rfl
  · obtain ⟨a, A, s, x, rfl, ⟨en, ed, es, hA⟩, q⟩ := h
    have nd := sc_law_later4.nd
    refine ⟨_, pss_cons (ps_for PassesOwn.never rfl (pi_tup (pe_ix ix_tup (pv 0) pe_int (fun _ _ => rfl))) (pg_name (i := 3) nd rfl (.inl rfl))
        (pss_one (ps_if (PW.pt (pw_and (pt_cmpR op_eq (pe_ix ix_tup (pv 3) pe_int (fun _ _ => rfl)) (pv 1) (nomark _)) (pw_and1 (pt_cmpR op_eq (pe_ix ix_tup (pv 3) pe_int (fun _ _ => rfl)) (pv 2) (nomark _)))))
        (pss_one (ps_ret (pe_ix ix_tup (pv 3) pe_int (fun _ _ => rfl)))) pss_nil)))
        (pss_one (ps_ret pe_non)), ?_⟩
    refine ⟨.ref a, rfl, a, _, 4, .ref ed, rfl, rfl, hA.top, atI_nat (j := 4) rfl, ed, rfl, ⟨_, hA.rows⟩, for_it (walk_tup (xs := es.map V.ref)) (fun i σ H' => ∃ y3 : Option V, σ = [some (.ref a), some (stV s), some (.str (tx [x])), y3] ∧ H' = H ∧ goE (A.edges.take i) s x = none)
      ⟨none, rfl, rfl, by cases s <;> rfl⟩ (fun i σ H' _ hV => ?_) (fun i y σ H1 H1' hi hV hY => ?_) (fun σ H1 hV => ?_)⟩
    · obtain ⟨_, _, rfl, _⟩ := hV
      exact hA.rows
    · obtain ⟨y3, rfl, rfl, no⟩ := hV
      obtain ⟨rfl, hx⟩ := hY
      rw [List.getElem?_map] at hx
      obtain ⟨r, hr2, rfl⟩ := Option.map_eq_some_iff.mp hx
      obtain ⟨e, he, hrow⟩ := paired_at' hA.edges hr2
      obtain ⟨hit, miss⟩ := goE_take no he
      refine ⟨.ref r, rfl, r, _, 0, .int (e.1 : Nat), rfl, rfl, hrow, atI_nat (j := 0) rfl, stV s, rfl, ?_⟩
      have go1 : decide (V.int (e.1 : Nat) = stV s) = decide (some e.1 = s) := by
        cases s with
        | none => rfl
        | some n => exact decide_eq_decide.mpr ⟨fun z => by rw [Int.ofNat.inj (V.int.inj z)], fun z => by rw [Option.some.inj z]; rfl⟩
      refine ⟨by cases s <;> rfl, _, rfl, ?_⟩
      rw [go1]
      by_cases m1 : some e.1 = s
      · rw [decide_eq_true m1]
        refine iteT ⟨.ref r, rfl, r, _, 1, .str (tx [e.2.1]), rfl, rfl, hrow, atI_nat (j := 1) rfl, .str (tx [x]), rfl, rfl, _, rfl, ?_⟩
        by_cases m2 : e.2.1 = x
        · rw [decide_eq_true (show V.str (tx [e.2.1]) = V.str (tx [x]) by rw [m2])]
          rw [show laterA A s x = some e.2.2 from hit ⟨m1, m2⟩] at q
          exact iteT ⟨.ref r, rfl, r, _, 2, .int (e.2.2 : Nat), rfl, rfl, hrow, atI_nat (j := 2) rfl, q⟩
        · rw [decide_eq_false fun z => m2 (List.cons.inj (tx_inj (V.str.inj z))).1]
          exact iteF ⟨_, rfl, rfl, miss fun z => m2 z.2⟩
      · rw [decide_eq_false m1]
        exact iteF (iteF ⟨_, rfl, rfl, miss fun z => m1 z.1⟩)
    · obtain ⟨y3, rfl, rfl, no⟩ := hV
      rw [List.length_map, hA.len, List.take_length] at no
      rw [show laterA A s x = none from no] at q
      exact q
end
end Tc
namespace Tc
open PySem PySem.Spec PyProof.Rows L2 TcG
section
variable {P : Program} {w : World} {K : PySem.W.Frag} {mg : Str → Option Value} {base : Heap}
theorem sc_law_automaton8 : FnScope ["box", "alphabet", "most", "many", "ends", "edges", "state", "x"] ["box", "alphabet", "most"] (defScope s_law_automaton) :=
  ⟨rfl, rfl, rfl, by decide +kernel, rfl, by decide +kernel, by decide +kernel⟩
def sp_lautomaton (K : PySem.W.Frag) : Sp := fun vs H Q _ => ∃ (b dl al : Addr) (ls : List Nat) (ps : List (List Nat)), vs = [.ref b, .ref al, .int 4] ∧ Box K b dl H ∧ Alpha K H al ls ps ∧ ls.Nodup ∧ ls.length ≤ 6 ∧
  ∀ (a : Addr) (A : Aut) (H' : Hp), Dr K b dl H H' → H a = none → AutAt K H' a A → AutOk ls A → Q (.ref a) H'
theorem ok_lautomaton {f fD : Addr} {fd fdD : FuncData} (F : Fun K "_law_automaton" "_law_automaton" s_law_automaton f fd) (FD : Fun K "_law_draw" "_law_draw" s_law_draw fD fdD) (gD : mg "_law_draw" = some (.ref fD)) (ml : mg "len" = none) (mi : mg "int" = none) (mr : mg "range" = none) (mt : mg "tuple" = none) : FnOk P w K mg base CX0 2 f fd ["box", "alphabet", "most"] (sp_lautomaton K) := by
  have GD : FnOk P w K mg base CX0 1 fD fdD ["box", "many"] (sp_draw K) := ok_draw FD ml mi
  have bD : Binds K fdD ["box", "many"] [] := FD.binds fun _ _ _ _ _ _ us hl => match us, hl with | [_, _], _ => rfl
  refine F.ok sc_law_automaton8 (fun vs H Q E h => ?_) (fun cdv A0 outer s H vs Q E hr h => ?_)
  · obtain ⟨b, dl, al, ls, ps, rfl, _⟩ := h
    rfl
  · obtain ⟨b, dl, al, ls, ps, rfl, hB, ⟨pt, hal, hpt⟩, nl, l6, q⟩ := h
    have nd := sc_law_automaton8.nd
    refine ⟨_, pss_cons (ps_set (i := 3) nd rfl (.inl rfl) (pe_op op_add pe_int (pe_call GD hr (by rfl) gD FD.kp bD .nil pass0 (pa_cons (pv 0) (pa_cons (pv 2) pa_nil)))))
        (pss_cons (ps_set (i := 4) nd rfl (.inl rfl) (pe_callTy call_tuple_of (by rfl) mt (by decide +kernel) (pa_cons (pe_lc (own := [("state", 6)]) (g := (gName 6)) (tt := _) (te := (tVar 6)) rfl nd (pi_range1 (by rfl) mr (pa_cons (pv 3) pa_nil)) (blkOk_by (own := [("state", 6)]) (N := ["box", "alphabet", "most", "many", "ends", "edges", "state", "x"]) (sc := defScope s_law_automaton) (by decide +kernel))
              (fun _ _ _ _ _ => (pg_name (i := 6) nd rfl (.inl rfl))) (fun _ _ _ _ _ => pts_one (pt_cmpR op_eq (pe_call GD hr (by rfl) gD FD.kp bD .nil pass0 (pa_cons (pv 0) (pa_cons pe_int pa_nil))) pe_int (nomark _))) (fun _ _ _ _ _ => (pv 6))) pa_nil)))
        (pss_cons (ps_set (i := 5) nd rfl (.inl rfl) (pe_lst pa_nil))
        (pss_cons (ps_for PassesOwn.never rfl (pi_range1 (by rfl) mr (pa_cons (pv 3) pa_nil)) (pg_name (i := 6) nd rfl (.inl rfl))
        (pss_one (ps_for PassesOwn.never rfl (pi_str (pe_ix ix_tup (pv 1) pe_int (fun _ _ => rfl))) (pg_name (i := 7) nd rfl (.inl rfl))
        (pss_one (ps_if (pt_cmpR op_gt (pe_call GD hr (by rfl) gD FD.kp bD .nil pass0 (pa_cons (pv 0) (pa_cons pe_int pa_nil))) pe_int (nomark _))
        (pss_one (ps_expr (pe_bm PySem.F.plainAttrs_list PySem.F.slot_list_append PySem.F.type_list_append mt_append (pv 5) (pa_cons (pe_tup (pa_cons (pv 6) (pa_cons (pv 7) (pa_cons (pe_call GD hr (by rfl) gD FD.kp bD .nil pass0 (pa_cons (pv 0) (pa_cons (pv 3) pa_nil))) pa_nil)))) pa_nil)))) pss_nil)))))
        (pss_one (ps_ret (pe_tup (pa_cons pe_str (pa_cons (pv 3) (pa_cons (pe_call GD hr (by rfl) gD FD.kp bD .nil pass0 (pa_cons (pv 0) (pa_cons (pv 3) pa_nil))) (pa_cons (pv 4) (pa_cons (pe_callTy call_tuple_of (by rfl) mt (by decide +kernel) (pa_cons (pv 5) pa_nil)) pa_nil))))))))))), ?_⟩
    refine ⟨.ref b, rfl, .int 4, rfl, b, dl, 4, rfl, hB, by decide, fun r H1 r0 r4 m1 hB1 => ⟨1, r, rfl, rfl, ?_⟩⟩
    obtain ⟨n, en⟩ : ∃ n : Nat, 1 + r = (n : Int) := ⟨(1 + r).toNat, by omega⟩
    have n1 : 1 ≤ n := by omega
    have n4 : n ≤ 4 := by omega
    change gName 3 (V.int (1 + r)) _ _ _
    rw [en]
    have d1 := (Dr.refl hB).go m1 hB1
    have al1 : ∀ {H' : Hp}, Dr K b dl H H' → SqT K H' al [.str "alphabet", .str (tx ls), .ref pt] := fun d => seqT_tk ((Dr.refl hB).tk d.mv) hal
    refine ⟨.int (n : Nat), rfl, n, rfl, by omega, by omega, fun D nD => ?_⟩
    have nD0 : H D = none := d1.free nD
    refine lc_range (lo := 0) (n := n) (fun i H' => Dr K b dl H H' ∧ ∃ L : List Nat, H' D = some (.lst (numV L)) ∧ L.Sublist (List.range i)) ⟨d1.put nD0, [], upd_same, List.Sublist.refl _⟩ (fun i H2 hi hV => ?_) (fun H2 hV => ?_)
    · obtain ⟨d2, L, hD, sub⟩ := hV
      have subN : L.Sublist (List.range (i + 1)) := by
        rw [List.range_succ]
        exact sub.trans (List.sublist_append_left _ _)
      refine ⟨rfl, .ref b, rfl, b, dl, 2, rfl, d2.box, by decide, fun r2 H3 r20 r22 m3 hB3 => ⟨rfl, _, rfl, ?_⟩⟩
      have d3 := d2.go m3 hB3
      have hD3 := d2.keep nD0 m3 hD
      by_cases z : r2 = 0
      · rw [decide_eq_true (show V.int r2 = V.int 0 by rw [z])]
        refine iteT ⟨.int (0 + (i : Int)), rfl, _, hD3, ?_, d3.put nD0, L ++ [i], ?_, ?_⟩
        · have := sub.length_le
          rw [List.length_range] at this
          rw [numV_len]
          exact Nat.lt_of_le_of_lt (show _ ≤ 10 by omega) (by decide)
        · rw [upd_same, Int.zero_add]
          unfold numV
          rw [List.map_append]
          rfl
        · rw [List.range_succ]
          exact sub.append (List.Sublist.refl _)
      · rw [decide_eq_false (show ¬ V.int r2 = V.int 0 from fun e => z (V.int.inj e))]
        exact iteF ⟨d3, L, hD3, subN⟩
    · obtain ⟨d2, L, hD, sub⟩ := hV
      refine ⟨D, _, rfl, .inl ⟨SqL.of hD, fun en nen => ?_⟩⟩
      have s3 := same_new (o := .tup (numV L)) nen
      have d3 := d2.same s3
      have hen : SqT K (upd H2 en (.tup (numV L))) en (numV L) := SqT.of upd_same
      generalize upd H2 en (.tup (numV L)) = H3 at d3 hen
      refine ⟨Nat.zero_le _, fun ep nep => ?_⟩
      have s4 := same_new (o := .lst []) nep
      have L4 : LayE K b dl H en L ep [] [] (upd H3 ep (.lst [])) := ⟨d3.same s4, seqT_tk (.of s4) hen, d3.free nep, upd_same, .nil⟩
      generalize upd H3 ep (.lst []) = H4 at L4
      refine ⟨.int (n : Nat), rfl, n, rfl, by omega, by omega, ?_⟩
      refine for_range (lo := 0) (n := n) (fun i σ H' => ∃ (es : List Addr) (E : List Edge) (y6 y7 : Option V), σ = [some (.ref b), some (.ref al), some (.int 4), some (.int (n : Nat)), some (.ref en), some (.ref ep), y6, y7] ∧ LayE K b dl H en L ep es E H' ∧ (keysE E).Sublist (placesE ls i) ∧ ∀ e ∈ E, e.2.2 < n)
        ⟨[], [], _, none, rfl, L4, List.Sublist.refl _, fun _ h => nomatch h⟩ (fun i σ H5 hi hW => ?_) (fun σ H5 hW => ?_)
      · obtain ⟨es, E, y6, y7, rfl, L5, sk, ht⟩ := hW
        refine ⟨.ref al, rfl, al, _, 1, .str (tx ls), rfl, rfl, al1 L5.d, atI_nat (j := 1) rfl, tx ls, rfl, ?_⟩
        refine for_text (l := ls) (fun j σ H' => ∃ (es : List Addr) (E : List Edge) (y7 : Option V), σ = [some (.ref b), some (.ref al), some (.int 4), some (.int (n : Nat)), some (.ref en), some (.ref ep), some (.int (0 + (i : Int))), y7] ∧ LayE K b dl H en L ep es E H' ∧ (keysE E).Sublist (placesE ls i ++ (ls.take j).map fun x => (i, x)) ∧ ∀ e ∈ E, e.2.2 < n)
          ⟨es, E, y7, rfl, L5, by rw [List.take_zero, List.map_nil, List.append_nil]; exact sk, ht⟩ (fun j c σ H6 hc hW => ?_) (fun σ H6 hW => ?_)
        · obtain ⟨es, E, y7, rfl, L6, sk, ht⟩ := hW
          have nx : (placesE ls i ++ (ls.take (j + 1)).map fun x => (i, x)) = (placesE ls i ++ (ls.take j).map fun x => (i, x)) ++ [(i, c)] := by
            rw [take_next hc, List.map_append, List.append_assoc]
            rfl
          refine ⟨.ref b, rfl, b, dl, 5, rfl, L6.d.box, by decide, fun r7 H7 r70 r75 m7 hB7 => ⟨_, _, rfl, rfl, _, rfl, ?_⟩⟩
          have L7 := L6.go m7 hB7
          by_cases g : 0 < r7
          · rw [decide_eq_true g]
            have hep7 := L7.hep
            refine iteT ⟨.ref ep, rfl, .inl ⟨rfl, _, SqL.of hep7⟩, .int (0 + (i : Int)), rfl, .str (tx [c]), rfl, .ref b, rfl, .int (n : Nat), rfl, b, dl, (n : Int), rfl, L7.d.box, by omega, fun r8 H8 r80 r8n m8 hB8 => ⟨by show 3 ≤ sizeLine; decide, fun q0 nq => ?_⟩⟩
            have L8 := L7.go m8 hB8
            obtain ⟨t, et⟩ : ∃ t : Nat, r8 = (t : Int) := ⟨r8.toNat, by omega⟩
            subst et
            have s9 := same_new (o := .tup [.int (0 + (i : Int)), .str (tx [c]), .int (t : Int)]) nq
            have L9 := L8.same s9
            have hq9 : EdgeAt K (upd H8 q0 (.tup [.int (0 + (i : Int)), .str (tx [c]), .int (t : Int)])) q0 (i, c, t) := SqT.of (by rw [upd_same, Int.zero_add])
            generalize upd H8 q0 (.tup [.int (0 + (i : Int)), .str (tx [c]), .int (t : Int)]) = H9 at L9 hq9
            refine ⟨ep, _, _, rfl, rfl, L9.hep, ?_, es ++ [q0], E ++ [(i, c, t)], _, rfl, L9.add hq9, ?_, fun e he => ?_⟩
            · have l1 : es.length = E.length := Paired.length L9.pr
              have l2 := sk.length_le
              unfold keysE at l2
              rw [List.length_map, List.length_append, List.length_map, List.length_take, placesE_len] at l2
              have l3 : i * ls.length ≤ 4 * 6 := Nat.mul_le_mul (by omega) l6
              rw [List.length_map]
              exact Nat.lt_of_le_of_lt (show _ ≤ 100 by omega) (by decide)
            · rw [nx]
              unfold keysE
              rw [List.map_append]
              exact sk.append (List.Sublist.refl _)
            · rcases List.mem_append.mp he with h | h
              · exact ht e h
              · rw [List.mem_singleton.mp h]
                show t < n
                omega
          · rw [decide_eq_false g]
            refine iteF ⟨es, E, _, rfl, L7, ?_, ht⟩
            rw [nx]
            exact sk.trans (List.sublist_append_left _ _)
        · obtain ⟨es, E, y7, rfl, L6, sk, ht⟩ := hW
          rw [List.take_length, ← placesE_succ] at sk
          exact ⟨es, E, _, _, rfl, L6, sk, ht⟩
      · obtain ⟨es, E, y6, y7, rfl, L5, sk, ht⟩ := hW
        refine ⟨.int (n : Nat), rfl, .ref b, rfl, .int (n : Nat), rfl, b, dl, (n : Int), rfl, L5.d.box, by omega, fun r8 H8 r80 r8n m8 hB8 => ?_⟩
        have L8 := L5.go m8 hB8
        obtain ⟨t, et⟩ : ∃ t : Nat, r8 = (t : Int) := ⟨r8.toNat, by omega⟩
        subst et
        refine ⟨.ref en, rfl, .ref ep, rfl, ep, _, rfl, .inl ⟨SqL.of L8.hep, fun ed ned => ⟨by show 5 ≤ sizeLine; decide, fun a na => ?_⟩⟩⟩
        have s9 := same_new (o := .tup (es.map V.ref)) ned
        have s10 := same_new (o := .tup [.str "automaton", .int (n : Nat), .int (t : Nat), .ref en, .ref ed]) na
        have k10 := (TK.of s9).trans (.of s10)
        have d10 := (L8.d.same s9).same s10
        refine q a ⟨n, t, L, E⟩ _ d10 ((L8.d.same s9).free na) ⟨en, ed, es, SqT.of upd_same, seqT_tk k10 L8.hen, SqT.of (s10 _ _ upd_same), paired_imp (fun _ _ x => seqT_tk k10 x) L8.pr⟩ (aut_ok nl n1 n4 (by omega) sub sk ht)
end
end Tc
namespace Tc
open PySem PySem.Spec PyProof.Rows L2 TcG PySem.W
section
variable {P : Program} {w : World} {K : PySem.W.Frag} {mg : Str → Option Value} {base : Heap}
theorem sc_law_turned_automaton11 : FnScope ["box", "automaton", "kind", "state", "ends", "k", "edge", "rows", "last", "edges", "end"] ["box", "automaton"] (defScope s_law_turned_automaton) :=
  ⟨rfl, rfl, rfl, by decide +kernel, rfl, by decide +kernel, by decide +kernel⟩
def sp_lturnedaut (K : PySem.W.Frag) : Sp := fun vs H Q _ => ∃ (b dl a : Addr) (ls : List Nat) (A : Aut), vs = [.ref b, .ref a] ∧ Box K b dl H ∧ AutAt K H a A ∧ AutOk ls A ∧ ls.length ≤ 6 ∧
  ∀ (a' : Addr) (A' : Aut) (H' : Hp), Dr K b dl H H' → AutAt K H' a' A' → AutOk ls A' → Q (.ref a') H'
theorem ok_lturnedaut {f fD : Addr} {fd fdD : FuncData} (F : Fun K "_law_turned_automaton" "_law_turned_automaton" s_law_turned_automaton f fd) (FD : Fun K "_law_draw" "_law_draw" s_law_draw fD fdD) (gD : mg "_law_draw" = some (.ref fD)) (ml : mg "len" = none) (mi : mg "int" = none) (ms : mg "sorted" = none) (mt : mg "tuple" = none) : FnOk P w K mg base CX0 2 f fd ["box", "automaton"] (sp_lturnedaut K) := by
  have GD : FnOk P w K mg base CX0 1 fD fdD ["box", "many"] (sp_draw K) := ok_draw FD ml mi
  have bD : Binds K fdD ["box", "many"] [] := FD.binds fun _ _ _ _ _ _ us hl => match us, hl with | [_, _], _ => rfl
  refine F.ok sc_law_turned_automaton11 (fun vs H Q E h => ?_) (fun cdv A0 outer s H vs Q E hr h => ?_)
  · obtain ⟨b, dl, a, ls, A, rfl, _⟩ := h
    rfl
  · obtain ⟨b, dl, a, ls, A, rfl, hB, hA, oA, l6, q⟩ := h
    have nd := sc_law_turned_automaton11.nd
    refine ⟨_, pss_cons (ps_set (i := 2) nd rfl (.inl rfl) (pe_call GD hr (by rfl) gD FD.kp bD .nil pass0 (pa_cons (pv 0) (pa_cons pe_int pa_nil))))
        (pss_cons (ps_if (pt_cmpR op_eq (pv 2) pe_int (nomark _))
        (pss_one (ps_ret (pv 1))) pss_nil)
        (pss_cons (ps_if (pt_cmpR op_eq (pv 2) pe_int (nomark _))
        (pss_cons (ps_set (i := 3) nd rfl (.inr rfl) (pe_call GD hr (by rfl) gD FD.kp bD .nil pass0 (pa_cons (pv 0) (pa_cons (pe_ix ix_tup (pv 1) pe_int (fun _ _ => rfl)) pa_nil))))
        (pss_cons (ps_setLc (i := 4) (own := [("end", 10)]) (g := (gName 10)) (tt := _) (te := (tVar 10)) rfl nd rfl rfl (sw_true rfl rfl (by decide +kernel) (by decide +kernel)) (pi_tup (pe_ix ix_tup (pv 1) pe_int (fun _ _ => rfl))) (blkOk_by (own := [("end", 10)]) (N := ["box", "automaton", "kind", "state", "ends", "k", "edge", "rows", "last", "edges", "end"]) (sc := defScope s_law_turned_automaton) (by decide +kernel))
              (fun _ _ _ _ _ => (pg_name (i := 10) nd rfl (.inl rfl))) (fun _ _ _ _ _ => pts_one (pt_cmpR op_ne (pv 10) (pv 3) (nomark _))) (fun _ _ _ _ _ => (pv 10)))
        (pss_cons (ps_mid (ps_if (pt_cmpR op_notIn_seq (pv 3) (pe_ix ix_tup (pv 1) pe_int (fun _ _ => rfl)) rfl)
        (pss_one (ps_expr (pe_bm PySem.F.plainAttrs_list PySem.F.slot_list_append PySem.F.type_list_append mt_append (pv 4) (pa_cons (pv 3) pa_nil)))) pss_nil))
        (pss_one (ps_ret (pe_op op_catA (pe_slice sl_tupA (pv 1) po_none (po_some pe_int)) (pe_tup (pa_cons (pe_callTy call_tuple_of (by rfl) mt (by decide +kernel) (pa_cons (pe_callB cr_sortedI (by rfl) ms (by decide +kernel) (pa_cons (pv 4) pa_nil)) pa_nil)) (pa_cons (pe_ix ix_tup (pv 1) pe_int (fun _ _ => rfl)) pa_nil))))))))) pss_nil)
        (pss_cons (ps_mid (ps_if (PW.pt (pw_and (pt_cmpR op_eq (pv 2) pe_int (nomark _)) (pw_and1 (pt_cmpR op_gt (pe_callB call_len_seq (by rfl) ml PySem.boot_len (pa_cons (pe_ix ix_tup (pv 1) pe_int (fun _ _ => rfl)) pa_nil)) pe_int (nomark _)))))
        (pss_cons (ps_set (i := 5) nd rfl (.inl rfl) (pe_call GD hr (by rfl) gD FD.kp bD .nil pass0 (pa_cons (pv 0) (pa_cons (pe_callB call_len_seq (by rfl) ml PySem.boot_len (pa_cons (pe_ix ix_tup (pv 1) pe_int (fun _ _ => rfl)) pa_nil)) pa_nil))))
        (pss_cons (ps_set (i := 6) nd rfl (.inl rfl) (pe_ix ix_tup (pe_ix ix_tup (pv 1) pe_int (fun _ _ => rfl)) (pv 5) (fun _ _ => rfl)))
        (pss_cons (ps_set (i := 7) nd rfl (.inl rfl) (pe_op op_catA (pe_op op_catA (pe_slice sl_tupA (pe_ix ix_tup (pv 1) pe_int (fun _ _ => rfl)) po_none (po_some (pv 5))) (pe_tup (pa_cons (pe_tup (pa_cons (pe_ix ix_tup (pv 6) pe_int (fun _ _ => rfl)) (pa_cons (pe_ix ix_tup (pv 6) pe_int (fun _ _ => rfl)) (pa_cons (pe_call GD hr (by rfl) gD FD.kp bD .nil pass0 (pa_cons (pv 0) (pa_cons (pe_ix ix_tup (pv 1) pe_int (fun _ _ => rfl)) pa_nil))) pa_nil)))) pa_nil))) (pe_slice sl_tupA (pe_ix ix_tup (pv 1) pe_int (fun _ _ => rfl)) (po_some (pe_op op_add (pv 5) pe_int)) po_none)))
        (pss_one (ps_ret (pe_op op_catA (pe_slice sl_tupA (pv 1) po_none (po_some pe_int)) (pe_tup (pa_cons (pv 7) pa_nil)))))))) pss_nil))
        (pss_cons (ps_set (i := 8) nd rfl (.inr rfl) (pe_op op_sub (pe_ix ix_tup (pv 1) pe_int (fun _ _ => rfl)) pe_int))
        (pss_cons (ps_set (i := 9) nd rfl (.inl rfl) (pe_callTy call_tuple_of (by rfl) mt (by decide +kernel) (pa_cons (pe_callB (cr_sortedData (hu65 hr)) (by rfl) ms (by decide +kernel) (pa_cons (pe_lc (own := [("edge", 6)]) (g := (gName 6)) (tt := tYes) (te := (tTup (tCons (tOp (rI0 fun i j => V.int (i - j)) (tVar 8) (tOp (rIxT K) (tVar 6) (tC (.int 0)))) (tCons (tOp (rIxT K) (tVar 6) (tC (.int 1))) (tCons (tOp (rI0 fun i j => V.int (i - j)) (tVar 8) (tOp (rIxT K) (tVar 6) (tC (.int 2)))) tNil))))) rfl nd (pi_tup (pe_ix ix_tup (pv 1) pe_int (fun _ _ => rfl))) (blkOk_by (own := [("edge", 6)]) (N := ["box", "automaton", "kind", "state", "ends", "k", "edge", "rows", "last", "edges", "end"]) (sc := defScope s_law_turned_automaton) (by decide +kernel))
              (fun _ _ _ _ _ => (pg_name (i := 6) nd rfl (.inl rfl))) (fun _ _ _ _ _ => pts_nil) (fun _ _ _ _ _ => (pe_tup (pa_cons (pe_op op_sub (pv 8) (pe_ix ix_tup (pv 6) pe_int (fun _ _ => rfl))) (pa_cons (pe_ix ix_tup (pv 6) pe_int (fun _ _ => rfl)) (pa_cons (pe_op op_sub (pv 8) (pe_ix ix_tup (pv 6) pe_int (fun _ _ => rfl))) pa_nil)))))) pa_nil)) pa_nil)))
        (pss_one (ps_ret (pe_tup (pa_cons pe_str (pa_cons (pe_ix ix_tup (pv 1) pe_int (fun _ _ => rfl)) (pa_cons (pe_op op_sub (pv 8) (pe_ix ix_tup (pv 1) pe_int (fun _ _ => rfl))) (pa_cons (pe_callTy call_tuple_of (by rfl) mt (by decide +kernel) (pa_cons (pe_callB cr_sortedI (by rfl) ms (by decide +kernel) (pa_cons (pe_lc (own := [("end", 10)]) (g := (gName 10)) (tt := tYes) (te := _) rfl nd (pi_tup (pe_ix ix_tup (pv 1) pe_int (fun _ _ => rfl))) (blkOk_by (own := [("end", 10)]) (N := ["box", "automaton", "kind", "state", "ends", "k", "edge", "rows", "last", "edges", "end"]) (sc := defScope s_law_turned_automaton) (by decide +kernel))
              (fun _ _ _ _ _ => (pg_name (i := 10) nd rfl (.inl rfl))) (fun _ _ _ _ _ => pts_nil) (fun _ _ _ _ _ => (pe_op op_sub (pv 8) (pv 10)))) pa_nil)) pa_nil)) (pa_cons (pv 9) pa_nil))))))))))))), ?_⟩
    refine ⟨.ref b, rfl, b, dl, 4, rfl, hB, by decide, fun r H1 r0 r4 m1 hB1 => ?_⟩
    have d1 := (Dr.refl hB).go m1 hB1
    have hA1 := hA.tk ((Dr.refl hB).tk m1)
    refine ⟨.int r, rfl, rfl, _, rfl, ?_⟩
    by_cases k0 : r = 0
    · rw [decide_eq_true (show V.int r = V.int 0 by rw [k0])]
      exact iteT ⟨.ref a, rfl, q a A H1 d1 hA1 oA⟩
    rw [decide_eq_false (show ¬ V.int r = V.int 0 from fun z => k0 (V.int.inj z))]
    refine iteF ?_
    refine ⟨.int r, rfl, rfl, _, rfl, ?_⟩
    by_cases k1 : r = 1
    · rw [decide_eq_true (show V.int r = V.int 1 by rw [k1])]
      refine iteT ?_
      obtain ⟨en, ed, es, hI⟩ := hA1
      have mp := oA.some
      refine ⟨.ref b, rfl, .ref a, rfl, a, _, 1, .int (A.many : Nat), rfl, rfl, hI.top, atI_nat (j := 1) rfl, b, dl, (A.many : Int), rfl, d1.box, by omega, fun r2 H2 r20 r2m m2 hB2 => ?_⟩
      obtain ⟨sN, e2⟩ : ∃ n : Nat, r2 = (n : Int) := ⟨r2.toNat, by omega⟩
      subst e2
      have hs : sN < A.many := by omega
      have d2 := d1.go m2 hB2
      have hI2 := hI.tk (d1.tk m2)
      refine ⟨.ref a, rfl, a, _, 3, .ref en, rfl, rfl, hI2.top, atI_nat (j := 3) rfl, en, rfl, ⟨_, hI2.ends⟩, fun D nD => ?_⟩
      have nD0 := d2.free nD
      refine lc_it (walk_tup (xs := numV A.ends)) (fun i H' => Same H2 H' ∧ H' D = some (.lst (numV ((A.ends.take i).filter fun e => decide (e ≠ sN))))) ⟨same_new nD, upd_same⟩ (fun i H' _ hV => Same.seqT hV.1 hI2.ends) (fun i x H3 H3' hi hV hY => ?_) (fun H3 hV => ?_)
      · obtain ⟨sm, hD⟩ := hV
        obtain ⟨rfl, hx⟩ := hY
        obtain ⟨n, hn, rfl⟩ := numV_at hx
        refine ⟨rfl, .int (n : Nat), rfl, .int (sN : Nat), rfl, rfl, _, rfl, ?_⟩
        rw [take_next hn, List.filter_append]
        by_cases e : n = sN
        · rw [decide_eq_true (show V.int (n : Int) = V.int (sN : Int) by rw [e]), List.filter_cons_of_neg (by rw [decide_eq_false (not_not_intro e)]; exact Bool.false_ne_true), List.filter_nil, List.append_nil]
          exact iteF ⟨sm, hD⟩
        · rw [decide_eq_false (show ¬ V.int (n : Int) = V.int (sN : Int) from fun z => e (Int.ofNat.inj (V.int.inj z))), List.filter_cons_of_pos (by rw [decide_eq_true e]), List.filter_nil]
          refine iteT ⟨.int (n : Nat), rfl, _, hD, ?_, fun z o ez => ?_, ?_⟩
          · have l1 := oA.ends_few
            have l2 := List.length_filter_le (fun e => decide (e ≠ sN)) (A.ends.take i)
            rw [List.length_take] at l2
            rw [numV_len]
            exact Nat.lt_of_le_of_lt (show _ ≤ 10 by omega) (by decide)
          · rw [upd_ne (ne_of_none ez nD)]
            exact sm z o ez
          · rw [upd_same]
            unfold numV
            rw [List.map_append]
            rfl
      · obtain ⟨sm, hD⟩ := hV
        rw [numV_len, List.take_length] at hD
        have d3 := d2.same sm
        have hI3 := hI2.tk (.of sm)
        refine ⟨fun σ' H4 => σ' = [some (.ref b), some (.ref a), some (.int r), some (.int (sN : Nat)), some (.ref D), none, none, none, none, none, none] ∧ Dr K b dl H H4 ∧ AutIn K H4 a A en ed es ∧ H4 D = some (.lst (numV ((A.ends.filter fun e => decide (e ≠ sN)) ++ if sN ∈ A.ends then [] else [sN]))), ?_, fun σ' H4 hV => ?_⟩
        · refine ⟨.int (sN : Nat), rfl, .ref a, rfl, a, _, 3, .ref en, rfl, rfl, hI3.top, atI_nat (j := 3) rfl, en, _, rfl, .inr hI3.ends, rfl, nats_flat A.ends, _, rfl, ?_⟩
          rw [show numV A.ends = natsV A.ends from rfl, inV_nats]
          by_cases m : sN ∈ A.ends
          · rw [decide_eq_true m, if_pos m, List.append_nil]
            exact iteF ⟨rfl, d3, hI3, hD⟩
          · rw [decide_eq_false m, if_neg m]
            have kp : TK H3 (upd H3 D (.lst (numV (A.ends.filter fun e => decide (e ≠ sN)) ++ [.int (sN : Nat)]))) := TK.put hD
            refine iteT ⟨.ref D, rfl, .inl ⟨rfl, _, SqL.of hD⟩, .int (sN : Nat), rfl, D, _, _, rfl, rfl, hD, ?_, rfl, d3.put nD0, hI3.tk kp, ?_⟩
            · have l1 := oA.ends_few
              have l2 := List.length_filter_le (fun e => decide (e ≠ sN)) A.ends
              rw [numV_len]
              exact Nat.lt_of_le_of_lt (show _ ≤ 10 by omega) (by decide)
            · rw [upd_same]
              unfold numV
              rw [List.map_append]
              rfl
        · obtain ⟨rfl, d4, hI4, hD4⟩ := hV
          refine ⟨.ref a, rfl, 3, rfl, slice_anyT hI4.top fun p2 H5 s5 hp2 => ?_⟩
          rw [show (some (3 : Int)) = some ((3 : Nat) : Int) from rfl, cutV_to] at hp2
          have d5 := d4.same s5
          have hI5 := hI4.tk (.of s5)
          have hD5 := s5 _ _ hD4
          rw [numV_ints] at hD5
          refine ⟨.ref D, rfl, D, _, rfl, SqL.of hD5, fun ns' p3 perm _ np3 => ?_⟩
          obtain ⟨N, eN, pN⟩ := perm_nats perm
          rw [eN]
          have s6 := same_new (o := .lst (numV N)) np3
          have d6 := d5.same s6
          have hI6 := hI5.tk (.of s6)
          have hp6 := Same.seqT s6 hp2
          have h36 : (upd H5 p3 (.lst (numV N))) p3 = some (.lst (numV N)) := upd_same
          generalize upd H5 p3 (.lst (numV N)) = H6 at d6 hI6 hp6 h36
          refine ⟨p3, _, rfl, .inl ⟨SqL.of h36, fun t nt => ?_⟩⟩
          have s7 := same_new (o := .tup (numV N)) nt
          have d7 := d6.same s7
          have hI7 := hI6.tk (.of s7)
          have hp7 := Same.seqT s7 hp6
          have ht7 : SqT K (upd H6 t (.tup (numV N))) t (numV N) := SqT.of upd_same
          generalize upd H6 t (.tup (numV N)) = H7 at d7 hI7 hp7 ht7
          refine ⟨.ref a, rfl, a, _, 4, .ref ed, rfl, rfl, hI7.top, atI_nat (j := 4) rfl, by show 2 ≤ sizeLine; decide, fun q2 nq2 => ?_⟩
          have s8 := same_new (o := .tup [.ref t, .ref ed]) nq2
          refine cat_anyT (Same.seqT s8 hp7) (SqT.of upd_same) (by show 5 ≤ sizeLine; decide) fun z H9 s9 hz => ?_
          have s89 := s8.trans s9
          exact q z ⟨A.many, A.start, N, A.edges⟩ H9 (d7.same s89) ⟨t, ed, es, hz, Same.seqT s89 ht7, Same.seqT s89 hI7.rows, paired_imp (fun _ _ x => seqT_tk (.of s89) x) hI7.edges⟩ (oA.ends' hs pN)
    rw [decide_eq_false (show ¬ V.int r = V.int 1 from fun z => k1 (V.int.inj z))]
    refine iteF ?_
    obtain ⟨en, ed, es, hI⟩ := hA1
    have mp := oA.some
    have les : es.length = A.edges.length := hI.len
    refine ⟨fun σ' H' => σ' = [some (.ref b), some (.ref a), some (.int r), none, none, none, none, none, none, none, none] ∧ H' = H1, ?_, fun σ' HX hV => ?_⟩
    · refine ⟨.int r, rfl, rfl, _, rfl, ?_⟩
      by_cases k2 : r = 2
      case neg =>
        rw [decide_eq_false (show ¬ V.int r = V.int 2 from fun z => k2 (V.int.inj z))]
        exact iteF (iteF ⟨rfl, rfl⟩)
      rw [decide_eq_true (show V.int r = V.int 2 by rw [k2])]
      refine iteT ⟨.ref a, rfl, a, _, 4, .ref ed, rfl, rfl, hI.top, atI_nat (j := 4) rfl, ed, _, rfl, .inr hI.rows, _, _, rfl, rfl, _, rfl, ?_⟩
      by_cases pos : 0 < es.length
      case neg =>
        rw [decide_eq_false (show ¬ (0 : Int) < (((es.map V.ref).length : Nat) : Int) by rw [List.length_map]; omega)]
        exact iteF ⟨rfl, rfl⟩
      rw [decide_eq_true (show (0 : Int) < (((es.map V.ref).length : Nat) : Int) by rw [List.length_map]; omega)]
      refine iteT ⟨.ref b, rfl, .ref a, rfl, a, _, 4, .ref ed, rfl, rfl, hI.top, atI_nat (j := 4) rfl, ed, _, rfl, .inr hI.rows, b, dl, (((es.map V.ref).length : Nat) : Int), rfl, d1.box, by rw [List.length_map]; omega, fun r2 H2 r20 r2m m2 hB2 => ?_⟩
      rw [List.length_map] at r2m
      obtain ⟨j, ej⟩ : ∃ n : Nat, r2 = (n : Int) := ⟨r2.toNat, by omega⟩
      subst ej
      have d2 := d1.go m2 hB2
      have hI2 := hI.tk (d1.tk m2)
      have hj : es[j]? = some (es[j]'(by omega)) := List.getElem?_eq_getElem (by omega)
      generalize es[j]'(by omega) = re at hj
      obtain ⟨e, he, hre⟩ := paired_at' hI2.edges hj
      have hjV : (es.map V.ref)[j]? = some (.ref re) := by rw [List.getElem?_map, hj]; rfl
      refine ⟨.ref a, rfl, a, _, 4, .ref ed, rfl, rfl, hI2.top, atI_nat (j := 4) rfl, .int (j : Nat), rfl, ed, _, _, .ref re, rfl, rfl, hI2.rows, atI_nat hjV, ?_⟩
      refine ⟨.ref a, rfl, a, _, 4, .ref ed, rfl, rfl, hI2.top, atI_nat (j := 4) rfl, .int (j : Nat), rfl, (j : Nat), rfl, slice_anyT hI2.rows fun p3 H3 s3 hp3 => ?_⟩
      rw [cutV_to] at hp3
      have d3 := d2.same s3
      have hI3 := hI2.tk (.of s3)
      have hre3 := Same.seqT s3 hre
      refine ⟨.ref re, rfl, re, _, 0, .int (e.1 : Nat), rfl, rfl, hre3, atI_nat (j := 0) rfl, .ref re, rfl, re, _, 1, .str (tx [e.2.1]), rfl, rfl, hre3, atI_nat (j := 1) rfl, .ref b, rfl, .ref a, rfl, a, _, 1, .int (A.many : Nat), rfl, rfl, hI3.top, atI_nat (j := 1) rfl, b, dl, (A.many : Int), rfl, d3.box, by omega, fun r4 H4 r40 r4m m4 hB4 => ?_⟩
      obtain ⟨t, et⟩ : ∃ n : Nat, r4 = (n : Int) := ⟨r4.toNat, by omega⟩
      subst et
      have d4 := d3.go m4 hB4
      have k34 := d3.tk m4
      have hI4 := hI3.tk k34
      have hp4 := seqT_tk k34 hp3
      refine ⟨by show 3 ≤ sizeLine; decide, fun q5 nq5 => ⟨by show 1 ≤ sizeLine; decide, fun q6 nq6 => ?_⟩⟩
      have s5 := same_new (o := .tup [.int (e.1 : Nat), .str (tx [e.2.1]), .int (t : Nat)]) nq5
      have s6 := same_new (o := .tup [.ref q5]) nq6
      have hq5 : EdgeAt K (upd (upd H4 q5 (.tup [.int (e.1 : Nat), .str (tx [e.2.1]), .int (t : Nat)])) q6 (.tup [.ref q5])) q5 (e.1, e.2.1, t) := Same.seqT s6 (SqT.of upd_same)
      have hq6 : SqT K (upd (upd H4 q5 (.tup [.int (e.1 : Nat), .str (tx [e.2.1]), .int (t : Nat)])) q6 (.tup [.ref q5])) q6 [.ref q5] := SqT.of upd_same
      have s46 := s5.trans s6
      generalize upd (upd H4 q5 (.tup [.int (e.1 : Nat), .str (tx [e.2.1]), .int (t : Nat)])) q6 (.tup [.ref q5]) = H6 at s46 hq5 hq6
      have few := oA.edges_few
      have small : ∀ n : Nat, n ≤ 1000 → n ≤ sizeLine := fun n h => Nat.le_trans h (by decide)
      refine cat_anyT (Same.seqT s46 hp4) hq6 (small _ (by rw [List.length_take, List.length_map]; simp only [List.length_singleton]; omega)) fun p7 H7 s7 hp7 => ?_
      have s47 := s46.trans s7
      have d7 := d4.same s47
      have hI7 := hI4.tk (.of s47)
      refine ⟨.ref a, rfl, a, _, 4, .ref ed, rfl, rfl, hI7.top, atI_nat (j := 4) rfl, .int (j : Nat), rfl, (j : Nat), 1, rfl, rfl, (j : Nat) + 1, rfl, ?_⟩
      unfold tNoPart
      refine slice_anyT hI7.rows fun p8 H8 s8 hp8 => ?_
      rw [show (some ((j : Int) + 1)) = some ((j + 1 : Nat) : Int) from rfl, cutV_from] at hp8
      refine cat_anyT (Same.seqT s8 hp7) hp8 (small _ (by rw [List.length_append, List.length_take, List.length_drop, List.length_map]; simp only [List.length_singleton]; omega)) fun p9 H9 s9 hp9 => ?_
      have s79 := s8.trans s9
      have d9 := d7.same s79
      have hI9 := hI7.tk (.of s79)
      refine ⟨.ref a, rfl, 4, rfl, slice_anyT hI9.top fun p10 H10 s10 hp10 => ?_⟩
      rw [show (some (4 : Int)) = some ((4 : Nat) : Int) from rfl, cutV_to] at hp10
      refine ⟨.ref p9, rfl, by show 1 ≤ sizeLine; decide, fun q11 nq11 => ?_⟩
      have s11 := same_new (o := .tup [.ref p9]) nq11
      refine cat_anyT (Same.seqT s11 hp10) (SqT.of upd_same) (by show 5 ≤ sizeLine; decide) fun z H12 s12 hz => ?_
      have s912 := s10.trans (s11.trans s12)
      have s712 := s7.trans (s79.trans s912)
      have s412 := s46.trans s712
      have k212 := ((TK.of s3).trans k34).trans (.of s412)
      refine q z ⟨A.many, A.start, A.ends, A.edges.take j ++ [(e.1, e.2.1, t)] ++ A.edges.drop (j + 1)⟩ H12 (d4.same s412) ⟨en, p9, es.take j ++ [q5] ++ es.drop (j + 1), hz, seqT_tk k212 hI2.ends, ?_, ?_⟩ (oA.edge' he (by omega))
      · rw [List.map_append, List.map_append, List.map_take, List.map_drop]
        exact Same.seqT s912 hp9
      · have pe := paired_imp (fun _ _ x => seqT_tk k212 x) hI2.edges
        exact paired_append (paired_append (paired_take pe j) (.cons (Same.seqT s712 hq5) .nil)) (paired_drop pe (j + 1))
    · obtain ⟨rfl, rfl⟩ := hV
      refine ⟨.ref a, rfl, a, _, 1, .int (A.many : Nat), rfl, rfl, hI.top, atI_nat (j := 1) rfl, _, _, rfl, rfl, ?_⟩
      change gName 8 (V.int ((A.many : Int) - 1)) _ _ _
      obtain ⟨l, el⟩ : ∃ l : Nat, A.many - 1 = l := ⟨_, rfl⟩
      rw [show (A.many : Int) - 1 = (l : Int) by omega]
      refine ⟨.ref a, rfl, a, _, 4, .ref ed, rfl, rfl, hI.top, atI_nat (j := 4) rfl, ed, rfl, ⟨_, hI.rows⟩, fun D nD => ?_⟩
      refine lc_it (walk_tup (xs := es.map V.ref)) (fun i H' => Dr K b dl H H' ∧ Same HX H' ∧ ∃ qs : List Addr, H' D = some (.lst (qs.map V.ref)) ∧ Paired (EdgeAt K H') qs ((A.edges.take i).map (mirE l))) ⟨d1.same (same_new nD), same_new nD, [], upd_same, .nil⟩ (fun i H' _ hV => Same.seqT hV.2.1 hI.rows) (fun i x H2 H2' hi hV hY => ?_) (fun H2 hV => ?_)
      · obtain ⟨d2, sm, qs, hD, pq⟩ := hV
        obtain ⟨rfl, hx⟩ := hY
        rw [List.getElem?_map] at hx
        obtain ⟨re, hre2, rfl⟩ := Option.map_eq_some_iff.mp hx
        obtain ⟨e, he, hre⟩ := paired_at' hI.edges hre2
        have hre := Same.seqT sm hre
        have in1 := oA.edgesIn e (List.mem_of_getElem? he)
        refine ⟨rfl, tYes_of ⟨.int (l : Nat), rfl, .ref re, rfl, re, _, 0, .int (e.1 : Nat), rfl, rfl, hre, atI_nat (j := 0) rfl, _, _, rfl, rfl, .ref re, rfl, re, _, 1, .str (tx [e.2.1]), rfl, rfl, hre, atI_nat (j := 1) rfl, .int (l : Nat), rfl, .ref re, rfl, re, _, 2, .int (e.2.2 : Nat), rfl, rfl, hre, atI_nat (j := 2) rfl, _, _, rfl, rfl, by show 3 ≤ sizeLine; decide, fun q0 nq => ?_⟩⟩
        have s3 := same_new (o := .tup [.int ((l : Int) - (e.1 : Int)), .str (tx [e.2.1]), .int ((l : Int) - (e.2.2 : Int))]) nq
        have hq : EdgeAt K (upd H2' q0 (.tup [.int ((l : Int) - (e.1 : Int)), .str (tx [e.2.1]), .int ((l : Int) - (e.2.2 : Int))])) q0 (mirE l e) := SqT.of (by
          rw [upd_same, show (l : Int) - (e.1 : Int) = ((l - e.1 : Nat) : Int) by omega, show (l : Int) - (e.2.2 : Int) = ((l - e.2.2 : Nat) : Int) by omega]
          rfl)
        have hD3 := s3 _ _ hD
        have d3 := d2.same s3
        have nD0 : H D = none := d1.free nD
        have pq3 := paired_imp (fun _ _ x => seqT_tk (K := K) (TK.of s3) x) pq
        generalize upd H2' q0 (.tup [.int ((l : Int) - (e.1 : Int)), .str (tx [e.2.1]), .int ((l : Int) - (e.2.2 : Int))]) = H3 at s3 hq hD3 d3 pq3
        have kp : TK H3 (upd H3 D (.lst (qs.map V.ref ++ [V.ref q0]))) := TK.put hD3
        have lq : qs.length ≤ A.edges.length := by
          have := Paired.length pq
          rw [List.length_map, List.length_take] at this
          omega
        have few := oA.edges_few
        refine ⟨_, hD3, ?_, d3.put nD0, fun z o ez => ?_, qs ++ [q0], ?_, ?_⟩
        · rw [List.length_map]
          exact Nat.lt_of_le_of_lt (show _ ≤ 1000 by omega) (by decide)
        · rw [upd_ne (ne_of_none ez nD)]
          exact s3 _ _ (sm z o ez)
        · rw [upd_same, List.map_append]
          rfl
        · rw [take_next he, List.map_append]
          exact paired_snoc (paired_imp (fun _ _ x => seqT_tk kp x) pq3) (seqT_tk kp hq)
      · obtain ⟨d2, sm, qs, hD, pq⟩ := hV
        rw [List.length_map, les, List.take_length] at pq
        have few := oA.edges_few
        have lq : qs.length = A.edges.length := by
          have := Paired.length pq
          rw [List.length_map] at this
          exact this
        refine ⟨D, qs.map V.ref, (A.edges.map (mirE l)).map edgeD, rfl, .inl (SqL.of hD), edge_dp pq, AllAlike.of edgeD_alike, Sortable.tuples fun _ => ⟨_, _, rfl⟩, by rw [List.length_map]; omega, fun d hd => ?_, fun L p2 eL2 np2 => ?_⟩
        · obtain ⟨t, _, rfl⟩ := List.mem_map.mp hd
          exact edgeD_depth t
        · obtain ⟨rs', D', er, pr', pm'⟩ := paired_sorted pq eL2
          rw [er]
          have s3 := same_new (o := .lst (rs'.map V.ref)) np2
          have h3 : (upd H2 p2 (.lst (rs'.map V.ref))) p2 = some (.lst (rs'.map V.ref)) := upd_same
          have d3 := d2.same s3
          have sm3 := sm.trans s3
          have pr3 := paired_imp (fun _ _ x => seqT_tk (K := K) (TK.of s3) x) pr'
          generalize upd H2 p2 (.lst (rs'.map V.ref)) = H3 at h3 d3 sm3 pr3
          refine ⟨p2, _, rfl, .inl ⟨SqL.of h3, fun ed' ned' => ?_⟩⟩
          have s4 := same_new (o := .tup (rs'.map V.ref)) ned'
          have h4 : SqT K (upd H3 ed' (.tup (rs'.map V.ref))) ed' (rs'.map V.ref) := SqT.of upd_same
          have d4 := d3.same s4
          have sm4 := sm3.trans s4
          have pr4 := paired_imp (fun _ _ x => seqT_tk (K := K) (TK.of s4) x) pr3
          generalize upd H3 ed' (.tup (rs'.map V.ref)) = H4 at h4 d4 sm4 pr4
          have hI4 := hI.tk (.of sm4)
          refine ⟨.ref a, rfl, a, _, 1, .int (A.many : Nat), rfl, rfl, hI4.top, atI_nat (j := 1) rfl, .int (l : Nat), rfl, .ref a, rfl, a, _, 2, .int (A.start : Nat), rfl, rfl, hI4.top, atI_nat (j := 2) rfl, _, _, rfl, rfl, .ref a, rfl, a, _, 3, .ref en, rfl, rfl, hI4.top, atI_nat (j := 3) rfl, en, rfl, ⟨_, hI4.ends⟩, fun D2 nD2 => ?_⟩
          have nD20 : H D2 = none := d4.free nD2
          refine lc_it (walk_tup (xs := numV A.ends)) (fun i H' => Same H4 H' ∧ H' D2 = some (.lst (numV ((A.ends.take i).map fun n => l - n)))) ⟨same_new nD2, upd_same⟩ (fun i H' _ hV => Same.seqT hV.1 hI4.ends) (fun i x H5 H5' hi hV hY => ?_) (fun H5 hV => ?_)
          · obtain ⟨sm5, hD5⟩ := hV
            obtain ⟨rfl, hx⟩ := hY
            obtain ⟨n, hn, rfl⟩ := numV_at hx
            have := oA.endsIn n (List.mem_of_getElem? hn)
            refine ⟨rfl, tYes_of ⟨.int (l : Nat), rfl, .int (n : Nat), rfl, _, _, rfl, rfl, _, hD5, ?_, fun z o ez => ?_, ?_⟩⟩
            · have l1 := oA.ends_few
              rw [numV_len, List.length_map, List.length_take]
              exact Nat.lt_of_le_of_lt (show _ ≤ 10 by omega) (by decide)
            · rw [upd_ne (ne_of_none ez nD2)]
              exact sm5 z o ez
            · rw [upd_same]
              show some (HO.lst (_ ++ [V.int ((l : Int) - (n : Int))])) = _
              rw [take_next hn, show (l : Int) - (n : Int) = ((l - n : Nat) : Int) by omega]
              unfold numV
              rw [List.map_append, List.map_append]
              rfl
          · obtain ⟨sm5, hD5⟩ := hV
            rw [numV_len, List.take_length, numV_ints] at hD5
            have d5 := d4.same sm5
            refine ⟨D2, _, rfl, SqL.of hD5, fun ns' p3 perm _ np3 => ?_⟩
            obtain ⟨N, eN, pN⟩ := perm_nats perm
            rw [eN]
            have s6 := same_new (o := .lst (numV N)) np3
            have h6 : (upd H5 p3 (.lst (numV N))) p3 = some (.lst (numV N)) := upd_same
            have d6 := d5.same s6
            have sm6 := sm5.trans s6
            generalize upd H5 p3 (.lst (numV N)) = H6 at h6 d6 sm6
            refine ⟨p3, _, rfl, .inl ⟨SqL.of h6, fun en' nen' => ?_⟩⟩
            have s7 := same_new (o := .tup (numV N)) nen'
            have h7 : SqT K (upd H6 en' (.tup (numV N))) en' (numV N) := SqT.of upd_same
            have d7 := d6.same s7
            have sm7 := sm6.trans s7
            generalize upd H6 en' (.tup (numV N)) = H7 at h7 d7 sm7
            refine ⟨.ref ed', rfl, by show 5 ≤ sizeLine; decide, fun z nz => ?_⟩
            have s8 := same_new (o := .tup [.str "automaton", .int (A.many : Nat), .int ((l : Int) - (A.start : Int)), .ref en', .ref ed']) nz
            have st := oA.start
            have k48 := (TK.of sm7).trans (.of s8)
            rw [← el] at pm' pN
            refine q z ⟨A.many, A.many - 1 - A.start, N, D'⟩ _ (d7.same s8) ⟨en', ed', rs', SqT.of ?_, Same.seqT s8 h7, seqT_tk k48 h4, paired_imp (fun _ _ x => seqT_tk k48 x) pr4⟩ (oA.mirror pm' pN)
            rw [upd_same]
            show some (HO.tup [.str "automaton", .int (A.many : Nat), .int ((l : Int) - (A.start : Int)), .ref en', .ref ed']) = _
            rw [show (l : Int) - (A.start : Int) = ((A.many - 1 - A.start : Nat) : Int) by omega]
end
end Tc
/-! Words that tell automata apart: the law. -/
namespace Tc
open PySem PySem.Spec PyProof.Rows L2 TcG
structure Text (K : PySem.W.Frag) (mg : Str → Option Value) (base : Heap) where
  fCell : Addr
  dCell : FuncData
  cell : Fun K "_law_cell" "_law_cell" s_law_cell fCell dCell
  gCell : mg "_law_cell" = some (.ref fCell)
  fDigits : Addr
  dDigits : FuncData
  digits : Fun K "_law_digits" "_law_digits" s_law_digits fDigits dDigits
  gDigits : mg "_law_digits" = some (.ref fDigits)
  fBox : Addr
  dBox : FuncData
  box : Fun K "_law_box" "_law_box" s_law_box fBox dBox
  gBox : mg "_law_box" = some (.ref fBox)
  fDraw : Addr
  dDraw : FuncData
  draw : Fun K "_law_draw" "_law_draw" s_law_draw fDraw dDraw
  gDraw : mg "_law_draw" = some (.ref fDraw)
  fAlpha : Addr
  dAlpha : FuncData
  alpha : Fun K "_law_alphabet" "_law_alphabet" s_law_alphabet fAlpha dAlpha
  gAlpha : mg "_law_alphabet" = some (.ref fAlpha)
  fSame : Addr
  dSame : FuncData
  same : Fun K "_law_same" "_law_same" s_law_same fSame dSame
  gSame : mg "_law_same" = some (.ref fSame)
  fLAut : Addr
  dLAut : FuncData
  lAut : Fun K "_law_automaton" "_law_automaton" s_law_automaton fLAut dLAut
  gLAut : mg "_law_automaton" = some (.ref fLAut)
  fLTurned : Addr
  dLTurned : FuncData
  lTurned : Fun K "_law_turned_automaton" "_law_turned_automaton" s_law_turned_automaton fLTurned dLTurned
  gLTurned : mg "_law_turned_automaton" = some (.ref fLTurned)
  fLLater : Addr
  dLLater : FuncData
  lLater : Fun K "_law_later" "_law_later" s_law_later fLLater dLLater
  gLLater : mg "_law_later" = some (.ref fLLater)
  fEqual : Addr
  dEqual : FuncData
  equal : Fun K "equal" "equal" s_equal fEqual dEqual
  gEqual : mg "equal" = some (.ref fEqual)
  fEdgeT : Addr
  dEdgeT : FuncData
  edgeT : Fun K "edge_table" "edge_table" s_edge_table fEdgeT dEdgeT
  gEdgeT : mg "edge_table" = some (.ref fEdgeT)
  fEndT : Addr
  dEndT : FuncData
  endT : Fun K "end_table" "end_table" s_end_table fEndT dEndT
  gEndT : mg "end_table" = some (.ref fEndT)
  fOneL : Addr
  dOneL : FuncData
  oneL : Fun K "one_letter_on" "one_letter_on" s_one_letter_on fOneL dOneL
  gOneL : mg "one_letter_on" = some (.ref fOneL)
  mlen : mg "len" = none
  mrange : mg "range" = none
  mint : mg "int" = none
  mmin : mg "min" = none
  mmax : mg "max" = none
  msorted : mg "sorted" = none
  mtuple : mg "tuple" = none
  mbool : mg "bool" = none
  mstr : mg "str" = none
  misi : mg "isinstance" = none
  mall : mg "all" = none
section
variable {P : Program} {w : World} {K : PySem.W.Frag} {mg : Str → Option Value} {base : Heap}
def sp_law (K : PySem.W.Frag) : Sp := fun vs H Q _ => ∃ (a : Addr) (ns : List Int), vs = [.ref a] ∧ SqL K H a (ns.map V.int) ∧ ∀ H', Q (.bl true) H'
theorem sc_law14 : FnScope ["script", "box", "turn", "alphabet", "one", "two", "level", "seen", "due", "k", "later", "row", "x", "pair"] ["script"] (defScope s_law) :=
  ⟨rfl, rfl, rfl, by decide +kernel, rfl, by decide +kernel, by decide +kernel⟩
theorem ok_law {f : Addr} {fd : FuncData} (F : Fun K "law" "law" s_law f fd) (T : Text K mg base) : FnOk P w K mg base CX0 6 f fd ["script"] (sp_law K) := by
  have G__law_box : FnOk P w K mg base CX0 3 T.fBox T.dBox ["script", "first", "last"] (sp_box K) := ok_box T.box T.cell T.gCell T.digits T.gDigits T.mlen T.mrange T.mint
  have b__law_box : Binds K T.dBox ["script", "first", "last"] [] := T.box.binds fun _ _ _ _ _ _ us hl => match us, hl with | [_, _, _], _ => rfl
  have g__law_box := T.gBox
  have k__law_box := T.box.kp
  have G__law_draw : FnOk P w K mg base CX0 1 T.fDraw T.dDraw ["box", "many"] (sp_draw K) := ok_draw T.draw T.mlen T.mint
  have b__law_draw : Binds K T.dDraw ["box", "many"] [] := T.draw.binds fun _ _ _ _ _ _ us hl => match us, hl with | [_, _], _ => rfl
  have g__law_draw := T.gDraw
  have k__law_draw := T.draw.kp
  have G__law_alphabet : FnOk P w K mg base CX0 2 T.fAlpha T.dAlpha ["box", "most"] (sp_alphabet K) := ok_alphabet T.alpha T.draw T.gDraw T.mlen T.mint T.mrange T.msorted T.mtuple
  have b__law_alphabet : Binds K T.dAlpha ["box", "most"] [] := T.alpha.binds fun _ _ _ _ _ _ us hl => match us, hl with | [_, _], _ => rfl
  have g__law_alphabet := T.gAlpha
  have k__law_alphabet := T.alpha.kp
  have G__law_automaton : FnOk P w K mg base CX0 2 T.fLAut T.dLAut ["box", "alphabet", "most"] (sp_lautomaton K) := ok_lautomaton T.lAut T.draw T.gDraw T.mlen T.mint T.mrange T.mtuple
  have b__law_automaton : Binds K T.dLAut ["box", "alphabet", "most"] [] := T.lAut.binds fun _ _ _ _ _ _ us hl => match us, hl with | [_, _, _], _ => rfl
  have g__law_automaton := T.gLAut
  have k__law_automaton := T.lAut.kp
  have G__law_turned_automaton : FnOk P w K mg base CX0 2 T.fLTurned T.dLTurned ["box", "automaton"] (sp_lturnedaut K) := ok_lturnedaut T.lTurned T.draw T.gDraw T.mlen T.mint T.msorted T.mtuple
  have b__law_turned_automaton : Binds K T.dLTurned ["box", "automaton"] [] := T.lTurned.binds fun _ _ _ _ _ _ us hl => match us, hl with | [_, _], _ => rfl
  have g__law_turned_automaton := T.gLTurned
  have k__law_turned_automaton := T.lTurned.kp
  have G__law_later : FnOk P w K mg base CX0 1 T.fLLater T.dLLater ["automaton", "state", "x"] (sp_later K) := ok_later (k := 0) T.lLater
  have b__law_later : Binds K T.dLLater ["automaton", "state", "x"] [] := T.lLater.binds fun _ _ _ _ _ _ us hl => match us, hl with | [_, _, _], _ => rfl
  have g__law_later := T.gLLater
  have k__law_later := T.lLater.kp
  have G__law_same : FnOk P w K mg base CX0 3 T.fSame T.dSame ["actual", "expected"] (sp_same K 3) := ok_same T.same T.gSame ⟨T.misi, T.mtuple, T.mbool, T.mint, T.mstr, T.mlen, T.mrange⟩ 3
  have b__law_same : Binds K T.dSame ["actual", "expected"] [] := T.same.binds fun _ _ _ _ _ _ us hl => match us, hl with | [_, _], _ => rfl
  have g__law_same := T.gSame
  have k__law_same := T.same.kp
  have G_equal : FnOk P w K mg base CX0 2 T.fEqual T.dEqual ["alphabet", "automaton", "other"] (sp_equal K) := ok_equal (k := 0) T.equal T.edgeT T.gEdgeT T.endT T.gEndT T.oneL T.gOneL
  have b_equal : Binds K T.dEqual ["alphabet", "automaton", "other"] [] := T.equal.binds fun _ _ _ _ _ _ us hl => match us, hl with | [_, _, _], _ => rfl
  have g_equal := T.gEqual
  have k_equal := T.equal.kp
  refine F.ok sc_law14 (fun vs H Q E h => ?_) (fun cdv A0 outer s H vs Q E hr h => ?_)
  · obtain ⟨a, ns, rfl, _⟩ := h
    rfl
  · obtain ⟨sc, ns, rfl, hS, q⟩ := h
    have nd := sc_law14.nd
    refine ⟨_, pss_cons (ps_set (i := 1) nd rfl (.inl rfl) (pe_call G__law_box (hr.mono (by decide)) (by rfl) g__law_box k__law_box b__law_box .nil pass0 (pa_cons (pv 0) (pa_cons pe_int (pa_cons pe_int pa_nil)))))
        (pss_cons (ps_for PassesOwn.never rfl (pi_range1 (by rfl) T.mrange (pa_cons pe_int pa_nil)) (pg_name (i := 2) nd rfl (.inl rfl))
        (pss_cons (ps_set (i := 3) nd rfl (.inl rfl) (pe_call G__law_alphabet (hr.mono (by decide)) (by rfl) g__law_alphabet k__law_alphabet b__law_alphabet .nil pass0 (pa_cons (pv 1) (pa_cons pe_int pa_nil))))
        (pss_cons (ps_set (i := 4) nd rfl (.inl rfl) (pe_call G__law_automaton (hr.mono (by decide)) (by rfl) g__law_automaton k__law_automaton b__law_automaton .nil pass0 (pa_cons (pv 1) (pa_cons (pv 3) (pa_cons pe_int pa_nil)))))
        (pss_cons (ps_set (i := 5) nd rfl (.inl rfl) (pe_call G__law_turned_automaton (hr.mono (by decide)) (by rfl) g__law_turned_automaton k__law_turned_automaton b__law_turned_automaton .nil pass0 (pa_cons (pv 1) (pa_cons (pv 4) pa_nil))))
        (pss_cons (ps_mid (ps_if (pt_cmpR op_eq (pe_call G__law_draw (hr.mono (by decide)) (by rfl) g__law_draw k__law_draw b__law_draw .nil pass0 (pa_cons (pv 1) (pa_cons pe_int pa_nil))) pe_int (nomark _))
        (pss_one (ps_set (i := 5) nd rfl (.inl rfl) (pe_call G__law_automaton (hr.mono (by decide)) (by rfl) g__law_automaton k__law_automaton b__law_automaton .nil pass0 (pa_cons (pv 1) (pa_cons (pv 3) (pa_cons pe_int pa_nil)))))) pss_nil))
        (pss_cons (ps_set (i := 6) nd rfl (.inl rfl) (pe_lst (pa_cons (pe_lst (pa_cons pe_str (pa_cons (pe_ix ix_tup (pv 4) pe_int (fun _ _ => rfl)) (pa_cons (pe_ix ix_tup (pv 5) pe_int (fun _ _ => rfl)) pa_nil)))) pa_nil)))
        (pss_cons (ps_set (i := 7) nd rfl (.inl rfl) (pe_lst (pa_cons (pe_tup (pa_cons (pe_ix ix_tup (pv 4) pe_int (fun _ _ => rfl)) (pa_cons (pe_ix ix_tup (pv 5) pe_int (fun _ _ => rfl)) pa_nil))) pa_nil)))
        (pss_cons (ps_set (i := 8) nd rfl (.inl rfl) pe_non)
        (pss_cons (ps_for PassesOwn.never rfl (pi_range1 (by rfl) T.mrange (pa_cons pe_int pa_nil)) (pg_name (i := 9) nd rfl (.inl rfl))
        (pss_cons (ps_set (i := 10) nd rfl (.inl rfl) (pe_lst pa_nil))
        (pss_cons (ps_for PassesOwn.never rfl (pi_list (pv 6)) (pg_name (i := 11) nd rfl (.inl rfl))
        (pss_cons (ps_mid (ps_if (PW.pt (pw_and (pt_cmpR op_isN (pv 8) pe_non (nomark _)) (pw_and1 (pt_cmpR op_ne (pe_cmpR op_in_seq (pe_ix ix_list (pv 11) pe_int (fun _ _ => rfl)) (pe_ix ix_tup (pv 4) pe_int (fun _ _ => rfl)) rfl) (pe_cmpR op_in_seq (pe_ix ix_list (pv 11) pe_int (fun _ _ => rfl)) (pe_ix ix_tup (pv 5) pe_int (fun _ _ => rfl)) rfl) (nomark _)))))
        (pss_one (ps_set (i := 8) nd rfl (.inl rfl) (pe_ix ix_list (pv 11) pe_int (fun _ _ => rfl)))) pss_nil))
        (pss_one (ps_for PassesOwn.never rfl (pi_str (pe_ix ix_tup (pv 3) pe_int (fun _ _ => rfl))) (pg_name (i := 12) nd rfl (.inl rfl))
        (pss_cons (ps_set (i := 13) nd rfl (.inl rfl) (pe_tup (pa_cons (pe_call G__law_later (hr.mono (by decide)) (by rfl) g__law_later k__law_later b__law_later .nil pass0 (pa_cons (pv 4) (pa_cons (pe_ix ix_list (pv 11) pe_int (fun _ _ => rfl)) (pa_cons (pv 12) pa_nil)))) (pa_cons (pe_call G__law_later (hr.mono (by decide)) (by rfl) g__law_later k__law_later b__law_later .nil pass0 (pa_cons (pv 5) (pa_cons (pe_ix ix_list (pv 11) pe_int (fun _ _ => rfl)) (pa_cons (pv 12) pa_nil)))) pa_nil))))
        (pss_one (ps_if (pt_cmpR (op_notInD (hu65 hr)) (pv 13) (pv 7) rfl)
        (pss_cons (ps_expr (pe_bm PySem.F.plainAttrs_list PySem.F.slot_list_append PySem.F.type_list_append mt_append (pv 7) (pa_cons (pv 13) pa_nil)))
        (pss_one (ps_expr (pe_bm PySem.F.plainAttrs_list PySem.F.slot_list_append PySem.F.type_list_append mt_append (pv 10) (pa_cons (pe_lst (pa_cons (pe_op op_add_str (pe_ix ix_list (pv 11) pe_int (fun _ _ => rfl)) (pv 12)) (pa_cons (pe_ix ix_tup (pv 13) pe_int (fun _ _ => rfl)) (pa_cons (pe_ix ix_tup (pv 13) pe_int (fun _ _ => rfl)) pa_nil)))) pa_nil))))) pss_nil)))))))
        (pss_one (ps_set (i := 6) nd rfl (.inl rfl) (pv 10))))))
        (pss_one (ps_if (pt_not (pt_val (pe_call G__law_same (hr.mono (by decide)) (by rfl) g__law_same k__law_same b__law_same .nil pass0 (pa_cons (pe_call G_equal (hr.mono (by decide)) (by rfl) g_equal k_equal b_equal .nil pass0 (pa_cons (pv 3) (pa_cons (pv 4) (pa_cons (pv 5) pa_nil)))) (pa_cons (pv 8) pa_nil)))))
        (pss_one (ps_ret pe_bl)) pss_nil)))))))))))
        (pss_one (ps_ret pe_bl))), ?_⟩
    refine ⟨.ref sc, rfl, sc, ns, rfl, hS, fun b dl H1 sm1 nb hB1 => ?_⟩
    refine ⟨4, rfl, by decide, by decide, for_range (lo := 0) (n := 4) (fun t σ H' => ∃ (y2 y3 y4 y5 y6 y7 y8 y9 y10 y11 y12 y13 : Option V), σ = [some (.ref sc), some (.ref b), y2, y3, y4, y5, y6, y7, y8, y9, y10, y11, y12, y13] ∧ Box K b dl H')
      ⟨none, none, none, none, none, none, none, none, none, none, none, none, rfl, hB1⟩ (fun t σ H2 ht hW => ?_) (fun σ H2 hW => ?_)⟩
    · obtain ⟨y2, y3, y4, y5, y6, y7, y8, y9, y10, y11, y12, y13, rfl, hB2⟩ := hW
      refine ⟨.ref b, rfl, b, dl, 3, rfl, hB2, by decide, by decide, fun al n0 ps H3 n3 dr mv3 hB3 hA3 => ?_⟩
      have ln : (alph n0).length = n0 := alph_len (by omega)
      have l3 : (alph n0).length ≤ 3 := by rw [ln]; omega
      have up : (alph n0).Nodup := List.nodup_iff_pairwise_ne.mpr ((alph_rising (show n0 ≤ 6 by omega)).imp fun h => Nat.ne_of_lt h)
      generalize alph n0 = ls at hA3 l3 up
      refine ⟨.ref b, rfl, .ref al, rfl, b, dl, al, ls, ps, rfl, hB3, hA3, up, by omega, fun a A H4 d4 na hAA oA => ?_⟩
      have hA4 : Alpha K H4 al ls ps := hA3.mvB hB3 d4.mv
      refine ⟨.ref b, rfl, .ref a, rfl, b, dl, a, ls, A, rfl, d4.box, hAA, oA, by omega, fun t2 B H5 d5 hBB oB => ?_⟩
      refine ⟨fun σ' H' => ∃ (t2 : Addr) (B : Aut), σ' = [some (.ref sc), some (.ref b), some (.int (0 + (t : Int))), some (.ref al), some (.ref a), some (.ref t2), y6, y7, y8, y9, y10, y11, y12, y13] ∧ Dr K b dl H4 H' ∧ AutAt K H' t2 B ∧ AutOk ls B, ?_, fun σ' H6 hV => ?_⟩
      · refine ⟨.ref b, rfl, b, dl, 3, rfl, d5.box, by decide, fun r6 H6 r60 r63 m6 hB6 => ⟨rfl, _, rfl, ?_⟩⟩
        have d6 := d5.go m6 hB6
        by_cases z : r6 = 0
        · rw [decide_eq_true (show V.int r6 = V.int 0 by rw [z])]
          exact iteT ⟨.ref b, rfl, .ref al, rfl, b, dl, al, ls, ps, rfl, d6.box, hA4.mvB d4.box d6.mv, up, by omega, fun u C H7 d7 nu hCC oC => ⟨u, C, rfl, d6.trans d7, hCC, oC⟩⟩
        · rw [decide_eq_false (show ¬ V.int r6 = V.int 0 from fun e => z (V.int.inj e))]
          exact iteF ⟨t2, B, rfl, d6, hBB.tk (d5.tk m6), oB⟩
      · clear d5 hBB oB
        obtain ⟨t2, B, rfl, d6, hBB, oB⟩ := hV
        have hA6 : Alpha K H6 al ls ps := hA4.mvB d4.box d6.mv
        have hAA6 := hAA.tk ((Dr.refl d4.box).tk d6.mv)
        have bx6 := d6.box
        clear hAA d6 hA4
        obtain ⟨en, ed, es, hI⟩ := hAA6
        obtain ⟨en2, ed2, es2, hJ⟩ := hBB
        obtain ⟨pt, hal, hpt⟩ := hA6
        have top1 : ∀ {H' : Hp}, Same H6 H' → SqT K H' a [.str "automaton", .int (A.many : Nat), .int (A.start : Nat), .ref en, .ref ed] := fun s => Same.seqT s hI.top
        have top2 : ∀ {H' : Hp}, Same H6 H' → SqT K H' t2 [.str "automaton", .int (B.many : Nat), .int (B.start : Nat), .ref en2, .ref ed2] := fun s => Same.seqT s hJ.top
        refine ⟨.ref a, rfl, a, _, 2, .int (A.start : Nat), rfl, rfl, hI.top, atI_nat (j := 2) rfl, .ref t2, rfl, t2, _, 2, .int (B.start : Nat), rfl, rfl, hJ.top, atI_nat (j := 2) rfl, by show 3 ≤ sizeLine; decide, fun r0 nr0 => ⟨by show 1 ≤ sizeLine; decide, fun lv nlv => ?_⟩⟩
        have s7 := same_new (o := .lst [.str "", .int (A.start : Nat), .int (B.start : Nat)]) nr0
        have s8 := same_new (o := .lst [.ref r0]) nlv
        have hr8 : RowL (upd (upd H6 r0 (.lst [.str "", .int (A.start : Nat), .int (B.start : Nat)])) lv (.lst [.ref r0])) r0 ([], some A.start, some B.start) := s8 _ _ upd_same
        have hlv8 : (upd (upd H6 r0 (.lst [.str "", .int (A.start : Nat), .int (B.start : Nat)])) lv (.lst [.ref r0])) lv = some (.lst ([r0].map V.ref)) := upd_same
        have s68 := s7.trans s8
        generalize upd (upd H6 r0 (.lst [.str "", .int (A.start : Nat), .int (B.start : Nat)])) lv (.lst [.ref r0]) = H8 at s68 hr8 hlv8
        refine ⟨.ref a, rfl, a, _, 2, .int (A.start : Nat), rfl, rfl, top1 s68, atI_nat (j := 2) rfl, .ref t2, rfl, t2, _, 2, .int (B.start : Nat), rfl, rfl, top2 s68, atI_nat (j := 2) rfl, by show 2 ≤ sizeLine; decide, fun q0 nq0 => ⟨by show 1 ≤ sizeLine; decide, fun sp nsp => ?_⟩⟩
        have s9 := same_new (o := .tup [.int (A.start : Nat), .int (B.start : Nat)]) nq0
        have s10 := same_new (o := .lst [.ref q0]) nsp
        have hq10 : PairA (upd (upd H8 q0 (.tup [.int (A.start : Nat), .int (B.start : Nat)])) sp (.lst [.ref q0])) q0 (some A.start, some B.start) := s10 _ _ upd_same
        have hsp10 : (upd (upd H8 q0 (.tup [.int (A.start : Nat), .int (B.start : Nat)])) sp (.lst [.ref q0])) sp = some (.lst ([q0].map V.ref)) := upd_same
        have s89 := s68.trans s9
        have nsp6 : H6 sp = none := by
          cases e : H6 sp with
          | none => rfl
          | some u =>
            rw [s89 _ _ e] at nsp
            cases nsp
        have lvsp : lv ≠ sp := fun z => by
          rw [← z, s9 _ _ hlv8] at nsp
          cases nsp
        have s810 := s9.trans s10
        generalize upd (upd H8 q0 (.tup [.int (A.start : Nat), .int (B.start : Nat)])) sp (.lst [.ref q0]) = H10 at s810 hq10 hsp10
        refine ⟨26, rfl, by decide, by decide, for_range (lo := 0) (n := 26) (fun k σ H' => ∃ (lv : Addr) (rs ss : List Addr) (y9 y10 y11 y12 y13 : Option V), σ = [some (.ref sc), some (.ref b), some (.int (0 + (t : Int))), some (.ref al), some (.ref a), some (.ref t2), some (.ref lv), some (.ref sp), some (dueV (dueA A B ls k)), y9, y10, y11, y12, y13] ∧ Same H6 H' ∧ lv ≠ sp ∧ H' lv = some (.lst (rs.map V.ref)) ∧ Paired (RowL H') rs (walkA A B ls k).1 ∧ H' sp = some (.lst (ss.map V.ref)) ∧ Paired (PairA H') ss (walkA A B ls k).2)
          ⟨lv, [r0], [q0], y9, y10, y11, y12, y13, rfl, s68.trans s810, lvsp, s810 _ _ hlv8, .cons (s810 _ _ hr8) .nil, hsp10, .cons hq10 .nil⟩ (fun k σ H7 hk hW => ?_) (fun σ H7 hW => ?_)⟩
        · clear hr8 hlv8 s68 hq10 hsp10 s810 nsp lvsp
          obtain ⟨lv, rs, ss, y9, y10, y11, y12, y13, rfl, s67, lvsp, hlv, prow, hsp, pseen⟩ := hW
          refine ⟨Nat.zero_le _, fun lp nlp => ?_⟩
          have s0 := same_new (o := .lst []) nlp
          have L0 : LayL H7 sp lp ss [] ([], (walkA A B ls k).2) (upd H7 lp (.lst [])) := ⟨.of_same s0, nlp, (fun z => by rw [z, hsp] at nlp; cases nlp), upd_same, .nil, s0 _ _ hsp, paired_imp (fun _ _ x => s0 _ _ x) pseen⟩
          have away : ∀ {H' : Hp}, Mv [sp] H7 H' → Same H6 H' := fun m x u e => m x u (fun z => by rw [List.mem_singleton.mp z, nsp6] at e; cases e) (s67 x u e)
          have keepL : ∀ {H' : Hp}, Mv [sp] H7 H' → H' lv = some (.lst (rs.map V.ref)) := fun m => m _ _ (fun z => lvsp (List.mem_singleton.mp z)) hlv
          obtain ⟨bb, fb, _⟩ := walk_fit (ls := ls) oA oB k
          have fit0 : Fit A B (walkA A B ls k).2 ([], (walkA A B ls k).2) := ⟨fb.nodup, fb.all, by simp, fun _ _ => trivial⟩
          have wlen : ∀ r ∈ (walkA A B ls k).1, r.1.length = k := walk_words k
          refine ⟨.ref lv, rfl, lv, rfl, ⟨_, SqL.of (keepL L0.mv)⟩, for_it (walk_list (xs := rs.map V.ref)) (fun i σ H' => ∃ (acc : Acc) (qs ss2 : List Addr) (y11 y12 y13 : Option V), σ = [some (.ref sc), some (.ref b), some (.int (0 + (t : Int))), some (.ref al), some (.ref a), some (.ref t2), some (.ref lv), some (.ref sp), some (dueV ((dueA A B ls k).or (firstA A B ((walkA A B ls k).1.take i)))), some (.int (0 + (k : Int))), some (.ref lp), y11, y12, y13] ∧ LayL H7 sp lp ss2 qs acc H' ∧ Fit A B (walkA A B ls k).2 acc ∧ acc = ((walkA A B ls k).1.take i).foldl (stepRw A B ls) ([], (walkA A B ls k).2))
            ⟨_, [], ss, y11, y12, y13, by rw [List.take_zero, show firstA A B [] = none from rfl, Option.or_none]; rfl, L0, fit0, rfl⟩ (fun i σ H' _ hV => ?_) (fun i x σ H8 H8' hi hV hY => ?_) (fun σ H8 hV => ?_)⟩
          · obtain ⟨acc, qs, ss2, _, _, _, _, L, _⟩ := hV
            exact SqL.of (keepL L.mv)
          · obtain ⟨acc, qs, ss2, y11, y12, y13, rfl, L1, F1, ea⟩ := hV
            obtain ⟨rfl, hx⟩ := hY
            rw [List.getElem?_map] at hx
            obtain ⟨r, hr2, rfl⟩ := Option.map_eq_some_iff.mp hx
            obtain ⟨row, he, hrow⟩ := paired_at' prow hr2
            have keepW : ∀ {H' : Hp}, Mv [sp] H7 H' → SqL K H' r [.str (tx row.1), stV row.2.1, stV row.2.2] := fun m => SqL.of (m _ _ (fun z => hrow.ne hsp (List.mem_singleton.mp z)) hrow)
            have zr := wlen row (List.mem_of_getElem? he)
            refine ⟨fun σ' H' => σ' = [some (.ref sc), some (.ref b), some (.int (0 + (t : Int))), some (.ref al), some (.ref a), some (.ref t2), some (.ref lv), some (.ref sp), some (dueV ((dueA A B ls k).or (firstA A B ((walkA A B ls k).1.take (i + 1))))), some (.int (0 + (k : Int))), some (.ref lp), some (.ref r), y12, y13] ∧ H' = H8', ?_, fun σ' H' hV => ?_⟩
            · rw [or_next he]
              cases ((dueA A B ls k).or (firstA A B ((walkA A B ls k).1.take i))) with
              | some z => exact ⟨.str (tx z), rfl, rfl, false, rfl, iteF (iteF ⟨rfl, rfl⟩)⟩
              | none =>
                have s68 := away L1.mv
                refine ⟨.non, rfl, rfl, true, rfl, iteT ⟨.ref r, rfl, r, _, 1, stV row.2.1, rfl, rfl, keepW L1.mv, atI_nat (j := 1) rfl, .ref a, rfl, a, _, 3, .ref en, rfl, rfl, top1 s68, atI_nat (j := 3) rfl, en, _, rfl, .inr (Same.seqT s68 hI.ends), by cases row.2.1 <;> rfl, nats_flat A.ends, .ref r, rfl, r, _, 2, stV row.2.2, rfl, rfl, keepW L1.mv, atI_nat (j := 2) rfl, .ref t2, rfl, t2, _, 3, .ref en2, rfl, rfl, top2 s68, atI_nat (j := 3) rfl, en2, _, rfl, .inr (Same.seqT s68 hJ.ends), by cases row.2.2 <;> rfl, nats_flat B.ends, rfl, _, rfl, ?_⟩⟩
                have edf : (!decide (V.bl (inV (stV row.2.1) (numV A.ends)) = V.bl (inV (stV row.2.2) (numV B.ends)))) = differA A B row := by
                  rw [inV_st, inV_st]
                  unfold differA
                  generalize endA A row.2.1 = x
                  generalize endA B row.2.2 = y
                  cases x <;> cases y <;> rfl
                simp only [Bool.false_eq_true, if_false]
                rw [edf]
                cases d : differA A B row with
                | true => exact iteT ⟨.ref r, rfl, r, _, 0, .str (tx row.1), rfl, rfl, keepW L1.mv, atI_nat (j := 0) rfl, rfl, rfl⟩
                | false => exact iteF ⟨rfl, rfl⟩
            · obtain ⟨rfl, eH⟩ := hV
              subst eH
              refine ⟨.ref al, rfl, al, _, 1, .str (tx ls), rfl, rfl, Same.seqT (away L1.mv) hal, atI_nat (j := 1) rfl, tx ls, rfl, ?_⟩
              refine for_text (l := ls) (fun j σ H' => ∃ (acc2 : Acc) (qs ss2 : List Addr) (y12 y13 : Option V), σ = [some (.ref sc), some (.ref b), some (.int (0 + (t : Int))), some (.ref al), some (.ref a), some (.ref t2), some (.ref lv), some (.ref sp), some (dueV ((dueA A B ls k).or (firstA A B ((walkA A B ls k).1.take (i + 1))))), some (.int (0 + (k : Int))), some (.ref lp), some (.ref r), y12, y13] ∧ LayL H7 sp lp ss2 qs acc2 H' ∧ Fit A B (walkA A B ls k).2 acc2 ∧ acc2 = (ls.take j).foldl (stepX A B row) acc)
                ⟨acc, qs, ss2, y12, y13, rfl, L1, F1, rfl⟩ (fun j c σ H9 hc hW => ?_) (fun σ H9 hW => ?_)
              · obtain ⟨acc2, qs, ss2, y12, y13, rfl, L2, F2, e2⟩ := hW
                have F3 : Fit A B (walkA A B ls k).2 (stepX A B row acc2 c) := stepX_fit oA oB F2
                have e3 : stepX A B row acc2 c = (ls.take (j + 1)).foldl (stepX A B row) acc := by rw [take_next hc, List.foldl_append, ← e2]; rfl
                have s69 := away L2.mv
                refine ⟨.ref a, rfl, .ref r, rfl, r, _, 1, stV row.2.1, rfl, rfl, keepW L2.mv, atI_nat (j := 1) rfl, .str (tx [c]), rfl, a, A, row.2.1, c, rfl, AutAt.tk ⟨en, ed, es, hI⟩ (.of s69), ?_⟩
                refine ⟨.ref t2, rfl, .ref r, rfl, r, _, 2, stV row.2.2, rfl, rfl, keepW L2.mv, atI_nat (j := 2) rfl, .str (tx [c]), rfl, t2, B, row.2.2, c, rfl, AutAt.tk ⟨en2, ed2, es2, hJ⟩ (.of s69), by show 2 ≤ sizeLine; decide, fun q3 nq3 => ?_⟩
                obtain ⟨pr, eb2⟩ : ∃ pr, besideA A B row c = pr := ⟨_, rfl⟩
                have s3 := same_new (o := .tup [stV (laterA A row.2.1 c), stV (laterA B row.2.2 c)]) nq3
                have L5 := L2.same s3
                have hq3 : PairA (upd H9 q3 (.tup [stV (laterA A row.2.1 c), stV (laterA B row.2.2 c)])) q3 (besideA A B row c) := upd_same
                rw [eb2] at hq3
                generalize upd H9 q3 (.tup [stV (laterA A row.2.1 c), stV (laterA B row.2.2 c)]) = H10 at L5 hq3
                have few := allA_few oA oB F2.nodup F2.all
                have fews : ss2.length ≤ 25 := by
                  have := Paired.length L5.seen
                  omega
                have fewq : qs.length ≤ 25 := by
                  have a1 : qs.length = acc2.1.length := Paired.length L5.pr
                  have a2 := F2.cut
                  omega
                refine ⟨.ref q3, rfl, .ref sp, rfl, stPairD pr, acc2.2.map stPairD, pair_dp hq3, .lst (SqL.of L5.hs) (pairs_dp L5.seen), pair_shaped _, pairs_shaped _, _, rfl, ?_⟩
                rw [pairs_in]
                by_cases m : pr ∈ acc2.2
                · rw [decide_eq_true m]
                  have ex : stepX A B row acc2 c = acc2 := by unfold stepX; rw [eb2, if_pos m]
                  exact iteF ⟨acc2, qs, ss2, _, _, rfl, L5, F2, by rw [← e3, ex]⟩
                · rw [decide_eq_false m]
                  have ex : stepX A B row acc2 c = (acc2.1 ++ [(row.1 ++ [c], pr)], acc2.2 ++ [pr]) := by unfold stepX; rw [eb2, if_neg m]
                  have L6 := L5.see hq3
                  have hq6 : PairA (upd H10 sp (.lst (ss2.map V.ref ++ [V.ref q3]))) q3 pr := TK.put L5.hs _ _ (.inl ⟨_, rfl⟩) hq3
                  refine iteT ⟨.ref sp, rfl, .inl ⟨rfl, _, SqL.of L5.hs⟩, .ref q3, rfl, sp, _, _, rfl, rfl, L5.hs, by rw [List.length_map]; exact Nat.lt_of_le_of_lt fews (by decide), ?_⟩
                  generalize upd H10 sp (.lst (ss2.map V.ref ++ [V.ref q3])) = H11 at L6 hq6
                  refine ⟨.ref lp, rfl, .inl ⟨rfl, _, SqL.of L6.hp⟩, .ref r, rfl, r, _, 0, .str (tx row.1), rfl, rfl, keepW L6.mv, atI_nat (j := 0) rfl, .str (tx [c]), rfl, tx row.1, tx [c], rfl, rfl, small_line (by rw [tx_length, tx_length]; simp only [List.length_singleton]; omega), .ref q3, rfl, q3, _, 0, stV pr.1, rfl, rfl, SqT.of hq6, atI_nat (j := 0) rfl, .ref q3, rfl, q3, _, 1, stV pr.2, rfl, rfl, SqT.of hq6, atI_nat (j := 1) rfl, by show 3 ≤ sizeLine; decide, fun r3 nr3 => ?_⟩
                  rw [tx_append]
                  have s12 := same_new (o := .lst [.str (tx (row.1 ++ [c])), stV pr.1, stV pr.2]) nr3
                  have L7 := L6.same s12
                  have hr12 : RowL (upd H11 r3 (.lst [.str (tx (row.1 ++ [c])), stV pr.1, stV pr.2])) r3 (row.1 ++ [c], pr) := upd_same
                  refine ⟨lp, _, _, rfl, rfl, L7.hp, by rw [List.length_map]; exact Nat.lt_of_le_of_lt fewq (by decide), (acc2.1 ++ [(row.1 ++ [c], pr)], acc2.2 ++ [pr]), qs ++ [r3], ss2 ++ [q3], _, _, rfl, L7.find hr12, by rw [← ex]; exact F3, by rw [← e3, ex]⟩
              · obtain ⟨acc2, qs, ss2, y12, y13, rfl, L2, F2, e2⟩ := hW
                rw [List.take_length] at e2
                refine ⟨acc2, qs, ss2, _, _, _, rfl, L2, F2, ?_⟩
                rw [take_next he, List.foldl_append, ← ea, e2]
                rfl
          · obtain ⟨acc, qs, ss2, y11, y12, y13, rfl, L1, F1, ea⟩ := hV
            rw [List.length_map, Paired.length prow, List.take_length] at ea ⊢
            refine ⟨.ref lp, rfl, lp, qs, ss2, _, _, _, _, _, rfl, away L1.mv, L1.ne, L1.hp, ?_, L1.hs, ?_⟩
            · rw [ea] at L1
              exact L1.pr
            · rw [ea] at L1
              exact L1.seen
        · obtain ⟨lv, rs, ss, y9, y10, y11, y12, y13, rfl, s67, _⟩ := hW
          refine ⟨.ref al, rfl, .ref a, rfl, .ref t2, rfl, al, a, t2, ls, ps, A, B, rfl, ⟨pt, Same.seqT s67 hal, Same.seqT s67 hpt⟩, AutAt.tk ⟨en, ed, es, hI⟩ (.of s67), AutAt.tk ⟨en2, ed2, es2, hJ⟩ (.of s67), oA, oB, by omega, fun H8 s8 => ?_⟩
          exact ⟨dueV (dueA A B ls 26), rfl, _, _, rfl, .inl ⟨rfl, dueV_flat _⟩, true, rfl, iteF ⟨_, _, _, _, _, _, _, _, _, _, _, _, rfl, bx6.same (s67.trans s8)⟩⟩
    · obtain ⟨y2, y3, y4, y5, y6, y7, y8, y9, y10, y11, y12, y13, rfl, hB2⟩ := hW
      exact q H2
end
end Tc
/-! The end: where each def stands. -/
namespace Tc
open PySem PySem.Spec PyProof.Rows L2 TcG
open LamX in
theorem all_mk {l : PySem.W.OpenLaw} {w : World} {K : PySem.W.Frag} {h : Heap} {mg : Str → Option Value} {fa : Addr} (X : K.In h) (G : h.Ns mainGlobals mg) (hfa : mg "law" = some (.ref fa))
    {f0 : Addr} {od0 an0 : Option Addr} {sl0 : Array (Option Value)} {oc0 kV0 dc0 pm0 cd0 ct0 : Value}
    {f1 : Addr} {od1 an1 : Option Addr} {sl1 : Array (Option Value)} {oc1 kV1 dc1 pm1 cd1 ct1 : Value}
    {f2 : Addr} {od2 an2 : Option Addr} {sl2 : Array (Option Value)} {oc2 kV2 dc2 pm2 cd2 ct2 : Value}
    {f3 : Addr} {od3 an3 : Option Addr} {sl3 : Array (Option Value)} {oc3 kV3 dc3 pm3 cd3 ct3 : Value}
    {f4 : Addr} {od4 an4 : Option Addr} {sl4 : Array (Option Value)} {oc4 kV4 dc4 pm4 cd4 ct4 : Value}
    {f5 : Addr} {od5 an5 : Option Addr} {sl5 : Array (Option Value)} {oc5 kV5 dc5 pm5 cd5 ct5 : Value}
    {f6 : Addr} {od6 an6 : Option Addr} {sl6 : Array (Option Value)} {oc6 kV6 dc6 pm6 cd6 ct6 : Value}
    {f7 : Addr} {od7 an7 : Option Addr} {sl7 : Array (Option Value)} {oc7 kV7 dc7 pm7 cd7 ct7 : Value}
    {f8 : Addr} {od8 an8 : Option Addr} {sl8 : Array (Option Value)} {oc8 kV8 dc8 pm8 cd8 ct8 : Value}
    {f9 : Addr} {od9 an9 : Option Addr} {sl9 : Array (Option Value)} {oc9 kV9 dc9 pm9 cd9 ct9 : Value}
    {f10 : Addr} {od10 an10 : Option Addr} {sl10 : Array (Option Value)} {oc10 kV10 dc10 pm10 cd10 ct10 : Value}
    {f11 : Addr} {od11 an11 : Option Addr} {sl11 : Array (Option Value)} {oc11 kV11 dc11 pm11 cd11 ct11 : Value}
    {f12 : Addr} {od12 an12 : Option Addr} {sl12 : Array (Option Value)} {oc12 kV12 dc12 pm12 cd12 ct12 : Value}
    {f13 : Addr} {od13 an13 : Option Addr} {sl13 : Array (Option Value)} {oc13 kV13 dc13 pm13 cd13 ct13 : Value}
    (a0 : PySem.W.nsIn K mainGlobals "_law_cell" = some (some (.ref f0))) (l0 : K.lookup f0 = some ⟨oc0, od0, .func (PySem.W.fnOf "_law_cell" "_law_cell" (defArgs s_law_cell) (defBody s_law_cell) (defScope s_law_cell) .none kV0 dc0 pm0 an0 cd0 ct0), sl0⟩) (c0 : PySem.W.codeIn K cd0 "_law_cell" = true) (k0 : PySem.W.keepIn K (.ref f0) = true)
    (a1 : PySem.W.nsIn K mainGlobals "_law_digits" = some (some (.ref f1))) (l1 : K.lookup f1 = some ⟨oc1, od1, .func (PySem.W.fnOf "_law_digits" "_law_digits" (defArgs s_law_digits) (defBody s_law_digits) (defScope s_law_digits) .none kV1 dc1 pm1 an1 cd1 ct1), sl1⟩) (c1 : PySem.W.codeIn K cd1 "_law_digits" = true) (k1 : PySem.W.keepIn K (.ref f1) = true)
    (a2 : PySem.W.nsIn K mainGlobals "_law_box" = some (some (.ref f2))) (l2 : K.lookup f2 = some ⟨oc2, od2, .func (PySem.W.fnOf "_law_box" "_law_box" (defArgs s_law_box) (defBody s_law_box) (defScope s_law_box) .none kV2 dc2 pm2 an2 cd2 ct2), sl2⟩) (c2 : PySem.W.codeIn K cd2 "_law_box" = true) (k2 : PySem.W.keepIn K (.ref f2) = true)
    (a3 : PySem.W.nsIn K mainGlobals "_law_draw" = some (some (.ref f3))) (l3 : K.lookup f3 = some ⟨oc3, od3, .func (PySem.W.fnOf "_law_draw" "_law_draw" (defArgs s_law_draw) (defBody s_law_draw) (defScope s_law_draw) .none kV3 dc3 pm3 an3 cd3 ct3), sl3⟩) (c3 : PySem.W.codeIn K cd3 "_law_draw" = true) (k3 : PySem.W.keepIn K (.ref f3) = true)
    (a4 : PySem.W.nsIn K mainGlobals "_law_alphabet" = some (some (.ref f4))) (l4 : K.lookup f4 = some ⟨oc4, od4, .func (PySem.W.fnOf "_law_alphabet" "_law_alphabet" (defArgs s_law_alphabet) (defBody s_law_alphabet) (defScope s_law_alphabet) .none kV4 dc4 pm4 an4 cd4 ct4), sl4⟩) (c4 : PySem.W.codeIn K cd4 "_law_alphabet" = true) (k4 : PySem.W.keepIn K (.ref f4) = true)
    (a5 : PySem.W.nsIn K mainGlobals "_law_same" = some (some (.ref f5))) (l5 : K.lookup f5 = some ⟨oc5, od5, .func (PySem.W.fnOf "_law_same" "_law_same" (defArgs s_law_same) (defBody s_law_same) (defScope s_law_same) .none kV5 dc5 pm5 an5 cd5 ct5), sl5⟩) (c5 : PySem.W.codeIn K cd5 "_law_same" = true) (k5 : PySem.W.keepIn K (.ref f5) = true)
    (a6 : PySem.W.nsIn K mainGlobals "_law_automaton" = some (some (.ref f6))) (l6 : K.lookup f6 = some ⟨oc6, od6, .func (PySem.W.fnOf "_law_automaton" "_law_automaton" (defArgs s_law_automaton) (defBody s_law_automaton) (defScope s_law_automaton) .none kV6 dc6 pm6 an6 cd6 ct6), sl6⟩) (c6 : PySem.W.codeIn K cd6 "_law_automaton" = true) (k6 : PySem.W.keepIn K (.ref f6) = true)
    (a7 : PySem.W.nsIn K mainGlobals "_law_turned_automaton" = some (some (.ref f7))) (l7 : K.lookup f7 = some ⟨oc7, od7, .func (PySem.W.fnOf "_law_turned_automaton" "_law_turned_automaton" (defArgs s_law_turned_automaton) (defBody s_law_turned_automaton) (defScope s_law_turned_automaton) .none kV7 dc7 pm7 an7 cd7 ct7), sl7⟩) (c7 : PySem.W.codeIn K cd7 "_law_turned_automaton" = true) (k7 : PySem.W.keepIn K (.ref f7) = true)
    (a8 : PySem.W.nsIn K mainGlobals "_law_later" = some (some (.ref f8))) (l8 : K.lookup f8 = some ⟨oc8, od8, .func (PySem.W.fnOf "_law_later" "_law_later" (defArgs s_law_later) (defBody s_law_later) (defScope s_law_later) .none kV8 dc8 pm8 an8 cd8 ct8), sl8⟩) (c8 : PySem.W.codeIn K cd8 "_law_later" = true) (k8 : PySem.W.keepIn K (.ref f8) = true)
    (a9 : PySem.W.nsIn K mainGlobals "equal" = some (some (.ref f9))) (l9 : K.lookup f9 = some ⟨oc9, od9, .func (PySem.W.fnOf "equal" "equal" (defArgs s_equal) (defBody s_equal) (defScope s_equal) .none kV9 dc9 pm9 an9 cd9 ct9), sl9⟩) (c9 : PySem.W.codeIn K cd9 "equal" = true) (k9 : PySem.W.keepIn K (.ref f9) = true)
    (a10 : PySem.W.nsIn K mainGlobals "edge_table" = some (some (.ref f10))) (l10 : K.lookup f10 = some ⟨oc10, od10, .func (PySem.W.fnOf "edge_table" "edge_table" (defArgs s_edge_table) (defBody s_edge_table) (defScope s_edge_table) .none kV10 dc10 pm10 an10 cd10 ct10), sl10⟩) (c10 : PySem.W.codeIn K cd10 "edge_table" = true) (k10 : PySem.W.keepIn K (.ref f10) = true)
    (a11 : PySem.W.nsIn K mainGlobals "end_table" = some (some (.ref f11))) (l11 : K.lookup f11 = some ⟨oc11, od11, .func (PySem.W.fnOf "end_table" "end_table" (defArgs s_end_table) (defBody s_end_table) (defScope s_end_table) .none kV11 dc11 pm11 an11 cd11 ct11), sl11⟩) (c11 : PySem.W.codeIn K cd11 "end_table" = true) (k11 : PySem.W.keepIn K (.ref f11) = true)
    (a12 : PySem.W.nsIn K mainGlobals "one_letter_on" = some (some (.ref f12))) (l12 : K.lookup f12 = some ⟨oc12, od12, .func (PySem.W.fnOf "one_letter_on" "one_letter_on" (defArgs s_one_letter_on) (defBody s_one_letter_on) (defScope s_one_letter_on) .none kV12 dc12 pm12 an12 cd12 ct12), sl12⟩) (c12 : PySem.W.codeIn K cd12 "one_letter_on" = true) (k12 : PySem.W.keepIn K (.ref f12) = true)
    (a13 : PySem.W.nsIn K mainGlobals "law" = some (some (.ref f13))) (l13 : K.lookup f13 = some ⟨oc13, od13, .func (PySem.W.fnOf "law" "law" (defArgs s_law) (defBody s_law) (defScope s_law) .none kV13 dc13 pm13 an13 cd13 ct13), sl13⟩) (c13 : PySem.W.codeIn K cd13 "law" = true) (k13 : PySem.W.keepIn K (.ref f13) = true)
    (z0 : PySem.W.nsIn K mainGlobals "len" = some none)
    (z1 : PySem.W.nsIn K mainGlobals "range" = some none)
    (z2 : PySem.W.nsIn K mainGlobals "int" = some none)
    (z3 : PySem.W.nsIn K mainGlobals "min" = some none)
    (z4 : PySem.W.nsIn K mainGlobals "max" = some none)
    (z5 : PySem.W.nsIn K mainGlobals "sorted" = some none)
    (z6 : PySem.W.nsIn K mainGlobals "tuple" = some none)
    (z7 : PySem.W.nsIn K mainGlobals "bool" = some none)
    (z8 : PySem.W.nsIn K mainGlobals "str" = some none)
    (z9 : PySem.W.nsIn K mainGlobals "isinstance" = some none)
    (z10 : PySem.W.nsIn K mainGlobals "all" = some none)
    : LawAtS l w K CX0 6 63 "script" mg fa h := by
  have e := hfa.symm.trans (PySem.W.mg_of X G a13)
  cases e
  have F100 := fun_mk (st := s_law_cell) l0 c0 k0
  have F101 := fun_mk (st := s_law_digits) l1 c1 k1
  have F102 := fun_mk (st := s_law_box) l2 c2 k2
  have F103 := fun_mk (st := s_law_draw) l3 c3 k3
  have F104 := fun_mk (st := s_law_alphabet) l4 c4 k4
  have F105 := fun_mk (st := s_law_same) l5 c5 k5
  have F106 := fun_mk (st := s_law_automaton) l6 c6 k6
  have F107 := fun_mk (st := s_law_turned_automaton) l7 c7 k7
  have F108 := fun_mk (st := s_law_later) l8 c8 k8
  have F109 := fun_mk (st := s_equal) l9 c9 k9
  have F110 := fun_mk (st := s_edge_table) l10 c10 k10
  have F111 := fun_mk (st := s_end_table) l11 c11 k11
  have F112 := fun_mk (st := s_one_letter_on) l12 c12 k12
  have F113 := fun_mk (st := s_law) l13 c13 k13
  refine ⟨PySem.W.fnOf "law" "law" (defArgs s_law) (defBody s_law) (defScope s_law) .none kV13 dc13 pm13 an13 cd13 ct13, [], sp_law K, ?_, ?_, ?_, fun s u => .of_eq rfl, ?_, ?_⟩
  · intro p hp
    exact nomatch hp
  · intro p hp
    exact nomatch hp
  · intro p hp
    exact nomatch hp
  · intro H a ns hl _ hT hS
    exact ⟨a, ns, rfl, hS, fun _ => rfl⟩
  · intro base _ _ TB
    exact ok_law F113 {
      fCell := f0
      dCell := _
      cell := F100
      gCell := PySem.W.mg_of X G a0
      fDigits := f1
      dDigits := _
      digits := F101
      gDigits := PySem.W.mg_of X G a1
      fBox := f2
      dBox := _
      box := F102
      gBox := PySem.W.mg_of X G a2
      fDraw := f3
      dDraw := _
      draw := F103
      gDraw := PySem.W.mg_of X G a3
      fAlpha := f4
      dAlpha := _
      alpha := F104
      gAlpha := PySem.W.mg_of X G a4
      fSame := f5
      dSame := _
      same := F105
      gSame := PySem.W.mg_of X G a5
      fLAut := f6
      dLAut := _
      lAut := F106
      gLAut := PySem.W.mg_of X G a6
      fLTurned := f7
      dLTurned := _
      lTurned := F107
      gLTurned := PySem.W.mg_of X G a7
      fLLater := f8
      dLLater := _
      lLater := F108
      gLLater := PySem.W.mg_of X G a8
      fEqual := f9
      dEqual := _
      equal := F109
      gEqual := PySem.W.mg_of X G a9
      fEdgeT := f10
      dEdgeT := _
      edgeT := F110
      gEdgeT := PySem.W.mg_of X G a10
      fEndT := f11
      dEndT := _
      endT := F111
      gEndT := PySem.W.mg_of X G a11
      fOneL := f12
      dOneL := _
      oneL := F112
      gOneL := PySem.W.mg_of X G a12
      mlen := PySem.W.mg_none_of X G z0
      mrange := PySem.W.mg_none_of X G z1
      mint := PySem.W.mg_none_of X G z2
      mmin := PySem.W.mg_none_of X G z3
      mmax := PySem.W.mg_none_of X G z4
      msorted := PySem.W.mg_none_of X G z5
      mtuple := PySem.W.mg_none_of X G z6
      mbool := PySem.W.mg_none_of X G z7
      mstr := PySem.W.mg_none_of X G z8
      misi := PySem.W.mg_none_of X G z9
      mall := PySem.W.mg_none_of X G z10 }
end Tc
open PySem PySem.W PyProof.Rows
set_option maxRecDepth 100000 in
set_option maxHeartbeats 0 in
theorem PySem.Challenge.cw_traceclasses_k46_words_that_tell_automat_holds : PySem.Challenge.rw_traceclasses_k46_words_that_tell_automat.Holds := by
  w_on; o_law; k_head; (case hw => w_witness2)
  k_fill
  refine TcG.walk_ofMany (l := PySem.Challenge.rw_traceclasses_k46_words_that_tell_automat) (n := 63) (k := 6) (x := "script") (CX := fun _ => L2.CX0) rfl (by decide) rfl ⟨rfl, by decide, by decide⟩ (fun w h Y => PySem.W.kIn_of Y) ?F (fun _ _ _ _ _ h => h)
  case F =>
    intro w mg fa h KX G hmg tabs
    refine' Tc.all_mk KX G hmg ?a0 ?l0 ?c0 ?k0 ?a1 ?l1 ?c1 ?k1 ?a2 ?l2 ?c2 ?k2 ?a3 ?l3 ?c3 ?k3 ?a4 ?l4 ?c4 ?k4 ?a5 ?l5 ?c5 ?k5 ?a6 ?l6 ?c6 ?k6 ?a7 ?l7 ?c7 ?k7 ?a8 ?l8 ?c8 ?k8 ?a9 ?l9 ?c9 ?k9 ?a10 ?l10 ?c10 ?k10 ?a11 ?l11 ?c11 ?k11 ?a12 ?l12 ?c12 ?k12 ?a13 ?l13 ?c13 ?k13 ?z0 ?z1 ?z2 ?z3 ?z4 ?z5 ?z6 ?z7 ?z8 ?z9 ?z10
    (case a0 => k_is); (case l0 => k_is); (case c0 => k_is); (case k0 => k_is); (case a1 => k_is); (case l1 => k_is); (case c1 => k_is); (case k1 => k_is); (case a2 => k_is); (case l2 => k_is); (case c2 => k_is); (case k2 => k_is); (case a3 => k_is); (case l3 => k_is); (case c3 => k_is); (case k3 => k_is); (case a4 => k_is); (case l4 => k_is); (case c4 => k_is); (case k4 => k_is); (case a5 => k_is); (case l5 => k_is); (case c5 => k_is); (case k5 => k_is); (case a6 => k_is); (case l6 => k_is); (case c6 => k_is); (case k6 => k_is); (case a7 => k_is); (case l7 => k_is); (case c7 => k_is); (case k7 => k_is); (case a8 => k_is); (case l8 => k_is); (case c8 => k_is); (case k8 => k_is); (case a9 => k_is); (case l9 => k_is); (case c9 => k_is); (case k9 => k_is); (case a10 => k_is); (case l10 => k_is); (case c10 => k_is); (case k10 => k_is); (case a11 => k_is); (case l11 => k_is); (case c11 => k_is); (case k11 => k_is); (case a12 => k_is); (case l12 => k_is); (case c12 => k_is); (case k12 => k_is); (case a13 => k_is); (case l13 => k_is); (case c13 => k_is); (case k13 => k_is)
    (case z0 => k_is); (case z1 => k_is); (case z2 => k_is); (case z3 => k_is); (case z4 => k_is); (case z5 => k_is); (case z6 => k_is); (case z7 => k_is); (case z8 => k_is); (case z9 => k_is); (case z10 => k_is)
