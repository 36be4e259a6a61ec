import PyProof.Rows.All
import Wide.All
import OpenK.AllK
import Wide.FinOn
import PyProof.EqAt
import PyProof.EqKinds
import PyProof.TupleCall
import PyProof.JoinWalk
import HandS.Base
import HandS.Call
import HandS.List
import HandS.Comp
import HandS.Text
import HandS.AnyAll
import PyProof.WalkInts
import HandS.ForMost
import HandS.EndTab
import HandS.EndOwn
import HandS.Codes
import HandS.IsInst
import KE.KExcSuper
import HandS.ExcInit
import HandS.FStr
import HandS.Nested
import KE.KExcIs
import HandS.Exc
import HandS.ExcOwn
import HandS.ExcCtx
import HandS.HotCalls
import HandS.ExcInitHot
import HandS.ExcIs
import HandS.ExcField
import HandS.CallSlots
import HandS.WordsExc
import KE.GoesEnum
import HandS.Iter
import HandS.StrMore
import PyProof.ListStr
import HandS.Replace
import HandS.GenOver
import HandS.Walk
import HandS.Words
import HandS.Dict
import PyProof.Rows.SortShellAny
import PyProof.Rows.StrMeet
import KE.KRevSl
import HandS.Style
import HandS.TupAny
import PyProof.GenRules
import PyProof.GenQ
import KE.DataMinMax
import PyProof.Rows.SortWalkRead
import HandS.SortKw
import KE.GoesZip
import HandS.Zip
import HandS.More
import PySem.Challenge.RW_traceclasses_k96_whole_alike_or_parted
set_option Elab.async false
set_option linter.all false
set_option maxRecDepth 100000
set_option maxHeartbeats 4000000
/-! Generator expressions over a text, with tests, that read names of the def around them. -/
namespace TcG
open PySem PySem.Spec PyProof.Rows L2

/-- the state in which a step of the generator runs keeps what stood when it was made, the code table aside -/
def Kept (P : Addr) (s1 s2 : Shared) : Prop := ∀ b o, b ≠ P → s1.heap.get? b = some o → s2.heap.get? b = some o

/-- the run of the tests of one clause -/
abbrev testsRun (ifs : List Expr) (cenv : Env) : Sem Bool :=
  forIn ifs true fun c r => if r = true then do let ok ← isTrue c cenv (eval c cenv); pure (ForInStep.yield ok) else pure (ForInStep.yield r)

/-- what the steps of a generator over the signs of a text do -/
structure Steps (X : Cx) (pins : List (Addr × Obj)) (σ : L2.St) (scope : Scope) (x : Str) (ifs : List Expr) (elt : Expr) (P : Addr) (a : Str) (pz : Nat → Bool) (F : Nat → Value → Prop) (s1 : Shared) : Prop where
  tests : ∀ (C : Addr) (code : Value) (bi : Addr) (A' : Around) E' (c : Nat) (t : Tok) (s2 : Shared) (m2 : Str → Option Value), A'.handled = none → c ∈ a.cps.toList → s2.heap.Ns C m2 → m2 x = some (.str ⟨#[c]⟩ t) → Kept P s1 s2 →
    wpAny (model X.prog X.w) A' (testsRun ifs (genEnv scope (cloFrom X.env.cells scope.names []) C code bi X.env)) (fun ok s3 => ok = pz c ∧ Keeps s2 s3) E' s2
  elt : ∀ (C : Addr) (code : Value) (bi : Addr) (A' : Around) E' (c : Nat) (t : Tok) (s2 : Shared) (m2 : Str → Option Value), A'.handled = none → c ∈ a.cps.toList → pz c = true → s2.heap.Ns C m2 → m2 x = some (.str ⟨#[c]⟩ t) → Kept P s1 s2 →
    wpAny (model X.prog X.w) A' (eval elt (genEnv scope (cloFrom X.env.cells scope.names []) C code bi X.env)) (fun y s3 => F c y ∧ Keeps s2 s3) E' s2

/-- the generator g, ready to be walked in s5: over the signs of a that pass -/
def ReadyT (X : Cx) (pins : List (Addr × Obj)) (σ : L2.St) (H1 : Hp) (P : Addr) (a : Str) (pz : Nat → Bool) (F : Nat → Value → Prop) (g : Addr) (s5 : Shared) : Prop :=
  ∃ (fp wr : List Addr) (G : Array GenState → Array GenState → Prop) (Fv : Nat → Value → Prop) (St : Nat → Shared → Prop),
    WalksS X.prog X.w X.A.in1.in1 g fp wr G (a.cps.toList.filter pz).length Fv St ∧ WalksS X.prog X.w X.A.in1 g fp wr G (a.cps.toList.filter pz).length Fv St ∧ St 0 s5 ∧ (∀ b ∈ fp, b < s5.heap.objs.size) ∧ g ∈ fp ∧
    (∀ i s9, St i s9 → s9.TypeIs (.ref g) "generator") ∧
    (∀ j v, Fv j v → ∃ c, (a.cps.toList.filter pz)[j]? = some c ∧ F c v) ∧
    ∀ s', Moved wr G s5 s' → ∃ H2, GxR.Tabbed P H1 H2 ∧ Inv X pins σ H2 s'

/-- the passing places of a list are the places of its filter -/
theorem passing_filter (pz : Nat → Bool) : ∀ (l : List Nat), ((List.range l.length).filter (fun i => (l[i]?.map pz).getD false)).map (fun i => l.getD i 0) = l.filter pz := by
  intro l
  have key : ∀ (r p : List Nat), ((List.range' p.length r.length).filter (fun i => ((p ++ r)[i]?.map pz).getD false)).map (fun i => (p ++ r).getD i 0) = r.filter pz := by
    intro r
    induction r with
    | nil => intro p; rfl
    | cons x r ih =>
      intro p
      have e0 : (p ++ x :: r)[p.length]? = some x := by simp
      have e1 : (p ++ x :: r).getD p.length 0 = x := by simp
      have ih2 := ih (p ++ [x])
      have ea : p ++ [x] ++ r = p ++ x :: r := by simp
      have el : (p ++ [x]).length = p.length + 1 := by simp
      rw [ea, el] at ih2
      rw [List.length_cons, List.range'_succ, List.filter_cons, List.filter_cons, e0]
      show List.map _ (if (pz x) = true then _ else _) = _
      by_cases h : pz x = true
      · rw [if_pos h, if_pos h, List.map_cons, e1, ih2]
      · rw [if_neg h, if_neg h, ih2]
  have := key l []
  rw [List.range_eq_range']
  simpa using this

theorem passing_of {pz : Nat → Bool} {l : List Nat} {j i : Nat} (h : (passing (fun i => (l[i]?.map pz).getD false) l.length 0)[j]? = some i) : ∃ c, l[i]? = some c ∧ (l.filter pz)[j]? = some c := by
  unfold passing at h
  rw [List.drop_zero] at h
  have hf := passing_filter pz l
  have hj : (l.filter pz)[j]? = some (l.getD i 0) := by
    rw [← hf, List.getElem?_map, h]
    rfl
  have hm : i ∈ List.range l.length := (List.mem_filter.mp (List.mem_of_getElem? h)).1
  have hi := List.mem_range.mp hm
  refine ⟨l[i], List.getElem?_eq_getElem hi, ?_⟩
  rw [hj]
  simp [List.getD, hi]
theorem passing_length (pz : Nat → Bool) (l : List Nat) : (passing (fun i => (l[i]?.map pz).getD false) l.length 0).length = (l.filter pz).length := by
  unfold passing
  rw [List.drop_zero, ← passing_filter pz l, List.length_map]

section
variable {X : Cx} {pins : List (Addr × Obj)} {σ : L2.St} {H : Hp} {s : Shared}

theorem gen_text {c P : Addr} {elt iter : Expr} {ifs : List Expr} {x : Str} {px gpos : Pos} {scope : Scope} {pz : Str → Nat → Bool} {F : Str → Nat → Value → Prop} {te : TE} {k : Nat} {Q' : Value → Shared → Prop} {R : Str → Hp → Prop}
    (room : Room k X.A) (TB : GxR.TabB X.base X.mg c P) (codeAt : X.env.code = .ref c) (S : GxR.GenS X.env scope x) (hi : PE X iter te)
    (plain : ∀ v, genFold iter X.env v = pure v) (I : Inv X pins σ H s) (h : te σ H fun v H1 => ∃ a : Str, v = .str a ∧ GxR.TabG H1 P ∧ R a H1)
    (hel : ∀ a H1 s1, Inv X pins σ H1 s1 → GxR.TabG H1 P → R a H1 → Steps X pins σ scope x ifs elt P a (pz a) (F a) s1)
    (goal : ∀ a H1 g s5, R a H1 → ReadyT X pins σ H1 P a (pz a) (F a) g s5 → Q' (.ref g) s5) :
    wpAny (model X.prog X.w) X.A (eval (.GeneratorExp elt [⟨.Name x px, iter, ifs, 0⟩] scope gpos) X.env) Q' X.xe s := by
  refine wpAny_GeneratorExp_walksQ room.hd S.co (closure_ok S.free) S.cell S.dot S.loc S.kind
    (by have := room.dp; omega) ?_ plain
  refine thn (hi.run pins s σ H _ I h) fun xv s1 ⟨v, H1, I1, r1, q1⟩ => ?_
  obtain ⟨a, rfl, ⟨ps, tabAt, tri⟩, q1⟩ := q1
  obtain ⟨tk0, rfl⟩ := _root_.id r1
  refine wpAny_pyIter_str fun o St W hst => ?_
  have hel := hel a H1 s1 I1 ⟨ps, tabAt, tri⟩ q1
  have tab1 : s1.heap.get? P = some { cls := .none, data := .fields ps } := I1.hok P _ tabAt
  have tabLt : P < s1.heap.objs.size := Heap.lt_size tab1
  have tab2 : (s1.heap.push o).get? P = some { cls := .none, data := .fields ps } := Heap.get?_push_of_some _ tab1
  have cd : PySem.W.CodeHd (s1.heap.push o) c P := TB.code.keeps fun b u e => Heap.get?_push_of_some _ (I1.bk b u e)
  have lim2 : (s1.heap.push o).NoLimit := I1.nolimit.push o
  have cont : ∀ (code : Value) (h3 : Heap) (tk : Nat) (ps' : Array Value), Heap.ExtBut P (s1.heap.push o) h3 → (s1.heap.push o).objs.size ≤ h3.objs.size → h3.get? P = some { cls := .none, data := .fields ps' } →
      (∃ more, ps' = ps ++ more) → TriplesOk ps'.toList →
      wpAny (model X.prog X.w) X.A (builtinsFor X.env.globals X.env.builtins) (fun bi s4 =>
        ∃ J fp wr n0 Pf St0 pz F, Value.ref s1.heap.objs.size = .ref J ∧ (∀ A' : Around, A'.handled = none → Walks X.prog X.w A' J fp wr n0 Pf St0) ∧ St0 0 s4.heap ∧ (∀ b ∈ fp, b < s4.heap.objs.size) ∧ s4.heap.NoLimit ∧ cStatics ∉ wr ∧
          (∀ href : Heap, (∀ b o, s4.heap.get? b = some o → href.get? b = some o) →
            QuietGen X.prog X.w (genEnv scope (cloFrom X.env.cells scope.names []) s4.heap.objs.size code bi X.env) x ifs elt (List.range s4.heap.objs.size) wr Pf pz F href) ∧
          (∀ a h5 tk gs, gs.bare = true → s4.heap.objs.size < a → h5.objs.size = a + 1 → (∀ b o, s4.heap.get? b = some o → h5.get? b = some o) →
            WalksS X.prog X.w X.A.in4 a (a :: s4.heap.objs.size :: List.range s4.heap.objs.size) (s4.heap.objs.size :: wr) (GenOnlyQ s4.gens.size) (passing pz n0 0).length
              (fun j y => ∃ i, (passing pz n0 0)[j]? = some i ∧ F i y) (GenAt X.prog X.w X.A.in4 a s4.gens.size s4.heap.objs.size (List.range s4.heap.objs.size) wr pz n0 F) →
            GenAt X.prog X.w X.A.in4 a s4.gens.size s4.heap.objs.size (List.range s4.heap.objs.size) wr pz n0 F 0 { s4 with gens := s4.gens.push gs, toks := tk, heap := h5 } →
            Q' (.ref a) { s4 with gens := s4.gens.push gs, toks := tk, heap := h5 })) X.xe { s1 with heap := h3, toks := tk } := by
    intro code h3 tk ps' ext size3 tab3 grown tri3
    obtain ⟨bm, ob, e1, e2, e3, e4, e5, e6, e7, e8⟩ := TB.bm
    have statP : cStatics ≠ P := fun e => by
      obtain ⟨_, stat, _⟩ := I1.nolimit
      obtain ⟨o', es, ep, ho, hd, _⟩ := stat
      rw [e, tab1] at ho
      cases ho
      cases hd
    have statLt : cStatics < s1.heap.objs.size := let ⟨_, stat, _⟩ := I1.nolimit; stat.lt
    have sz2 : (s1.heap.push o).objs.size = s1.heap.objs.size + 1 := Heap.size_push ..
    have keep3 : ∀ b u, b ≠ P → s1.heap.get? b = some u → h3.get? b = some u := fun b u hb e => ext b u hb (Heap.get?_push_of_some _ e)
    refine wpAny_builtinsFor (m := X.mg)
      (by rw [I1.ok.glob]; exact ((I1.mod.glob.keeps I1.bk).push o).extBut ext TB.gP)
      e1 e2 (keep3 _ _ e4 (I1.bk _ _ e5)) e6 e7 e8 ?_
    refine ⟨s1.heap.objs.size, [s1.heap.objs.size], [s1.heap.objs.size], a.cps.size, SignAt a, St, (fun i => (a.cps.toList[i]?.map (pz a)).getD false), (fun i y => ∃ cc, a.cps.toList[i]? = some cc ∧ F a cc y), rfl, W, ?_, ?_, lim2.extBut ext statP, ?_, ?_, ?_⟩
    · refine (W X.A room.hd).frame _ _ _ hst fun b hb u e => ext b u (fun z => ?_) e
      rcases List.mem_cons.mp hb with z2 | z2
      · exact Nat.ne_of_lt tabLt (z.symm.trans z2)
      · cases z2
    · intro b hb
      rcases List.mem_cons.mp hb with z | z
      · rw [z]
        show s1.heap.objs.size < h3.objs.size
        omega
      · cases z
    · intro z
      rcases List.mem_cons.mp z with z | z
      · exact Nat.ne_of_lt statLt z
      · cases z
    · intro href ahead
      have kept : ∀ s2 : Shared, (∀ b ∈ List.range h3.objs.size, b ∉ [s1.heap.objs.size] → ∀ o, href.get? b = some o → s2.heap.get? b = some o) → Kept P s1 s2 := fun s2 hk b u hb e => by
        have lt := Heap.lt_size e
        have lt3 : b < h3.objs.size := by
          have q : (s1.heap.push o).objs.size ≤ h3.objs.size := size3
          rw [sz2] at q
          exact Nat.lt_of_lt_of_le (Nat.lt_succ_of_lt lt) q
        refine hk b (List.mem_range.mpr lt3) (fun z => ?_) u (ahead b u (keep3 b u hb e))
        rcases List.mem_cons.mp z with z | z
        · exact Nat.ne_of_lt lt z
        · cases z
      refine ⟨fun A' E' i v s2 m2 hA hPv hn hm hk => ?_, fun A' E' i v s2 m2 hA hPv hp hn hm hk => ?_⟩
      · obtain ⟨cc, u, hcc, rfl⟩ := hPv
        have hcl : a.cps.toList[i]? = some cc := by rw [Array.getElem?_toList]; exact hcc
        refine wpAny_mono (hel.tests _ _ _ A' E' cc u s2 m2 hA (List.mem_of_getElem? hcl) hn hm (kept s2 hk)) (fun ok s3 r => ⟨?_, r.2⟩) fun _ _ e => e
        rw [r.1, hcl]
        rfl
      · obtain ⟨cc, u, hcc, rfl⟩ := hPv
        have hcl : a.cps.toList[i]? = some cc := by rw [Array.getElem?_toList]; exact hcc
        have hp2 : pz a cc = true := by
          rw [hcl] at hp
          exact hp
        exact wpAny_mono (hel.elt _ _ _ A' E' cc u s2 m2 hA (List.mem_of_getElem? hcl) hp2 hn hm (kept s2 hk)) (fun y s3 r => ⟨⟨cc, hcl, r.1⟩, r.2⟩) fun _ _ e => e
    · intro g h5 tk5 gs bare5 above5 size5 keep5 W5 at5
      have en : a.cps.size = a.cps.toList.length := by simp
      rw [en] at W5 at5
      rw [passing_length] at W5
      refine goal a H1 g _ q1 ⟨_, _, _, _, _, W5.in4_2, W5.in4_1, at5, ?_, List.mem_cons_self, fun i s9 h9 => ?_, ?_, fun s' hm => ?_⟩
      · intro b hb
        show b < h5.objs.size
        have e5 : h5.objs.size = g + 1 := size5
        have h8 : h3.objs.size < g := above5
        rw [e5]
        rcases List.mem_cons.mp hb with z | z
        · rw [z]
          exact Nat.lt_succ_self g
        · rcases List.mem_cons.mp z with z | z
          · rw [z]
            exact Nat.lt_succ_of_lt h8
          · exact Nat.lt_succ_of_lt (Nat.lt_trans (show b < h3.objs.size from List.mem_range.mp z) h8)
      · obtain ⟨isg, _⟩ := h9
        exact isg.typeIs
      · intro j v hv
        obtain ⟨i, hij, cc, hcc, hF⟩ := hv
        obtain ⟨c2, hc2, hj⟩ := passing_of hij
        rw [hcc] at hc2
        cases hc2
        exact ⟨cc, hj, hF⟩
      · obtain ⟨more, em⟩ := grown
        have nwr : ∀ b u, s1.heap.get? b = some u → b ∉ h3.objs.size :: [s1.heap.objs.size] := fun b u e hb => by
          have lt := Heap.lt_size e
          have q : s1.heap.objs.size < h3.objs.size := by
            have q0 : (s1.heap.push o).objs.size ≤ h3.objs.size := size3
            rw [sz2] at q0
            exact q0
          rcases List.mem_cons.mp hb with z | z
          · exact Nat.ne_of_lt (Nat.lt_trans lt q) z
          · rcases List.mem_cons.mp z with z | z
            · exact Nat.ne_of_lt lt z
            · cases z
        have J := GxR.inv_tab (more := more) (h' := s'.heap) (g' := s'.gens) (d' := s'.drawn) (t' := s'.toks) I1 tabAt
          (fun b u hb e => hm.heap b u (nwr b u e) (keep5 b u (keep3 b u hb e)))
          (by rw [← em]; exact hm.heap P _ (nwr P _ tab1) (keep5 P _ tab3)) (AllBare.movedS (I1.bare.push bare5) hm)
        rw [GxR.sh_eta s1 s' hm.os] at J
        exact ⟨upd H1 P (.tbl (ps ++ more)), ⟨⟨ps ++ more, upd_same, by rw [← em]; exact tri3⟩, fun b hb => upd_ne hb⟩, J⟩
  refine ⟨lim2, ?_⟩
  cases hf : codeAmong gpos ps.toList with
  | none =>
    refine wpAny_genexprCodeX codeAt (cd.code tab2 tri) (cd.tab tab2) hf fun c' h' tk ext ge lt code' _ tab' _ => ?_
    obtain ⟨o1, vs, f1, tf, fl, tg, inF, tx, tt, op, _, _, _, _, _, _, _, _, _, tri', _⟩ := code'
    exact cont _ h' tk _ ext (Nat.le_trans ge (Nat.le_of_lt lt)) tab'.2 ⟨_, rfl⟩ tri'
  | some cv =>
    refine wpAny_genexprCode_hit codeAt (cd.code tab2 tri) hf ?_
    exact cont cv (s1.heap.push o) s1.toks ps (Heap.ExtBut.refl _ _) (Nat.le_refl _) tab2 ⟨#[], by simp⟩ tri
end
end TcG
/-! ''.join(x for x in W if x in L): the signs of W that stand in L; L a name of the def around. -/
namespace TcG
open PySem PySem.Spec PyProof.Rows L2

theorem clo_look {cells : List (Str × Addr)} {names : List (Str × NameKind)} {y : Str} {c : Addr} (hf : (y, NameKind.free) ∈ names) (hc : cells.lookup y = some c) : (cloFrom cells names []).lookup y = some c := by
  have hm := cloFrom_has (cells := cells) (acc := []) hf
  rw [hc] at hm
  have hall : ∀ d, (y, d) ∈ cloFrom cells names [] → d = c := fun d hd => by
    rcases cloFrom_mem hd with z | ⟨_, z⟩
    · cases z
    · rw [z, hc]
      rfl
  cases e : (cloFrom cells names []).lookup y with
  | none =>
    exfalso
    have : ∀ (l : List (Str × Addr)), (y, c) ∈ l → l.lookup y ≠ none := by
      intro l
      induction l with
      | nil => intro h; cases h
      | cons p r ih =>
        intro h
        obtain ⟨n, d⟩ := p
        rw [List.lookup_cons]
        by_cases hn : (y == n) = true
        · rw [hn]
          intro z
          cases z
        · rw [Bool.not_eq_true] at hn
          rw [hn]
          refine ih ?_
          rcases List.mem_cons.mp h with h | h
          · cases h
            simp at hn
          · exact h
    exact this _ hm e
  | some d => rw [hall d (PySem.mem_of_lookup e)]

/-- the scope of a generator expression of one clause over the name x, in a def with these names -/
def genOk (outer : List (Str × NameKind)) (sc : Scope) (x : Str) : Bool :=
  decide (sc.kind = .function) && !sc.isCoroutine && sc.names.all (fun y => decide (y.2 ≠ .cell) && (decide (y.2 ≠ .free) || decide (outer.lookup y.1 = some .cell)))
    && decide (sc.names.lookup (".0" : Str) = some NameKind.local) && decide (sc.names.lookup x = some NameKind.local)
theorem gens_of {X : Cx} {sc : Scope} {x : Str} (ok : X.Ok) (h : genOk X.env.scope.names sc x = true) : GxR.GenS X.env sc x := by
  unfold genOk at h
  simp only [Bool.and_eq_true, List.all_eq_true, Bool.or_eq_true, decide_eq_true_eq, Bool.not_eq_true'] at h
  obtain ⟨⟨⟨⟨h1, h2⟩, h3⟩, h4⟩, h5⟩ := h
  refine ⟨h1, h2, fun y hy => (h3 y hy).1, h4, h5, fun y hy e => ?_⟩
  rcases (h3 y hy).2 with z | z
  · exact absurd e z
  · exact ok.has y.1 (.inl z)

section
variable {X : Cx} {pins : List (Addr × Obj)} {σ : L2.St} {H : Hp} {s : Shared}

/-- a name of the def around, read by a step of the generator -/
theorem ld_free {P : Addr} {scope : Scope} {y : Str} {iy : Nat} {v : V} {s1 s2 : Shared} {C : Addr} {code : Value} {bi : Addr} {A' : Around} {E' : Value → Shared → Prop} {py : Pos} {Q : Value → Shared → Prop} {ps : Array Value}
    (I1 : Inv X pins σ H s1) (tab : H P = some (.tbl ps)) (hN : X.N[iy]? = some y) (hv : σ[iy]? = some (some v)) (hk : X.env.kindOf y = some .cell) (kind : scope.kind = .function) (hl : scope.names.lookup y = some .free)
    (kept : Kept P s1 s2) (hd : (y == ("__debug__" : Str)) = false) (hcd : (y == ("__classdict__" : Str)) = false) (h : ∀ u, RelV v u → Q u s2) :
    wpAny (model X.prog X.w) A' (eval (.Name y py) (genEnv scope (cloFrom X.env.cells scope.names []) C code bi X.env)) Q E' s2 := by
  obtain ⟨m, _, look⟩ := I1.loc
  obtain ⟨u, ru, l⟩ := look iy y v hN hv (.inr (.inl hk))
  rcases l with ⟨z, _⟩ | ⟨_, c, hc, o, ho, hdat⟩
  · rw [hk] at z
    cases z
  · have tab1 : s1.heap.get? P = some { cls := .none, data := .fields ps } := I1.hok P _ tab
    have nP : c ≠ P := fun z => by
      rw [z, tab1] at ho
      cases ho
      cases hdat
    have cell2 : s2.heap.IsCell c (some u) := ⟨o, kept c o nP ho, hdat⟩
    exact wpAny_Name (wpAny_loadName_free kind hl (clo_look (PySem.mem_of_lookup hl) hc) cell2 (h u ru) hcd) hd

/-- the test «x in y» of a sign, y a text of the def around -/
theorem steps_in {P : Addr} {scope : Scope} {x y : Str} {iy : Nat} {L a : Str} {s1 : Shared} {ps : Array Value} {p1 p2 p3 p4 : Pos}
    (I1 : Inv X pins σ H s1) (tab : H P = some (.tbl ps)) (S : GxR.GenS X.env scope x) (hN : X.N[iy]? = some y) (hv : σ[iy]? = some (some (.str L))) (hk : X.env.kindOf y = some .cell) (hl : scope.names.lookup y = some .free)
    (hd : (y == ("__debug__" : Str)) = false) (hcd : (y == ("__classdict__" : Str)) = false) (hdx : (x == ("__debug__" : Str)) = false) :
    Steps X pins σ scope x [.Compare (.Name x p1) [.In] [.Name y p2] p3] (.Name x p4) P a (fun c => decide (c ∈ L.cps.toList)) (fun c v => ∃ t, v = .str ⟨#[c]⟩ t) s1 := by
  refine ⟨fun C code bi A' E' c t s2 m2 hA hc hn hm kept => ?_, fun C code bi A' E' c t s2 m2 hA hc hp hn hm kept => ?_⟩
  · unfold testsRun
    simp only [List.forIn_cons, List.forIn_nil, if_true]
    refine wpAny_bind (wpAny_bind (wpAny_isTrue_Compare1 ?_))
    refine wpAny_Name (wpAny_loadName_local (env := genEnv scope (cloFrom X.env.cells scope.names []) C code bi X.env) S.kind S.loc hn hm ?_) hdx
    refine ld_free I1 tab hN hv hk S.kind hl kept hd hcd fun u ru => ?_
    obtain ⟨t', rfl⟩ := (show ∃ t', u = Value.str L t' from ru)
    refine PyProof.Rows.in_str ?_
    refine wpAny_truthy_bool ?_
    refine wpAny_pure ?_
    show wpAny _ _ (pure _) _ _ _
    refine wpAny_pure ⟨PySem.StrLaws.found_one L c, GxR.keeps_refl _⟩
  · refine wpAny_Name (wpAny_loadName_local (env := genEnv scope (cloFrom X.env.cells scope.names []) C code bi X.env) S.kind S.loc hn hm ?_) hdx
    exact ⟨⟨t, rfl⟩, GxR.keeps_refl _⟩

/-- the reading: W, a text; L stands in the i-th slot -/
def tKept (P : Addr) (i : Nat) (te : TE) : TE := fun σ H Q => te σ H fun v H1 => ∃ a : Str, v = .str a ∧ GxR.TabG H1 P ∧ ∃ L : Str, σ[i]? = some (some (.str L)) ∧ a.cps.toList.length ≤ 1000 ∧
  ∀ H2, GxR.Tabbed P H1 H2 → Q (.str ⟨(a.cps.toList.filter fun c => decide (c ∈ L.cps.toList)).toArray⟩) H2

theorem joinOk_ones (l : List Nat) (h : l.length ≤ 1000) : JoinOk ⟨#[]⟩ (l.map fun c => (⟨#[c]⟩ : Str)) = true := by
  unfold JoinOk
  have key : ∀ (l : List Nat) (n : Nat), (l.map fun c => (⟨#[c]⟩ : Str)).foldl (fun a b => a + b.length + (⟨#[]⟩ : Str).length) n = n + l.length := by
    intro l
    induction l with
    | nil => intro n; rfl
    | cons x r ih =>
      intro n
      rw [List.map_cons, List.foldl_cons, ih, List.length_cons]
      show n + 1 + 0 + r.length = n + (r.length + 1)
      omega
  rw [List.foldl_toArray, key]
  have : PySem.Builtin.Str.tooLong (0 + l.length) = false := by
    unfold PySem.Builtin.Str.tooLong
    simp only [decide_eq_false_iff_not]
    have : sizeLine = 16777216 := rfl
    omega
  rw [this]
  rfl

theorem pe_kept {c P : Addr} {j : Nat} {iter : Expr} {x y : Str} {iy : Nat} {px p1 p2 p3 p4 p5 apos cpos gpos : Pos} {scope : Scope} {te : TE} {k : Nat}
    (room : Room k X.A) (TB : GxR.TabB X.base X.mg c P) (codeAt : X.env.code = .ref c) (gen : genOk X.env.scope.names scope x = true) (hi : PE X iter te)
    (hN : X.N[iy]? = some y) (hk : X.env.kindOf y = some .cell) (hl : scope.names.lookup y = some .free)
    (plain : ∀ v, genFold iter X.env v = pure v) (hd : (y == ("__debug__" : Str)) = false := by decide) (hcd : (y == ("__classdict__" : Str)) = false := by decide) (hdx : (x == ("__debug__" : Str)) = false := by decide)
    (base : attributeBase (.Constant (.str ⟨#[]⟩) j p5) "join" X.env (eval (.Constant (.str ⟨#[]⟩) j p5) X.env) = eval (.Constant (.str ⟨#[]⟩) j p5) X.env := by rfl)
    (few : ((backTo cpos (starEach [.GeneratorExp (.Name x p4) [⟨.Name x px, iter, [.Compare (.Name x p1) [.In] [.Name y p2] p3], 0⟩] scope gpos] X.env)).all (fun x => !x.1) && (backToKw cpos (keywordEach [] X.env)).all (fun x => x.1.isSome)
      && decide (([.GeneratorExp (.Name x p4) [⟨.Name x px, iter, [.Compare (.Name x p1) [.In] [.Name y p2] p3], 0⟩] scope gpos] : List Expr).length + ([] : List Keyword).length + (if ([] : List Keyword).isEmpty then 0 else 1) < 30)) = true := by rfl)
    (line : (apos.endLine == cpos.line) = true := by rfl)
    (each : starEach [.GeneratorExp (.Name x p4) [⟨.Name x px, iter, [.Compare (.Name x p1) [.In] [.Name y p2] p3], 0⟩] scope gpos] X.env
      = (false, eval (.GeneratorExp (.Name x p4) [⟨.Name x px, iter, [.Compare (.Name x p1) [.In] [.Name y p2] p3], 0⟩] scope gpos) X.env) :: starEach [] X.env := by rfl)
    (bare : (backTo cpos (starEach [] X.env)).any (·.1) = false := by rfl) :
    PE X (.Call (.Attribute (.Constant (.str ⟨#[]⟩) j p5) "join" apos) [.GeneratorExp (.Name x p4) [⟨.Name x px, iter, [.Compare (.Name x p1) [.In] [.Name y p2] p3], 0⟩] scope gpos] [] cpos) (tKept P iy te) := by
  refine ⟨fun pins s σ H Q I h => ?_⟩
  have S := gens_of I.ok gen
  refine wpAny_Call_method_late base few line rfl (Calls.Constant_str ?_)
  refine ⟨"str", _, PySem.F.plainAttrs_str, PySem.F.slot_str_join, PySem.F.type_str_join, typeIs_str _ _ _, (fun _ e => nomatch e), ?_⟩
  rw [each]
  refine Calls.callWith_builtin (by show (false || (backTo cpos (starEach [] X.env)).any (·.1)) = false; rw [bare] <;> rfl) (Calls.evalArgs_plain ?_)
  have I' := I.tok (s.toks + 1)
  refine Calls.spliced_cons (gen_text (pz := fun a c => match σ[iy]? with | some (some (.str L)) => decide (c ∈ L.cps.toList) | _ => false) (F := fun a c v => ∃ t, v = .str ⟨#[c]⟩ t)
    (R := fun a H1 => ∃ L : Str, σ[iy]? = some (some (.str L)) ∧ a.cps.toList.length ≤ 1000 ∧ ∀ H2, GxR.Tabbed P H1 H2 → Q (.str ⟨(a.cps.toList.filter fun c => decide (c ∈ L.cps.toList)).toArray⟩) H2)
    room TB codeAt S hi plain I' h (fun a H1 s1 I1 tb r => ?_) fun a H1 g s5 hR hG => ?_)
  · obtain ⟨ps, tab, _⟩ := tb
    obtain ⟨L, hv, _⟩ := r
    rw [hv]
    exact steps_in I1 tab S hN hv hk hl hd hcd hdx
  refine Calls.spliced_nil ?_
  obtain ⟨L, hv, small, q⟩ := hR
  rw [hv] at hG
  obtain ⟨fp, wr, G, F, St, W, _, hst, hfp, hg, hT, hstr, back⟩ := hG
  have hlen : (a.cps.toList.filter fun c => decide (c ∈ L.cps.toList)).length ≤ 1000 := Nat.le_trans (List.length_filter_le _ _) small
  refine PySem.SC.joinGen W hT hst hfp hg (fun i v hv => ?_) (fun s' l hm hio => ?_) (Nat.le_trans hlen (by decide))
  · obtain ⟨cc, _, t, e⟩ := hstr i v hv
    exact ⟨_, _, e⟩
  · have e : l.map (·.1) = (a.cps.toList.filter fun c => decide (c ∈ L.cps.toList)).map fun c => (⟨#[c]⟩ : Str) := by
      have n0 : l.length = (a.cps.toList.filter fun c => decide (c ∈ L.cps.toList)).length := by
        have e0 := hio.1
        rw [List.size_toArray] at e0
        unfold strValues at e0
        rw [List.length_map] at e0
        exact e0
      refine List.ext_getElem? fun j => ?_
      rw [List.getElem?_map, List.getElem?_map]
      cases hj : l[j]? with
      | none =>
        have h1 : (a.cps.toList.filter fun c => decide (c ∈ L.cps.toList))[j]? = none := by
          rw [List.getElem?_eq_none_iff] at hj ⊢
          omega
        rw [h1]
        rfl
      | some p =>
        have h2 : (strValues l).toArray[j]? = some (.str p.1 p.2) := by
          rw [List.getElem?_toArray]
          unfold strValues
          rw [List.getElem?_map, hj]
          rfl
        obtain ⟨cc, hc, t, ev⟩ := hstr j _ (hio.2 j _ h2)
        rw [hc]
        injection ev with ev1
        show some p.1 = some _
        rw [ev1]
    obtain ⟨H3, ht, J⟩ := back s' hm
    rw [e]
    refine ⟨joinOk_ones _ hlen, fun t' k' => ⟨.str _, H3, J.tok k', ⟨t', ?_⟩, q H3 ht⟩⟩
    have e2 := join_ones (a.cps.toList.filter fun c => decide (c ∈ L.cps.toList))
    unfold Txt.join
    rw [PySem.StrLaws.glued_eq_join, e2]
end
end TcG
/-! min, max of two texts; a text unpacked into names. -/
namespace TcG
open PySem PySem.Spec PyProof.Rows L2

/-- the text of these signs -/
def tx (l : List Nat) : Str := ⟨l.toArray⟩
theorem tx_list (l : List Nat) : (tx l).cps.toList = l := rfl
theorem tx_inj {a b : List Nat} (h : tx a = tx b) : a = b := by
  have := congrArg (fun s : Str => s.cps.toList) h
  exact this
theorem tx_of (s : Str) : s = tx s.cps.toList := by
  cases s
  rfl
theorem tx_eq {a b : List Nat} : decide (V.str (tx a) = V.str (tx b)) = decide (a = b) := by
  by_cases h : a = b
  · rw [h]
    simp
  · rw [decide_eq_false h]
    exact decide_eq_false fun z => h (tx_inj (V.str.inj z))
theorem tx_append (a b : List Nat) : tx a ++ tx b = tx (a ++ b) := by
  show Str.append _ _ = _
  unfold Str.append tx
  simp
theorem tx_length (l : List Nat) : (tx l).length = l.length := by
  show l.toArray.size = l.length
  simp

section
variable {prog : Program} {w : World} {A : Around} {E : Value → Shared → Prop} {s : Shared}

def two (p q : Str) (t u : Tok) : Array Value := #[.str p t, .str q u]

theorem cmp_two {op : CmpOp} {p q : Str} {t u : Tok} {r : Str → Str → Bool}
    (h : ∀ (x y : Str) (t u : Tok) (A' : Around) (s : Shared) (Q : Value → Shared → Prop) (E : Value → Shared → Prop), Q (.bool (r x y)) s → wpAny (model prog w) A' (richCompare op (.str x t) (.str y u)) Q E s) :
    CmpOf prog w A op (fun i v => (two p q t u)[i]? = some v) (fun i j => match i, j with | 1, 0 => r q p | 0, 1 => r p q | 0, 0 => r p p | _, _ => r q q) := by
  intro i j a b s Q E ha hb hQ
  match i, j with
  | 0, 0 => cases ha; cases hb; exact h _ _ _ _ _ _ _ _ hQ
  | 0, 1 => cases ha; cases hb; exact h _ _ _ _ _ _ _ _ hQ
  | 1, 0 => cases ha; cases hb; exact h _ _ _ _ _ _ _ _ hQ
  | 1, 1 => cases ha; cases hb; exact h _ _ _ _ _ _ _ _ hQ
  | i + 2, _ => simp [two] at ha
  | 0, j + 2 => simp [two] at hb
  | 1, j + 2 => simp [two] at hb

theorem min_two_texts {p q : Str} {t u : Tok} {Q : Value → Shared → Prop} (hh : A.handled = none)
    (h : ∀ h' tk t', (∀ c o, s.heap.get? c = some o → h'.get? c = some o) → Q (.str (if q.cps.toList < p.cps.toList then q else p) t') { s with heap := h', toks := tk }) :
    wpAny (model prog w) A (call (.builtin "min") [.str p t, .str q u]) Q E s := by
  have tupAt : (s.heap.push { cls := .type "tuple", data := .seq #[.str p t, .str q u] }).IsTuple s.heap.objs.size (two p q t u) := ⟨_, Heap.get?_push_size _ rfl, rfl, 0, by rfl⟩
  refine call_min_two (wpAny_pyIter_tuple tupAt ?_)
  have sz : (s.heap.push { cls := .type "tuple", data := .seq #[.str p t, .str q u] }).objs.size = s.heap.objs.size + 1 := Heap.size_push ..
  refine ⟨_, [_, s.heap.objs.size], [_], _, _, _, _, rfl,
    Walks.tuple (A := A.in1) hh _ s.heap.objs.size (by rw [sz]; exact Nat.ne_of_lt (Nat.lt_succ_self _)) (two p q t u),
    ⟨⟨_, Heap.get?_push_size _ rfl, rfl, rfl⟩, tupAt.push _⟩, fun c hc => ?_, (by decide : 0 < 2), cmp_two (r := fun x y => decide (x.cps.toList < y.cps.toList)) (fun x y t u A' s Q E hq => PyProof.Rows.lt_str hq), fun v h' tk hP hk => ?_⟩
  · show c < ((s.heap.push _).push _).objs.size
    rw [Heap.size_push, sz]
    rcases List.mem_cons.mp hc with z | z
    · rw [z, sz]
      exact Nat.lt_succ_self _
    · rcases List.mem_cons.mp z with z | z
      · rw [z]
        exact Nat.lt_succ_of_lt (Nat.lt_succ_self _)
      · cases z
  · have old : ∀ c o, s.heap.get? c = some o → h'.get? c = some o := fun c o e => by
      refine hk c o (fun hm => ?_) (Heap.get?_push_of_some _ (Heap.get?_push_of_some _ e))
      rcases List.mem_cons.mp hm with z | z
      · have lt := Heap.lt_size e
        rw [z, sz] at lt
        exact Nat.lt_irrefl _ (Nat.lt_of_succ_lt lt)
      · cases z
    by_cases hba : q.cps.toList < p.cps.toList
    · have e : v = .str q u := by
        have hP2 : (two p q t u)[argBest (fun i j => match i, j with | 1, 0 => decide (q.cps.toList < p.cps.toList) | 0, 1 => decide (p.cps.toList < q.cps.toList) | 0, 0 => decide (p.cps.toList < p.cps.toList) | _, _ => decide (q.cps.toList < q.cps.toList)) 1]? = some v := hP
        simp [argBest, hba, two] at hP2
        exact hP2.symm
      have := h h' tk u old
      rw [if_pos hba] at this
      rw [e]
      exact this
    · have e : v = .str p t := by
        have hP2 : (two p q t u)[argBest (fun i j => match i, j with | 1, 0 => decide (q.cps.toList < p.cps.toList) | 0, 1 => decide (p.cps.toList < q.cps.toList) | 0, 0 => decide (p.cps.toList < p.cps.toList) | _, _ => decide (q.cps.toList < q.cps.toList)) 1]? = some v := hP
        simp [argBest, hba, two] at hP2
        exact hP2.symm
      have := h h' tk t old
      rw [if_neg hba] at this
      rw [e]
      exact this

theorem max_two_texts {p q : Str} {t u : Tok} {Q : Value → Shared → Prop} (hh : A.handled = none)
    (h : ∀ h' tk t', (∀ c o, s.heap.get? c = some o → h'.get? c = some o) → Q (.str (if p.cps.toList < q.cps.toList then q else p) t') { s with heap := h', toks := tk }) :
    wpAny (model prog w) A (call (.builtin "max") [.str p t, .str q u]) Q E s := by
  have tupAt : (s.heap.push { cls := .type "tuple", data := .seq #[.str p t, .str q u] }).IsTuple s.heap.objs.size (two p q t u) := ⟨_, Heap.get?_push_size _ rfl, rfl, 0, by rfl⟩
  refine call_max_two (wpAny_pyIter_tuple tupAt ?_)
  have sz : (s.heap.push { cls := .type "tuple", data := .seq #[.str p t, .str q u] }).objs.size = s.heap.objs.size + 1 := Heap.size_push ..
  refine ⟨_, [_, s.heap.objs.size], [_], _, _, _, _, rfl,
    Walks.tuple (A := A.in1) hh _ s.heap.objs.size (by rw [sz]; exact Nat.ne_of_lt (Nat.lt_succ_self _)) (two p q t u),
    ⟨⟨_, Heap.get?_push_size _ rfl, rfl, rfl⟩, tupAt.push _⟩, fun c hc => ?_, (by decide : 0 < 2), cmp_two (r := fun x y => decide (y.cps.toList < x.cps.toList)) (fun x y t u A' s Q E hq => PySem.P.gt_str hq), fun v h' tk hP hk => ?_⟩
  · show c < ((s.heap.push _).push _).objs.size
    rw [Heap.size_push, sz]
    rcases List.mem_cons.mp hc with z | z
    · rw [z, sz]
      exact Nat.lt_succ_self _
    · rcases List.mem_cons.mp z with z | z
      · rw [z]
        exact Nat.lt_succ_of_lt (Nat.lt_succ_self _)
      · cases z
  · have old : ∀ c o, s.heap.get? c = some o → h'.get? c = some o := fun c o e => by
      refine hk c o (fun hm => ?_) (Heap.get?_push_of_some _ (Heap.get?_push_of_some _ e))
      rcases List.mem_cons.mp hm with z | z
      · have lt := Heap.lt_size e
        rw [z, sz] at lt
        exact Nat.lt_irrefl _ (Nat.lt_of_succ_lt lt)
      · cases z
    by_cases hba : p.cps.toList < q.cps.toList
    · have e : v = .str q u := by
        have hP2 : (two p q t u)[argBest (fun i j => match i, j with | 1, 0 => decide (p.cps.toList < q.cps.toList) | 0, 1 => decide (q.cps.toList < p.cps.toList) | 0, 0 => decide (p.cps.toList < p.cps.toList) | _, _ => decide (q.cps.toList < q.cps.toList)) 1]? = some v := hP
        simp [argBest, hba, two] at hP2
        exact hP2.symm
      have := h h' tk u old
      rw [if_pos hba] at this
      rw [e]
      exact this
    · have e : v = .str p t := by
        have hP2 : (two p q t u)[argBest (fun i j => match i, j with | 1, 0 => decide (p.cps.toList < q.cps.toList) | 0, 1 => decide (q.cps.toList < p.cps.toList) | 0, 0 => decide (p.cps.toList < p.cps.toList) | _, _ => decide (q.cps.toList < q.cps.toList)) 1]? = some v := hP
        simp [argBest, hba, two] at hP2
        exact hP2.symm
      have := h h' tk t old
      rw [if_neg hba] at this
      rw [e]
      exact this

/-- n items of a walk from i on -/
theorem draw_walk {I : Addr} {fp wr : List Addr} {N : Nat} {P : Nat → Value → Prop} {St : Nat → Heap → Prop} (W : Walks prog w A I fp wr N P St) : ∀ (n i : Nat) (s : Shared) (Q : List Value → Shared → Prop), St i s.heap → i + n ≤ N →
    (∀ vs h' tk, vs.length = n → (∀ j v, vs[j]? = some v → P (i + j) v) → St (i + n) h' → (∀ b o, b ∉ wr → s.heap.get? b = some o → h'.get? b = some o) → Q vs { s with heap := h', toks := tk }) → wpAny (model prog w) A (draw (.ref I) n) Q E s
  | 0, i, s, Q, st, _, hQ => by
    show wpAny _ _ (pure []) Q E s
    exact wpAny_pure (hQ [] s.heap s.toks rfl (fun j v hj => by simp at hj) st fun _ _ _ e => e)
  | n + 1, i, s, Q, st, hle, hQ => by
    show wpAny _ _ (pyNext (.ref I) >>= _) Q E s
    refine wpAny_bind (W.item i s _ _ (by omega) st fun v h1 tk1 hv st1 k1 => ?_)
    refine wpAny_bind (wpAny_holding (draw_walk W n (i + 1) _ _ st1 (by omega) fun vs h2 tk2 hl hvs st2 k2 => wpAny_pure ?_))
    refine hQ (v :: vs) h2 tk2 (by rw [List.length_cons, hl]) (fun j x hj => ?_) ?_ fun b o hb e => k2 b o hb (k1 b o hb e)
    · cases j with
      | zero =>
        cases hj
        exact hv
      | succ j =>
        have := hvs j x (by simpa using hj)
        rw [show i + (j + 1) = i + 1 + j by omega]
        exact this
    · rw [show i + (n + 1) = i + 1 + n by omega]
      exact st2

theorem items_text {x : Str} {t : Tok} {n : Nat} {Q : List Value → Shared → Prop} (hh : A.handled = none) (hn : n = x.cps.size)
    (hQ : ∀ vs h' tk, vs.length = n → (∀ (j : Nat) v, vs[j]? = some v → SignAt x j v) → (∀ b o, s.heap.get? b = some o → h'.get? b = some o) → Q vs { s with heap := h', toks := tk }) :
    wpAny (model prog w) A (unpackItems (.str x t) n none) Q E s := by
  unfold unpackItems
  refine wpAny_bind ?_
  · unfold notIterableAtAll
    refine wpAny_bind (wpAny_specialOf (typeIs_str s x t) PySem.F.slot_str_iter.lookup ?_)
    refine wpAny_pure ?_
    simp only [Bool.false_eq_true, if_false]
    refine wpAny_bind (wpAny_holding (wpAny_pyIter_str fun o St W hst => ?_))
    have W := W A hh
    refine wpAny_bind (wpAny_holding (draw_walk W n 0 _ _ hst (by omega) fun vs h1 tk1 hl hvs st1 k1 => ?_))
    rw [if_neg (by omega)]
    have st1 : St x.cps.size h1 := by
      rw [← hn]
      simpa using st1
    refine wpAny_bind (wpAny_holding (W.done _ _ _ st1 fun h2 tk2 k2 => ?_))
    simp only [Option.isSome_none, Bool.false_eq_true, if_false]
    refine wpAny_pure (hQ vs h2 tk2 hl (fun j v hj => by simpa using hvs j v hj) fun b o e => ?_)
    have nb : b ∉ [s.heap.objs.size] := fun z => by
      rcases List.mem_cons.mp z with z | z
      · exact Nat.ne_of_lt (Heap.lt_size e) z
      · cases z
    exact k2 b o nb (k1 b o nb (Heap.get?_push_of_some _ e))
end

section
variable {X : Cx} {pos : Pos}
theorem call_minT (hc : X.calm = true) : CallR X (.builtin "min") (fun xs H Q => ∃ p q : Str, xs = [.str p, .str q] ∧ Q (.str (if q.cps.toList < p.cps.toList then q else p)) H) := by
  intro pins s σ H xs us Q I r h
  obtain ⟨p, q, rfl, hq⟩ := h
  obtain ⟨u, w', rfl, ⟨t, rfl⟩, ⟨t', rfl⟩⟩ := vals2 r
  exact min_two_texts (I.ok.hd hc) fun h' tk t2 k => ⟨.str _, H, I.kept k, ⟨t2, rfl⟩, hq⟩
theorem call_maxT (hc : X.calm = true) : CallR X (.builtin "max") (fun xs H Q => ∃ p q : Str, xs = [.str p, .str q] ∧ Q (.str (if p.cps.toList < q.cps.toList then q else p)) H) := by
  intro pins s σ H xs us Q I r h
  obtain ⟨p, q, rfl, hq⟩ := h
  obtain ⟨u, w', rfl, ⟨t, rfl⟩, ⟨t', rfl⟩⟩ := vals2 r
  exact max_two_texts (I.ok.hd hc) fun h' tk t2 k => ⟨.str _, H, I.kept k, ⟨t2, rfl⟩, hq⟩

/-- (a, b, ..) = a text of as many signs -/
def gUnT (n : Nat) (t : TGs) : TG := fun v σ H Q => ∃ l : List Nat, v = .str (tx l) ∧ l.length = n ∧ t (l.map fun c => .str (tx [c])) σ H Q
theorem pg_unT {es : List Expr} {k : Nat} {t : TGs} {n : Nat} (hc : X.calm = true) (h : PGs X es t)
    (hn : (assignEach es X.env).length = n := by rfl) (hst : (assignEach es X.env).findIdx? (·.1) = none := by rfl) : PG X (.Tuple es k pos) (gUnT n t) := by
  refine ⟨fun pins s σ H v u Q I r hw => ?_⟩
  obtain ⟨l, rfl, hl, hw⟩ := hw
  obtain ⟨tk, rfl⟩ := (show ∃ tk, u = Value.str (tx l) tk from r)
  rw [PyProof.Rows.assign_Tuple]
  refine wpAny_bind (wpAny_standAt ?_)
  unfold unpack
  rw [hn, hst]
  have sz : (tx l).cps.size = l.length := tx_length l
  refine wpAny_bind (wpAny_holding (items_text (I.ok.hd hc) (by rw [sz, hl]) fun vs h' tk' hvl hvs kp => ?_))
  have I1 : Inv X pins σ H { s with heap := h', toks := tk' } := I.kept kp
  refine h.run pins _ σ H _ _ Q I1 ?_ hw
  have key : ∀ (l : List Nat) (vs : List Value), vs.length = l.length → (∀ (j : Nat) v, vs[j]? = some v → ∃ c u, l[j]? = some c ∧ v = .str ⟨#[c]⟩ u) → Vals (l.map fun c => .str (tx [c])) vs := by
    intro l
    induction l with
    | nil =>
      intro vs e _
      cases vs with
      | nil => exact .nil
      | cons _ _ => cases e
    | cons c r ih =>
      intro vs e h
      cases vs with
      | nil => cases e
      | cons v vs =>
        obtain ⟨c', u, e1, rfl⟩ := h 0 v rfl
        cases e1
        exact .cons ⟨u, rfl⟩ (ih vs (Nat.succ.inj e) fun j v hj => h (j + 1) v hj)
  refine key l vs (by rw [hvl, hl]) fun j v hj => ?_
  obtain ⟨c, u, e1, e2⟩ := hvs j v hj
  exact ⟨c, u, by simpa [tx] using e1, e2⟩
end
end TcG
/-! Defs whose code object is known; the end of a law in which several defs hold generator expressions. -/
namespace TcG
open PySem PySem.Spec PyProof.Rows L2

/-- a def of the text whose code object stands at c -/
structure FunC (K : PySem.W.Frag) (x qual : Str) (st : Stmt) (f : Addr) (fd : FuncData) (c : Addr) : Prop where
  ex : ∃ (oc : Value) (od : Option Addr) (kV doc pm : Value) (an : Option Addr) (ct : Value) (osl : Array (Option Value)),
    fd = PySem.W.fnOf x qual (defArgs st) (defBody st) (defScope st) .none kV doc pm an (.ref c) ct ∧ K.lookup f = some ⟨oc, od, .func fd, osl⟩ ∧ PySem.W.codeIn K (.ref c) qual = true
  kp : PySem.W.keepIn K (.ref f) = true
section
variable {P : Program} {w : World} {K : PySem.W.Frag} {mg : Str → Option Value} {base : Heap}
theorem FunC.fun {x qual : Str} {st : Stmt} {f : Addr} {fd : FuncData} {c : Addr} (F : FunC K x qual st f fd c) : Fun K x qual st f fd := by
  obtain ⟨oc, od, kV, doc, pm, an, ct, osl, h1, h2, h3⟩ := F.ex
  exact ⟨⟨oc, od, kV, doc, pm, an, .ref c, ct, osl, h1, h2, h3⟩, F.kp⟩
theorem FunC.ok {x qual : Str} {st : Stmt} {f : Addr} {fd : FuncData} {c : Addr} {N ps : List Str} {k : Nat} {sp : Sp} (F : FunC K x qual st f fd c) (S : FnScope N ps (defScope st)) (len : ∀ vs H Q E, sp vs H Q E → vs.length = ps.length)
    (body : ∀ (A : Around) (outer : List Env) (s : Shared) (H : Hp) (vs : List V) (Q : VK) (E : XK), Room k (A.deeper (envOfC qual (defScope st) s.heap.objs.size f (.ref c))) → sp vs H Q E →
      ∃ t, PSs (cxOf CX0 P w K mg base N qual (defScope st) f (.ref c) A outer s H E).nox (defBody st) t ∧ t { nx := fun _ H' => Q .non H', rt := Q } (start N vs) H) : FnOk P w K mg base CX0 (k + 1) f fd ps sp := by
  obtain ⟨oc, od, kV, doc, pm, an, ct, osl, rfl, lk, code⟩ := F.ex
  refine fn_of lk code S len fun A outer s H vs Q E hr h => ?_
  obtain ⟨t, ht, q⟩ := body A outer s H vs Q E hr h
  exact ⟨t, ht.nox, q⟩
theorem func_mk {x qual : Str} {st : Stmt} {f c : Addr} {oc : Value} {od an : Option Addr} {osl : Array (Option Value)} {kV doc pm ct : Value} (l : K.lookup f = some ⟨oc, od, .func (PySem.W.fnOf x qual (defArgs st) (defBody st) (defScope st) .none kV doc pm an (.ref c) ct), osl⟩)
    (i : PySem.W.codeIn K (.ref c) qual = true) (k : PySem.W.keepIn K (.ref f) = true) : FunC K x qual st f (PySem.W.fnOf x qual (defArgs st) (defBody st) (defScope st) .none kV doc pm an (.ref c) ct) c := ⟨⟨oc, od, kV, doc, pm, an, ct, osl, rfl, l, i⟩, k⟩
end

/-- what the end knows of a def of the view: its code object and the empty table -/
def TabOf (mg : Str → Option Value) (h : Heap) (x : Str) : Prop :=
  ∃ (f : Addr) (o : Obj) (fd : FuncData) (c P : Addr), mg x = some (.ref f) ∧ h.get? f = some o ∧ o.data = .func fd ∧ fd.code = .ref c ∧ PySem.W.CodeHd h c P ∧ h.get? P = some { cls := .none, data := .fields #[] }
open LamX in
theorem walk_ofMany {l : PySem.W.OpenLaw} {n k : Nat} {q : Program} {loose : List Str} {XP : (Str → Option Value) → Heap → Prop} {YP : World → Heap → Prop} {d : DefRec} {K : Params → PySem.W.Frag} {CX : World → CXT} {x : Str}
    (most : l.most = some n) (size : n ≤ sizeLine) (plain : d.params.defaults = []) (room : Room k callerA) (hY : ∀ (w : World) (h : Heap), YP w h → (K w.params).In h)
    (F : ∀ (w : World) (mg : Str → Option Value) (fa : Addr) (h : Heap), (K w.params).In h → h.Ns mainGlobals mg → mg d.name = some (.ref fa) → (∀ y : Str, ((recsOf q).any fun e => e.name == y) = true → TabOf mg h y) → LawAtS l w (K w.params) (CX w) k n x mg fa h)
    (hCX : ∀ (w : World) (H : Hp) (s : Shared) (e : Value) (s' : Shared), CX w [] H s (fun _ _ _ => False) e s' → False) :
    PySem.W.WalkO q loose XP YP l.row.toRowW d [] (fun f vs => PySem.call f vs) := by
  refine Att.attach_callB most plain fun w s0 s1 mg mb fa o pm cd doc a vs ns G Y ho hd hcd hmg hobj hints hlen hbits hg => ?_
  have KX := hY w _ Y
  have tabs : ∀ y : Str, ((recsOf q).any fun e => e.name == y) = true → TabOf mg s1.heap y := fun y hy => by
    obtain ⟨e, he, en⟩ := List.any_eq_true.mp hy
    have en : e.name = y := beq_iff_eq.mp en
    obtain ⟨f', o', fd', c', P', g1, g2, g3, g4, g5, g6⟩ := G.T.tab e he
    rw [en] at g1
    exact ⟨f', o', fd', c', P', g1, g2, g3, g4, PySem.W.CodeHd.of g5 g6, g6.2⟩
  obtain ⟨fd, cs, sp, hT, nT, C, hb, hsp, hF⟩ := F w mg fa _ KX G.T.g hmg tabs
  exact law_callTs KX G.T.g G.T.b G.T.builtins G.T.nolimit hg hT nT C G.T.bmain hobj hints (Nat.le_trans hlen size) room hF hb (fun H hH hS => hsp H a ns hlen hbits hH hS) fun H e s' => hCX w H s1 e s'

/-- the table of a def, by what the written part tells -/
theorem tab_at {K : PySem.W.Frag} {mg : Str → Option Value} {h : Heap} {x : Str} {f c P : Addr} {oc e : Value} {od dd : Option Addr} {fd : FuncData} {osl sl : Array (Option Value)} {vs : Array Value} (KX : K.In h) (T : TabOf mg h x)
    (m : mg x = some (.ref f)) (l : K.lookup f = some ⟨oc, od, .func fd, osl⟩) (hc : fd.code = .ref c) (lc : K.lookup c = some ⟨e, dd, .fields vs, sl⟩) (hP : vs[11]? = some (.ref P)) :
    PySem.W.CodeHd h c P ∧ h.get? P = some { cls := .none, data := .fields #[] } := by
  obtain ⟨f', o', fd', c', P', g1, g2, g3, g4, g5, g6⟩ := T
  rw [m] at g1
  cases g1
  rw [KX _ _ l] at g2
  cases g2
  cases g3
  rw [hc] at g4
  cases g4
  have g5' := g5
  obtain ⟨o2, vs2, file, tf, flags, tg, inF, text, tt, e1, e2, e3, e4, _⟩ := g5'
  rw [KX _ _ lc] at e1
  cases e1
  cases e3
  rw [hP] at e4
  cases e4
  exact ⟨g5, g6⟩
end TcG
/-! What a call leaves as it was. -/
namespace TcG
open PySem PySem.Spec PyProof.Rows L2

theorem same_new {H : Hp} {p : Addr} {o : HO} (h : H p = none) : Same H (upd H p o) := fun b x e => by
  rw [upd_ne (ne_of_none e h)]
  exact e

/-- all but what stands at S is as it was -/
def Mv (S : List Addr) (H H' : Hp) : Prop := ∀ a o, a ∉ S → H a = some o → H' a = some o
theorem Mv.refl (S : List Addr) (H : Hp) : Mv S H H := fun _ _ _ e => e
theorem Mv.trans {S : List Addr} {H H1 H2 : Hp} (a : Mv S H H1) (b : Mv S H1 H2) : Mv S H H2 := fun c o n e => b c o n (a c o n e)
theorem Mv.of_same {S : List Addr} {H H1 : Hp} (a : Same H H1) : Mv S H H1 := fun c o _ e => a c o e
theorem Mv.wide {S T : List Addr} {H H1 : Hp} (a : Mv S H H1) (h : ∀ x ∈ S, x ∈ T) : Mv T H H1 := fun c o n e => a c o (fun z => n (h c z)) e
theorem Mv.new {S : List Addr} {H : Hp} {p : Addr} {o : HO} (h : H p = none) : Mv S H (upd H p o) := .of_same (same_new h)
theorem Mv.put {H : Hp} {p : Addr} {o : HO} : Mv [p] H (upd H p o) := fun a u n e => by
  rw [upd_ne (fun z => n (by rw [z]; exact List.mem_cons_self))]
  exact e
theorem Mv.tabbed {P : Addr} {H H' : Hp} (h : GxR.Tabbed P H H') : Mv [P] H H' := fun a o n e => by
  rw [h.2 a fun z => n (by rw [z]; exact List.mem_cons_self)]
  exact e
/-- an object of another kind stands elsewhere -/
theorem Mv.seqT {K : PySem.W.Frag} {S : List Addr} {H H' : Hp} {a : Addr} {xs : List V} (m : Mv S H H') (h : SqT K H a xs) (n : ∀ p ∈ S, ∀ u, Rd H p u → ∀ ys, u ≠ .tup ys) : SqT K H' a xs := by
  rcases h with h | h
  · have nS : a ∉ S := fun z => n a z _ h _ rfl
    rcases h with h | ⟨o, h⟩
    · exact .inl (.inl (m a _ nS h))
    · exact .inl (.inr ⟨o, m a _ nS h⟩)
  · exact .inr h
theorem Mv.seqL {K : PySem.W.Frag} {S : List Addr} {H H' : Hp} {a : Addr} {xs : List V} (m : Mv S H H') (h : SqL K H a xs) (n : ∀ p ∈ S, ∀ u, Rd H p u → u ≠ .lst xs) : SqL K H' a xs := by
  rcases h with h | h
  · have nS : a ∉ S := fun z => n a z _ h rfl
    rcases h with h | ⟨o, h⟩
    · exact .inl (.inl (m a _ nS h))
    · exact .inl (.inr ⟨o, m a _ nS h⟩)
  · exact .inr h
theorem Same.seqT {K : PySem.W.Frag} {H H' : Hp} {a : Addr} {xs : List V} (m : Same H H') (h : SqT K H a xs) : SqT K H' a xs :=
  (Mv.of_same (S := []) m).seqT h fun p hp => nomatch hp
theorem rd_of {H : Hp} {p : Addr} {o u : HO} (h : H p = some o) (hf : ∀ q v, o ≠ .frz q v) (r : Rd H p u) : u = o := by
  rcases r with r | ⟨q, r⟩
  · rw [h] at r
    cases r
    rfl
  · rw [h] at r
    cases r
    exact absurd rfl (hf _ _)
theorem fmod_range {x m : Int} (h : 0 < m) : 0 ≤ x.fmod m ∧ x.fmod m < m := by
  rw [Int.fmod_eq_emod_of_nonneg x (by omega)]
  exact ⟨Int.emod_nonneg _ (by omega), Int.emod_lt_of_pos _ h⟩

/-- the box of numbers that the law draws from: its digits stand at dl -/
def Box (K : PySem.W.Frag) (b dl : Addr) (H : Hp) : Prop := ∃ (ds : List Int) (n : Int), H b = some (.lst [.ref dl, .int n]) ∧ 0 ≤ n ∧ SqL K H dl (ds.map V.int)
theorem box_list_ne {dl : Addr} {n : Int} (ds : List Int) : HO.lst [V.ref dl, .int n] ≠ .lst (ds.map V.int) := fun z => by
  cases ds with
  | nil => cases z
  | cons x r => cases z
/-- the table grows, the box stays -/
theorem Box.mvT {K : PySem.W.Frag} {b dl P : Addr} {H H' : Hp} (h : Box K b dl H) (m : Mv [P] H H') (t : GxR.TabG H P) : Box K b dl H' := by
  obtain ⟨ds, n, hb, hn, hd⟩ := h
  obtain ⟨ps, tab, _⟩ := t
  have rd : ∀ u, Rd H P u → u = .tbl ps := fun u r => rd_of tab (fun _ _ z => by cases z) r
  refine ⟨ds, n, m b _ (fun z => ?_) hb, hn, m.seqL hd fun p hp u r => ?_⟩
  · rw [List.mem_singleton.mp z, tab] at hb
    cases hb
  · rw [List.mem_singleton.mp hp] at r
    rw [rd u r]
    intro z
    cases z
theorem Box.same {K : PySem.W.Frag} {b dl : Addr} {H H' : Hp} (h : Box K b dl H) (m : Same H H') : Box K b dl H' := by
  obtain ⟨ds, n, hb, hn, hd⟩ := h
  exact ⟨ds, n, m _ _ hb, hn, m.seq hd⟩
/-- what was made behind the box is changed -/
theorem Box.put {K : PySem.W.Frag} {b dl p : Addr} {o : HO} {H0 H : Hp} (h0 : Box K b dl H0) (np : H0 p = none) (h : Box K b dl H) : Box K b dl (upd H p o) := by
  obtain ⟨ds0, n0, hb0, _, hd0⟩ := h0
  obtain ⟨ds, n, hb, hn, hd⟩ := h
  have bp : b ≠ p := ne_of_none hb0 np
  rcases hd0 with hd0 | hd0
  · have dp : dl ≠ p := by
      rcases hd0 with z | ⟨q, z⟩
      · exact ne_of_none z np
      · exact ne_of_none z np
    refine ⟨ds, n, by rw [upd_ne bp]; exact hb, hn, ?_⟩
    rcases hd with (z | ⟨q, z⟩) | z
    · exact .inl (.inl (by rw [upd_ne dp]; exact z))
    · exact .inl (.inr ⟨q, by rw [upd_ne dp]; exact z⟩)
    · exact .inr z
  · exact ⟨ds0, n, by rw [upd_ne bp]; exact hb, hn, .inr hd0⟩
theorem Box.tabG {b dl P : Addr} {H H' : Hp} {K : PySem.W.Frag} (h : Box K b dl H) (m : Mv [b] H H') (t : GxR.TabG H P) : GxR.TabG H' P := by
  obtain ⟨ds, n, hb, hn, hd⟩ := h
  obtain ⟨ps, tab, tri⟩ := t
  refine ⟨ps, m P _ (fun z => ?_) tab, tri⟩
  rw [List.mem_singleton.mp z, hb] at tab
  cases tab
theorem Box.seqT {K : PySem.W.Frag} {b dl a : Addr} {H H' : Hp} {xs : List V} (h : Box K b dl H) (m : Mv [b] H H') (t : SqT K H a xs) : SqT K H' a xs := by
  obtain ⟨ds, n, hb, hn, hd⟩ := h
  refine m.seqT t fun p hp u r => ?_
  rw [List.mem_singleton.mp hp] at r
  rw [rd_of hb (fun _ _ z => by cases z) r]
  intro ys z
  cases z
theorem tab_seqT {K : PySem.W.Frag} {P a : Addr} {H H' : Hp} {xs : List V} (h : GxR.TabG H P) (m : Mv [P] H H') (t : SqT K H a xs) : SqT K H' a xs := by
  obtain ⟨ps, tab, _⟩ := h
  refine m.seqT t fun p hp u r => ?_
  rw [List.mem_singleton.mp hp] at r
  rw [rd_of tab (fun _ _ z => by cases z) r]
  intro ys z
  cases z
end TcG
/-! Loops and comprehensions over the signs of a text; alphabets. -/
namespace TcG
open PySem PySem.Spec PyProof.Rows L2

theorem its_go {l : List Nat} {i : Nat} {H : Hp} : (Its (tx l)).go i H ↔ i < l.length := by
  show i < (tx l).cps.size ↔ _
  rw [show (tx l).cps.size = l.length from tx_length l]
theorem its_stop {l : List Nat} {i : Nat} {H : Hp} : (Its (tx l)).stop i H ↔ l.length ≤ i := by
  show (tx l).cps.size ≤ i ↔ _
  rw [show (tx l).cps.size = l.length from tx_length l]
theorem its_yld {l : List Nat} {i : Nat} {H H' : Hp} {v : V} (h : (Its (tx l)).yld i H v H') : H' = H ∧ ∃ c, l[i]? = some c ∧ v = .str (tx [c]) := by
  obtain ⟨e, c, h1, h2⟩ := h
  exact ⟨e, c, by simpa [tx] using h1, h2⟩

/-- for c in a text -/
theorem for_text {l : List Nat} {g : TG} {tb : TS} {D : Ends} {σ : L2.St} {H : Hp} (Pv : Nat → L2.St → Hp → Prop) (h0 : Pv 0 σ H)
    (turn : ∀ i c σ H, l[i]? = some c → Pv i σ H → g (.str (tx [c])) σ H fun σ2 H2 => tb { D with nx := Pv (i + 1), ct := Pv (i + 1), bk := D.nx } σ2 H2) (out : ∀ σ H, Pv l.length σ H → D.nx σ H) :
    ∃ W : Nat → Nat → L2.St → Hp → Prop, (∃ m, W 0 m σ H) ∧ ∀ i m σ H, W i m σ H →
      ((Its (tx l)).stop i H ∧ D.nx σ H) ∨ ((Its (tx l)).go i H ∧ ∃ N : L2.St → Hp → Prop, (∀ σ' H', N σ' H' → ∃ m', m' < m ∧ W (i + 1) m' σ' H') ∧ ∀ x H', (Its (tx l)).yld i H x H' → g x σ H' fun σ2 H2 => tb { D with nx := N, ct := N, bk := D.nx } σ2 H2) := by
  refine ⟨fun i m σ H => m = l.length - i ∧ i ≤ l.length ∧ Pv i σ H, ⟨l.length, by simp, Nat.zero_le _, h0⟩, ?_⟩
  rintro i m σ H ⟨rfl, hi, p⟩
  by_cases lt : i < l.length
  · refine .inr ⟨its_go.mpr lt, Pv (i + 1), fun σ' H' p' => ⟨l.length - (i + 1), by omega, rfl, lt, p'⟩, fun x H' y => ?_⟩
    obtain ⟨e, c, hc, rfl⟩ := its_yld y
    subst e
    exact turn i c σ _ hc p
  · have e : i = l.length := by omega
    subst e
    exact .inl ⟨its_stop.mpr (Nat.le_refl _), out σ H p⟩

/-- [.. for c in a text if ..] -/
theorem lc_text {l : List Nat} {g : TG} {tt : TT} {te : TE} {vs : List Nat} {σ : L2.St} {H1 : Hp} {D : Addr} {Qd : Hp → Prop} (Pv : Nat → Hp → Prop) (h0 : Pv 0 (upd H1 D (.lst [])))
    (turn : ∀ i c H, l[i]? = some c → Pv i H → g (.str (tx [c])) (wipe σ vs) H fun σ2 H2 => wipe σ2 vs = wipe σ vs ∧ tt σ2 H2 fun b H3 =>
      if b = true then te σ2 H3 fun y H4 => ∃ acc, H4 D = some (.lst acc) ∧ acc.length < sizeLine ∧ Pv (i + 1) (upd H4 D (.lst (acc ++ [y]))) else Pv (i + 1) H3) (out : ∀ H, Pv l.length H → Qd H) :
    ∃ W : Nat → Nat → Hp → Prop, (∃ m, W 0 m (upd H1 D (.lst []))) ∧ ∀ i m H, W i m H →
      ((Its (tx l)).stop i H ∧ Qd H) ∨ ((Its (tx l)).go i H ∧ ∃ Nx : Hp → Prop, (∀ H', Nx H' → ∃ m', m' < m ∧ W (i + 1) m' H') ∧ ∀ x H', (Its (tx l)).yld i H x H' → g x (wipe σ vs) H' fun σ2 H2 => wipe σ2 vs = wipe σ vs ∧ tt σ2 H2 fun b H3 =>
        if b = true then te σ2 H3 fun y H4 => ∃ acc, H4 D = some (.lst acc) ∧ acc.length < sizeLine ∧ Nx (upd H4 D (.lst (acc ++ [y]))) else Nx H3) := by
  refine ⟨fun i m H => m = l.length - i ∧ i ≤ l.length ∧ Pv i H, ⟨l.length, by simp, Nat.zero_le _, h0⟩, ?_⟩
  rintro i m H ⟨rfl, hi, p⟩
  by_cases lt : i < l.length
  · refine .inr ⟨its_go.mpr lt, Pv (i + 1), fun H' p' => ⟨l.length - (i + 1), by omega, rfl, lt, p'⟩, fun x H' y => ?_⟩
    obtain ⟨e, c, hc, rfl⟩ := its_yld y
    subst e
    exact turn i c _ hc p
  · have e : i = l.length := by omega
    subst e
    exact .inl ⟨its_stop.mpr (Nat.le_refl _), out H p⟩

/-- the second clause of a comprehension, over a text -/
theorem lc2_text {l : List Nat} {g1 : TG} {tt1 : TT} {te : TE} {vs1 : List Nat} {σ2 : L2.St} {D : Addr} {H4 : Hp} {Nx : Hp → Prop} (Pv : Nat → Hp → Prop) (h0 : Pv 0 H4)
    (turn : ∀ i c H, l[i]? = some c → Pv i H → g1 (.str (tx [c])) (wipe σ2 vs1) H fun σ3 H5 => wipe σ3 vs1 = wipe σ2 vs1 ∧ tt1 σ3 H5 fun b H6 =>
        if b = true then te σ3 H6 fun y H7 => ∃ acc, H7 D = some (.lst acc) ∧ acc.length < sizeLine ∧ Pv (i + 1) (upd H7 D (.lst (acc ++ [y]))) else Pv (i + 1) H6) (out : ∀ H, Pv l.length H → Nx H) :
    ∃ W1 : Nat → Nat → Hp → Prop, (∃ m, W1 0 m H4) ∧ ∀ j k H, W1 j k H →
      ((Its (tx l)).stop j H ∧ Nx H) ∨ ((Its (tx l)).go j H ∧ ∃ Nx1 : Hp → Prop, (∀ H', Nx1 H' → ∃ k', k' < k ∧ W1 (j + 1) k' H') ∧ ∀ x H', (Its (tx l)).yld j H x H' → g1 x (wipe σ2 vs1) H' fun σ3 H5 => wipe σ3 vs1 = wipe σ2 vs1 ∧ tt1 σ3 H5 fun b H6 =>
        if b = true then te σ3 H6 fun y H7 => ∃ acc, H7 D = some (.lst acc) ∧ acc.length < sizeLine ∧ Nx1 (upd H7 D (.lst (acc ++ [y]))) else Nx1 H6) := by
  refine ⟨fun i m H => m = l.length - i ∧ i ≤ l.length ∧ Pv i H, ⟨l.length, by simp, Nat.zero_le _, h0⟩, ?_⟩
  rintro i m H ⟨rfl, hi, p⟩
  by_cases lt : i < l.length
  · refine .inr ⟨its_go.mpr lt, Pv (i + 1), fun H' p' => ⟨l.length - (i + 1), by omega, rfl, lt, p'⟩, fun x H' y => ?_⟩
    obtain ⟨e, c, hc, rfl⟩ := its_yld y
    subst e
    exact turn i c _ hc p
  · have e : i = l.length := by omega
    subst e
    exact .inl ⟨its_stop.mpr (Nat.le_refl _), out H p⟩
/-- .. and the first one -/
theorem lc2_first {l : List Nat} {n : Nat} {R : L2.St → Hp → (Hp → Prop) → Prop} {vs : List Nat} {σ : L2.St} {H1 : Hp} {D : Addr} {Qd : Hp → Prop} (Pv : Nat → Hp → Prop) (h0 : Pv 0 (upd H1 D (.lst [])))
    (turn : ∀ i c H, l[i]? = some c → Pv i H → wipe ((wipe σ vs).set n (some (.str (tx [c])))) vs = wipe σ vs ∧ R ((wipe σ vs).set n (some (.str (tx [c])))) H (Pv (i + 1))) (out : ∀ H, Pv l.length H → Qd H) :
    ∃ W : Nat → Nat → Hp → Prop, (∃ m, W 0 m (upd H1 D (.lst []))) ∧ ∀ i m H, W i m H →
      ((Its (tx l)).stop i H ∧ Qd H) ∨ ((Its (tx l)).go i H ∧ ∃ Nx : Hp → Prop, (∀ H', Nx H' → ∃ m', m' < m ∧ W (i + 1) m' H') ∧ ∀ x H', (Its (tx l)).yld i H x H' → gName n x (wipe σ vs) H' fun σ2 H2 => wipe σ2 vs = wipe σ vs ∧ tYes σ2 H2 fun b H3 =>
        if b = true then R σ2 H3 Nx else Nx H3) := by
  refine ⟨fun i m H => m = l.length - i ∧ i ≤ l.length ∧ Pv i H, ⟨l.length, by simp, Nat.zero_le _, h0⟩, ?_⟩
  rintro i m H ⟨rfl, hi, p⟩
  by_cases lt : i < l.length
  · refine .inr ⟨its_go.mpr lt, Pv (i + 1), fun H' p' => ⟨l.length - (i + 1), by omega, rfl, lt, p'⟩, fun x H' y => ?_⟩
    obtain ⟨e, c, hc, rfl⟩ := its_yld y
    subst e
    exact turn i c _ hc p
  · have e : i = l.length := by omega
    subst e
    exact .inl ⟨its_stop.mpr (Nat.le_refl _), out H p⟩

theorem take_next {α : Type} {l : List α} {i : Nat} {x : α} (h : l[i]? = some x) : l.take (i + 1) = l.take i ++ [x] := by
  rw [List.take_add_one, h]
  rfl

/-! ### rows of texts, alphabets -/
def txs (ps : List (List Nat)) : List V := ps.map fun p => .str (tx p)
theorem txs_flat (ps : List (List Nat)) : (txs ps).all flatV = true := by
  unfold txs
  rw [List.all_map, List.all_eq_true]
  intro p _
  rfl
theorem inV_txs (p : List Nat) (ps : List (List Nat)) : inV (.str (tx p)) (txs ps) = decide (p ∈ ps) := by
  unfold inV txs
  rw [List.any_map]
  have key : ∀ q : List Nat, ((fun y => eqV y (.str (tx p))) ∘ fun q => V.str (tx q)) q = decide (q = p) := fun q => by
    show (tx q == tx p) = _
    by_cases h : q = p
    · rw [h]
      simp
    · rw [decide_eq_false h]
      exact beq_eq_false_iff_ne.mpr fun z => h (tx_inj z)
  rw [Bool.eq_iff_iff, List.any_eq_true, decide_eq_true_eq]
  constructor
  · intro ⟨q, hq, e⟩
    rw [key] at e
    rw [← of_decide_eq_true e]
    exact hq
  · intro h
    exact ⟨p, h, by rw [key]; exact decide_eq_true rfl⟩
/-- the alphabet at a: letters ls, pairs ps -/
def Alpha (K : PySem.W.Frag) (H : Hp) (a : Addr) (ls : List Nat) (ps : List (List Nat)) : Prop :=
  ∃ pt, SqT K H a [.str "alphabet", .str (tx ls), .ref pt] ∧ SqT K H pt (txs ps)
theorem Alpha.same {K : PySem.W.Frag} {H H' : Hp} {a : Addr} {ls : List Nat} {ps : List (List Nat)} (h : Alpha K H a ls ps) (m : Same H H') : Alpha K H' a ls ps := by
  obtain ⟨pt, h1, h2⟩ := h
  exact ⟨pt, Same.seqT m h1, Same.seqT m h2⟩
theorem Alpha.mvB {K : PySem.W.Frag} {H H' : Hp} {a b dl : Addr} {ls : List Nat} {ps : List (List Nat)} (h : Alpha K H a ls ps) (bx : Box K b dl H) (m : Mv [b] H H') : Alpha K H' a ls ps := by
  obtain ⟨pt, h1, h2⟩ := h
  exact ⟨pt, bx.seqT m h1, bx.seqT m h2⟩
theorem Alpha.mvT {K : PySem.W.Frag} {H H' : Hp} {a P : Addr} {ls : List Nat} {ps : List (List Nat)} (h : Alpha K H a ls ps) (t : GxR.TabG H P) (m : Mv [P] H H') : Alpha K H' a ls ps := by
  obtain ⟨pt, h1, h2⟩ := h
  exact ⟨pt, tab_seqT t m h1, tab_seqT t m h2⟩
/-- whether two letters are independent -/
def ind (ps : List (List Nat)) (x y : Nat) : Bool := decide ([min x y, max x y] ∈ ps)
theorem ind_comm (ps : List (List Nat)) (x y : Nat) : ind ps x y = ind ps y x := by
  unfold ind
  rw [Nat.min_comm, Nat.max_comm]
/-- pairs tell the lesser letter first -/
def Pairs (ls : List Nat) (ps : List (List Nat)) : Prop := ∀ p ∈ ps, ∃ x y, p = [x, y] ∧ x < y ∧ x ∈ ls ∧ y ∈ ls
theorem ind_self {ls : List Nat} {ps : List (List Nat)} (h : Pairs ls ps) (x : Nat) : ind ps x x = false := by
  unfold ind
  refine decide_eq_false fun z => ?_
  obtain ⟨a, b, e, lt, _⟩ := h _ z
  simp at e
  omega
theorem ind_either {ls : List Nat} {ps : List (List Nat)} (h : Pairs ls ps) (x y : Nat) : (decide ([x, y] ∈ ps) || decide ([y, x] ∈ ps)) = ind ps x y := by
  unfold ind
  rw [Bool.eq_iff_iff, Bool.or_eq_true, decide_eq_true_eq, decide_eq_true_eq, decide_eq_true_eq]
  constructor
  · rintro (z | z)
    · obtain ⟨a, b, e, lt, _⟩ := h _ z
      simp at e
      rw [Nat.min_eq_left (by omega), Nat.max_eq_right (by omega)]
      exact z
    · obtain ⟨a, b, e, lt, _⟩ := h _ z
      simp at e
      rw [Nat.min_eq_right (by omega), Nat.max_eq_left (by omega)]
      exact z
  · intro z
    by_cases le : x ≤ y
    · rw [Nat.min_eq_left le, Nat.max_eq_right le] at z
      exact .inl z
    · rw [Nat.min_eq_right (by omega), Nat.max_eq_left (by omega)] at z
      exact .inr z
theorem tx_lt (a b : Nat) : decide ((tx [a]).cps.toList < (tx [b]).cps.toList) = decide (a < b) := by
  show decide ([a] < [b]) = _
  by_cases h : a < b
  · rw [decide_eq_true h]
    exact decide_eq_true (List.Lex.rel h)
  · rw [decide_eq_false h]
    refine decide_eq_false fun z => h ?_
    cases z with
    | rel r => exact r
    | cons r => cases r
theorem min_tx (x y : Nat) : (if (tx [y]).cps.toList < (tx [x]).cps.toList then tx [y] else tx [x]) = tx [min x y] := by
  have e := tx_lt y x
  by_cases h : y < x
  · rw [decide_eq_true h] at e
    rw [if_pos (of_decide_eq_true e), Nat.min_eq_right (by omega)]
  · rw [decide_eq_false h] at e
    rw [if_neg (of_decide_eq_false e), Nat.min_eq_left (by omega)]
theorem max_tx (x y : Nat) : (if (tx [x]).cps.toList < (tx [y]).cps.toList then tx [y] else tx [x]) = tx [max x y] := by
  have e := tx_lt x y
  by_cases h : x < y
  · rw [decide_eq_true h] at e
    rw [if_pos (of_decide_eq_true e), Nat.max_eq_right (by omega)]
  · rw [decide_eq_false h] at e
    rw [if_neg (of_decide_eq_false e), Nat.max_eq_left (by omega)]
end TcG
/-! What parts two words, as a function; numbers of letters in texts. -/
namespace TcG
open PySem PySem.Spec PyProof.Rows L2

theorem count_tx (a : List Nat) (c : Nat) : Txt.count (tx a) (tx [c]) = (a.count c : Int) := by
  have h := count_is (tx a) c
  rw [countIn_signs_sum] at h
  rw [show (tx [c]) = (⟨#[c]⟩ : Str) from rfl, h, tx_list]
  clear h
  induction a with
  | nil => rfl
  | cons x r ih =>
    rw [List.map_cons, List.sum_cons, ih, List.count_cons]
    by_cases e : x = c
    · subst e
      simp
      omega
    · simp [e]

theorem find_at {α : Type} {l : List α} {p : α → Bool} {i : Nat} {x : α} (h : l[i]? = some x) (before : ∀ y ∈ l.take i, p y = false) (here : p x = true) : l.find? p = some x := by
  have e : l = l.take i ++ x :: l.drop (i + 1) := by
    have hi := (List.getElem?_eq_some_iff.mp h)
    obtain ⟨lt, hx⟩ := hi
    rw [← hx, ← List.drop_eq_getElem_cons lt, List.take_append_drop]
  rw [e, List.find?_append]
  have n : (l.take i).find? p = none := List.find?_eq_none.mpr fun y hy z => by
    rw [before y hy] at z
    cases z
  rw [n, List.find?_cons, here]
  rfl
theorem find_no {α : Type} {l : List α} {p : α → Bool} (h : ∀ y ∈ l, p y = false) : l.find? p = none := List.find?_eq_none.mpr fun y hy z => by
  rw [h y hy] at z
  cases z

inductive Paper where
  | count (x : Nat)
  | order (x y : Nat)
def keepM (l a : List Nat) : List Nat := a.filter fun c => decide (c ∈ l)
/-- the pairs of letters of ls, the lesser one first -/
def pairsWith (ls : List Nat) (x : Nat) : List (List Nat) := (ls.filter fun y => decide (x < y)).map fun y => [x, y]
def pairsOf (ls : List Nat) : List (List Nat) := ls.flatMap (pairsWith ls)
def parted (ps : List (List Nat)) (a b : List Nat) : List Nat → Bool
  | [x, y] => !ind ps x y && decide (keepM [x, y] a ≠ keepM [x, y] b)
  | _ => false
theorem parted_two (ps : List (List Nat)) (a b : List Nat) (x y : Nat) : parted ps a b [x, y] = (!ind ps x y && decide (keepM [x, y] a ≠ keepM [x, y] b)) := rfl
def orderOf : Option (List Nat) → Option Paper
  | some [x, y] => some (.order x y)
  | _ => none
def countsApart (a b : List Nat) (c : Nat) : Bool := decide (a.count c ≠ b.count c)
def partsM (ls : List Nat) (ps : List (List Nat)) (a b : List Nat) : Option Paper := match ls.find? (countsApart a b) with
  | some c => some (.count c)
  | none => orderOf ((pairsOf ls).find? (parted ps a b))
theorem partsM_count {ls : List Nat} {ps : List (List Nat)} {a b : List Nat} {c : Nat} (h : ls.find? (countsApart a b) = some c) : partsM ls ps a b = some (.count c) := by
  unfold partsM
  rw [h]
theorem partsM_order {ls : List Nat} {ps : List (List Nat)} {a b : List Nat} (h : ls.find? (countsApart a b) = none) : partsM ls ps a b = orderOf ((pairsOf ls).find? (parted ps a b)) := by
  unfold partsM
  rw [h]
theorem pairsOf_mem {ls p : List Nat} (h : p ∈ pairsOf ls) : ∃ x y, p = [x, y] ∧ x ∈ ls ∧ y ∈ ls ∧ x < y := by
  unfold pairsOf at h
  obtain ⟨x, hx, hp⟩ := List.mem_flatMap.mp h
  unfold pairsWith at hp
  obtain ⟨y, hy, e⟩ := List.mem_map.mp hp
  obtain ⟨h1, h2⟩ := List.mem_filter.mp hy
  exact ⟨x, y, e.symm, hx, h1, of_decide_eq_true h2⟩
/-- the paper as a value -/
def PaperV (H : Hp) (v : V) : Option Paper → Prop
  | none => v = .non
  | some (.count x) => ∃ p, v = .ref p ∧ H p = some (.tup [.str "count", .str (tx [x])])
  | some (.order x y) => ∃ p, v = .ref p ∧ H p = some (.tup [.str "order", .str (tx [x]), .str (tx [y])])
end TcG
/-! Slices of texts; exchanges of neighbours. -/
namespace TcG
open PySem PySem.Spec PyProof.Rows L2
theorem cut_to (l : List Nat) (k : Nat) : cutS (tx l) none (some (k : Int)) = tx (l.take k) := by
  unfold cutS
  rw [HT.sIx_none, HT.sIx_nat, tx_length]
  show (⟨((l.drop 0).take (min k l.length - 0)).toArray⟩ : Str) = tx (l.take k)
  rw [List.drop_zero, Nat.sub_zero]
  unfold tx
  by_cases h : k ≤ l.length
  · rw [Nat.min_eq_left h]
  · rw [Nat.min_eq_right (by omega), List.take_length, List.take_of_length_le (by omega)]
theorem cut_from (l : List Nat) (k : Nat) : cutS (tx l) (some (k : Int)) none = tx (l.drop k) := by
  unfold cutS
  rw [HT.sIx_none, HT.sIx_nat, tx_length]
  show (⟨((l.drop (min k l.length)).take (l.length - min k l.length)).toArray⟩ : Str) = tx (l.drop k)
  unfold tx
  by_cases h : k ≤ l.length
  · rw [Nat.min_eq_left h, List.take_of_length_le (by rw [List.length_drop]; omega)]
  · rw [Nat.min_eq_right (by omega), List.drop_length, List.drop_of_length_le (show l.length ≤ k by omega)]
    simp
/-- the signs at k and behind it have changed places -/
def swapAt (l : List Nat) (k : Nat) : List Nat := l.take k ++ (match l[k + 1]?, l[k]? with | some y, some x => [y, x] | _, _ => []) ++ l.drop (k + 2)
theorem swapAt_eq {l : List Nat} {k x y : Nat} (hx : l[k]? = some x) (hy : l[k + 1]? = some y) : swapAt l k = l.take k ++ [y] ++ [x] ++ l.drop (k + 2) := by
  unfold swapAt
  rw [hx, hy]
  simp
/-- one exchange of neighbouring independent letters -/
inductive Ex1 (ps : List (List Nat)) : List Nat → List Nat → Prop
  | mk (p q : List Nat) (x y : Nat) (h : ind ps x y = true) : Ex1 ps (p ++ x :: y :: q) (p ++ y :: x :: q)
/-- some exchanges, one behind the other -/
inductive Exs (ps : List (List Nat)) : List Nat → List Nat → Prop
  | refl (a : List Nat) : Exs ps a a
  | step {a b c : List Nat} (h : Exs ps a b) (e : Ex1 ps b c) : Exs ps a c
theorem Exs.one {ps : List (List Nat)} {a b : List Nat} (e : Ex1 ps a b) : Exs ps a b := .step (.refl a) e
theorem Exs.trans {ps : List (List Nat)} {a b c : List Nat} (h : Exs ps a b) (g : Exs ps b c) : Exs ps a c := by
  induction g with
  | refl => exact h
  | step _ e ih => exact .step ih e
theorem split_two {l : List Nat} {k x y : Nat} (hx : l[k]? = some x) (hy : l[k + 1]? = some y) : l = l.take k ++ x :: y :: l.drop (k + 2) := by
  obtain ⟨h1, e1⟩ := List.getElem?_eq_some_iff.mp hx
  obtain ⟨h2, e2⟩ := List.getElem?_eq_some_iff.mp hy
  have d1 : l.drop k = x :: l.drop (k + 1) := by rw [List.drop_eq_getElem_cons h1, e1]
  have d2 : l.drop (k + 1) = y :: l.drop (k + 2) := by rw [List.drop_eq_getElem_cons h2, e2]
  rw [← d2, ← d1, List.take_append_drop]
theorem swap_ex {ps : List (List Nat)} {l : List Nat} {k x y : Nat} (hx : l[k]? = some x) (hy : l[k + 1]? = some y) (h : ind ps x y = true) : Ex1 ps l (swapAt l k) := by
  have e := split_two hx hy
  rw [swapAt_eq hx hy]
  have s : l.take k ++ [y] ++ [x] ++ l.drop (k + 2) = l.take k ++ y :: x :: l.drop (k + 2) := by simp
  rw [s]
  have g := Ex1.mk (l.take k) (l.drop (k + 2)) x y h
  rw [← e] at g
  exact g
theorem Ex1.swap {ps : List (List Nat)} {a b : List Nat} (h : Ex1 ps a b) : ∃ k x y, a[k]? = some x ∧ a[k + 1]? = some y ∧ ind ps x y = true ∧ b = swapAt a k := by
  obtain ⟨p, q, x, y, hi⟩ := h
  have hx : (p ++ x :: y :: q)[p.length]? = some x := by simp
  have hy : (p ++ x :: y :: q)[p.length + 1]? = some y := by simp
  refine ⟨p.length, x, y, hx, hy, hi, ?_⟩
  rw [swapAt_eq hx hy]
  simp [List.drop_append]
theorem Ex1.perm {ps : List (List Nat)} {a b : List Nat} (h : Ex1 ps a b) : a.Perm b := by
  obtain ⟨p, q, x, y, _⟩ := h
  exact List.Perm.append_left p (List.Perm.swap y x q)
theorem Exs.perm {ps : List (List Nat)} {a b : List Nat} (h : Exs ps a b) : a.Perm b := by
  induction h with
  | refl => exact List.Perm.refl _
  | step _ e ih => exact ih.trans e.perm
end TcG
/-! The letters from a on, and drawn pairs of them. -/
namespace TcG
open PySem PySem.Spec PyProof.Rows L2
def alph (n : Nat) : List Nat := [97, 98, 99, 100, 101, 102].take n
theorem alph_len {n : Nat} (h : n ≤ 6) : (alph n).length = n := by
  unfold alph
  rw [List.length_take]
  exact Nat.min_eq_left h
theorem alph_at {n j : Nat} (h : n ≤ 6) (hj : j < n) : (alph n)[j]? = some (97 + j) := by
  have key : ∀ n ≤ 6, ∀ j < n, (alph n)[j]? = some (97 + j) := by decide
  exact key n h j hj
theorem alph_pairs {n j : Nat} (h : n ≤ 6) (hj : j < n) : pairsWith (alph n) (97 + j) = ((alph n).drop (j + 1)).map fun y => [97 + j, y] := by
  have key : ∀ n ≤ 6, ∀ j < n, pairsWith (alph n) (97 + j) = ((alph n).drop (j + 1)).map fun y => [97 + j, y] := by decide
  exact key n h j hj
theorem alph_nodup {n : Nat} (h : n ≤ 6) : (pairsOf (alph n)).Nodup := by
  have key : ∀ n ≤ 6, (pairsOf (alph n)).Nodup := by decide
  exact key n h
theorem alph_count {n : Nat} (h : n ≤ 6) : (pairsOf (alph n)).length ≤ 15 := by
  have key : ∀ n ≤ 6, (pairsOf (alph n)).length ≤ 15 := by decide
  exact key n h
theorem alph_rising {n : Nat} (h : n ≤ 6) : (alph n).Pairwise (· < ·) := by
  have key : ∀ n ≤ 6, (alph n).Pairwise (· < ·) := by decide
  exact key n h
theorem at_eq {α : Type} {xs : List α} {z : Int} {j : Nat} {v : α} (e : z = (j : Int)) (h : xs[j]? = some v) : atI xs z = some v := by
  rw [e]
  exact atI_nat h
/-- an alphabet that was drawn -/
structure Drawn (n : Nat) (ps : List (List Nat)) : Prop where
  big : n ≤ 6
  some : 1 ≤ n
  sub : ∀ p ∈ ps, p ∈ pairsOf (alph n)
  nodup : ps.Nodup
  sorted : sortedS (ps.map tx) = true
theorem Drawn.pairs {n : Nat} {ps : List (List Nat)} (d : Drawn n ps) : Pairs (alph n) ps := fun p hp => by
  obtain ⟨x, y, e, hx, hy, lt⟩ := pairsOf_mem (d.sub p hp)
  exact ⟨x, y, e, lt, hx, hy⟩
theorem map_tx_inj {a b : List (List Nat)} (h : a.map tx = b.map tx) : a = b := by
  have e : ∀ l : List (List Nat), (l.map tx).map (fun s => s.cps.toList) = l := fun l => by
    rw [List.map_map]
    exact List.map_id _
  rw [← e a, ← e b, h]
theorem txs_map (ps : List (List Nat)) : txs ps = (ps.map tx).map V.str := by
  unfold txs
  rw [List.map_map]
  rfl
/-- the texts of a row, back as rows of signs -/
theorem rows_of (ys : List Str) : ys = (ys.map fun s => s.cps.toList).map tx := by
  rw [List.map_map]
  exact (List.map_id _).symm
theorem drawn_of {n : Nat} {prs : List (List Nat)} {ys : List Str} (h : n ≤ 6) (h1 : 1 ≤ n) (sub : prs.Sublist (pairsOf (alph n))) (pm : ys.Perm (prs.map tx)) (so : sortedS ys = true) : ∃ ps, ys = ps.map tx ∧ Drawn n ps := by
  refine ⟨ys.map fun s => s.cps.toList, rows_of ys, h, h1, fun p hp => ?_, ?_, by rw [← rows_of]; exact so⟩
  · obtain ⟨s, hs, e⟩ := List.mem_map.mp hp
    obtain ⟨q, hq, eq⟩ := List.mem_map.mp (pm.mem_iff.mp hs)
    rw [← e, ← eq]
    exact sub.subset hq
  · have e : (prs.map tx).map (fun s => s.cps.toList) = prs := by
      rw [List.map_map]
      exact List.map_id _
    have pm2 := pm.map (fun s : Str => s.cps.toList)
    rw [e] at pm2
    exact pm2.nodup_iff.mpr ((alph_nodup h).sublist sub)
end TcG
/-! Values that the law calls the same. -/
namespace TcG
open PySem PySem.Spec PyProof.Rows L2
theorem tyx_tup {K : PySem.W.Frag} {H : Hp} {p : Addr} {xs : List V} (h : SqT K H p xs) : TyX K H (.ref p) (.type "tuple") := by
  rcases h with (h | ⟨o, h⟩) | ⟨o, its, n, hk, hc, _⟩
  · exact .base (.tup h)
  · exact .fTuple h
  · exact .kTuple hk hc
/-- the same up to n tuples deep -/
def SameR (K : PySem.W.Frag) (H : Hp) : Nat → V → V → Prop
  | 0, _, _ => False
  | n + 1, x, y => (x = y ∧ flatV x = true) ∨ ∃ p q xs ys, x = .ref p ∧ y = .ref q ∧ SqT K H p xs ∧ SqT K H q ys ∧ xs.length = ys.length ∧ xs.length ≤ 4000000 ∧ ∀ (i : Nat) a b, xs[i]? = some a → ys[i]? = some b → SameR K H n a b
end TcG
/-! Words that exchanges lead to, searched breadth first. -/
namespace TcG
open PySem PySem.Spec PyProof.Rows L2
theorem len_le_of_mem {α : Type} [DecidableEq α] : ∀ {F G : List α}, F.Nodup → (∀ x ∈ F, x ∈ G) → F.length ≤ G.length
  | [], _, _, _ => Nat.zero_le _
  | x :: r, G, nd, h => by
    have hx : x ∈ G := h x List.mem_cons_self
    obtain ⟨nx, nr⟩ := List.nodup_cons.mp nd
    have ih := len_le_of_mem (F := r) (G := G.erase x) nr fun y hy => (List.mem_erase_of_ne (show y ≠ x from fun e => nx (by rw [← e]; exact hy))).mpr (h y (List.mem_cons_of_mem _ hy))
    have hl := List.length_erase_of_mem hx
    have pos : 0 < G.length := List.length_pos_of_mem hx
    rw [List.length_cons]
    omega
/-- all words of n letters of ls -/
def wordsOf (ls : List Nat) : Nat → List (List Nat)
  | 0 => [[]]
  | n + 1 => ls.flatMap fun c => (wordsOf ls n).map (c :: ·)
theorem wordsOf_mem (ls : List Nat) : ∀ (f : List Nat), (∀ c ∈ f, c ∈ ls) → f ∈ wordsOf ls f.length
  | [], _ => List.mem_singleton.mpr rfl
  | c :: r, h => List.mem_flatMap.mpr ⟨c, h c List.mem_cons_self, List.mem_map.mpr ⟨r, wordsOf_mem ls r fun d hd => h d (List.mem_cons_of_mem _ hd), rfl⟩⟩
theorem flat_const {α β : Type} (k : Nat) (f : α → List β) (h : ∀ x, (f x).length = k) : ∀ l : List α, (l.flatMap f).length = l.length * k
  | [] => by simp
  | x :: r => by rw [List.flatMap_cons, List.length_append, h, flat_const k f h r, List.length_cons, Nat.succ_mul, Nat.add_comm]
theorem wordsOf_len (ls : List Nat) : ∀ n, (wordsOf ls n).length = ls.length ^ n
  | 0 => rfl
  | n + 1 => by
    show (ls.flatMap fun c => (wordsOf ls n).map (c :: ·)).length = _
    rw [flat_const (ls.length ^ n) _ (fun x => by rw [List.length_map, wordsOf_len ls n]), Nat.pow_succ, Nat.mul_comm]
/-- what is found so far -/
structure Grown (ps : List (List Nat)) (a : List Nat) (F : List (List Nat)) : Prop where
  nd : F.Nodup
  has : a ∈ F
  sound : ∀ f ∈ F, Exs ps a f
theorem Grown.bound {ps : List (List Nat)} {a ls : List Nat} {F : List (List Nat)} (g : Grown ps a F) (h : ∀ c ∈ a, c ∈ ls) (hl : ls.length ≤ 5) (ha : a.length ≤ 7) : F.length ≤ 78125 := by
  have h1 : F.length ≤ (wordsOf ls a.length).length := len_le_of_mem g.nd fun f hf => by
    have pm := (g.sound f hf).perm
    have := wordsOf_mem ls f fun c hc => h c (pm.mem_iff.mpr hc)
    rw [← pm.length_eq] at this
    exact this
  rw [wordsOf_len] at h1
  have h2 : ls.length ^ a.length ≤ 5 ^ a.length := Nat.pow_le_pow_left hl _
  have h3 : 5 ^ a.length ≤ 5 ^ 7 := Nat.pow_le_pow_right (by decide) ha
  exact Nat.le_trans h1 (Nat.le_trans h2 (Nat.le_trans h3 (by decide)))
def ClosedTo (ps : List (List Nat)) (F : List (List Nat)) (n : Nat) : Prop := ∀ i, i < n → ∀ f, F[i]? = some f → ∀ g, Ex1 ps f g → g ∈ F
theorem Grown.all {ps : List (List Nat)} {a : List Nat} {F : List (List Nat)} (g : Grown ps a F) (c : ClosedTo ps F F.length) (v : List Nat) : v ∈ F ↔ Exs ps a v := by
  refine ⟨g.sound v, fun h => ?_⟩
  induction h with
  | refl => exact g.has
  | step _ e ih =>
    obtain ⟨i, hi⟩ := List.mem_iff_getElem?.mp ih
    exact c i (List.getElem?_eq_some_iff.mp hi).1 _ hi _ e
theorem Grown.put {ps : List (List Nat)} {a f g : List Nat} {F : List (List Nat)} (h : Grown ps a F) (hf : f ∈ F) (e : Ex1 ps f g) (n : g ∉ F) : Grown ps a (F ++ [g]) where
  nd := List.nodup_append.mpr ⟨h.nd, by simp, fun x hx y hy => by
    rw [List.mem_singleton.mp hy]
    exact fun z => n (z ▸ hx)⟩
  has := List.mem_append_left _ h.has
  sound := fun x hx => by
    rcases List.mem_append.mp hx with hx | hx
    · exact h.sound x hx
    · rw [List.mem_singleton.mp hx]
      exact .step (h.sound f hf) e
theorem ClosedTo.put {ps : List (List Nat)} {F : List (List Nat)} {g : List Nat} {n : Nat} (h : ClosedTo ps F n) (hn : n ≤ F.length) : ClosedTo ps (F ++ [g]) n := fun i hi f hf x e => by
  rw [List.getElem?_append_left (by omega)] at hf
  exact List.mem_append_left _ (h i hi f hf x e)
/-- the known words as a dict's pairs -/
def knownOf (F : List (List Nat)) : List (Key × V) := F.map fun f => (Sum.inr (tx f), .bl true)
theorem known_find (F : List (List Nat)) (g : List Nat) : (valV (knownOf F) (Sum.inr (tx g))).isSome = decide (g ∈ F) := by
  induction F with
  | nil => rfl
  | cons f r ih =>
    show (valV ((Sum.inr (tx f), V.bl true) :: knownOf r) (Sum.inr (tx g))).isSome = _
    by_cases e : f = g
    · rw [valV_pos (by rw [e])]
      simp [e]
    · rw [valV_neg (fun z => e (tx_inj (Sum.inr.inj z))), ih]
      have : g ≠ f := fun z => e z.symm
      simp [this]
theorem known_put {F : List (List Nat)} {g : List Nat} (h : g ∉ F) : putK (knownOf F) (Sum.inr (tx g)) (.bl true) = knownOf (F ++ [g]) := by
  unfold putK
  have : ((knownOf F).any fun kv => decide (kv.1 = Sum.inr (tx g))) = false := by
    rw [List.any_eq_false]
    intro kv hk z
    obtain ⟨f, hf, e⟩ := List.mem_map.mp hk
    rw [← e] at z
    exact h (tx_inj (Sum.inr.inj (of_decide_eq_true z)) ▸ hf)
  rw [this, if_neg Bool.false_ne_true]
  unfold knownOf
  rw [List.map_append]
  rfl
end TcG
/-! Words are alike exactly if nothing parts them. -/
namespace TcG
open PySem PySem.Spec PyProof.Rows L2
variable {ps : List (List Nat)} {ls : List Nat}
theorem Ex1.pre {a b : List Nat} (r : List Nat) (h : Ex1 ps a b) : Ex1 ps (r ++ a) (r ++ b) := by
  obtain ⟨p, q, x, y, hi⟩ := h
  have := Ex1.mk (r ++ p) q x y hi
  rw [List.append_assoc, List.append_assoc] at this
  exact this
theorem Ex1.post {a b : List Nat} (r : List Nat) (h : Ex1 ps a b) : Ex1 ps (a ++ r) (b ++ r) := by
  obtain ⟨p, q, x, y, hi⟩ := h
  have := Ex1.mk p (q ++ r) x y hi
  simpa using this
theorem Exs.pre {a b : List Nat} (r : List Nat) (h : Exs ps a b) : Exs ps (r ++ a) (r ++ b) := by
  induction h with
  | refl => exact .refl _
  | step _ e ih => exact .step ih (e.pre r)
theorem Exs.post {a b : List Nat} (r : List Nat) (h : Exs ps a b) : Exs ps (a ++ r) (b ++ r) := by
  induction h with
  | refl => exact .refl _
  | step _ e ih => exact .step ih (e.post r)
theorem Ex1.symm {a b : List Nat} (h : Ex1 ps a b) : Ex1 ps b a := by
  obtain ⟨p, q, x, y, hi⟩ := h
  exact .mk p q y x (by rw [ind_comm]; exact hi)
theorem Exs.symm {a b : List Nat} (h : Exs ps a b) : Exs ps b a := by
  induction h with
  | refl => exact .refl _
  | step _ e ih => exact (Exs.one e.symm).trans ih
/-- a letter passes letters that are independent of it -/
theorem bubble (x : Nat) (q : List Nat) : ∀ p : List Nat, (∀ y ∈ p, ind ps y x = true) → Exs ps (p ++ x :: q) (x :: (p ++ q))
  | [], _ => .refl _
  | y :: p, h => by
    have ih := bubble x q p fun z hz => h z (List.mem_cons_of_mem _ hz)
    have h1 : Exs ps (y :: (p ++ x :: q)) (y :: x :: (p ++ q)) := ih.pre [y]
    exact .step h1 (Ex1.mk [] (p ++ q) y x (h y List.mem_cons_self))

theorem keepM_append (l a b : List Nat) : keepM l (a ++ b) = keepM l a ++ keepM l b := by
  unfold keepM
  rw [List.filter_append]
theorem keepM_cons_in {l : List Nat} {c : Nat} (h : c ∈ l) (a : List Nat) : keepM l (c :: a) = c :: keepM l a := by
  unfold keepM
  rw [List.filter_cons, if_pos (decide_eq_true h)]
theorem keepM_cons_out {l : List Nat} {c : Nat} (h : c ∉ l) (a : List Nat) : keepM l (c :: a) = keepM l a := by
  unfold keepM
  rw [List.filter_cons, if_neg (by rw [decide_eq_false h]; exact Bool.false_ne_true)]
theorem keepM_none {l a : List Nat} (h : ∀ c ∈ a, c ∉ l) : keepM l a = [] := by
  unfold keepM
  rw [List.filter_eq_nil_iff]
  intro c hc z
  exact h c hc (of_decide_eq_true z)
theorem keepM_swap (u v : Nat) (a : List Nat) : keepM [u, v] a = keepM [v, u] a := by
  unfold keepM
  refine List.filter_congr fun c _ => ?_
  rw [Bool.eq_iff_iff, decide_eq_true_eq, decide_eq_true_eq]
  simp only [List.mem_cons, List.not_mem_nil, or_false]
  exact Or.comm

/-- the words of all dependent letters are the same in both -/
def KeepsM (ls : List Nat) (ps : List (List Nat)) (a b : List Nat) : Prop := ∀ u v, u ∈ ls → v ∈ ls → u ≠ v → ind ps u v = false → keepM [u, v] a = keepM [u, v] b

theorem split_first {x : Nat} : ∀ {a : List Nat}, x ∈ a → ∃ p q, a = p ++ x :: q ∧ x ∉ p
  | [], h => nomatch h
  | c :: r, h => by
    by_cases e : c = x
    · exact ⟨[], r, by rw [e]; rfl, by simp⟩
    · have hr : x ∈ r := by
        rcases List.mem_cons.mp h with z | z
        · exact absurd z.symm e
        · exact z
      obtain ⟨p, q, e1, e2⟩ := split_first hr
      refine ⟨c :: p, q, by rw [e1]; rfl, fun z => ?_⟩
      rcases List.mem_cons.mp z with z | z
      · exact e z.symm
      · exact e2 z

theorem alike_of_keeps : ∀ (b a : List Nat), (∀ c ∈ a, c ∈ ls) → (∀ c ∈ b, c ∈ ls) → a.Perm b → KeepsM ls ps a b → Exs ps a b
  | [], a, _, _, pm, _ => by
    rw [pm.eq_nil]
    exact .refl _
  | x :: b, a, ia, ib, pm, kp => by
    have hx : x ∈ a := pm.mem_iff.mpr List.mem_cons_self
    obtain ⟨p, q, rfl, nx⟩ := split_first hx
    have xl : x ∈ ls := ib x List.mem_cons_self
    have free : ∀ y ∈ p, ind ps y x = true := fun y hy => by
      cases e : ind ps y x with
      | true => rfl
      | false =>
        exfalso
        have ne : y ≠ x := fun z => nx (z ▸ hy)
        have k := kp y x (ia y (List.mem_append_left _ hy)) xl ne e
        rw [keepM_append, keepM_cons_in (by simp) b] at k
        -- the first of both letters in p is y
        have hk : ∀ c ∈ keepM [y, x] p, c = y := fun c hc => by
          obtain ⟨h1, h2⟩ := List.mem_filter.mp hc
          have h2 := of_decide_eq_true h2
          rcases List.mem_cons.mp h2 with z | z
          · exact z
          · rw [List.mem_singleton.mp z] at h1
            exact absurd h1 nx
        have hy2 : y ∈ keepM [y, x] p := List.mem_filter.mpr ⟨hy, decide_eq_true List.mem_cons_self⟩
        cases ek : keepM [y, x] p with
        | nil =>
          rw [ek] at hy2
          cases hy2
        | cons c r =>
          rw [ek] at k hk
          have := hk c List.mem_cons_self
          rw [List.cons_append] at k
          have k1 := (List.cons.inj k).1
          exact ne (this ▸ k1)
    have go : Exs ps (p ++ x :: q) (x :: (p ++ q)) := bubble x q p free
    have pm2 : (p ++ q).Perm b := by
      have h1 : (x :: (p ++ q)).Perm (x :: b) := go.perm.symm.trans pm
      exact h1.cons_inv
    have kp2 : KeepsM ls ps (p ++ q) b := fun u v hu hv ne hi => by
      have k := kp u v hu hv ne hi
      by_cases hm : x ∈ [u, v]
      · have none : keepM [u, v] p = [] := keepM_none fun c hc z => by
          have f := free c hc
          have cx : c ≠ x := fun z => nx (z ▸ hc)
          have : ind ps c x = false := by
            rcases List.mem_cons.mp hm with m | m
            · rcases List.mem_cons.mp z with z | z
              · exact absurd (z.trans m.symm) cx
              · rw [List.mem_singleton.mp z, m, ind_comm]
                exact hi
            · have m := List.mem_singleton.mp m
              rcases List.mem_cons.mp z with z | z
              · rw [z, m]
                exact hi
              · exact absurd ((List.mem_singleton.mp z).trans m.symm) cx
          rw [f] at this
          cases this
        rw [keepM_append, none, keepM_cons_in hm, keepM_cons_in hm] at k
        rw [keepM_append, none]
        exact (List.cons.inj k).2
      · rw [keepM_append, keepM_cons_out hm, keepM_cons_out hm] at k
        rw [keepM_append]
        exact k
    have ih := alike_of_keeps b (p ++ q) (fun c hc => ia c (by
      rcases List.mem_append.mp hc with h | h
      · exact List.mem_append_left _ h
      · exact List.mem_append_right _ (List.mem_cons_of_mem _ h))) (fun c hc => ib c (List.mem_cons_of_mem _ hc)) pm2 kp2
    exact go.trans (ih.pre [x])

theorem Ex1.keeps (pr : Pairs ls ps) {a b : List Nat} (h : Ex1 ps a b) {u v : Nat} (hi : ind ps u v = false) : keepM [u, v] a = keepM [u, v] b := by
  obtain ⟨p, q, x, y, hxy⟩ := h
  rw [keepM_append, keepM_append]
  congr 1
  by_cases hx : x ∈ [u, v]
  · by_cases hy : y ∈ [u, v]
    · exfalso
      have ne : x ≠ y := fun z => by
        rw [z, ind_self pr] at hxy
        cases hxy
      simp only [List.mem_cons, List.not_mem_nil, or_false] at hx hy
      rcases hx with hx | hx <;> rcases hy with hy | hy
      · exact ne (hx.trans hy.symm)
      · rw [hx, hy, hi] at hxy
        cases hxy
      · rw [hx, hy, ind_comm, hi] at hxy
        cases hxy
      · exact ne (hx.trans hy.symm)
    · rw [keepM_cons_in hx, keepM_cons_out hy, keepM_cons_out hy, keepM_cons_in hx]
  · rw [keepM_cons_out hx]
    by_cases hy : y ∈ [u, v]
    · rw [keepM_cons_in hy, keepM_cons_in hy, keepM_cons_out hx]
    · rw [keepM_cons_out hy, keepM_cons_out hy, keepM_cons_out hx]
theorem Exs.keeps (pr : Pairs ls ps) {a b : List Nat} (h : Exs ps a b) {u v : Nat} (hi : ind ps u v = false) : keepM [u, v] a = keepM [u, v] b := by
  induction h with
  | refl => rfl
  | step _ e ih => exact ih.trans (e.keeps pr hi)

theorem orderOf_none {o : Option (List Nat)} (h : ∀ p, o = some p → ∃ x y, p = [x, y]) (e : orderOf o = none) : o = none := by
  cases o with
  | none => rfl
  | some p =>
    obtain ⟨x, y, rfl⟩ := h p rfl
    cases e
theorem mem_pairsOf {x y : Nat} (hx : x ∈ ls) (hy : y ∈ ls) (lt : x < y) : [x, y] ∈ pairsOf ls :=
  List.mem_flatMap.mpr ⟨x, hx, List.mem_map.mpr ⟨y, List.mem_filter.mpr ⟨hy, decide_eq_true lt⟩, rfl⟩⟩
/-- THE PROMISE [e2]: nothing parts two words exactly if they are alike -/
theorem partsM_none (pr : Pairs ls ps) {a b : List Nat} (ia : ∀ c ∈ a, c ∈ ls) (ib : ∀ c ∈ b, c ∈ ls) : partsM ls ps a b = none ↔ Exs ps a b := by
  constructor
  · intro h
    have h1 : ls.find? (countsApart a b) = none := by
      cases e : ls.find? (countsApart a b) with
      | none => rfl
      | some c =>
        rw [partsM_count e] at h
        cases h
    rw [partsM_order h1] at h
    have h2 : (pairsOf ls).find? (parted ps a b) = none := orderOf_none (fun p hp => by
      obtain ⟨x, y, e, _⟩ := pairsOf_mem (List.mem_of_find?_eq_some hp)
      exact ⟨x, y, e⟩) h
    have pm : a.Perm b := List.perm_iff_count.mpr fun c => by
      by_cases hc : c ∈ ls
      · have := List.find?_eq_none.mp h1 c hc
        unfold countsApart at this
        simpa using this
      · rw [List.count_eq_zero_of_not_mem fun z => hc (ia c z), List.count_eq_zero_of_not_mem fun z => hc (ib c z)]
    refine alike_of_keeps b a ia ib pm fun u v hu hv ne hi => ?_
    have key : ∀ x y, x ∈ ls → y ∈ ls → x < y → ind ps x y = false → keepM [x, y] a = keepM [x, y] b := fun x y hx hy lt hi => by
      have := List.find?_eq_none.mp h2 [x, y] (mem_pairsOf hx hy lt)
      rw [parted_two, hi] at this
      simpa using this
    by_cases lt : u < v
    · exact key u v hu hv lt hi
    · rw [keepM_swap u v a, keepM_swap u v b]
      exact key v u hv hu (by omega) (by rw [ind_comm]; exact hi)
  · intro h
    have h1 : ls.find? (countsApart a b) = none := find_no fun c _ => decide_eq_false fun z => z (h.perm.count_eq c)
    rw [partsM_order h1]
    have h2 : (pairsOf ls).find? (parted ps a b) = none := find_no fun d hd => by
      obtain ⟨x, y, rfl, _⟩ := pairsOf_mem hd
      rw [parted_two]
      cases e : ind ps x y with
      | true => rfl
      | false =>
        rw [h.keeps pr e]
        simp
    rw [h2]
    rfl
end TcG
/-! Rows of exchanges; as few as can be. -/
namespace TcG
open PySem PySem.Spec PyProof.Rows L2
variable {ps : List (List Nat)} {ls : List Nat}
def canAt (ps : List (List Nat)) (w : List Nat) (z : Int) : Bool := decide (0 ≤ z) && (decide (z < (w.length : Int) - 1) && (match w[z.toNat]?, w[z.toNat + 1]? with | some x, some y => ind ps x y | _, _ => false))
/-- the word behind exchanges at these places, and the number of the first that is not possible -/
def runEx (ps : List (List Nat)) : List Nat → List Int → Nat → List Nat × Option Nat
  | w, [], _ => (w, none)
  | w, z :: r, k => if canAt ps w z = true then runEx ps (swapAt w z.toNat) r (k + 1) else (w, some k)
theorem runEx_go {w : List Nat} {z : Int} (r : List Int) (k : Nat) (h : canAt ps w z = true) : runEx ps w (z :: r) k = runEx ps (swapAt w z.toNat) r (k + 1) := by
  rw [runEx, if_pos h]
theorem runEx_no {w : List Nat} {z : Int} (r : List Int) (k : Nat) (h : canAt ps w z = false) : runEx ps w (z :: r) k = (w, some k) := by
  rw [runEx, if_neg (by rw [h]; exact Bool.false_ne_true)]
def desc (n : Nat) : Nat → List Nat
  | 0 => []
  | j + 1 => (n + j) :: desc n j
theorem desc_len (n : Nat) : ∀ j, (desc n j).length = j
  | 0 => rfl
  | j + 1 => by
    show (desc n j).length + 1 = j + 1
    rw [desc_len n j]
/-- the places of exchanges that lead from the one to the other, letter by letter -/
def exL : Nat → List Nat → List Nat → List Nat
  | _, _, [] => []
  | n, rest, x :: b => desc n (rest.idxOf x) ++ exL (n + 1) (rest.erase x) b
def KeepsA (ps : List (List Nat)) (a b : List Nat) : Prop := ∀ u v, ind ps u v = false → keepM [u, v] a = keepM [u, v] b
theorem Exs.keepsA (pr : Pairs ls ps) {a b : List Nat} (h : Exs ps a b) : KeepsA ps a b := fun u v hi => h.keeps pr hi
theorem keepsA_step (pr : Pairs ls ps) {a b : List Nat} {x : Nat} (kp : KeepsA ps a (x :: b)) : ∃ p q, a = p ++ x :: q ∧ x ∉ p ∧ (∀ y ∈ p, ind ps y x = true) ∧ KeepsA ps (p ++ q) b := by
  have hx : x ∈ a := by
    have k := kp x x (ind_self pr x)
    have m : x ∈ keepM [x, x] (x :: b) := List.mem_filter.mpr ⟨List.mem_cons_self, decide_eq_true List.mem_cons_self⟩
    rw [← k] at m
    exact (List.mem_filter.mp m).1
  obtain ⟨p, q, rfl, nx⟩ := split_first hx
  have free : ∀ y ∈ p, ind ps y x = true := fun y hy => by
    cases e : ind ps y x with
    | true => rfl
    | false =>
      exfalso
      have k := kp y x e
      rw [keepM_append, keepM_cons_in (by simp) b] at k
      have only : ∀ c ∈ keepM [y, x] p, c = y := fun c hc => by
        obtain ⟨h1, h2⟩ := List.mem_filter.mp hc
        rcases List.mem_cons.mp (of_decide_eq_true h2) with z | z
        · exact z
        · rw [List.mem_singleton.mp z] at h1
          exact absurd h1 nx
      have hy2 : y ∈ keepM [y, x] p := List.mem_filter.mpr ⟨hy, decide_eq_true List.mem_cons_self⟩
      cases ek : keepM [y, x] p with
      | nil =>
        rw [ek] at hy2
        cases hy2
      | cons c r =>
        rw [ek] at k only
        have ec := only c List.mem_cons_self
        rw [List.cons_append] at k
        have k1 := (List.cons.inj k).1
        exact nx (by rw [← k1, ec]; exact hy)
  refine ⟨p, q, rfl, nx, free, fun u v hi => ?_⟩
  have k := kp u v hi
  by_cases hm : x ∈ [u, v]
  · have none : keepM [u, v] p = [] := keepM_none fun c hc z => by
      have f := free c hc
      have bad : ind ps c x = false := by
        rcases List.mem_cons.mp hm with m | m
        · rcases List.mem_cons.mp z with z | z
          · rw [z, m]
            exact ind_self pr u
          · rw [List.mem_singleton.mp z, m, ind_comm]
            exact hi
        · have m := List.mem_singleton.mp m
          rcases List.mem_cons.mp z with z | z
          · rw [z, m]
            exact hi
          · rw [List.mem_singleton.mp z, m]
            exact ind_self pr v
      rw [f] at bad
      cases bad
    rw [keepM_append, none, keepM_cons_in hm, keepM_cons_in hm] at k
    rw [keepM_append, none]
    exact (List.cons.inj k).2
  · rw [keepM_append, keepM_cons_out hm, keepM_cons_out hm] at k
    rw [keepM_append]
    exact k
theorem keepsA_nil (pr : Pairs ls ps) {a : List Nat} (kp : KeepsA ps a []) : a = [] := by
  cases a with
  | nil => rfl
  | cons x r =>
    have k := kp x x (ind_self pr x)
    rw [keepM_cons_in List.mem_cons_self] at k
    cases k
theorem idx_first {x : Nat} {p q : List Nat} (nx : x ∉ p) : (p ++ x :: q).idxOf x = p.length := by
  induction p with
  | nil => exact List.idxOf_cons_self
  | cons y p ih =>
    have ne : ¬ y = x := fun z => nx (by rw [z]; exact List.mem_cons_self)
    have e := ih fun z => nx (List.mem_cons_of_mem _ z)
    rw [List.cons_append, List.idxOf_cons, e]
    have : (y == x) = false := by simpa using ne
    rw [this]
    rfl
theorem erase_first {x : Nat} {p q : List Nat} (nx : x ∉ p) : (p ++ x :: q).erase x = p ++ q := by
  rw [List.erase_append_right _ nx, List.erase_cons_head]
/-- a letter goes ahead of the letters of p -/
theorem run_move (pre : List Nat) (x : Nat) (more : List Nat) : ∀ (n : Nat) (p q : List Nat) (k : Nat), p.length = n → (∀ y ∈ p, ind ps y x = true) →
    runEx ps (pre ++ (p ++ x :: q)) ((desc pre.length n ++ more).map Int.ofNat) k = runEx ps (pre ++ x :: (p ++ q)) (more.map Int.ofNat) (k + n)
  | 0, p, q, k, hl, _ => by
    obtain rfl : p = [] := List.eq_nil_of_length_eq_zero hl
    rfl
  | n + 1, p, q, k, hl, free => by
    obtain ⟨r, y, rfl⟩ : ∃ r y, p = r ++ [y] := ⟨p.dropLast, p.getLast (fun z => by rw [z] at hl; cases hl), (List.dropLast_concat_getLast _).symm⟩
    have lr : r.length = n := by simpa using hl
    have ew : pre ++ ((r ++ [y]) ++ x :: q) = (pre ++ r) ++ y :: x :: q := by simp
    have lpr : (pre ++ r).length = pre.length + n := by rw [List.length_append, lr]
    have hy : ((pre ++ r) ++ y :: x :: q)[pre.length + n]? = some y := by rw [← lpr]; simp
    have hx : ((pre ++ r) ++ y :: x :: q)[pre.length + n + 1]? = some x := by
      rw [← lpr, List.getElem?_append_right (by omega), show (pre ++ r).length + 1 - (pre ++ r).length = 1 by omega]
      rfl
    have can : canAt ps ((pre ++ r) ++ y :: x :: q) (Int.ofNat (pre.length + n)) = true := by
      unfold canAt
      rw [show (Int.ofNat (pre.length + n)).toNat = pre.length + n from rfl, hy, hx]
      have e1 : decide (0 ≤ Int.ofNat (pre.length + n)) = true := decide_eq_true (Int.natCast_nonneg _)
      have e2 : decide (Int.ofNat (pre.length + n) < ((((pre ++ r) ++ y :: x :: q).length : Nat) : Int) - 1) = true := decide_eq_true (by
        rw [List.length_append, lpr, List.length_cons, List.length_cons]
        show ((pre.length + n : Nat) : Int) < _
        omega)
      rw [e1, e2]
      exact free y (by simp)
    have sw : swapAt ((pre ++ r) ++ y :: x :: q) (pre.length + n) = pre ++ (r ++ x :: (y :: q)) := by
      rw [swapAt_eq hy hx, ← lpr, List.take_left]
      have : ((pre ++ r) ++ y :: x :: q).drop ((pre ++ r).length + 2) = q := by
        rw [← List.drop_drop, List.drop_left]
        rfl
      rw [this]
      simp
    show runEx ps (pre ++ ((r ++ [y]) ++ x :: q)) (Int.ofNat (pre.length + n) :: (desc pre.length n ++ more).map Int.ofNat) k = _
    rw [ew, runEx_go _ k can, show (Int.ofNat (pre.length + n)).toNat = pre.length + n from rfl, sw, run_move pre x more n r (y :: q) (k + 1) lr fun z hz => free z (List.mem_append_left _ hz)]
    have e3 : r ++ [y] ++ q = r ++ y :: q := by simp
    rw [e3, show k + 1 + n = k + (n + 1) by omega]
theorem run_exL (pr : Pairs ls ps) : ∀ (b a pre : List Nat) (k : Nat), KeepsA ps a b → ∃ n, runEx ps (pre ++ a) ((exL pre.length a b).map Int.ofNat) k = (pre ++ b, none) ∧ n = k
  | [], a, pre, k, kp => by
    rw [keepsA_nil pr kp]
    exact ⟨k, rfl, rfl⟩
  | x :: b, a, pre, k, kp => by
    obtain ⟨p, q, rfl, nx, free, kp2⟩ := keepsA_step pr kp
    unfold exL
    rw [idx_first nx, erase_first nx, run_move pre x _ p.length p q k rfl free]
    obtain ⟨n, h, _⟩ := run_exL pr b (p ++ q) (pre ++ [x]) (k + p.length) kp2
    have el : (pre ++ [x]).length = pre.length + 1 := by simp
    rw [el] at h
    refine ⟨k, ?_, rfl⟩
    have e1 : pre ++ x :: (p ++ q) = pre ++ [x] ++ (p ++ q) := by simp
    have e2 : pre ++ x :: b = pre ++ [x] ++ b := by simp
    rw [e1, e2]
    exact h

/-! how many pairs stand the other way round -/
/-- the place of the letter c of which n stand before it -/
def nth : List Nat → Nat → Nat → Nat
  | [], _, _ => 0
  | x :: b, c, n => if x = c then (match n with | 0 => 0 | n + 1 => nth b c n + 1) else nth b c n + 1
theorem nth_first (b : List Nat) (x : Nat) : nth (x :: b) x 0 = 0 := by simp [nth]
theorem nth_hit (b : List Nat) (x n : Nat) : nth (x :: b) x (n + 1) = nth b x n + 1 := by simp [nth]
theorem nth_miss {x c : Nat} (b : List Nat) (n : Nat) (h : ¬ x = c) : nth (x :: b) c n = nth b c n + 1 := by simp [nth, h]
def spots (b : List Nat) : List Nat → List Nat → List Nat
  | _, [] => []
  | seen, c :: r => nth b c (seen.count c) :: spots b (c :: seen) r
def inverts : List Nat → Nat
  | [] => 0
  | x :: r => (r.filter fun y => decide (y < x)).length + inverts r
theorem spots_len (b : List Nat) : ∀ a seen, (spots b seen a).length = a.length
  | [], _ => rfl
  | c :: r, seen => by
    show (spots b (c :: seen) r).length + 1 = r.length + 1
    rw [spots_len b r]
theorem spots_append (b : List Nat) : ∀ p seen q, spots b seen (p ++ q) = spots b seen p ++ spots b (p.reverse ++ seen) q
  | [], _, _ => rfl
  | c :: p, seen, q => by
    show nth b c (seen.count c) :: spots b (c :: seen) (p ++ q) = nth b c (seen.count c) :: (spots b (c :: seen) p ++ _)
    rw [spots_append b p (c :: seen) q, List.reverse_cons, List.append_assoc]
    rfl
/-- behind the first x: what was counted for x is one more -/
theorem spots_behind {b : List Nat} {x : Nat} : ∀ (q S T : List Nat), (∀ c, c ≠ x → S.count c = T.count c) → S.count x = T.count x + 1 → spots (x :: b) S q = (spots b T q).map (· + 1)
  | [], _, _, _, _ => rfl
  | c :: q, S, T, h1, h2 => by
    have ih := spots_behind (b := b) q (c :: S) (c :: T) (fun d hd => by rw [List.count_cons, List.count_cons, h1 d hd]) (by rw [List.count_cons, List.count_cons, h2]; omega)
    show nth (x :: b) c (S.count c) :: spots (x :: b) (c :: S) q = (nth b c (T.count c) + 1) :: (spots b (c :: T) q).map (· + 1)
    rw [ih]
    congr 1
    by_cases e : x = c
    · rw [← e, h2, nth_hit]
    · rw [nth_miss _ _ e, h1 c fun z => e z.symm]
theorem spots_ahead {b : List Nat} {x : Nat} : ∀ (p S : List Nat), x ∉ p → spots (x :: b) S p = (spots b S p).map (· + 1)
  | [], _, _ => rfl
  | c :: p, S, nx => by
    have ne : ¬ x = c := fun z => nx (by rw [z]; exact List.mem_cons_self)
    have ih := spots_ahead (b := b) p (c :: S) fun z => nx (List.mem_cons_of_mem _ z)
    show nth (x :: b) c (S.count c) :: spots (x :: b) (c :: S) p = (nth b c (S.count c) + 1) :: (spots b (c :: S) p).map (· + 1)
    rw [ih]
    congr 1
    rw [nth_miss _ _ ne]
theorem spots_same {b : List Nat} : ∀ (q S T : List Nat), (∀ c, S.count c = T.count c) → spots b S q = spots b T q
  | [], _, _, _ => rfl
  | c :: q, S, T, h => by
    show nth b c (S.count c) :: spots b (c :: S) q = nth b c (T.count c) :: spots b (c :: T) q
    rw [h c, spots_same q (c :: S) (c :: T) fun d => by rw [List.count_cons, List.count_cons, h d]]
theorem inverts_put : ∀ u v : List Nat, inverts (u.map (· + 1) ++ 0 :: v.map (· + 1)) = u.length + inverts (u ++ v)
  | [], v => by
    show (List.filter (fun y => decide (y < 0)) (v.map (· + 1))).length + inverts (v.map (· + 1)) = 0 + inverts v
    have e0 : List.filter (fun y => decide (y < 0)) (v.map (· + 1)) = [] := List.filter_eq_nil_iff.mpr fun y _ z => absurd (of_decide_eq_true z) (Nat.not_lt_zero y)
    have e1 : ∀ v : List Nat, inverts (v.map (· + 1)) = inverts v := fun v => by
      induction v with
      | nil => rfl
      | cons y r ih =>
        show (List.filter (fun z => decide (z < y + 1)) (r.map (· + 1))).length + inverts (r.map (· + 1)) = (List.filter (fun z => decide (z < y)) r).length + inverts r
        rw [ih, List.filter_map, List.length_map]
        congr 2
        refine List.filter_congr fun z _ => ?_
        simp
    rw [e0, e1]
    rfl
  | t :: u, v => by
    show (List.filter (fun y => decide (y < t + 1)) (u.map (· + 1) ++ 0 :: v.map (· + 1))).length + inverts (u.map (· + 1) ++ 0 :: v.map (· + 1)) = u.length + 1 + ((List.filter (fun y => decide (y < t)) (u ++ v)).length + inverts (u ++ v))
    rw [inverts_put u v, List.filter_append, List.filter_append, List.filter_cons, if_pos (by simp), List.filter_map, List.filter_map, List.length_append, List.length_cons, List.length_map, List.length_map, List.length_append]
    have e : ∀ l : List Nat, List.filter ((fun y => decide (y < t + 1)) ∘ (· + 1)) l = List.filter (fun y => decide (y < t)) l := fun l => List.filter_congr fun z _ => by simp
    rw [e u, e v]
    omega
/-- as many exchanges as pairs stand the other way round -/
theorem exL_least (pr : Pairs ls ps) : ∀ (b a : List Nat) (n : Nat), KeepsA ps a b → (exL n a b).length = inverts (spots b [] a)
  | [], a, n, kp => by
    rw [keepsA_nil pr kp]
    rfl
  | x :: b, a, n, kp => by
    obtain ⟨p, q, rfl, nx, free, kp2⟩ := keepsA_step pr kp
    unfold exL
    rw [idx_first nx, erase_first nx, List.length_append, desc_len, exL_least pr b (p ++ q) (n + 1) kp2, spots_append, spots_append]
    have e0 : spots (x :: b) (p.reverse ++ []) (x :: q) = 0 :: spots (x :: b) (x :: (p.reverse ++ [])) q := by
      show nth (x :: b) x ((p.reverse ++ []).count x) :: _ = _
      have z : (p.reverse ++ []).count x = 0 := List.count_eq_zero_of_not_mem (by simpa using nx)
      rw [z, nth_first]
    rw [e0, spots_ahead p [] nx, spots_behind q (x :: (p.reverse ++ [])) (p.reverse ++ []) (fun c hc => by rw [List.count_cons, if_neg (by simpa using fun z : x = c => hc z.symm)]; rfl) (by rw [List.count_cons, if_pos (by simp)]), inverts_put, spots_len]
theorem exL_len : ∀ (b a : List Nat) (n : Nat), (exL n a b).length ≤ b.length * (a.length + 1)
  | [], a, n => Nat.zero_le _
  | x :: b, a, n => by
    unfold exL
    have ih := exL_len b (a.erase x) (n + 1)
    have h1 : (a.erase x).length ≤ a.length := List.length_erase_le
    have h2 : a.idxOf x ≤ a.length := List.idxOf_le_length
    have h3 : b.length * ((a.erase x).length + 1) ≤ b.length * (a.length + 1) := Nat.mul_le_mul_left _ (by omega)
    rw [List.length_append, desc_len, List.length_cons, Nat.succ_mul]
    omega
theorem swapAt_len {l : List Nat} {k : Nat} (h : k + 1 < l.length) : (swapAt l k).length = l.length := by
  rw [swapAt_eq (List.getElem?_eq_getElem (by omega : k < l.length)) (List.getElem?_eq_getElem h)]
  simp only [List.length_append, List.length_take, List.length_drop, List.length_cons, List.length_nil]
  omega
theorem canAt_bounds {w : List Nat} {z : Int} (h : canAt ps w z = true) : ∃ k : Nat, z = (k : Int) ∧ k + 1 < w.length := by
  unfold canAt at h
  obtain ⟨h1, h2⟩ := Bool.and_eq_true_iff.mp h
  obtain ⟨h2, _⟩ := Bool.and_eq_true_iff.mp h2
  have a := of_decide_eq_true h1
  have b := of_decide_eq_true h2
  exact ⟨z.toNat, by omega, by omega⟩
theorem canAt_in {w : List Nat} {k x y : Nat} (hx : w[k]? = some x) (hy : w[k + 1]? = some y) : canAt ps w (k : Int) = ind ps x y := by
  obtain ⟨lt, _⟩ := List.getElem?_eq_some_iff.mp hy
  unfold canAt
  rw [show ((k : Int)).toNat = k from rfl, hx, hy, decide_eq_true (by omega : (0 : Int) ≤ (k : Int)), decide_eq_true (by omega : (k : Int) < (w.length : Int) - 1)]
  rfl
theorem canAt_out {w : List Nat} {z : Int} (h : ¬ (0 ≤ z ∧ z < (w.length : Int) - 1)) : canAt ps w z = false := by
  unfold canAt
  by_cases a : (0 : Int) ≤ z
  · rw [decide_eq_false (fun b : z < (w.length : Int) - 1 => h ⟨a, b⟩)]
    simp
  · rw [decide_eq_false a]
    rfl
theorem canAt_mem {w : List Nat} {z : Int} (h : canAt ps w z = true) {c : Nat} (hc : c ∈ swapAt w z.toNat) : c ∈ w := by
  obtain ⟨k, rfl, lt⟩ := canAt_bounds h
  rw [show ((k : Int)).toNat = k from rfl, swapAt_eq (List.getElem?_eq_getElem (by omega : k < w.length)) (List.getElem?_eq_getElem lt)] at hc
  simp only [List.mem_append, List.mem_singleton] at hc
  rcases hc with ((hc | hc) | hc) | hc
  · exact List.mem_of_mem_take hc
  · rw [hc]
    exact List.getElem_mem lt
  · rw [hc]
    exact List.getElem_mem _
  · exact List.mem_of_mem_drop hc
end TcG
/-! The __init__ of an own error below ValueError: super().__init__(text); self.x = y. -/
namespace TcG
open PySem PySem.Spec PyProof.Rows L2 NdefX
/-- what the written part says of the class D and its __init__ -/
structure InitC (P : Program) (K : PySem.W.Frag) (mg : Str → Option Value) (D : Addr) (F : NF) (cc : Addr) : Prop where
  cl : F.cl = [(("__class__" : Str), cc)]
  code : PySem.W.codeIn K (.ref F.c) F.qual = true
  file : ∃ (ccl : Value) (cdd : Option Addr) (vs : Array Value) (ccs : Array (Option Value)) (fl : Str) (tf : Tok), K.lookup F.c = some ⟨ccl, cdd, .fields vs, ccs⟩ ∧ vs[2]? = some (.str fl tf) ∧ ((P.main.file : Str) == fl) = true
  cell : ∃ (cl : Value) (cld : Option Addr) (csl : Array (Option Value)), K.lookup cc = some ⟨cl, cld, .cell (some (.ref D)), csl⟩
  clsD : ∃ cd, PySem.W.clsIn K D = some cd
  top : (P.main.scope.names.lookup ("super" : Str)).isSome = false
  sup : mg "super" = none
  init : PySem.W.ks_superIn K D D "__init__" = some (some (.builtin "ValueError.__init__"))
  below : PySem.W.subIn K (.ref D) (.type "ValueError") = some true
  self : PySem.W.mroIn K D (.ref D) = some true
  opaq : PySem.W.nsIn K cStatics "thirdparty.any" = some none
  oex : OexC K D

section
variable {P : Program} {w : World} {K : PySem.W.Frag} {mg : Str → Option Value} {base : Heap}
theorem fn_super {D f cc : Addr} {F : NF} {N ps : List Str} {k : Nat} {sp : Sp} {e : Expr} {rest : List Stmt} {p0 p1 p2 p3 p4 : Pos} {self : Str} {ar : Arg} {pl : Env → Sem Bool}
    {oc kV doc pm ct : Value} {od an : Option Addr} {osl : Array (Option Value)} (lk : K.lookup f = some ⟨oc, od, .func (PySem.W.fnX F.name F.qual F.params F.body F.scope F.cl .none kV doc pm an (.ref F.c) ct), osl⟩)
    (C : InitC P K mg D F cc) (S : NScope N (self :: ps) ["__class__"] F.scope)
    (hbd : F.body = .Expr (.Call (.Attribute (.Call (.Name "super" p0) [] [] p1) "__init__" p2) [e] [] p3) p4 :: rest) (hpar : (F.params.posonlyargs ++ F.params.args).head? = some ar) (har : ar.arg = self) (hks : F.scope.names.lookup ("super" : Str) = some .globalImplicit)
    (len : ∀ vs H Q E, sp vs H Q E → vs.length = (self :: ps).length)
    (hstar : ∀ env : Env, starEach [e] env = [(false, eval e env)])
    (hform : ∀ env : Env, eval (.Call (.Attribute (.Call (.Name "super" p0) [] [] p1) "__init__" p2) [e] [] p3) env = (do
      let ov ← attributeBase (.Call (.Name "super" p0) [] [] p1) "__init__" env (eval (.Call (.Name "super" p0) [] [] p1) env)
      standAt p2.atName
      let (f, first) ← holding [ov] (getMethod ov "__init__" (pl env))
      callWith p3 f first (backTo p3 (starEach [e] env)) []))
    (hs : ∀ env : Env, swapsWith (.Call (.Attribute (.Call (.Name "super" p0) [] [] p1) "__init__" p2) [e] [] p3) none p4.line env = pure false) (hint : ∀ env : Env, env.scope = F.scope → interactive env = false)
    (body : ∀ (A : Around) (outer : List Env) (s : Shared) (H : Hp) (vs : List V) (Q : VK) (E : XK), Room k (A.deeper (envF F f s.heap.objs.size)) → sp vs H Q E →
      ∃ (a : Addr) (te : TE) (t : TS), PE (ncx CX0 P w K mg base N F f A outer s H E) e te ∧ PSs (ncx CX0 P w K mg base N F f A outer s H E) rest t ∧ vs[0]? = some (.ref a) ∧
        te (startF N vs [none]) H (fun v H1 => H1 a = some (exo a D none) ∧ t { nx := fun _ H' => Q .non H', rt := Q } (startF N vs [none]) H1) ∧ H a = some (exo a D none)) :
    FnOk P w K mg base CX0 (k + 1) f (PySem.W.fnX F.name F.qual F.params F.body F.scope F.cl .none kV doc pm an (.ref F.c) ct) (self :: ps) sp := by
  refine ⟨len, fun A outer s H args us vs Q E hr e0 hb r hsp => ?_⟩
  have hl := len _ _ _ _ hsp
  have KX : K.In s.heap := e0.mod.kin.keeps fun b o e => (e0.bs b o e).1
  have KB : K.In base := e0.mod.kin
  have lim : s.heap.NoLimit := e0.mod.nolimit.keeps fun b o e => (e0.bs b o e).1
  obtain ⟨cl0, cld, csl, hcell⟩ := C.cell
  have cells : CellsAt F.cl ["__class__"] [none] s.heap H := by
    rw [C.cl]
    refine ⟨rfl, fun y c h => ?_, fun x y c h1 h2 => ?_, fun i y hy => ?_⟩
    · have ec : c = cc := by
        have := PySem.mem_of_lookup h
        simpa using (List.mem_singleton.mp this) |> (fun z => congrArg Prod.snd z)
      rw [ec]
      exact ⟨(e0.bs _ _ (KB _ _ hcell)).2, _, _, KX _ _ hcell, rfl⟩
    · have e1 := congrArg Prod.fst (List.mem_singleton.mp (PySem.mem_of_lookup h1))
      have e2 := congrArg Prod.fst (List.mem_singleton.mp (PySem.mem_of_lookup h2))
      exact e1.trans e2.symm
    · cases i with
      | zero =>
        cases hy
        exact ⟨cc, rfl, fun v hv => by cases hv⟩
      | succ i => simp at hy
  refine PySem.ks_codeAny_call_defAt (fd := PySem.W.fnX F.name F.qual F.params F.body F.scope F.cl .none kV doc pm an (.ref F.c) ct) (body := F.body) (binds := (self :: ps).zip us) hr.depth (KX _ _ lk) rfl lim (PySem.W.codeRec_of KX C.code) rfl hb S.nocell
    (fun ⟨n, _⟩ hy => S.par n (List.of_mem_zip hy).1) (fun h1 hns kp => ?_) S.co S.gen S.kind
  obtain ⟨a, te, t, he, ht, ha0, q, ea⟩ := body A outer s H vs Q E (hr.deeper _) hsp
  have I : Inv (ncx CX0 P w K mg base N F f A outer s H E) [] (startF N vs [none]) H { s with heap := h1, toks := s.toks + ((self :: ps).zip us).length } := inv_startN S hr.hd e0 hl r cells hns kp
  generalize hs0 : ({ s with heap := h1, toks := s.toks + ((self :: ps).zip us).length } : Shared) = s0 at I ⊢
  have run : _root_.PySem.wpAt (model P w) (A.deeper (envF F f s.heap.objs.size)) (.func F.body (envF F f s.heap.objs.size)) (execs F.body (envF F f s.heap.objs.size))
      (SP (ncx CX0 P w K mg base N F f A outer s H E) [] { nx := fun _ H' => Q .non H', rt := Q, bk := fun _ _ => False, ct := fun _ _ => False })
      (ncx CX0 P w K mg base N F f A outer s H E).xe s0 := by
    subst hs0
    obtain ⟨cdD, hD⟩ := C.clsD
    obtain ⟨ccl, cdd, vs2, ccs, fl, tf, hcode, hvs, hfile⟩ := C.file
    have KI : K.In h1 := KX.keeps kp
    obtain ⟨oD, hD1, hD2⟩ : ∃ oD, h1.get? D = some oD ∧ oD.data = .cls cdD := by
      have hD := hD
      unfold PySem.W.clsIn at hD
      split at hD
      · rename_i c d cd' sl ho
        cases hD
        exact ⟨_, KI _ _ ho, rfl⟩
      · cases hD
    obtain ⟨t1, hx⟩ := exo_at I.hok ea
    have inst : PySem.W.InstAt h1 a { cls := .ref D, dict := none, data := .fields #[.ref t1, .none, .none, .none, .bool false, .none] } D none := ⟨hx, rfl, rfl, trivial⟩
    have kself : (envF F f s.heap.objs.size).kindOf self = some .local := S.par self List.mem_cons_self
    have ndN : N[0]? = some self := by
      have e1 := S.pre
      cases N with
      | nil => simp at e1
      | cons n r =>
        have : n = self := by
          have := congrArg (fun l => l[0]?) e1
          simpa using this
        rw [this]
        rfl
    have hself : ∃ m, h1.Ns s.heap.objs.size m ∧ m self = some (.ref a) := by
      obtain ⟨m, hn, look⟩ := I.loc
      have h0 : (startF N vs [none])[0]? = some (some (.ref a)) := by
        unfold startF
        cases vs with
        | nil => cases ha0
        | cons v r =>
          cases ha0
          rfl
      obtain ⟨u, ru, l⟩ := look 0 self (.ref a) ndN h0 (.inl kself)
      cases ru
      rcases l with ⟨_, l⟩ | ⟨l, _⟩
      · exact ⟨m, hn, l⟩
      · rcases l with l | l
        · rw [show (ncx CX0 P w K mg base N F f A outer s H E).env.kindOf self = some .local from kself] at l
          cases l
        · rw [show (ncx CX0 P w K mg base N F f A outer s H E).env.kindOf self = some .local from kself] at l
          cases l
    obtain ⟨m, hns2, hm2⟩ := hself
    obtain ⟨mb, hb1, hb2⟩ := I.mod.blt
    rw [hbd]
    have frk : F.scope.names.lookup ("__class__" : Str) = some .free := S.frk _ (List.mem_singleton.mpr rfl)
    have hkl : (envF F f s.heap.objs.size).scope.kind = .function := S.kind
    refine PySem.ks_wpAt_execs_cons (PySem.ks_wpAt_Expr_any (PySem.ks_wpAt_MethodCall (pl := pl (envF F f s.heap.objs.size)) ?_ (hform _)) (hint _ rfl) (hs _))
    refine PySem.ks_wpAt_super_base hks frk (by decide) rfl (kp _ _ (KX _ _ lk)) rfl hpar rfl (KI _ _ hcode) rfl hvs hfile C.top ?_
    refine PySem.W.ks_loadName_global hkl hks (Calls.loadGlobal_builtin (env := envF F f s.heap.objs.size) (I.mod.glob.keeps I.bk) C.sup (hb1.keeps I.bk) ((hb2 _ (by decide)).trans (by decide +kernel)) ⟨rfl, ?_⟩)
    refine wpAny_loadName_free hkl frk (by rw [show (envF F f s.heap.objs.size).cells = F.cl from rfl, C.cl]; rfl) ⟨_, KI _ _ hcell, rfl⟩ ?_
    rw [har]
    refine wpAny_loadName_local hkl kself hns2 hm2 ?_
    refine PySem.ks_wpAny_isType_cls hD1 hD2 ⟨rfl, ?_⟩
    refine PySem.ks_wpAny_call_super hD1 hD2 hx rfl (fun c z => by cases z) (PySem.W.looks_mroIn KI C.self) (fun h2 so2 kp2 => ?_)
    -- the __init__ of ValueError, bound
    have KI2 : K.In h2 := KI.keeps kp2
    have hx2 := kp2 _ _ hx
    have hDa : a ≠ D := fun z => by
      rw [z, hD1] at hx
      cases hx
      cases hD2
    have isVE : PySem.W.Looks (model P w) h2 (isInstance (.ref a) (.type "ValueError")) true :=
      (show PySem.W.InstAt h2 a { cls := .ref D, dict := none, data := .fields #[.ref t1, .none, .none, .none, .bool false, .none] } D none from ⟨hx2, rfl, rfl, trivial⟩).type.andThen (PySem.W.looks_subIn KI2 C.below)
    have hal : PySem.W.alongIn K "__init__" ((cdD.mro.dropWhile (· != .ref D)).drop 1) = some (some (.builtin "ValueError.__init__")) := by
      have := C.init
      unfold PySem.W.ks_superIn at this
      rw [hD] at this
      exact this
    refine PySem.W.kxs_getMethod PySem.W.kxs_ValueError so2 (PySem.W.looks_opaque KI2 C.opaq) (l₀ := cdD.mro) (fun A Q E s k q => wpAny_bind ((PySem.W.looks_clsIn KI2 hD) A _ E s k (wpAny_pure q))) rfl KI2 hal isVE hDa (by decide) ?_
    -- its call
    generalize hu : h2.objs.size = u
    have kp3 : ∀ b o, h1.get? b = some o → (h2.push (PySem.W.kxs_mw "ValueError.__init__" a)).get? b = some o := fun b o e => Heap.get?_push_of_some _ (kp2 b o e)
    have hw : (h2.push (PySem.W.kxs_mw "ValueError.__init__" a)).get? u = some (PySem.W.kxs_mw "ValueError.__init__" a) := by
      rw [← hu]
      exact Heap.get?_push_size _ rfl
    have I3 := I.kept (h' := h2.push (PySem.W.kxs_mw "ValueError.__init__" a)) (t' := s.toks + ((self :: ps).zip us).length + 1) kp3
    have new : ∀ b o, h1.get? b = some o → b ≠ u := fun b o e z => by
      have := Heap.lt_size (kp2 b o e)
      rw [z, ← hu] at this
      exact Nat.lt_irrefl _ this
    have lt2 : h1.objs.size ≤ u := by
      rw [← hu]
      exact Nat.le_of_lt (Nat.lt_of_lt_of_le (Heap.lt_size so2) (Nat.le_refl _))
    have nH : H u = none := I.hok.fresh lt2
    have I4 : Inv (ncx CX0 P w K mg base N F f A outer s H E) [(u, PySem.W.kxs_mw "ValueError.__init__" a)] (startF N vs [none]) H { s with heap := h2.push (PySem.W.kxs_mw "ValueError.__init__" a), toks := s.toks + ((self :: ps).zip us).length + 1 } :=
      I3.pins_of fun p hp => by
        rw [List.mem_singleton.mp hp]
        refine ⟨hw, nH, fun z => ?_, I.nofs lt2, fun v z => by cases z⟩
        have := I.lt
        rw [← z] at this
        exact absurd (Nat.lt_of_lt_of_le this lt2) (Nat.lt_irrefl _)
    refine PySem.W.kxs_callWith (i := "ValueError.__init__") (x := a) ?_ ?_
    · rw [hstar]
      rfl
    rw [hstar]
    refine Calls.evalArgs_plain (Calls.spliced_cons ?_)
    refine thn (he.run _ _ _ H _ I4 q) fun v s3 ⟨x, H1, I5, r1, ea1, q1⟩ => Calls.spliced_nil ?_
    have hw5 := (I5.pin (u, PySem.W.kxs_mw "ValueError.__init__" a) (List.mem_append_right _ List.mem_cons_self)).1
    refine ⟨hw5, ?_⟩
    obtain ⟨t2, hx5⟩ := exo_at I5.hok ea1
    obtain ⟨nm, qn, nN, bs, bm, sn, sub, ab, col, dd, k0, k1, k2, k3, k5, hcls, _⟩ := C.oex.cls
    have I6 : Inv (ncx CX0 P w K mg base N F f A outer s H E) [] (startF N vs [none]) H1 s3 := I5.pins_of fun p hp => nomatch hp
    have hC := I6.kIn _ _ hcls
    obtain ⟨hh, g, d, tk, os⟩ := s3
    refine wpAny_call (codeAny_of_tree ?_)
    show wpAny _ (A.deeper (envF F f s.heap.objs.size)).in1 (callAny (.ref u) ⟨[v], []⟩) _ _ _
    simp only [callAny]
    refine wpAny_bind (wpAny_load hw5 ?_)
    simp only [PySem.W.kxs_mw, show (Value.type "method-wrapper" == Value.type "method" || Value.type "method-wrapper" == Value.type "builtin_function_or_method" || Value.type "method-wrapper" == Value.type "method-wrapper") = true by decide, if_true]
    refine PySem.W.KFB.if_so (by decide) ?_
    refine wpAny_bind (PySem.W.check_bound_init PySem.F.excBase_ValueError.toExcCallFacts hC hx5 rfl ?_)
    refine wpAny_bind (wpAny_pure (wpAny_pure ?_))
    refine ⟨PySem.plainId_quiet PySem.F.excBase_ValueError.init.plain _, codeAny_builtin PySem.F.excBase_ValueError.initEntry ?_⟩
    refine PySem.W.exc_init_tree (cls := .ref D) (t0 := t2) (dv := none) (c2 := .none) (c3 := .none) (b4 := .bool false) hx5 (by show 1 ≤ sizeLine; decide) fun h' k e' _ => ?_
    have J := I6.write (t' := tk) (x := a) (e := a) (o := exo a D none) (by rw [ea1]; exact True.intro) (.inl rfl) k ⟨_, e'⟩ (exo_ok e')
    have eu : upd H1 a (exo a D none) = H1 := by
      funext b
      by_cases hb : b = a
      · rw [hb, upd_same, ea1]
      · rw [upd_ne hb]
    rw [eu] at J
    exact PySem.wpAt_of_wpAny (ht.run [] _ _ _ _ J q1)
  refine PySem.ks_wpAt_mono run (fun fl s' hs => ?_) fun e s' hs => hs
  have fin : ∀ {σ' : L2.St} {H' : Hp} {v : V} {u : Value}, Inv (ncx CX0 P w K mg base N F f A outer s H E) [] σ' H' s' → L2.RelV v u → Q v H' → CE outer P w H s Q u s' :=
    fun {σ' H' v u} J rv q => ⟨v, H', J.os, J.bare, J.base, J.hok, rv, q⟩
  cases fl with
  | ret u =>
    obtain ⟨v, σ', H', J, rv, q⟩ := hs
    exact fin J rv q
  | next =>
    obtain ⟨σ', H', J, q⟩ := hs
    exact fin (v := V.non) (u := Value.none) J rfl q
  | brk =>
    obtain ⟨_, _, _, q⟩ := hs
    exact False.elim q
  | cont =>
    obtain ⟨_, _, _, q⟩ := hs
    exact False.elim q
end
end TcG
/-! Own errors with a dict: raised, caught, asked for their class; defs called while one is handled. -/
namespace TcG
open PySem PySem.Spec PyProof.Rows L2

section
variable {X : Cx}
/-- C(e, ..): what is made has no context -/
theorem pmk_fresh {x : Str} {C fI : Addr} {k : Nat} {fd : FuncData} {ps : List Str} {sp : Sp} {e : Expr} {es : List Expr} {ta : TA} {p pos : Pos} (T : OexC X.K C)
    (hi : PySem.W.findIn X.K (.ref C) "__init__" = some (some (.ref fI))) (ht : PySem.W.typeIn X.K (.ref fI) = some (.type "function"))
    (F : FnOk X.prog X.w X.K X.mg X.base L2.CX0 k fI fd ps sp) (room : Room (k + 1) X.A) (binds : Binds X.K fd ps []) (glob : Gl X x) (there : X.mg x = some (.ref C)) (ha : PA X (e :: es) ta)
    (hdb : (x == ("__debug__" : Str)) = false := by decide) (he : starEach (e :: es) X.env = (false, eval e X.env) :: starEach es X.env := by rfl) (hpl : (backTo pos (starEach es X.env)).any (·.1) = false := by rfl) :
    L2N.PMk X (.Call (.Name x p) (e :: es) [] pos) (tMkO C sp [] ta) := by
  intro pins s σ H Q I h
  obtain ⟨c1, c2, c3, c4, mro, c6, c7, c8, c9, c10, c11, c12, c13, c14, c15, clsAt, mroOk⟩ := T.cls
  refine wpAny_Call_Name_kw (ld_glob I glob there ?_ hdb)
  refine PySem.W.callWith_K (h₀ := X.base) I.ok.mod.kin T.kC ?_ he hpl
  refine thn (ha.run pos pins s σ H _ I h) fun us s1 ⟨vs, H1, I1, r1, few, made⟩ => ⟨I1.kIn, ?_⟩
  change wpAny _ _ (call (.ref C) us) _ _ _
  obtain ⟨h0, gens, dr, tk, os⟩ := s1
  have next : h0.objs.size ≤ h0.objs.size + 1 := Nat.le_succ _
  have goal := made (h0.objs.size + 1) (I1.hok.fresh next)
  rw [List.append_nil] at goal
  let h1 := (h0.push (PySem.W.kdv_tup us)).push (PySem.HandSPX.excO C h0.objs.size)
  have old : ∀ b o, h0.get? b = some o → h1.get? b = some o := fun b o e => Heap.get?_push_of_some _ (Heap.get?_push_of_some _ e)
  have self : h1.get? (h0.objs.size + 1) = some (PySem.HandSPX.excO C h0.objs.size) := by
    show ((h0.push (PySem.W.kdv_tup us)).push (PySem.HandSPX.excO C h0.objs.size)).get? (h0.objs.size + 1) = _
    heap_get
  have I2 : Inv X pins σ (upd H1 (h0.objs.size + 1) (exo (h0.objs.size + 1) C none)) ⟨h1, gens, dr, tk, os⟩ := I1.laid (t' := tk) old next (exo_ok self)
  have vals : Vals (V.ref (h0.objs.size + 1) :: vs) (Value.ref (h0.objs.size + 1) :: us) := .cons rfl r1
  have many : (Value.ref (h0.objs.size + 1) :: us ++ []).length = ps.length := by
    rw [List.append_nil, ← vals.length]
    exact F.len _ _ _ _ goal
  have line : us.length ≤ sizeLine := by
    rw [← Paired.length r1]
    exact Nat.le_trans few (by decide)
  have bs := binds _ (Value.ref (h0.objs.size + 1) :: us) I2.kIn many
  rw [List.append_nil] at bs
  refine wpAny_call (PySem.HandSPX.call_own PySem.F.excBase_ValueError (fun Y => PySem.HandSPX.refsVE_contains Y mro mroOk) (I1.kIn _ _ clsAt) (PySem.W.looks_findIn I1.kIn hi)
    (fun y => PySem.W.bind_fn I1.kIn y ht) line (codeAny_mono (F.run _ X.stack _ _ ⟨Value.ref (h0.objs.size + 1) :: us, []⟩ (Value.ref (h0.objs.size + 1) :: us) _ _
      (fun _ _ _ => False) (room.make C us []) (I2.env0.make C us []) bs vals goal) fun r s' end' => ?_))
  match r, end' with
  | .error _, z => exact False.elim z
  | .ok (.ret u), ⟨v, H2, os2, bare2, un2, hok2, rv, ev, d, fs, ea, ed, hd1, q2⟩ =>
    subst ev
    obtain ⟨h2, g2, d2, t2, os'⟩ := s'
    obtain ⟨t0, G, J, kG, ge, oeAt, na⟩ := mk_end0 (d2 := d2) (t2 := t2) I1 next old un2 hok2 os2 bare2 ea ed hd1
    refine ⟨rv, h0.objs.size + 1, _, _, ⟨G, g2, d2, t2, os'⟩, _, .ref C, some d, rfl, J, kG, ge, oeAt, ⟨rfl, rfl, fun vs hv => ?_⟩, rfl, rfl, na, rfl, bare2, raises_own T.exC T.tyC, q2⟩
    cases hv
    rfl
  | .ok .next, z => exact False.elim z
  | .ok .brk, z => exact False.elim z
  | .ok .cont, z => exact False.elim z
/-- what is caught is what is handled, and has no context -/
theorem hot_suite {a : Addr} {oe : Obj} {cls : Value} {d : Option Addr} {pn : List (Addr × Obj)} (hz : L2N.Zn cls d oe) (hf : ∃ vs, oe.data = .fields vs) : L2H.HotC (X.suite a ((a, oe) :: pn)) := by
  obtain ⟨vs, e⟩ := hf
  exact ⟨(a, oe), ⟨rfl, vs, e, hz.2.2 vs e⟩, List.mem_cons_self⟩
/-- around a body nothing is let out -/
theorem takesN : L2N.Takes X (fun _ _ _ _ => False) := fun _ _ x => by
  obtain ⟨_, _, _, _, _, _, _, _, _, _, _, _, _, _, _, _, z⟩ := x
  exact z.elim
theorem passH (E : L2.St → XK) : ∀ σ, PassesAt L2.CX0 X σ (E σ) := fun _ _ _ _ _ _ _ h => h.elim
/-- isinstance(e, c), e what is caught, with its dict -/
def rIsD (K : PySem.W.Frag) (D a : Addr) (cls : Value) (d : Option Addr) : List V → Hp → VK → Prop := fun xs H Q =>
  ∃ (c : V) (cv : Value) (b : Bool) (dd : Addr) (fs : List (Str × V)), xs = [.ref a, c] ∧ cls = .ref D ∧ d = some dd ∧ (∀ u, RelV c u → u = cv) ∧ PySem.W.kitOne K (.ref D) cv = some b ∧ H dd = some (.xd fs) ∧ Q (.bl b) H
theorem call_isD {a D : Addr} {cls : Value} {d : Option Addr} {oe : Obj} {pn : List (Addr × Obj)} (C : ExcC X.K D) (hz : Zc cls d oe) (hf : ∃ vs, oe.data = .fields vs) : CallR (X.suite a ((a, oe) :: pn)) (.builtin "isinstance") (rIsD X.K D a cls d) := by
  intro pins s σ H xs us Q I r h
  obtain ⟨c, cv, b, dd, fs, rfl, rfl, rfl, hcv, e, ed, q⟩ := h
  obtain ⟨u1, u2, rfl, r1, r2⟩ := vals2 r
  obtain rfl : u1 = Value.ref a := r1
  have ec := hcv _ r2
  subst ec
  obtain ⟨hget, _⟩ := I.pin (a, oe) (List.mem_append.mpr (.inl List.mem_cons_self))
  obtain ⟨vs, hv⟩ := hf
  have hx : ObjOk X.prog X.w H s.heap dd (.xd fs) := I.hok dd _ ed
  obtain ⟨mA, hns, _⟩ := hx
  obtain ⟨od, ho, _⟩ := lookIn_ns hns
  have J : PySem.W.InstAt s.heap a oe D (some od) := ⟨hget, hz.1, by unfold PySem.W.notCls; rw [hv] <;> rfl, by rw [hz.2]; exact ho⟩
  have hcl : (PySem.W.clsIn X.K D).isSome = true := by
    obtain ⟨cd, hc, _⟩ := PySem.W.any_some C.hd
    rw [hc]
    rfl
  exact PySem.W.kia_one (PySem.W.kitx_exc (od := some od) hcl C.hg C.hk C.hs C.ha C.hn C.ht C.hm) I.kIn J e (fun z => nomatch z) fun tk => ⟨.bl b, H, I.kept (t' := tk) fun _ _ z => z, rfl, q⟩
end
section
variable {P : Program} {w : World} {K : PySem.W.Frag} {mg : Str → Option Value} {base : Heap}
/-- a def that raises what has no context -/
theorem fun_okN {x qual : Str} {st : Stmt} {f : Addr} {fd : FuncData} {N ps : List Str} {k : Nat} {sp : Sp} (F : Fun K x qual st f fd) (S : FnScope N ps (defScope st)) (len : ∀ vs H Q E, sp vs H Q E → vs.length = ps.length)
    (walk : ∀ (cdv : Value) (A : Around) (outer : List Env) (s : Shared) (H : Hp) (vs : List V) (Q : VK) (E : XK), Room k (A.deeper (envOfC qual (defScope st) s.heap.objs.size f cdv)) → sp vs H Q E →
      ∃ t, PSs (cxOf (L2N.CX P w) P w K mg base N qual (defScope st) f cdv A outer s H E) (defBody st) t ∧ t { nx := fun _ H' => Q .non H', rt := Q } (start N vs) H) : FnOk P w K mg base (L2N.CX P w) (k + 1) f fd ps sp := by
  obtain ⟨oc, od, kV, doc, pm, an, cdv, ct, osl, rfl, lk, code⟩ := F.ex
  exact fn_of lk code S len (walk cdv)
/-- a def that is called while something is handled -/
theorem fun_hot {x qual : Str} {st : Stmt} {f : Addr} {fd : FuncData} {N ps : List Str} {k : Nat} {sp : Sp} (F : Fun K x qual st f fd) (S : FnScope N ps (defScope st)) (len : ∀ vs H Q E, sp vs H Q E → vs.length = ps.length)
    (walk : ∀ (cdv : Value) (A : Around) (outer : List Env) (s : Shared) (H : Hp) (vs : List V) (Q : VK) (E : XK) (p : Addr × Obj), L2H.Hot1 A p → L2H.RoomH k (A.deeper (envOfC qual (defScope st) s.heap.objs.size f cdv)) → sp vs H Q E →
      ∃ t, PSs (L2H.cxH L2.CX0 P w K mg base N qual (defScope st) f cdv A outer s H E p) (defBody st) t ∧ t { nx := fun _ H' => Q .non H', rt := Q } (start N vs) H) : L2H.FnH P w K mg base L2.CX0 (k + 1) f fd ps sp := by
  obtain ⟨oc, od, kV, doc, pm, an, cdv, ct, osl, rfl, lk, code⟩ := F.ex
  exact L2H.fn_ofH lk code S len (walk cdv)
end
/-- isinstance of a class of the text that is none of its own, and of ValueError -/
theorem kit_other {K : PySem.W.Frag} {D C : Addr} (h1 : PySem.W.isClsIn K C = true) (h2 : PySem.W.typeIn K (.ref C) = some (.type "type")) (own : PySem.W.subIn K (.ref D) (.ref D) = some true) (h3 : PySem.W.subIn K (.ref D) (.ref C) = some false) : PySem.W.kitOne K (.ref D) (.ref C) = some false := by
  have ne : D ≠ C := fun z => by
    rw [← z, own] at h3
    cases h3
  have e1 : (Value.ref D == Value.ref C) = false := by simpa using ne
  have e2 : ((PySem.W.clsIn K C).isSome && PySem.W.typeIn K (.ref C) == some (.type "type")) = true := by
    have h1' : (PySem.W.clsIn K C).isSome = true := h1
    rw [h1', h2]
    rfl
  unfold PySem.W.kitOne PySem.W.kitCls
  rw [e1, if_neg Bool.false_ne_true]
  show (if ((PySem.W.clsIn K C).isSome && PySem.W.typeIn K (.ref C) == some (.type "type")) = true then PySem.W.subIn K (.ref D) (.ref C) else none) = some false
  rw [if_pos e2]
  exact h3
theorem kit_value {K : PySem.W.Frag} {D : Addr} (h : PySem.W.subIn K (.ref D) (.type "ValueError") = some true) : PySem.W.kitOne K (.ref D) (.type "ValueError") = some true := by
  have e1 : (Value.ref D == Value.type "ValueError") = false := rfl
  have e2 : PySem.W.kitMeta "ValueError" = true := by decide +kernel
  unfold PySem.W.kitOne PySem.W.kitCls
  rw [e1, if_neg Bool.false_ne_true]
  show (if PySem.W.kitMeta "ValueError" = true then PySem.W.subIn K (.ref D) (.type "ValueError") else none) = some true
  rw [if_pos e2]
  exact h
end TcG
/-! for i, x in enumerate(..), over a text and over a tuple. -/
namespace TcG
open PySem PySem.Spec PyProof.Rows L2

theorem meets_enum1 {v : Value} {o : Obj} {H : Heap → Prop} (B : Begins v o H) :
    Meets (Builtin.«enumerate.__new__» ⟨[.type "enumerate", v], []⟩) (fun _ R s => H s.heap ∧ R (.ok (.ret (.ref (s.heap.push o).objs.size)))
      { s with heap := (s.heap.push o).push { cls := .type "enumerate", data := .fields #[.none, .bool false, .ref s.heap.objs.size, rawInt 0, .none, .none] } }) :=
  .of_wp fun prog w A R s both => by
    obtain ⟨h0, gens, dr, tk, os⟩ := s
    obtain ⟨stands, goal⟩ := both
    have sub := sub_enumerate
    have start : ∀ {A' : Around} {E : Value → Shared → Prop} {Q : Value → Shared → Prop}, Q (.ref h0.objs.size) ⟨h0.push o, gens, dr, tk, os⟩ → wpAny (model prog w) A' (pyIter v) Q E ⟨h0, gens, dr, tk, os⟩ :=
      fun q => B.iter prog w _ _ _ _ stands q
    wp_walk using start
    refine wpAny_stack_any fun _ => wpAny_pure ?_
    split
    · rename_i c _ _ _ _ _
      cases (c == Value.type "enumerate") <;> (wp_walk using start) <;> exact ⟨_, rfl, goal⟩
    · wp_walk using start
      exact ⟨_, rfl, goal⟩
theorem enum1 {prog : Program} {w : World} {A : Around} {E : Value → Shared → Prop} {s : Shared} {v : Value} {o : Obj} {H : Heap → Prop} {Q : Value → Shared → Prop} (B : Begins v o H) (stands : H s.heap)
    (h : ∀ h', IsEnum h' (s.heap.objs.size + 1) s.heap.objs.size 0 .none → h'.get? s.heap.objs.size = some o → (∀ b u, s.heap.get? b = some u → h'.get? b = some u) → Q (.ref (s.heap.objs.size + 1)) { s with heap := h' }) :
    wpAny (model prog w) A (call (.type "enumerate") [v]) Q E s := by
  refine callType_new PySem.F.called_enumerate (by decide) (PySem.F.typeCall_enumerate_1 _) (PySem.F.newCall_enumerate_1 _) (fun obj => PySem.F.args_object_init_2 obj _) PySem.F.entry_enumerate_new (meets_enum1 B) ⟨stands, ?_⟩
  have size : (s.heap.push o).objs.size = s.heap.objs.size + 1 := Heap.size_push ..
  show _ ∧ _
  rw [size]
  have last := Heap.get?_push_size (s.heap.push o) (o := { cls := .type "enumerate", data := .fields #[.none, .bool false, .ref s.heap.objs.size, rawInt 0, .none, .none] }) rfl
  rw [size] at last
  exact ⟨⟨_, last, rfl⟩, h _ last (Heap.get?_push_of_some _ (Heap.get?_push_size _ B.free)) fun b u x => Heap.get?_push_of_some _ (Heap.get?_push_of_some _ x)⟩

/-- the numbered items of the tuple at a -/
def IteT (K : PySem.W.Frag) (a : Addr) (xs : List V) : It :=
  ⟨fun i H => i < xs.length ∧ SqT K H a xs, fun i H v H' => ∃ T x, xs[i]? = some x ∧ v = .ref T ∧ H T = none ∧ H' = upd H T (.tup [.int (i : Nat), x]), fun i H => xs.length ≤ i ∧ SqT K H a xs⟩
/-- the numbered signs of a text -/
def IteS (z : Str) : It :=
  ⟨fun i _ => i < z.cps.size, fun i H v H' => ∃ T c, z.cps[i]? = some c ∧ v = .ref T ∧ H T = none ∧ H' = upd H T (.tup [.int (i : Nat), .str ⟨#[c]⟩]), fun i _ => z.cps.size ≤ i⟩

end TcG
namespace TcG
open PySem PySem.Spec PyProof.Rows L2
section
variable {P : Program} {w : World} {K : PySem.W.Frag} {elts : List Expr} {kk : Nat} {tpos : Pos}
/-- one turn, told by what the inner iterator draws -/
theorem enum_step {X : Cx} {pins : List (Addr × Obj)} {σ : L2.St} {H : Hp} {s : Shared} {E : Value → Shared → Prop} {e it : Addr} {fp : List Addr} {n i : Nat} {Pv : Nat → Value → Prop} {St : Nat → Heap → Prop} {old : Value} {J : It} {tn : Nat → Heap → Prop}
    (I : Inv X pins σ H s) (D : Draws X.prog X.w X.A.in1 it fp n Pv St) (he : IsEnum s.heap e it ((i : Nat) : Int) old) (st : St i s.heap) (lt : i < n) (ne : e ≠ it) (ef : e ∉ fp) (hf : ∀ b ∈ [e, it], FpOk X pins H b)
    (item : ∀ u, Pv i u → ∃ x, RelV x u ∧ ∀ T, H T = none → J.yld i H (.ref T) (upd H T (.tup [.int (i : Nat), x])))
    (next : ∀ h' u, IsEnum h' e it ((i : Nat) + 1 : Int) u → St (i + 1) h' → tn (i + 1) h') :
    wpAny (model X.prog X.w) X.A (pyNext (.ref e)) (fun r s1 => ∃ u, r = some u ∧ wpAny (model X.prog X.w) X.A (letOwnedTupleGo (.Tuple elts kk tpos) (.ref e) u)
      (fun _ s2 => ∃ x H', Inv X pins σ H' s2 ∧ RelV x u ∧ J.yld i H x H' ∧ tn (i + 1) s2.heap ∧ ∀ b ∈ [e, it], H' b = none) E s1) E s := by
  have le : e < s.heap.objs.size := Heap.lt_size he
  have li : it < s.heap.objs.size := by
    obtain ⟨_, q⟩ := D.live _ _ st
    exact Heap.lt_size q
  refine wpAny_pyNext_enum_itemD D he st lt ne ef fun u h' tk hu out st' hT size keep => ?_
  obtain ⟨x, rx, yl⟩ := item u hu
  refine ⟨_, rfl, wpAny_letOwnedTupleGo_enum (s := { s with heap := h', toks := tk + 1 }) out fun h2 he2 same => ?_⟩
  have hT2 : h2.get? s.heap.objs.size = some { cls := .type "tuple", data := .seq #[.int i tk, u] } := (same.2 _ (Nat.ne_of_gt le)).trans hT
  have new : ObjOk X.prog X.w (upd H s.heap.objs.size (.tup [.int (i : Nat), x])) h2 s.heap.objs.size (.tup [.int (i : Nat), x]) :=
    ⟨by show 2 ≤ sizeLine; decide, [.int i tk, u], .cons ⟨_, rfl⟩ (.cons rx .nil), ⟨_, hT2, rfl, _, rfl⟩⟩
  have I1 : Inv X pins σ (upd H s.heap.objs.size (.tup [.int (i : Nat), x])) { s with heap := h2, toks := tk + 1 } :=
    I.turnedNew (ch := [e, it]) (fun b ob hb q => (same.2 b fun z => hb (by simp [z])).trans (keep b ob (fun z => hb (by simp [z])) (fun z => hb (by simp [z])) q)) hf (Nat.le_refl _) new
  have st2 : St (i + 1) h2 := D.frame _ _ _ st' fun b hb o q => (same.2 b fun z => ef (z ▸ hb)).trans q
  refine ⟨.ref s.heap.objs.size, _, I1, rfl, yl _ (I.hok.fresh (Nat.le_refl _)), next _ _ he2 st2, fun b hb => ?_⟩
  have lb : b < s.heap.objs.size := by
    rcases List.mem_cons.mp hb with z | z
    · rw [z]
      exact le
    · rw [List.mem_singleton.mp z]
      exact li
  rw [upd_ne (Nat.ne_of_lt lb)]
  exact (hf b hb).1
theorem enum_over {X : Cx} {pins : List (Addr × Obj)} {σ : L2.St} {H : Hp} {s : Shared} {E : Value → Shared → Prop} {e it : Addr} {fp : List Addr} {n : Nat} {i : Int} {Pv : Nat → Value → Prop} {St : Nat → Heap → Prop} {old : Value}
    (I : Inv X pins σ H s) (D : Draws X.prog X.w X.A.in1 it fp n Pv St) (he : IsEnum s.heap e it i old) (st : St n s.heap) (hf : ∀ b ∈ [e, it], FpOk X pins H b) :
    wpAny (model X.prog X.w) X.A (pyNext (.ref e)) (fun r s1 => r = none ∧ Inv X pins σ H s1) E s := by
  obtain ⟨f0, f1, f2, f3, f4, f5⟩ := hf it (by simp)
  exact wpAny_pyNext_enum_endD D he st fun h' eb => ⟨rfl, I.turned (t' := s.toks) (fun b o hb q => eb b o hb q) f0 f1 f3 f4 f5⟩
theorem turn_enumS (z : Str) (t : Tok) (e it : Addr) :
    Turn P w K (.Tuple elts kk tpos) (IteS z) [e, it] e (fun i h => (∃ old, IsEnum h e it ((i : Nat) : Int) old) ∧ h.IsStrIter it (strIterType z) z t i ∧ e ≠ it ∧ i ≤ z.cps.size) where
  mem := by simp
  obj := fun i h st b hb => by
    obtain ⟨⟨old, he⟩, ⟨o, ho, hc, hd⟩, _⟩ := st
    rcases List.mem_cons.mp hb with y | y
    · exact ⟨_, by rw [y]; exact he, fun v q => by cases q⟩
    · exact ⟨o, by rw [List.mem_singleton.mp y]; exact ho, fun v q => by rw [hd] at q; cases q⟩
  keep := fun i h h' st k => by
    obtain ⟨⟨old, he⟩, ⟨o, ho, r⟩, ne, le⟩ := st
    exact ⟨⟨old, k e (by simp) _ he⟩, ⟨o, k it (by simp) o ho, r⟩, ne, le⟩
  item := by
    intro X hP hw hK hc i pins s σ H E I hf st hg
    subst hP hw hK
    obtain ⟨⟨old, he⟩, hit, ne, le⟩ := st
    have hg : i < z.cps.size := hg
    have hh : X.A.in1.handled = none := I.ok.hd hc
    have D := Draws.text (prog := X.prog) (w := X.w) hh it z t
    refine enum_step (J := IteS z) (tn := fun i h => (∃ old, IsEnum h e it ((i : Nat) : Int) old) ∧ h.IsStrIter it (strIterType z) z t i ∧ e ≠ it ∧ i ≤ z.cps.size) I D he hit hg ne (fun y => ne (List.mem_singleton.mp y)) hf (fun u hu => ?_) fun h' u he' st' => ⟨⟨u, ?_⟩, st', ne, hg⟩
    · obtain ⟨c, t2, hc2, rfl⟩ := hu
      exact ⟨.str ⟨#[c]⟩, ⟨t2, rfl⟩, fun T hT => ⟨T, c, hc2, rfl, hT, rfl⟩⟩
    · rw [show ((i + 1 : Nat) : Int) = (i : Int) + 1 by omega]
      exact he'
  done := by
    intro X hP hw hK hc i pins s σ H E I hf st hg
    subst hP hw hK
    obtain ⟨⟨old, he⟩, hit, ne, le⟩ := st
    have hg : z.cps.size ≤ i := hg
    obtain rfl : i = z.cps.size := by omega
    have hh : X.A.in1.handled = none := I.ok.hd hc
    have D := Draws.text (prog := X.prog) (w := X.w) hh it z t
    exact enum_over I D he hit hf
  self := fun A i s Q E st h => by
    obtain ⟨⟨_, he⟩, _⟩ := st
    exact wpAny_pyIter_enum he h
end
end TcG
namespace TcG
open PySem PySem.Spec PyProof.Rows L2
section
variable {P : Program} {w : World} {K : PySem.W.Frag} {elts : List Expr} {kk : Nat} {tpos : Pos}
theorem turn_enumT (a : Addr) (xs : List V) (e it : Addr) :
    Turn P w K (.Tuple elts kk tpos) (IteT K a xs) [e, it] e (fun i h => (∃ old, IsEnum h e it ((i : Nat) : Int) old) ∧ h.IsTupleIter it a i ∧ e ≠ it ∧ i ≤ xs.length) where
  mem := by simp
  obj := fun i h st b hb => by
    obtain ⟨⟨old, he⟩, ⟨o, ho, hc, hd⟩, _⟩ := st
    rcases List.mem_cons.mp hb with y | y
    · exact ⟨_, by rw [y]; exact he, fun v q => by cases q⟩
    · exact ⟨o, by rw [List.mem_singleton.mp y]; exact ho, fun v q => by rw [hd] at q; cases q⟩
  keep := fun i h h' st k => by
    obtain ⟨⟨old, he⟩, ⟨o, ho, r⟩, ne, le⟩ := st
    exact ⟨⟨old, k e (by simp) _ he⟩, ⟨o, k it (by simp) o ho, r⟩, ne, le⟩
  item := by
    intro X hP hw hK hc i pins s σ H E I hf st hg
    subst hP hw hK
    obtain ⟨⟨old, he⟩, hit, ne, le⟩ := st
    obtain ⟨lt, ht⟩ := hg
    obtain ⟨its, rv, p, _⟩ := I.tuple ht
    have hp : s.heap.IsTuple a its.toArray := p
    have ae : a ≠ e := fun z => by
      obtain ⟨o, ho, hc2, _⟩ := hp
      rw [z, he] at ho
      cases ho
      have hc2 : Value.type "enumerate" = .type "tuple" := hc2
      exact absurd (Value.type.inj hc2) (by decide)
    have ai : a ≠ it := fun z => by
      obtain ⟨o, ho, hc2, _⟩ := hp
      obtain ⟨o2, ho2, hc3, _⟩ := hit
      rw [z, ho2] at ho
      cases ho
      have hc2 : Value.type "tuple_iterator" = .type "tuple" := hc3.symm.trans hc2
      exact absurd (Value.type.inj hc2) (by decide)
    have hh : X.A.in1.handled = none := I.ok.hd hc
    have D := Draws.tuple (prog := X.prog) (w := X.w) hh it a ai its.toArray
    have len : its.toArray.size = xs.length := by
      rw [List.size_toArray]
      exact rv.length.symm
    refine enum_step (J := IteT X.K a xs) (tn := fun i h => (∃ old, IsEnum h e it ((i : Nat) : Int) old) ∧ h.IsTupleIter it a i ∧ e ≠ it ∧ i ≤ xs.length) I D he ⟨hit, hp⟩ (by rw [len]; exact lt) ne (fun y => ?_) hf (fun u hu => ?_) fun h' u he' st' => ⟨⟨u, ?_⟩, st'.1, ne, lt⟩
    · rcases List.mem_cons.mp y with y | y
      · exact ne y
      · exact ae (List.mem_singleton.mp y).symm
    · have hx : xs[i]? = some xs[i] := List.getElem?_eq_getElem lt
      obtain ⟨u2, hu2, ru⟩ := rv.get hx
      have e2 : its[i]? = some u := by simpa using hu
      rw [hu2] at e2
      cases e2
      exact ⟨xs[i], ru, fun T hT => ⟨T, xs[i], hx, rfl, hT, rfl⟩⟩
    · rw [show ((i + 1 : Nat) : Int) = (i : Int) + 1 by omega]
      exact he'
  done := by
    intro X hP hw hK hc i pins s σ H E I hf st hg
    subst hP hw hK
    obtain ⟨⟨old, he⟩, hit, ne, le⟩ := st
    obtain ⟨ge, ht⟩ := hg
    obtain rfl : i = xs.length := by omega
    obtain ⟨its, rv, p, _⟩ := I.tuple ht
    have hp : s.heap.IsTuple a its.toArray := p
    have ai : a ≠ it := fun z => by
      obtain ⟨o, ho, hc2, _⟩ := hp
      obtain ⟨o2, ho2, hc3, _⟩ := hit
      rw [z, ho2] at ho
      cases ho
      have hc2 : Value.type "tuple_iterator" = .type "tuple" := hc3.symm.trans hc2
      exact absurd (Value.type.inj hc2) (by decide)
    have hh : X.A.in1.handled = none := I.ok.hd hc
    have D := Draws.tuple (prog := X.prog) (w := X.w) hh it a ai its.toArray
    have len : its.toArray.size = xs.length := by
      rw [List.size_toArray]
      exact rv.length.symm
    refine enum_over I D he ⟨?_, hp⟩ hf
    rw [len]
    exact hit
  self := fun A i s Q E st h => by
    obtain ⟨⟨_, he⟩, _⟩ := st
    exact wpAny_pyIter_enum he h
end
end TcG
namespace TcG
open PySem PySem.Spec PyProof.Rows L2
section
variable {X : Cx} {e : Expr} {ta : TA} {p pos tpos : Pos} {elts : List Expr} {kk : Nat}
def iEnumT (K : PySem.W.Frag) (ta : TA) : TI := fun σ H R => ta σ H fun vs H1 => ∃ a xs, vs = [.ref a] ∧ SqT K H1 a xs ∧ R (IteT K a xs) H1
def iEnumS (ta : TA) : TI := fun σ H R => ta σ H fun vs H1 => ∃ z : Str, vs = [.str z] ∧ R (IteS z) H1
theorem pi_enumT (hg : Gl X "enumerate") (hm : X.mg "enumerate" = none) (ha : PA X [e] ta) (hs : starEach [e] X.env = [(false, eval e X.env)] := by rfl) :
    PI X (.Tuple elts kk tpos) (.Call (.Name "enumerate" p) [e] [] pos) (iEnumT X.K ta) := by
  refine ⟨fun pins s σ H R I h => ?_⟩
  refine Call_ (ld_blt I hg hm boot_enumerate (PyProof.Rows.callWith_type1 (thn (ha.run pos pins s σ H _ I h) fun us s1 ⟨vs, H1, I1, r1, q1⟩ => ?_) hs rfl))
  obtain ⟨a, xs, rfl, ht, q⟩ := q1
  obtain ⟨u, rfl, r⟩ := vals1 r1
  obtain rfl : u = Value.ref a := r
  obtain ⟨its, rv, pt, _⟩ := I1.tuple ht
  refine enum1 (begins_tuple a its.toArray) pt fun h' hen hit keep => wpAny_pyIter_enum hen ?_
  have I2 : Inv X pins σ H1 { s1 with heap := h' } := I1.kept (t' := s1.toks) keep
  refine ⟨s1.heap.objs.size + 1, [s1.heap.objs.size + 1, s1.heap.objs.size], _, _, H1, rfl, I2, turn_enumT a xs (s1.heap.objs.size + 1) s1.heap.objs.size, ⟨⟨.none, hen⟩, ⟨_, hit, rfl, rfl⟩, Nat.succ_ne_self _, Nat.zero_le _⟩, fun b hb => ?_, q⟩
  have le : s1.heap.objs.size ≤ b := by
    rcases List.mem_cons.mp hb with z | z
    · rw [z]
      exact Nat.le_succ _
    · rw [List.mem_singleton.mp z]
      exact Nat.le_refl _
  exact I1.fpOk le (I1.hok.fresh le)
theorem pi_enumS (hg : Gl X "enumerate") (hm : X.mg "enumerate" = none) (ha : PA X [e] ta) (hs : starEach [e] X.env = [(false, eval e X.env)] := by rfl) :
    PI X (.Tuple elts kk tpos) (.Call (.Name "enumerate" p) [e] [] pos) (iEnumS ta) := by
  refine ⟨fun pins s σ H R I h => ?_⟩
  refine Call_ (ld_blt I hg hm boot_enumerate (PyProof.Rows.callWith_type1 (thn (ha.run pos pins s σ H _ I h) fun us s1 ⟨vs, H1, I1, r1, q1⟩ => ?_) hs rfl))
  obtain ⟨z, rfl, q⟩ := q1
  obtain ⟨u, rfl, r⟩ := vals1 r1
  obtain ⟨t, rfl⟩ := (show ∃ t, u = Value.str z t from r)
  refine enum1 (begins_text z t) trivial fun h' hen hit keep => wpAny_pyIter_enum hen ?_
  have I2 : Inv X pins σ H1 { s1 with heap := h' } := I1.kept (t' := s1.toks) keep
  refine ⟨s1.heap.objs.size + 1, [s1.heap.objs.size + 1, s1.heap.objs.size], _, _, H1, rfl, I2, turn_enumS z t (s1.heap.objs.size + 1) s1.heap.objs.size, ⟨⟨.none, hen⟩, ⟨_, hit, rfl, rfl⟩, Nat.succ_ne_self _, Nat.zero_le _⟩, fun b hb => ?_, q⟩
  have le : s1.heap.objs.size ≤ b := by
    rcases List.mem_cons.mp hb with z | z
    · rw [z]
      exact Nat.le_succ _
    · rw [List.mem_singleton.mp z]
      exact Nat.le_refl _
  exact I1.fpOk le (I1.hok.fresh le)
end
end TcG
namespace TcG
open PySem PySem.Spec PyProof.Rows L2
/-- the turns over the numbered items of a tuple -/
theorem for_enumT {K : PySem.W.Frag} {a : Addr} {xs : List V} {g : TG} {tb : TS} {D : Ends} {σ : L2.St} {H : Hp} (Pv : Nat → L2.St → Hp → Prop) (h0 : Pv 0 σ H) (stays : ∀ i σ H, Pv i σ H → SqT K H a xs)
    (turn : ∀ i x σ H T, xs[i]? = some x → Pv i σ H → H T = none → g (.ref T) σ (upd H T (.tup [.int (i : Nat), x])) fun σ2 H2 => tb { D with nx := Pv (i + 1), ct := Pv (i + 1), bk := D.nx } σ2 H2) (out : ∀ σ H, Pv xs.length σ H → D.nx σ H) :
    ∃ W : Nat → Nat → L2.St → Hp → Prop, (∃ m, W 0 m σ H) ∧ ∀ i m σ H, W i m σ H →
      ((IteT K a xs).stop i H ∧ D.nx σ H) ∨ ((IteT K a xs).go i H ∧ ∃ N : L2.St → Hp → Prop, (∀ σ' H', N σ' H' → ∃ m', m' < m ∧ W (i + 1) m' σ' H') ∧ ∀ x H', (IteT K a xs).yld i H x H' → g x σ H' fun σ2 H2 => tb { D with nx := N, ct := N, bk := D.nx } σ2 H2) := by
  refine ⟨fun i m σ H => m = xs.length - i ∧ i ≤ xs.length ∧ Pv i σ H, ⟨xs.length, by simp, Nat.zero_le _, h0⟩, ?_⟩
  rintro i m σ H ⟨rfl, hi, p⟩
  by_cases lt : i < xs.length
  · refine .inr ⟨⟨lt, stays i σ H p⟩, Pv (i + 1), fun σ' H' p' => ⟨xs.length - (i + 1), by omega, rfl, lt, p'⟩, fun x H' y => ?_⟩
    obtain ⟨T, x', hx, rfl, hT, rfl⟩ := y
    exact turn i x' σ H T hx p hT
  · obtain rfl : i = xs.length := by omega
    exact .inl ⟨⟨Nat.le_refl _, stays _ σ H p⟩, out σ H p⟩
/-- the turns over the numbered signs of a text -/
theorem for_enumS {l : List Nat} {g : TG} {tb : TS} {D : Ends} {σ : L2.St} {H : Hp} (Pv : Nat → L2.St → Hp → Prop) (h0 : Pv 0 σ H)
    (turn : ∀ i c σ H T, l[i]? = some c → Pv i σ H → H T = none → g (.ref T) σ (upd H T (.tup [.int (i : Nat), .str (tx [c])])) fun σ2 H2 => tb { D with nx := Pv (i + 1), ct := Pv (i + 1), bk := D.nx } σ2 H2) (out : ∀ σ H, Pv l.length σ H → D.nx σ H) :
    ∃ W : Nat → Nat → L2.St → Hp → Prop, (∃ m, W 0 m σ H) ∧ ∀ i m σ H, W i m σ H →
      ((IteS (tx l)).stop i H ∧ D.nx σ H) ∨ ((IteS (tx l)).go i H ∧ ∃ N : L2.St → Hp → Prop, (∀ σ' H', N σ' H' → ∃ m', m' < m ∧ W (i + 1) m' σ' H') ∧ ∀ x H', (IteS (tx l)).yld i H x H' → g x σ H' fun σ2 H2 => tb { D with nx := N, ct := N, bk := D.nx } σ2 H2) := by
  have size : (tx l).cps.size = l.length := tx_length l
  refine ⟨fun i m σ H => m = l.length - i ∧ i ≤ l.length ∧ Pv i σ H, ⟨l.length, by simp, Nat.zero_le _, h0⟩, ?_⟩
  rintro i m σ H ⟨rfl, hi, p⟩
  by_cases lt : i < l.length
  · refine .inr ⟨by show i < (tx l).cps.size; rw [size]; exact lt, Pv (i + 1), fun σ' H' p' => ⟨l.length - (i + 1), by omega, rfl, lt, p'⟩, fun x H' y => ?_⟩
    obtain ⟨T, c, hc, rfl, hT, rfl⟩ := y
    exact turn i c σ H T (by simpa [tx] using hc) p hT
  · obtain rfl : i = l.length := by omega
    exact .inl ⟨by show (tx l).cps.size ≤ l.length; rw [size]; exact Nat.le_refl _, out σ H p⟩
end TcG
/-! s.index(c, i); list(s). -/
namespace TcG
open PySem PySem.Spec PyProof.Rows L2
open Builtin.Str StrLaws
theorem occ_full (s sub : Str) (hi : Nat) : ∀ (l : List Nat) (st : Array Nat × Nat), 1 ≤ st.fst.size → (forIn (m := Id) l st (occBody s sub hi 1)).run = st
  | [], _, _ => rfl
  | a :: l, st, h => by
    have no : ¬ (((st.fst.size < 1 ∧ st.snd ≤ a) ∧ a + sub.length ≤ hi) ∧ subAt s sub a = true) := fun z => by have := z.1.1.1; omega
    rw [List.forIn_cons]
    unfold occBody
    rw [if_neg no]
    exact occ_full s sub hi l st h
theorem occ_until (s sub : Str) (hi i free : Nat) (B : List Nat) (here : i + sub.length ≤ hi ∧ subAt s sub i = true) (le : free ≤ i) : ∀ A : List Nat, (∀ a ∈ A, ¬ (a + sub.length ≤ hi ∧ subAt s sub a = true)) →
    (forIn (m := Id) (A ++ i :: B) ((#[] : Array Nat), free) (occBody s sub hi 1)).run.fst = #[i]
  | [], _ => by
    rw [List.nil_append, List.forIn_cons]
    have yes : (((#[] : Array Nat).size < 1 ∧ free ≤ i) ∧ i + sub.length ≤ hi) ∧ subAt s sub i = true := ⟨⟨⟨by decide, le⟩, here.1⟩, here.2⟩
    have e : occBody s sub hi 1 i ((#[] : Array Nat), free) = pure (ForInStep.yield (#[i], i + sub.length)) := by
      unfold occBody
      rw [if_pos yes]
      rfl
    rw [e]
    show (forIn (m := Id) B ((#[i] : Array Nat), i + sub.length) (occBody s sub hi 1)).run.fst = #[i]
    rw [occ_full s sub hi B _ (by show 1 ≤ (#[i] : Array Nat).size; simp)]
  | a :: A, h => by
    have no : ¬ ((((#[] : Array Nat).size < 1 ∧ free ≤ a) ∧ a + sub.length ≤ hi) ∧ subAt s sub a = true) := fun z => h a List.mem_cons_self ⟨z.1.2, z.2⟩
    rw [List.cons_append, List.forIn_cons]
    have e : occBody s sub hi 1 a ((#[] : Array Nat), free) = pure (ForInStep.yield (#[], free)) := by
      unfold occBody
      rw [if_neg no]
    rw [e]
    exact occ_until s sub hi i free B here le A fun b hb => h b (List.mem_cons_of_mem _ hb)
theorem index_from {pre p q : List Nat} {c : Nat} (nc : c ∉ p) : Txt.indexFrom (tx (pre ++ (p ++ c :: q))) (tx [c]) (pre.length : Int) = some (pre.length + p.length) := by
  unfold Txt.indexFrom
  have len : (tx (pre ++ (p ++ c :: q))).length = pre.length + p.length + 1 + q.length := by
    rw [tx_length]
    simp
    omega
  have lo : fromIndex (tx (pre ++ (p ++ c :: q))).length (pre.length : Int) = pre.length := by
    first
      | rfl
      | (rw [len]; unfold fromIndex; split <;> omega)
      | (rw [len]; unfold fromIndex; simp; omega)
  rw [lo, occ_eq]
  have one : ∀ i, (i + (tx [c]).length ≤ (tx (pre ++ (p ++ c :: q))).length ∧ subAt (tx (pre ++ (p ++ c :: q))) (tx [c]) i = true) ↔ (pre ++ (p ++ c :: q))[i]? = some c := fun i => subAt_one (tx (pre ++ (p ++ c :: q))) c i
  have split : List.range' pre.length ((tx (pre ++ (p ++ c :: q))).length + 1 - pre.length) = List.range' pre.length p.length ++ (pre.length + p.length) :: List.range' (pre.length + p.length + 1) (q.length + 1) := by
    rw [len, show pre.length + p.length + 1 + q.length + 1 - pre.length = p.length + (1 + (q.length + 1)) by omega, ← List.range'_append_1, ← List.range'_append_1]
    rfl
  rw [split, occ_until _ _ _ _ _ _ ((one _).mpr ?_) (by omega) _ fun a ha => ?_]
  · rfl
  · rw [List.getElem?_append_right (by omega), List.getElem?_append_right (by omega)]
    rw [show pre.length + p.length - pre.length - p.length = 0 by omega]
    rfl
  · rw [one]
    obtain ⟨j, hj, rfl⟩ := List.mem_range'.mp ha
    intro z
    rw [List.getElem?_append_right (by omega), show pre.length + 1 * j - pre.length = j by omega, List.getElem?_append_left hj] at z
    exact nc (List.mem_of_getElem? z)
section
variable {X : Cx}
/-- list(s) -/
theorem call_listT (hc : X.calm = true) : CallR X (.type "list") (fun xs H Q => ∃ l : List Nat, xs = [.str (tx l)] ∧ l.length ≤ 1000 ∧ ∀ p, H p = none → Q (.ref p) (upd H p (.lst (l.map fun c => .str (tx [c]))))) := by
  intro pins s σ H xs us Q I r h
  obtain ⟨l, rfl, few, q⟩ := h
  obtain ⟨u, rfl, rx⟩ := vals1 r
  obtain ⟨t, rfl⟩ := (show ∃ t, u = Value.str (tx l) t from rx)
  have size : (tx l).cps.size = l.length := tx_length l
  refine PySem.call_list_str (I.ok.hd hc) (tx l) t (fun h' tk acc c' keep at' items => ?_) (by rw [size]; exact Nat.le_trans few (by decide))
  have vals : ∀ (l : List Nat) (vs : List Value), vs.length = l.length → (∀ (j : Nat) v, vs[j]? = some v → ∃ c u, l[j]? = some c ∧ v = .str ⟨#[c]⟩ u) → Vals (l.map fun c => V.str (tx [c])) vs := by
    intro l
    induction l with
    | nil =>
      intro vs e _
      cases vs with
      | nil => exact .nil
      | cons _ _ => cases e
    | cons c r ih =>
      intro vs e h
      cases vs with
      | nil => cases e
      | cons v vs =>
        obtain ⟨c', u, e1, rfl⟩ := h 0 v rfl
        cases e1
        exact .cons ⟨u, rfl⟩ (ih vs (Nat.succ.inj e) fun j v hj => h (j + 1) v hj)
  have V1 : Vals (l.map fun c => V.str (tx [c])) acc.toList := vals l acc.toList (by
      have e := items.1
      rw [size] at e
      simpa using e) fun j v hj => by
    have hj2 : acc[j]? = some v := by simpa using hj
    obtain ⟨c, u, e1, e2⟩ := items.2 j v hj2
    exact ⟨c, u, by simpa [tx] using e1, e2⟩
  have J := I.laid (t' := tk) (a := s.heap.objs.size) (o := .lst (l.map fun c => V.str (tx [c]))) keep (Nat.le_refl _)
    (show ObjOk X.prog X.w _ h' _ (.lst _) from ⟨by rw [List.length_map]; exact Nat.le_trans few (by decide), acc.toList, c', V1, by simpa using at'⟩)
  exact ⟨.ref s.heap.objs.size, _, J, rfl, q _ (I.hok.fresh (Nat.le_refl _))⟩
end
end TcG
/-! word.replace(letter, "", 1), the letter's token known. -/
namespace TcG
open PySem PySem.Spec PyProof.Rows L2
open Builtin.Str StrLaws
theorem occ_first1 {p q : List Nat} {c : Nat} (nc : c ∉ p) : occurrences (tx (p ++ c :: q)) (tx [c]) 0 (tx (p ++ c :: q)).length 1 = [p.length] := by
  have len : (tx (p ++ c :: q)).length = p.length + 1 + q.length := by
    rw [tx_length]
    simp
    omega
  rw [occ_eq]
  have one : ∀ i, (i + (tx [c]).length ≤ (tx (p ++ c :: q)).length ∧ subAt (tx (p ++ c :: q)) (tx [c]) i = true) ↔ (p ++ c :: q)[i]? = some c := fun i => subAt_one (tx (p ++ c :: q)) c i
  have split : List.range' 0 ((tx (p ++ c :: q)).length + 1 - 0) = List.range' 0 p.length ++ p.length :: List.range' (p.length + 1) (q.length + 1) := by
    rw [len, show p.length + 1 + q.length + 1 - 0 = p.length + (1 + (q.length + 1)) by omega, ← List.range'_append_1, ← List.range'_append_1]
    rw [Nat.zero_add]
    rfl
  rw [split, occ_until _ _ _ _ _ _ ((one _).mpr ?_) (Nat.zero_le _) _ fun a ha => ?_]
  · rw [List.getElem?_append_right (Nat.le_refl _), Nat.sub_self]
    rfl
  · rw [one]
    obtain ⟨j, hj, rfl⟩ := List.mem_range'.mp ha
    intro z
    rw [Nat.zero_add, Nat.one_mul, List.getElem?_append_left hj] at z
    exact nc (List.mem_of_getElem? z)
theorem glued_off {p q : List Nat} {c : Nat} : glued (tx []) (partsBetween (tx (p ++ c :: q)) [p.length] (tx [c]).length) = tx (p ++ q) := by
  have e1 : (tx [c]).length = 1 := rfl
  rw [e1]
  have h1 : strSub (tx (p ++ c :: q)) 0 p.length = tx p := by
    unfold strSub tx
    simp
  have h2 : strSub (tx (p ++ c :: q)) (p.length + 1) (tx (p ++ c :: q)).length = tx q := by
    rw [tx_length]
    unfold strSub tx
    simp
    exact List.take_of_length_le (by omega)
  show glued (tx []) [strSub (tx (p ++ c :: q)) 0 p.length, strSub (tx (p ++ c :: q)) (p.length + 1) (tx (p ++ c :: q)).length] = _
  rw [h1, h2]
  unfold glued tx
  simp
theorem gives_rep1 (x y z : Str) (t u v r : Tok) {cuts : List Nat} (h : occurrences x y 0 x.length 1 = cuts) (hc : cuts.isEmpty = false) (hy : (y.length == 0) = false) (hu : (u == 0 || v == 0) = false) (huv : (u == v) = false) (hyz : (y == z) = false)
    (hl : tooLong (x.length + cuts.length * z.length) = false) : Gives (Builtin.«str.replace» ⟨[.str x t, .str y u, .str z v, .int 1 r], []⟩) (.str (glued z (partsBetween x cuts y.length))) := by
  show Gives (if ((occurrences x y 0 x.length 1).isEmpty || (y.length == 0 && z.length == 0)) = true then (do rule "str.replace.nothing"; ret (.str x t)) else
          (do let same ← isSame (.str y u) (.str z v)
              if same = true then (do rule "str.replace.old-is-new"; ret (.str x t)) else
              if tooLong (x.length + (occurrences x y 0 x.length 1).length * z.length) = true then unsupported "str.replace:memory" else
              retStr (glued z (partsBetween x (occurrences x y 0 x.length 1) y.length)))) _
  rw [h, hc, hy, isSame_str_other y z u v hu huv hyz, hl]
  exact .of_eq rfl
theorem call_rep1 {prog : Program} {w : World} {A : Around} {E : Value → Shared → Prop} {s : Shared} {Q : Value → Shared → Prop} {a : List Nat} {c : Nat} {t u v r : Tok} (hc : c ∈ a) (small : a.length ≤ 1000) (hu : u ≠ 0) (hv : v ≠ 0) (huv : u ≠ v)
    (hq : ∀ t' k, Q (.str (tx (a.erase c)) t') { s with toks := k }) : wpAny (model prog w) A (call (.builtin "str.replace") [.str (tx a) t, .str (tx [c]) u, .str (tx []) v, .int 1 r]) Q E s := by
  obtain ⟨p, q, rfl, nc⟩ := split_first hc
  have er : (p ++ c :: q).erase c = p ++ q := by
    rw [List.erase_append_right _ nc, List.erase_cons_head]
  rw [er] at hq
  have len : (tx (p ++ c :: q)).length = (p ++ c :: q).length := tx_length _
  have fits : (tx (p ++ q)).length ≤ sizeLine := by
    rw [tx_length]
    refine Nat.le_trans ?_ (show 1000 ≤ sizeLine by decide)
    simp at small ⊢
    omega
  refine call_gives PySem.F.slot_str_replace (typeIs_str _ _ _) PySem.F.entry_str_replace (PySem.F.args_str_replace_4 _ _ _ _)
    (gives_rep1 (tx (p ++ c :: q)) (tx [c]) (tx []) t u v r (occ_first1 nc) rfl rfl (by simp [hu, hv]) (by simp [huv]) (by
      rw [beq_eq_false_iff_ne]
      intro e
      have := tx_inj e
      cases this) ?_) ?_
  · unfold tooLong
    refine decide_eq_false ?_
    rw [len, show (tx ([] : List Nat)).length = 0 from rfl, Nat.mul_zero, Nat.add_zero]
    have : (p ++ c :: q).length ≤ sizeLine := Nat.le_trans small (by decide)
    omega
  · rw [glued_off]
    exact ⟨fits, hq _ _⟩
end TcG
/-! The context of a generator's own frame, in the hand layer's words. -/
namespace TcG
open PySem PySem.Spec PyProof.Rows L2 GenW

/-- the scope of a generator expression in a def with these names, in this order: what it captures is a cell of the def, none of the def's names is its own -/
def genFit (N : List Str) (outer : List (Str × NameKind)) (gs : Scope) : Bool :=
  decide (gs.kind = .function) && !gs.isCoroutine && gs.names.all (fun y => decide (y.2 ≠ .cell) && (decide (y.2 ≠ .free) || decide (outer.lookup y.1 = some .cell)))
    && decide (gs.names.lookup (".0" : Str) = some NameKind.local) && N.all (fun x => decide (gs.names.lookup x ≠ some NameKind.local))
structure GenF (N : List Str) (env : Env) (gs : Scope) : Prop where
  kind : gs.kind = .function
  co : gs.isCoroutine = false
  cell : ∀ y ∈ gs.names, y.2 ≠ .cell
  free : ∀ y ∈ gs.names, y.2 = .free → env.kindOf y.1 = some .cell
  dot : gs.names.lookup (".0" : Str) = some NameKind.local
  own : ∀ x ∈ N, gs.names.lookup x ≠ some NameKind.local
theorem genF_of {N : List Str} {env : Env} {gs : Scope} (h : genFit N env.scope.names gs = true) : GenF N env gs := by
  unfold genFit at h
  simp only [Bool.and_eq_true, List.all_eq_true, Bool.or_eq_true, decide_eq_true_eq, Bool.not_eq_true'] at h
  obtain ⟨⟨⟨⟨h1, h2⟩, h3⟩, h4⟩, h5⟩ := h
  refine ⟨h1, h2, fun y hy => (h3 y hy).1, fun y hy e => ?_, h4, h5⟩
  rcases (h3 y hy).2 with z | z
  · exact absurd e z
  · exact z

abbrev genE (X : Cx) (gs : Scope) (code : Value) (C : Addr) : Env := genEnv gs (cloFrom X.env.cells gs.names []) C code builtinsNs X.env
def genX (X : Cx) (own : List Str) (gs : Scope) (code : Value) (C : Addr) (s0 : Shared) (H0 : Hp) (fp : List Addr) (Ag : Around) : Cx where
  prog := X.prog
  w := X.w
  K := X.K
  mg := X.mg
  base := X.base
  A := Ag
  N := X.N ++ own
  s_0 := s0
  H_0 := H0
  env := genE X gs code C
  outer := X.stack
  stack := genE X gs code C :: X.stack
  ex := fp
  fn := fun _ => false
  calm := true
  pn := []
  xe := fun _ _ => False

section
variable {X : Cx} {pins : List (Addr × Obj)} {σ : L2.St} {H : Hp} {s : Shared}

theorem clo_of {gs : Scope} (F : GenF X.N X.env gs) (ok : X.Ok) {y : Str} {c : Addr} (h : (cloFrom X.env.cells gs.names []).lookup y = some c) : X.env.kindOf y = some .cell ∧ X.env.cells.lookup y = some c := by
  rcases cloFrom_mem (PySem.mem_of_lookup h) with z | ⟨z, e⟩
  · cases z
  · have k := F.free _ z rfl
    obtain ⟨d, hd⟩ := ok.has y (.inl k)
    rw [hd] at e
    exact ⟨k, by rw [hd, e]; rfl⟩

/-- the slots at the generator's entry -/
abbrev gSt (σ : L2.St) (own : List Str) : L2.St := σ ++ own.map fun _ => none
theorem gSt_get {own : List Str} {i : Nat} {v : V} (h : (gSt σ own)[i]? = some (some v)) : i < σ.length ∧ σ[i]? = some (some v) := by
  unfold gSt at h
  by_cases hi : i < σ.length
  · rw [List.getElem?_append_left hi] at h
    exact ⟨hi, h⟩
  · rw [List.getElem?_append_right (by omega), List.getElem?_map] at h
    cases e : own[i - σ.length]? with
    | none => rw [e] at h; cases h
    | some a => rw [e] at h; cases h

theorem inv_gen {own : List Str} {gs : Scope} {code : Value} {fp : List Addr} {Ag : Around} {m : Str → Option Value} {h5 : Heap} {g5 : Array GenState} {tk : Nat} {a C : Addr} {oa : Obj} (F : GenF X.N X.env gs) (I : Inv X pins σ H s) (hf : ∀ b ∈ fp, FpOk X pins H b)
    (hob : ∀ b ∈ fp, ∃ o, s.heap.get? b = some o) (hh : Ag.handled = none) (hfr : Ag.frames = some (genE X gs code C :: X.stack)) (hC : C = s.heap.objs.size) (ns : h5.Ns C m) (keep : ∀ b o, s.heap.get? b = some o → h5.get? b = some o) (bare : AllBare g5)
    (ha : h5.get? a = some oa) (haC : C < a) (hd : ∀ v, oa.data ≠ .cell v) :
    Inv (genX X own gs code C s H fp Ag) [(a, oa)] (gSt σ own) H { s with heap := h5, gens := g5, toks := tk } := by
  have hlt : ∀ b ∈ fp, b < s.heap.objs.size := fun b hb => let ⟨o, e⟩ := hob b hb; Heap.lt_size e
  have cl : ∀ {y : Str} {c : Addr}, (genE X gs code C).cells.lookup y = some c → X.env.kindOf y = some .cell ∧ X.env.cells.lookup y = some c := fun h => clo_of F I.ok h
  have nstk : ∀ b, s.heap.objs.size ≤ b → b ∉ frs X.stack := fun b hb z => by
    rcases List.mem_cons.mp (I.stkSub b z) with e | z
    · rw [e] at hb
      exact Nat.lt_irrefl _ (Nat.lt_of_lt_of_le I.lt hb)
    · exact I.nofs hb z
  refine ⟨⟨I.ok.mod, F.kind, I.ok.glob, rfl, Nat.le_of_eq hC.symm, fun x y c h1 h2 => I.ok.inj x y c (cl h1).2 (cl h2).2, fun x hx => ?_, fun x c h => (nomatch h), fun _ => hh, hfr, .inr ⟨rfl, rfl⟩, fun b hb => ⟨?_, fun x c h => ?_⟩, I.bs, Nat.le_trans I.ok.bsz I.sz, fun b o e hb => ?_, fun b hb z => ?_, I.stack, I.stkFree⟩,
    rfl, bare, Un.kept keep, ⟨m, ns, fun i x v e1 e2 e3 => ?_⟩, fun x c h => ?_, ?_, fun x c h => I.freeC x c (cl h).2, fun p hp => ?_, I.hok.kept keep, ?_⟩
  · have hx : gs.names.lookup x = some .cell ∨ gs.names.lookup x = some .free := hx
    rcases hx with hx | hx
    · exact absurd rfl (F.cell _ (PySem.mem_of_lookup hx))
    · have hm := PySem.mem_of_lookup hx
      obtain ⟨c, hc⟩ := I.ok.has x (.inl (F.free _ hm rfl))
      exact ⟨c, clo_look hm hc⟩
  · rw [show (genX X own gs code C s H fp Ag).env.locals = C from rfl, hC]
    exact Nat.ne_of_lt (hlt b hb)
  · exact (hf b hb).2.2.2.2.1 x c (cl h).2
  · rcases (hf b hb).2.2.2.1 with z | z
    · exact I.ok.noex b o e z
    · exact absurd (Nat.lt_of_lt_of_le (Heap.lt_size e) (Nat.le_trans I.ok.bsz z)) (Nat.lt_irrefl _)
  · have z : b ∈ frs X.stack := z
    rcases List.mem_cons.mp (I.stkSub b z) with e | z
    · exact (hf b hb).2.1 e
    · exact (hf b hb).2.2.1 z
  · obtain ⟨hi, e2⟩ := gSt_get e2
    have e1 : X.N[i]? = some x := by
      have : (X.N ++ own)[i]? = some x := e1
      rw [List.getElem?_append_left (by rw [← I.len]; exact hi)] at this
      exact this
    have e3 : gs.names.lookup x = some .local ∨ gs.names.lookup x = some .cell ∨ gs.names.lookup x = some .free := e3
    rcases e3 with e3 | e3 | e3
    · exact absurd e3 (F.own x (List.mem_of_getElem? e1))
    · exact absurd rfl (F.cell _ (PySem.mem_of_lookup e3))
    · have hm := PySem.mem_of_lookup e3
      have k := F.free _ hm rfl
      obtain ⟨m0, _, look⟩ := I.loc
      obtain ⟨u, ru, l⟩ := look i x v e1 e2 (.inr (.inl k))
      refine ⟨u, ru, .inr ⟨.inr e3, ?_⟩⟩
      rcases l with ⟨z, _⟩ | ⟨_, c, hc, o, ho, hdat⟩
      · rw [k] at z
        cases z
      · exact ⟨c, clo_look hm hc, o, keep c o ho, hdat⟩
  · obtain ⟨v, o, ho, hdat⟩ := I.cell x c (cl h).2
    exact ⟨v, o, keep c o ho, hdat⟩
  · exact I.hok.fresh (by rw [show (genX X own gs code C s H fp Ag).env.locals = C from rfl, hC]; exact Nat.le_refl _)
  · have hp : p = (a, oa) := by simpa [genX] using hp
    subst hp
    have ge : s.heap.objs.size ≤ a := by rw [← hC]; exact Nat.le_of_lt haC
    exact ⟨ha, I.hok.fresh ge, Nat.ne_of_gt haC, nstk a ge, hd⟩
  · show (gSt σ own).length = (X.N ++ own).length
    rw [List.length_append, List.length_append, List.length_map, I.len]

theorem fp_gen {own : List Str} {gs : Scope} {code : Value} {fp : List Addr} {Ag : Around} {a C : Addr} {oa : Obj} {H' : Hp} (F : GenF X.N X.env gs) (I : Inv X pins σ H s) (hf : ∀ b ∈ fp, FpOk X pins H b) (hob : ∀ b ∈ fp, ∃ o, s.heap.get? b = some o) (hC : C = s.heap.objs.size) (haC : C < a) (hn : ∀ b ∈ fp, H' b = none) :
    ∀ b ∈ fp, FpOk (genX X own gs code C s H fp Ag) [(a, oa)] H' b := fun b hb => by
  have lt : b < s.heap.objs.size := let ⟨o, e⟩ := hob b hb; Heap.lt_size e
  refine ⟨hn b hb, by rw [show (genX X own gs code C s H fp Ag).env.locals = C from rfl, hC]; exact Nat.ne_of_lt lt, fun z => ?_, .inl hb, fun x c h => (hf b hb).2.2.2.2.1 x c (clo_of F I.ok h).2, fun p hp => ?_⟩
  · have z : b ∈ frs X.stack := z
    rcases List.mem_cons.mp (I.stkSub b z) with e | z
    · exact (hf b hb).2.1 e
    · exact (hf b hb).2.2.1 z
  · have hp : p = (a, oa) := by simpa [genX] using hp
    subst hp
    exact Nat.ne_of_gt (Nat.lt_trans (by rw [hC]; exact lt) haC)

/-- the generator is done with: back in the def -/
theorem inv_back {own : List Str} {gs : Scope} {code : Value} {fp : List Addr} {Ag : Around} {C : Addr} {pins' : List (Addr × Obj)} {σ' : L2.St} {H' : Hp} {s' : Shared} (I : Inv X pins σ H s) (hf : ∀ b ∈ fp, FpOk X pins H b) (J : Inv (genX X own gs code C s H fp Ag) pins' σ' H' s') : Inv X pins σ H' s' :=
  I.call' (ch := fp) J.os J.base J.hok J.bare fun b hb => ⟨(hf b hb).2.2.2.1, (hf b hb).2.1, (hf b hb).2.2.2.2.1, (hf b hb).2.2.2.2.2⟩
end

/-- the state in which a generator is woken keeps what stood when it fell asleep -/
structure Woken (s s' : Shared) : Prop where
  os : s'.os = s.os
  bare : AllBare s.gens → AllBare s'.gens
  keep : ∀ b o, s.heap.get? b = some o → s'.heap.get? b = some o
theorem Woken.refl (s : Shared) : Woken s s := ⟨rfl, fun h => h, fun _ _ e => e⟩
theorem Woken.trans {s s' s'' : Shared} (x : Woken s s') (y : Woken s' s'') : Woken s s'' := ⟨y.os.trans x.os, fun h => y.bare (x.bare h), fun b o e => y.keep b o (x.keep b o e)⟩
theorem bare_set {gs : Array GenState} {g : Nat} {x : GenState} (h : AllBare gs) (hx : x.bare = true) : AllBare (gs.setIfInBounds g x) := fun y hy => by
  obtain ⟨i, hi, rfl⟩ := Array.mem_iff_getElem.mp hy
  by_cases e : i = g
  · subst e
    rw [Array.getElem_setIfInBounds_self]
    exact hx
  · have hi2 : i < gs.size := by simpa using hi
    rw [Array.getElem_setIfInBounds_ne hi2 (Ne.symm e)]
    exact h _ (Array.getElem_mem hi2)
theorem Woken.set {s : Shared} {g : Nat} {x : GenState} (hx : x.bare = true) : Woken s (s.setGen g x) := ⟨rfl, fun h => bare_set h hx, fun _ _ e => e⟩
theorem Inv.woken {X : Cx} {pins : List (Addr × Obj)} {σ : L2.St} {H : Hp} {s s' : Shared} (I : Inv X pins σ H s) (w : Woken s s') : Inv X pins σ H s' :=
  I.call' (ch := []) w.os (Un.kept w.keep) (I.hok.kept w.keep) (w.bare I.bare) fun _ z => nomatch z
end TcG
/-! Names whose own value is known, with its token. -/
namespace TcG
open PySem PySem.Spec PyProof.Rows L2

/-- the name x holds the value u itself -/
def Raw (X : Cx) (s : Shared) (x : Str) (u : Value) : Prop := ∃ m, s.heap.Ns X.env.locals m ∧ Look X.env s.heap m x u
/-- a text whose token was given out -/
def Good (s : Shared) (u : Value) : Prop := ∃ z t, u = .str z t ∧ t ≠ 0 ∧ t < s.toks
theorem Good.later {s s' : Shared} {u : Value} (g : Good s u) (h : s.toks ≤ s'.toks) : Good s' u := let ⟨z, t, e, h0, hl⟩ := g; ⟨z, t, e, h0, Nat.lt_of_lt_of_le hl h⟩

section
variable {X : Cx} {pins : List (Addr × Obj)} {σ : L2.St} {H : Hp} {s : Shared}

theorem ev_raw {M : Model} {A : Around} {x : Str} {u : Value} {pos : Pos} {Q E : Value → Shared → Prop} (I : Inv X pins σ H s) (h : Raw X s x u) (fin : Q u s)
    (hd : (x == ("__debug__" : Str)) = false := by decide) (hcd : (x == ("__classdict__" : Str)) = false := by decide) : wpAny M A (eval (.Name x pos) X.env) Q E s := by
  obtain ⟨m, hn, l⟩ := h
  rcases l with ⟨hk, hm⟩ | ⟨hk, c, hc, cell⟩
  · exact wpAny_Name (wpAny_loadName_local I.ok.kind hk hn hm fin) hd
  · rcases hk with hk | hk
    · exact wpAny_Name (wpAny_loadName_cell I.ok.kind hk hc cell fin) hd
    · exact wpAny_Name (wpAny_loadName_free I.ok.kind hk hc cell fin hcd) hd
theorem raw_of {i : Nat} {x : Str} {v : V} (I : Inv X pins σ H s) (hN : X.N[i]? = some x) (hv : Vis X.env.scope x) (e : σ[i]? = some (some v)) : ∃ u, RelV v u ∧ Raw X s x u := by
  obtain ⟨m, hn, hl⟩ := I.loc
  obtain ⟨u, r, l⟩ := hl i x v hN e hv
  exact ⟨u, r, m, hn, l⟩

/-- one object of ours is written: the frame's own, or a cell of its -/
theorem inv_put {i : Nat} {x : Str} {v : V} {u : Value} {a : Addr} {h' : Heap} {tk : Nat} (I : Inv X pins σ H s) (hN : X.N.Nodup) (hi : X.N[i]? = some x) (r : RelV v u) (sb : Heap.SameBut a s.heap h')
    (ha : (a = X.env.locals ∧ X.env.kindOf x = some .local ∧ ∃ m, s.heap.Ns X.env.locals m ∧ h'.Ns X.env.locals fun y => if y = x then some u else m y) ∨
      (X.env.kindOf x = some .cell ∧ X.fn x = true ∧ X.env.cells.lookup x = some a ∧ h'.IsCell a (some u))) : Inv X pins (σ.set i (some v)) H { s with heap := h', toks := tk } ∧ Raw X { s with heap := h', toks := tk } x u ∧
      ∀ y w, y ≠ x → Raw X s y w → Raw X { s with heap := h', toks := tk } y w := by
  have hiσ : i < σ.length := by rw [I.len]; exact (List.getElem?_eq_some_iff.mp hi).1
  have below : ∀ b o, X.s_0.heap.get? b = some o → b ≠ a := fun b o e => by
    have lt := Heap.lt_size e
    rcases ha with ⟨rfl, _⟩ | ⟨_, hf, hc, _⟩
    · exact Nat.ne_of_lt (Nat.lt_of_lt_of_le lt I.ok.above)
    · exact Nat.ne_of_lt (Nat.lt_of_lt_of_le lt (I.ok.cab x a hf hc))
  obtain ⟨oa, hoa, hda⟩ : ∃ oa, s.heap.get? a = some oa ∧ H a = none := by
    rcases ha with ⟨rfl, _, m, ⟨o, _, _, ho, _⟩, _⟩ | ⟨_, _, hc, _⟩
    · exact ⟨o, ho, I.free⟩
    · obtain ⟨_, o, ho, _⟩ := I.cell x a hc
      exact ⟨o, ho, I.freeC x a hc⟩
  have look : ∀ m, s.heap.Ns X.env.locals m → ∃ m', h'.Ns X.env.locals m' ∧ Look X.env h' m' x u ∧ ∀ y w, y ≠ x → Look X.env s.heap m y w → Look X.env h' m' y w := by
    intro m hn
    rcases ha with ⟨rfl, hk, m0, hn0, hn'⟩ | ⟨hk, hf, hc, hcell⟩
    · refine ⟨_, hn', .inl ⟨hk, by simp⟩, fun y w ne l => ?_⟩
      rcases l with ⟨k, e⟩ | ⟨k, c, e, z⟩
      · refine .inl ⟨k, ?_⟩
        simp only [ne, if_false]
        rw [Heap.Ns.agree hn0 hn y]
        exact e
      · exact .inr ⟨k, c, e, z.sameBut sb (I.cne y c e)⟩
    · refine ⟨m, hn.sameBut sb (Ne.symm (I.cne x a hc)), .inr ⟨.inl hk, a, hc, hcell⟩, fun y w ne l => ?_⟩
      rcases l with l | ⟨k, c, e, z⟩
      · exact .inl l
      · refine .inr ⟨k, c, e, z.sameBut sb fun q => ?_⟩
        rw [q] at e
        exact ne (I.ok.inj y x a e hc)
  refine ⟨⟨I.ok, I.os, I.bare, ⟨fun b o e n hb hx => (sb.2 b (below b o e)).trans (I.base.keep b o e n hb hx), fun b o e n hb hx => ?_, I.base.free, fun b o e hx => ?_, I.base.tups, I.base.frzs, I.base.tbls⟩, ?_, fun y c e => ?_, I.free, I.freeC, fun p hp => ?_, fun b ob e => ?_, by simpa using I.len⟩, ?_, fun y w ne h => ?_⟩
  · obtain ⟨sl, e1⟩ := I.base.slot b o e n hb hx
    exact ⟨sl, (sb.2 b (below b o e)).trans e1⟩
  · obtain ⟨o', e1⟩ := I.base.there b o e hx
    exact ⟨o', (sb.2 b (below b o e)).trans e1⟩
  · obtain ⟨m, hn, hl⟩ := I.loc
    obtain ⟨m', hn', here, others⟩ := look m hn
    refine ⟨m', hn', fun j y v' e1 e2 e3 => ?_⟩
    by_cases hj : j = i
    · subst hj
      rw [hi] at e1
      cases e1
      rw [List.getElem?_set_self hiσ] at e2
      cases e2
      exact ⟨u, r, here⟩
    · rw [List.getElem?_set_ne (Ne.symm hj)] at e2
      obtain ⟨w, rw', l⟩ := hl j y v' e1 e2 e3
      exact ⟨w, rw', others y w (fun z => hj (nodup_ix hN e1 (by rw [z]; exact hi))) l⟩
  · by_cases hc : c = a
    · subst hc
      rcases ha with ⟨z, _⟩ | ⟨_, _, _, hcell⟩
      · exact absurd z (I.cne y c e)
      · exact ⟨_, hcell⟩
    · obtain ⟨w', z⟩ := I.cell y c e
      exact ⟨w', z.sameBut sb hc⟩
  · obtain ⟨e, n, ne, nf, d⟩ := I.pin p hp
    refine ⟨(sb.2 p.1 fun q => ?_).trans e, n, ne, nf, d⟩
    rcases ha with ⟨z, _⟩ | ⟨_, _, hc, _⟩
    · exact ne (q.trans z)
    · obtain ⟨v0, o0, ho0, hd0⟩ := I.cell x a hc
      rw [q, ho0] at e
      exact d v0 (by rw [← Option.some.inj e]; exact hd0)
  · refine (I.hok b ob e).stay (fun c w' hc q => (sb.2 c ?_).trans q) (fun _ q => q) fun _ _ q => q
    rintro rfl
    rcases hc with rfl | hc
    · rw [hda] at e
      cases e
    · rw [hda] at hc
      cases hc
  · obtain ⟨m, hn, _⟩ := I.loc
    obtain ⟨m', hn', here, _⟩ := look m hn
    exact ⟨m', hn', here⟩
  · obtain ⟨m, hn, l⟩ := h
    obtain ⟨m', hn', _, others⟩ := look m hn
    exact ⟨m', hn', others y w ne l⟩

/-- a name is stored: its own value is known, the others' stay -/
theorem store_raw {M : Model} {A : Around} {E : Value → Shared → Prop} {i : Nat} {x : Str} {v : V} {u : Value} {Q : Unit → Shared → Prop} (I : Inv X pins σ H s) (hN : X.N.Nodup) (hi : X.N[i]? = some x) (hx : Loc X.env.scope x) (r : RelV v u)
    (h : ∀ s', Inv X pins (σ.set i (some v)) H s' → Raw X s' x u → s.toks ≤ s'.toks → (X.env.scope.names.lookup x = some .local → s.toks + 1 ≤ s'.toks) → (∀ y w, y ≠ x → Raw X s y w → Raw X s' y w) → Q () s')
    (hf : X.fn x = true ∨ X.env.scope.names.lookup x = some .local := by first | exact .inl rfl | exact .inr rfl | assumption) : wpAny M A (storeName X.env x u) Q E s := by
  have hcls : (X.env.scope.kind == .class || (X.env.scope.kind == .module && X.env.locals != X.env.globals)) = false := by rw [I.ok.kind]; rfl
  obtain ⟨m, hn, hl⟩ := id I.loc
  rcases hx with hk | hk
  · refine wpAny_storeName_local hk hn (fun h' hn' sb => ?_) hcls
    obtain ⟨J, rw1, rw2⟩ := inv_put (tk := s.toks + 1) I hN hi r sb (.inl ⟨rfl, hk, m, hn, hn'⟩)
    exact h _ J rw1 (Nat.le_succ _) (fun _ => Nat.le_refl _) rw2
  · have hfn : X.fn x = true := by
      rcases hf with z | z
      · exact z
      · rw [z] at hk
        cases hk
    obtain ⟨c, hc⟩ := I.ok.has x (.inl hk)
    obtain ⟨w', z⟩ := I.cell x c hc
    refine wpAny_storeName_cell I.ok.kind hk hc z fun h' hcell sb => ?_
    obtain ⟨J, rw1, rw2⟩ := inv_put (tk := s.toks) I hN hi r sb (.inr ⟨hk, hfn, hc, hcell⟩)
    exact h _ J rw1 (Nat.le_refl _) (fun e => by rw [e] at hk; cases hk) rw2

/-- behind a call the names hold what they held -/
theorem raw_un {s' : Shared} {H' : Hp} {x : Str} {u : Value} (I : Inv X pins σ H s) (un : Un (frs X.stack) [] H H' s.heap s'.heap) (h : Raw X s x u) : Raw X s' x u := by
  obtain ⟨m, hn, l⟩ := h
  obtain ⟨o, es, ep, ho, r⟩ := id hn
  obtain ⟨sl, hL⟩ := un.any ho I.free (by simp)
  refine ⟨m, ⟨_, es, ep, hL, r⟩, ?_⟩
  rcases l with l | ⟨k, c, e, oc, hoc, hd⟩
  · exact .inl l
  · obtain ⟨sl', hc⟩ := un.any hoc (I.freeC x c e) (by simp)
    exact .inr ⟨k, c, e, _, hc, hd⟩
end
end TcG
/-! def first_off(word, letter): return word.replace(letter, "", 1), its arguments' own values known. -/
namespace TcG
open PySem PySem.Spec PyProof.Rows L2
/-- its promise: the letter's token was given out, the letter is there -/
def OffRun (P : Program) (w : World) (K : PySem.W.Frag) (mg : Str → Option Value) (base : Heap) (k : Nat) (f : Addr) : Prop :=
  ∀ (A : Around) (outer : List Env) (s : Shared) (H : Hp) (a : List Nat) (c : Nat) (ta tc : Tok) (Q : VK), Room k A → Env0 P w K mg base A outer s H → tc ≠ 0 → tc < s.toks → c ∈ a → a.length ≤ 1000 → Q (.str (tx (a.erase c))) H →
    codeAny (model P w) A (.call (.ref f) ⟨[.str (tx a) ta, .str (tx [c]) tc], []⟩) (CR CX0 outer P w H s Q E0) s
section
variable {P : Program} {w : World} {K : PySem.W.Frag} {mg : Str → Option Value} {base : Heap}
theorem off_run {st : Stmt} {f : Addr} {fd : FuncData} {k : Nat} {x0 x1 qual : Str} {p1 p2 apos cpos rpos c0 c1 : Pos} {j0 j1 : Nat} (F : Fun K qual qual st f fd) (S : FnScope [x0, x1] [x0, x1] (defScope st))
    (body : defBody st = [.Return (some (.Call (.Attribute (.Name x0 p1) "replace" apos) [.Name x1 p2, .Constant (.str (tx [])) j0 c0, .Constant (.int 1) j1 c1] [] cpos)) rpos])
    (hb : ∀ (kV doc pm : Value) (an : Option Addr) (cdv ct : Value) (us : List Value), us.length = 2 → bindArgs (PySem.W.fnOf qual qual (defArgs st) (defBody st) (defScope st) .none kV doc pm an cdv ct) ⟨us, []⟩ = pure ([x0, x1].zip us))
    (h0 : (defScope st).names.lookup x0 = some .local) (h1 : (defScope st).names.lookup x1 = some .local) (d0 : (x0 == ("__debug__" : Str)) = false) (d1 : (x1 == ("__debug__" : Str)) = false) (e0 : (x0 == ("__classdict__" : Str)) = false) (e1 : (x1 == ("__classdict__" : Str)) = false) (hline : (apos.endLine == cpos.line) = true) :
    OffRun P w K mg base (k + 1) f := by
  intro A outer s H a c ta tc Q hr env0 ht hlt hc small q
  obtain ⟨oc, od, kV, doc, pm, an, cdv, ct, osl, rfl, lk, hcd⟩ := F.ex
  have KX : K.In s.heap := env0.mod.kin.keeps fun b o e => (env0.bs b o e).1
  have lim : s.heap.NoLimit := env0.mod.nolimit.keeps fun b o e => (env0.bs b o e).1
  have hkind : ∀ v ∈ [x0, x1].zip [Value.str (tx a) ta, .str (tx [c]) tc], (defScope st).names.lookup v.1 = some .local ∨ ((defScope st).names.lookup v.1 = some .cell ∧ ((cellsFrom (s.heap.objs.size + 1) (defScope st).names []).lookup v.1).isSome = true) := fun ⟨n, v⟩ hy => by
    have hy := (List.of_mem_zip hy).1
    rcases List.mem_cons.mp hy with rfl | hy
    · exact .inl h0
    · rw [List.mem_singleton.mp hy]
      exact .inl h1
  refine codeAny_call_function hr.depth (KX _ _ lk) rfl S.co S.gen rfl (PySem.W.codeRec_of KX hcd) (BindsTo.of_eq (hb kV doc pm an cdv ct [.str (tx a) ta, .str (tx [c]) tc] rfl) _ _ _ _ ?_)
  refine wpAny_mono (wpAny_toks_of (n := s.toks) (Nat.le_refl _) (wpAny_newFunctionEnv_cells (Q := fun env s1 => env = envOfC qual (defScope st) s.heap.objs.size f cdv ∧
      InCallC s env.locals (bindL env.kindOf ([x0, x1].zip [Value.str (tx a) ta, .str (tx [c]) tc]) fun _ => none) env.cells (bindC env.kindOf ([x0, x1].zip [Value.str (tx a) ta, .str (tx [c]) tc]) fun _ => none) s1) S.kind hkind fun env he s1 xx => ⟨he, xx⟩))
    (fun env s1 hh => ?_) fun _ _ z => z.2
  obtain ⟨grown, he, xx⟩ := hh
  subst he
  refine ⟨lim.keeps xx.toInCall.keep, codeAny_func ?_⟩
  have rv : Vals [V.str (tx a), .str (tx [c])] [Value.str (tx a) ta, .str (tx [c]) tc] := .cons ⟨ta, rfl⟩ (.cons ⟨tc, rfl⟩ .nil)
  have I : Inv (cxOf CX0 P w K mg base [x0, x1] qual (defScope st) f cdv A outer s H E0) [] (start [x0, x1] [.str (tx a), .str (tx [c])]) H s1 := inv_start S hr.hd env0 rfl rv xx
  have nd : [x0, x1].Nodup := S.nd
  have m0 := bindL_get (kindOf := (envOfC qual (defScope st) s.heap.objs.size f cdv).kindOf) (x := x0) (v := Value.str (tx a) ta) (P := [x0, x1]) (vs := [.str (tx a) ta, .str (tx [c]) tc]) (i := 0) (m := fun _ => none) nd rfl rfl h0
  have m1 := bindL_get (kindOf := (envOfC qual (defScope st) s.heap.objs.size f cdv).kindOf) (x := x1) (v := Value.str (tx [c]) tc) (P := [x0, x1]) (vs := [.str (tx a) ta, .str (tx [c]) tc]) (i := 1) (m := fun _ => none) nd rfl rfl h1
  have r0 : Raw (cxOf CX0 P w K mg base [x0, x1] qual (defScope st) f cdv A outer s H E0) s1 x0 (.str (tx a) ta) := ⟨_, xx.toInCall.ns, .inl ⟨h0, m0⟩⟩
  have r1 : Raw (cxOf CX0 P w K mg base [x0, x1] qual (defScope st) f cdv A outer s H E0) s1 x1 (.str (tx [c]) tc) := ⟨_, xx.toInCall.ns, .inl ⟨h1, m1⟩⟩
  have fin : ∀ {σ' : L2.St} {H' : Hp} {v : V} {r : Value} {s' : Shared}, Inv (cxOf CX0 P w K mg base [x0, x1] qual (defScope st) f cdv A outer s H E0) [] σ' H' s' → RelV v r → Q v H' → CE outer P w H s Q r s' :=
    fun {σ' H' v r s'} J rv q => ⟨v, H', J.os, J.bare, J.base, J.hok, rv, q⟩
  rw [body]
  refine wpAny_execs_cons (wpAny_Return_some (wpAny_Call_method_lateS (by rfl) (by rfl) hline (ev_raw (X := cxOf CX0 P w K mg base [x0, x1] qual (defScope st) f cdv A outer s H E0) I r0 ?_ d0 e0)))
  refine ⟨"str", _, PySem.F.plainAttrs_str, PySem.F.slot_str_replace, PySem.F.type_str_replace, typeIs_str _ _ _, (fun _ e => nomatch e), Calls.callWith_builtin rfl (Calls.evalArgs_plain (Calls.spliced_cons ?_))⟩
  refine ev_raw (X := cxOf CX0 P w K mg base [x0, x1] qual (defScope st) f cdv A outer s H E0) I r1 ?_ d1 e1
  refine Calls.spliced_cons (Calls.Constant_str (pos := c0) (k := j0) ?_)
  refine Calls.spliced_cons (wpAny_Constant_int (pos := c1) (k := j1) (Calls.spliced_nil ?_))
  have pos : s.toks ≤ s1.toks := grown
  refine call_rep1 hc small ht (Nat.ne_of_gt (Nat.lt_of_lt_of_le (Nat.lt_of_le_of_lt (Nat.zero_le _) hlt) pos)) (Nat.ne_of_lt (Nat.lt_of_lt_of_le hlt pos)) fun t' k => ?_
  exact fin (v := V.str (tx (a.erase c))) (r := Value.str (tx (a.erase c)) t') (I.tok k) ⟨t', rfl⟩ q
end

section
variable {X : Cx} {pins : List (Addr × Obj)} {σ : L2.St} {H : Hp} {s : Shared}
/-- first_off(a, x) as a step: a in the slot i, x the letter -/
theorem off_at {k i : Nat} {f : Addr} {g y x : Str} {pg py px pos : Pos} {a : List Nat} {c : Nat} {tc : Tok} {Q : VK} (R : OffRun X.prog X.w X.K X.mg X.base k f) (hr : Room k X.A) (hg : Gl X g) (hm : X.mg g = some (.ref f)) (hk : PySem.W.keepIn X.K (.ref f) = true)
    (I : Inv X pins σ H s) (hy : X.N[i]? = some y) (vy : Vis X.env.scope y) (ey : σ[i]? = some (some (.str (tx a)))) (rx : Raw X s x (.str (tx [c]) tc)) (h0 : tc ≠ 0) (hlt : tc < s.toks) (hc : c ∈ a) (small : a.length ≤ 1000) (q : Q (.str (tx (a.erase c))) H)
    (dg : (g == ("__debug__" : Str)) = false := by decide) (dy : (y == ("__debug__" : Str)) = false := by decide) (cy : (y == ("__classdict__" : Str)) = false := by decide) (dx : (x == ("__debug__" : Str)) = false := by decide) (cx : (x == ("__classdict__" : Str)) = false := by decide) :
    wpAny (model X.prog X.w) X.A (eval (.Call (.Name g pg) [.Name y py, .Name x px] [] pos) X.env) (fun u s' => EP X pins σ Q u s' ∧ ∀ z w, Raw X s z w → Raw X s' z w) X.xe s := by
  obtain ⟨uy, ry, rawy⟩ := raw_of I hy vy ey
  obtain ⟨ty, rfl⟩ := ry
  refine wpAny_Call_Name_kw (ld_glob I hg hm ?_ dg)
  refine PySem.W.callWith_K (h₀ := X.base) I.ok.mod.kin hk ?_ (by rfl) (by rfl)
  refine Calls.spliced_cons (ev_raw I rawy (Calls.spliced_cons (ev_raw I rx (Calls.spliced_nil ?_) dx cx)) dy cy)
  refine ⟨I.kIn, ?_⟩
  refine wpAny_call (codeAny_mono (R X.A X.stack s H a c ty tc Q hr I.env0 h0 hlt hc small q) fun r s' hq => ?_)
  cases r with
  | error e => exact False.elim hq
  | ok fl =>
    cases fl with
    | ret u =>
      have hq2 : CE X.stack X.prog X.w H s Q u s' := hq
      have un := hq2
      obtain ⟨v, H', os, bare, un, hok, r, q⟩ := un
      exact ⟨I.after hq2, fun z w h => raw_un I un h⟩
    | next => exact False.elim hq
    | brk => exact False.elim hq
    | cont => exact False.elim hq
end
end TcG
/-! Statements in which a letter's own value is known. -/
namespace TcG
open PySem PySem.Spec PyProof.Rows L2
theorem ip_adds {X : Cx} : PIp X .Add (fun x y H Q => ∃ i j, x = .str i ∧ y = .str j ∧ i.length + j.length ≤ sizeLine ∧ Q (.str (i ++ j)) H) := iop_add_str

/-- a block that begins where x holds a letter of its own -/
def PSsF (X : Cx) (x : Str) (body : List Stmt) (t : TS) : Prop :=
  ∀ (pins : List (Addr × Obj)) (s : Shared) (σ : L2.St) (H : Hp) (D : Ends) (u : Value), 1 ≤ s.toks → Inv X pins σ H s → Raw X s x u → Good s u → t D σ H → wpAny (model X.prog X.w) X.A (execs body X.env) (SP X pins D) X.xe s
/-- a statement that leaves x as it is -/
def PSR (X : Cx) (x : Str) (st : Stmt) (t : TS) : Prop :=
  ∀ (pins : List (Addr × Obj)) (s : Shared) (σ : L2.St) (H : Hp) (D : Ends) (u : Value), 1 ≤ s.toks → Inv X pins σ H s → Raw X s x u → t D σ H → wpAny (model X.prog X.w) X.A (exec st X.env) (fun f s' => SP X pins D f s' ∧ (f = .next → Raw X s' x u)) X.xe s
/-- an expression that leaves all names as they are -/
def PER (X : Cx) (e : Expr) (t : TE) : Prop :=
  ∀ (pins : List (Addr × Obj)) (s : Shared) (σ : L2.St) (H : Hp) (Q : VK), Inv X pins σ H s → t σ H Q → wpAny (model X.prog X.w) X.A (eval e X.env) (fun u s' => EP X pins σ Q u s' ∧ ∀ z w, Raw X s z w → Raw X s' z w) X.xe s
/-- an expression that gives out a text of its own -/
def PEG (X : Cx) (e : Expr) (t : TE) : Prop :=
  ∀ (pins : List (Addr × Obj)) (s : Shared) (σ : L2.St) (H : Hp) (Q : VK), 1 ≤ s.toks → Inv X pins σ H s → t σ H Q → wpAny (model X.prog X.w) X.A (eval e X.env) (fun u s' => EP X pins σ Q u s' ∧ Good s' u) X.xe s
section
variable {X : Cx} {pins : List (Addr × Obj)} {σ : L2.St} {H : Hp} {s : Shared}

/-- the letter's value by its slot -/
theorem raw_slot {i : Nat} {x : Str} {u : Value} {z : Str} (I : Inv X pins σ H s) (hN : X.N[i]? = some x) (hv : Vis X.env.scope x) (e : σ[i]? = some (some (.str z))) (h : Raw X s x u) : ∃ t, u = .str z t := by
  obtain ⟨w, rw, m, hn, l⟩ := raw_of I hN hv e
  obtain ⟨t, rfl⟩ := rw
  obtain ⟨m', hn', l'⟩ := h
  refine ⟨t, ?_⟩
  rcases l with ⟨k, e1⟩ | ⟨k, c, e1, z1⟩
  · rcases l' with ⟨k', e2⟩ | ⟨k', c', e2, z2⟩
    · rw [Heap.Ns.agree hn' hn x, e1] at e2
      exact (Option.some.inj e2).symm
    · rcases k' with k' | k' <;> (rw [k] at k'; cases k')
  · rcases l' with ⟨k', e2⟩ | ⟨k', c', e2, z2⟩
    · rcases k with k | k <;> (rw [k'] at k; cases k)
    · rw [e1] at e2
      cases e2
      obtain ⟨o1, h1, d1⟩ := z1
      obtain ⟨o2, h2, d2⟩ := z2
      rw [h1] at h2
      cases h2
      rw [d1] at d2
      cases d2
      rfl
theorem PSsF.of {x : Str} {body : List Stmt} {t : TS} (h : PSs X body t) : PSsF X x body t := fun pins s σ H D _ _ I _ _ q => h.run pins s σ H D I q
theorem pssf_cons {x : Str} {st : Stmt} {rest : List Stmt} {t u : TS} (h1 : PSR X x st t) (h2 : PSsF X x rest u) : PSsF X x (st :: rest) (tSeq t u) := by
  intro pins s σ H D v t0 I r g h
  refine wpAny_execs_cons (wpAny_mono (PySem.wpAny_toks (h1 pins s σ H { D with nx := u D } v t0 I r h)) (fun f s1 q => ?_) fun _ _ z => z.2)
  obtain ⟨hk, q, rw⟩ := q
  cases f with
  | next =>
    obtain ⟨σ', H', I', q⟩ := q
    exact h2 pins s1 σ' H' D v (Nat.le_trans t0 hk) I' (rw rfl) (g.later hk) q
  | ret v => exact q
  | brk => exact q
  | cont => exact q
/-- y = first_off(a, x) and what follows -/
def tOff (ia ix : Nat) (g : TG) : TS := fun D σ H => ∃ a c, σ[ia]? = some (some (.str (tx a))) ∧ σ[ix]? = some (some (.str (tx [c]))) ∧ c ∈ a ∧ a.length ≤ 1000 ∧ g (.str (tx (a.erase c))) σ H D.nx
theorem pssf_off {k ia ix iy : Nat} {f : Addr} {g a x y : Str} {py pg pa px cpos pos : Pos} {rest : List Stmt} {u : TS} (R : OffRun X.prog X.w X.K X.mg X.base k f) (hr : Room k X.A) (hg : Gl X g) (hm : X.mg g = some (.ref f)) (hk : PySem.W.keepIn X.K (.ref f) = true)
    (hN : X.N.Nodup) (ha : X.N[ia]? = some a) (va : Vis X.env.scope a) (hx : X.N[ix]? = some x) (vx : Vis X.env.scope x) (hy : X.N[iy]? = some y) (ly : Loc X.env.scope y) (h2 : PSs X rest u)
    (hs : swapsWith (.Call (.Name g pg) [.Name a pa, .Name x px] [] cpos) (some (.Name y py)) pos.line X.env = pure false := by rfl) (hf : X.fn y = true ∨ X.env.scope.names.lookup y = some .local := by first | exact .inl rfl | exact .inr rfl | assumption)
    (dg : (g == ("__debug__" : Str)) = false := by decide) (dy : (a == ("__debug__" : Str)) = false := by decide) (cy : (a == ("__classdict__" : Str)) = false := by decide) (dx : (x == ("__debug__" : Str)) = false := by decide) (cx : (x == ("__classdict__" : Str)) = false := by decide) :
    PSsF X x (.Assign [.Name y py] (.Call (.Name g pg) [.Name a pa, .Name x px] [] cpos) pos :: rest) (tSeq (tOff ia ix (gName iy)) u) := by
  intro pins s σ H D v t0 I r gd h
  obtain ⟨al, c, ea, ex, hc, small, q⟩ := h
  obtain ⟨t, rfl⟩ := raw_slot I hx vx ex r
  obtain ⟨z, t', e, n0, lt⟩ := gd
  cases e
  refine wpAny_execs_cons (wpAny_Assign_Name (wpAny_mono (off_at (Q := fun w H' => w = .str (tx (al.erase c)) ∧ H' = H) R hr hg hm hk I ha va ea r n0 lt hc small ⟨rfl, rfl⟩ dg dy cy dx cx) (fun w s1 q1 => ?_) fun _ _ e => e) hs)
  obtain ⟨⟨w, H1, I1, r1, rfl, rfl⟩, _⟩ := q1
  refine store_ok I1 hN hy ly r1 (fun s2 I2 => ?_) hf
  exact h2.run pins s2 _ _ D I2 q
/-- y += x, both texts -/
theorem psr_adds {iy ix : Nat} {y x : Str} {py px pos : Pos} (hN : X.N.Nodup) (hy : X.N[iy]? = some y) (ly : Loc X.env.scope y) (ne : y ≠ x) (he : PE X (.Name x px) (tVar ix)) (hf : X.fn y = true ∨ X.env.scope.names.lookup y = some .local := by first | exact .inl rfl | exact .inr rfl | assumption)
    (dy : (y == ("__debug__" : Str)) = false := by decide) (cy : (y == ("__classdict__" : Str)) = false := by decide) (dx : (x == ("__debug__" : Str)) = false := by decide) (cx : (x == ("__classdict__" : Str)) = false := by decide) (hx : X.N[ix]? = some x) (vx : Vis X.env.scope x) :
    PSR X x (.AugAssign (.Name y py) .Add (.Name x px) pos) (tAug iy (tVar ix) (fun x y H Q => ∃ i j, x = .str i ∧ y = .str j ∧ i.length + j.length ≤ sizeLine ∧ Q (.str (i ++ j)) H)) := by
  intro pins s σ H D v t0 I r h
  obtain ⟨vy, ey, w, ew, i, j, rfl, rfl, fits, q⟩ := h
  obtain ⟨t, rfl⟩ := raw_slot I hx vx ew r
  have vis : Vis X.env.scope y := by
    rcases ly with k | k
    · exact .inl k
    · exact .inr (.inl k)
  obtain ⟨uy, ry, m, hn, l⟩ := raw_of I hy vis ey
  obtain ⟨ty, rfl⟩ := ry
  refine wpAny_AugAssign_Name ?_
  have go : wpAny (model X.prog X.w) X.A (eval (.Name x px) X.env) (fun w s2 => wpAny (model X.prog X.w) X.A (inplaceOp .Add (.str i ty) w) (fun r s3 => wpAny (model X.prog X.w) X.A (storeName X.env y r) (fun _ s' => SP X pins D .next s' ∧ (Flow.next = .next → Raw X s' x (.str j t))) X.xe s3) X.xe s2) X.xe s := by
    refine ev_raw I r ?_ dx cx
    refine iadd_str (fun t' tk => ?_) fits
    exact store_raw (I.tok tk) hN hy ly (v := .str (i ++ j)) ⟨t', rfl⟩ (fun s3 I3 _ _ _ others => ⟨⟨_, H, I3, q⟩, fun _ => others x _ (Ne.symm ne) r⟩) hf
  rcases l with ⟨hk, hm⟩ | ⟨hk, c, hc, hcell⟩
  · exact wpAny_loadName_local I.ok.kind hk hn hm go
  · rcases hk with hk | hk
    · exact wpAny_loadName_cell I.ok.kind hk hc hcell go
    · exact wpAny_loadName_free I.ok.kind hk hc hcell go cy
/-- e[i] of a text: a sign of its own -/
theorem peg_ix {a b : Expr} {ta tb : TE} {pos : Pos} (ha : PE X a ta) (hb : PE X b tb) (hs : PlainIx b) : PEG X (.Subscript a b pos) (tOp rIxS ta tb) := by
  intro pins s σ H Q t0 I h
  refine Subscript_ (wpAny_mono (PySem.wpAny_toks (ha.run pins s σ H _ I h)) (fun v s1 q => ?_) fun _ _ z => z.2)
  obtain ⟨k1, x, H1, I1, r1, q1⟩ := q
  refine wpAny_mono (PySem.wpAny_toks (hb.run pins s1 σ H1 _ I1 q1)) (fun u s2 q => ?_) fun _ _ z => z.2
  obtain ⟨k2, y, H2, I2, r2, q2⟩ := q
  obtain ⟨z, i, c, rfl, rfl, hz, he, q⟩ := q2
  obtain ⟨t, rfl⟩ := r1
  obtain ⟨t', rfl⟩ := r2
  obtain ⟨j, h1, h2, h3, h4, h5⟩ := atI_get he
  have hl : z.cps.toList.length = z.length := by simp [Str.length]
  rw [hl] at h1 h4 h5
  have hn := line63
  have pos2 : 1 ≤ s2.toks := Nat.le_trans t0 (Nat.le_trans k1 k2)
  exact tail_any (typeIs_str s2 z t) slot_str_getitem.lookup (P.getItem_str (c := c) (by
    have e1 : decide (i < -(2 ^ 63 : Int)) = false := decide_eq_false (by omega)
    have e2 : decide (i ≥ 2 ^ 63) = false := decide_eq_false (by omega)
    rw [e1, e2, Bool.or_false]) (by rw [h1]; simpa using h2) ⟨⟨.str ⟨#[c]⟩, H2, I2.tok _, ⟨_, rfl⟩, q⟩, _, _, rfl, Nat.ne_of_gt pos2, Nat.lt_succ_self _⟩) (hs _ _)
/-- x = e, a text of its own, and what follows -/
theorem psst_setF {i : Nat} {x : Str} {e : Expr} {te : TE} {rest : List Stmt} {u : TS} {px pos : Pos} (hN : X.N.Nodup) (hi : X.N[i]? = some x) (hx : Loc X.env.scope x) (he : PEG X e te) (h2 : PSsF X x rest u)
    (hs : swapsWith e (some (.Name x px)) pos.line X.env = pure false := by rfl) (hf : X.fn x = true ∨ X.env.scope.names.lookup x = some .local := by first | exact .inl rfl | exact .inr rfl | assumption) :
    PSsT X (.Assign [.Name x px] e pos :: rest) (tSeq (tAsg te (gName i)) u) := by
  intro pins s σ H D t0 I h
  refine wpAny_execs_cons (wpAny_Assign_Name (wpAny_mono (PySem.wpAny_toks (he pins s σ H _ t0 I h)) (fun v s1 q => ?_) fun _ _ z => z.2) hs)
  obtain ⟨k1, ⟨y, H1, I1, r1, q1⟩, g⟩ := q
  refine store_raw I1 hN hi hx r1 (fun s2 I2 rw k2 _ _ => ?_) hf
  exact h2 pins s2 _ H1 D v (Nat.le_trans t0 (Nat.le_trans k1 k2)) I2 rw (g.later k2) q1
/-- x = e, x a local, and what follows: a token is out -/
theorem pss_setT {i : Nat} {x : Str} {e : Expr} {te : TE} {rest : List Stmt} {u : TS} {px pos : Pos} (hN : X.N.Nodup) (hi : X.N[i]? = some x) (hx : X.env.scope.names.lookup x = some .local) (he : PE X e te) (h2 : PSsT X rest u)
    (hs : swapsWith e (some (.Name x px)) pos.line X.env = pure false := by rfl) : PSs X (.Assign [.Name x px] e pos :: rest) (tSeq (tAsg te (gName i)) u) := by
  refine ⟨fun pins s σ H D I h => ?_⟩
  refine wpAny_execs_cons (wpAny_Assign_Name (thn (he.run pins s σ H _ I h) fun v s1 q => ?_) hs)
  obtain ⟨y, H1, I1, r1, q1⟩ := q
  refine store_raw I1 hN hi (.inl hx) r1 (fun s2 I2 _ _ k2 _ => ?_) (.inr hx)
  exact h2 pins s2 _ H1 D (Nat.le_trans (Nat.succ_le_succ (Nat.zero_le _)) (k2 hx)) I2 q1
theorem psst_set {i : Nat} {x : Str} {e : Expr} {te : TE} {rest : List Stmt} {u : TS} {px pos : Pos} (hN : X.N.Nodup) (hi : X.N[i]? = some x) (hx : Loc X.env.scope x) (he : PE X e te) (h2 : PSsT X rest u)
    (hs : swapsWith e (some (.Name x px)) pos.line X.env = pure false := by rfl) (hf : X.fn x = true ∨ X.env.scope.names.lookup x = some .local := by first | exact .inl rfl | exact .inr rfl | assumption) :
    PSsT X (.Assign [.Name x px] e pos :: rest) (tSeq (tAsg te (gName i)) u) := psst_cons (PST.of (ps_set hN hi hx he hs hf)) h2
end
end TcG
/-! Loops in which a token is out, or a letter's own value is known. -/
namespace TcG
open PySem PySem.Spec PyProof.Rows L2
section
variable {X : Cx}
/-- for x in text: the body begins with the letter's own value known -/
theorem pst_forF {i : Nat} {x : Str} {e : Expr} {body : List Stmt} {te : TE} {tb : TS} {px pos : Pos} (hp : PassesOwn (model X.prog X.w) X.A X.env X.xe) (hc : X.calm = true) (he : PE X e te) (hN : X.N.Nodup) (hi : X.N[i]? = some x) (hx : Loc X.env.scope x) (hb : PSsF X x body tb)
    (hs : ∀ v, foldedSetIterable e X.env v = pure v := by intro _; rfl) (hf : X.fn x = true ∨ X.env.scope.names.lookup x = some .local := by first | exact .inl rfl | exact .inr rfl | assumption) : PST X (.For (.Name x px) e body [] pos) (tFor (iStr te) (gName i) tb) := by
  intro pins s σ H D t0 I h
  refine wpAny_For (wpAny_mono (PySem.wpAny_toks (he.run pins s σ H _ I h)) (fun v s1 q => ?_) fun _ _ z => z.2) hs
  obtain ⟨k1, y, H1, I1, r1, a, rfl, W, ⟨m0, w0⟩, turn⟩ := q
  obtain ⟨t, rfl⟩ := r1
  have t1 : 1 ≤ s1.toks := Nat.le_trans t0 k1
  have main : ∀ ty : String, (ty = "str_ascii_iterator" ∨ ty = "str_iterator") → ∀ (it : Addr) (s2 : Shared), Inv X pins σ H1 s2 → 1 ≤ s2.toks → s2.heap.IsStrIter it ty a t 0 → FpOk X pins H1 it →
      codeAny (model X.prog X.w) X.A (.forLoop (.Name x px) (.ref it) body [] X.env) (fun r s' => match r with | .ok f => SP X pins D f s' | .error e => cameBackBy (model X.prog X.w) X.A X.env X.xe e s') s2 := by
    intro ty hty it s2 I2 t2 st2 f2
    have T := turn_str (P := X.prog) (w := X.w) (K := X.K) (tg := .Name x px) it a t ty hty
    have stat : ∀ {H' : Hp}, H' it = none → ∀ b ∈ [it], FpOk X pins H' b := fun hn b hb => by
      rw [List.mem_singleton.mp hb]
      exact ⟨hn, f2.2⟩
    have hno : ["enumerate", "zip", "dict_itemiterator", "dict_reverseitemiterator", "odict_iterator", "itertools.zip_longest", "itertools.pairwise"].contains ty = false := by
      rcases hty with e | e
      · rw [e]; decide
      · rw [e]; decide
    refine codeAny_forLoop_any (fun n s' => ∃ j σ' H', 1 ≤ s'.toks ∧ Inv X pins σ' H' s' ∧ s'.heap.IsStrIter it ty a t j ∧ H' it = none ∧ W j n σ' H') ?_ m0 ⟨0, σ, H1, t2, I2, st2, f2.1, w0⟩
    rintro n s3 ⟨j, σ3, H3, t3, I3, st3, fr3, w3⟩
    rcases turn j n σ3 H3 w3 with ⟨stop, qn⟩ | ⟨go, Nx, hNx, step⟩
    · refine wpAny_passesOwn hp (thn (T.done X rfl rfl rfl hc j pins s3 σ3 H3 X.xe I3 (stat fr3) st3 stop) fun r s4 ⟨hr, I4⟩ => ?_)
      subst hr
      exact wpAny_execs_nil ⟨σ3, H3, I4, qn⟩
    · have hlt : j < a.cps.size := go
      have item : ∀ (Q : Option Value → Shared → Prop), (∀ h', h'.IsStrIter it ty a t (j + 1) → Heap.SameBut it s3.heap h' → Q (some (.str ⟨#[a.cps[j]]⟩ s3.toks)) { s3 with heap := h', toks := s3.toks + 1 }) → wpAny (model X.prog X.w) X.A (pyNext (.ref it)) Q X.xe s3 := by
        intro Q hQ
        rcases hty with rfl | rfl
        · exact wpAny_pyNext_ascii_item st3 (by simp [hlt]) hQ
        · exact wpAny_pyNext_wide_item st3 (by simp [hlt]) hQ
      refine wpAny_passesOwn hp (item _ fun h' st4 sb => ?_)
      obtain ⟨f0, f1, f3, f4, f5, f6⟩ := stat fr3 it List.mem_cons_self
      have I4 : Inv X pins σ3 H3 { s3 with heap := h', toks := s3.toks + 1 } := I3.turned (fun b o hb e => (sb.2 b hb).trans e) fr3 f1 f4 f5 f6
      obtain ⟨oi, eo, cc, dd⟩ := id st4
      refine go_of (s := { s3 with heap := h', toks := s3.toks + 1 }) eo cc dd hno ?_
      have I5 := I4.pinned (fp := [it]) (stat fr3) (fun b hb => by
        rw [List.mem_singleton.mp hb]
        exact ⟨oi, eo, fun v z => by rw [dd] at z; cases z⟩)
      have y5 : (Its a).yld j H3 (.str ⟨#[a.cps[j]]⟩) H3 := ⟨rfl, a.cps[j], by simp [hlt], rfl⟩
      refine wpAny_passesOwn hp (wpAny_assign_Name (store_raw (v := .str ⟨#[a.cps[j]]⟩) I5 hN hi hx ⟨_, rfl⟩ (fun s6 I6 rw6 k6 _ _ => ?_) hf))
      have gd : Good s6 (.str ⟨#[a.cps[j]]⟩ s3.toks) := ⟨_, _, rfl, Nat.ne_of_gt t3, Nat.lt_of_lt_of_le (Nat.lt_succ_self _) k6⟩
      have t6 : 1 ≤ s6.toks := Nat.le_trans t3 (Nat.le_trans (Nat.le_succ _) k6)
      refine wpAny_passesOwn hp (wpAny_mono (PySem.wpAny_toks (hb _ s6 _ H3 _ _ t6 I6 rw6 gd (step _ H3 y5))) (fun f s7 q7 => ?_) fun _ _ z => z.2)
      obtain ⟨k7, q7⟩ := q7
      have again : ∀ {σ7 : L2.St} {H7 : Hp}, Inv X (pins ++ pinsAt [it] h') σ7 H7 s7 → Nx σ7 H7 → ∃ m, m < n ∧ ∃ j σ' H', 1 ≤ s7.toks ∧ Inv X pins σ' H' s7 ∧ s7.heap.IsStrIter it ty a t j ∧ H' it = none ∧ W j m σ' H' := fun {σ7 H7} I7 n7 => by
        obtain ⟨m', hm, w7⟩ := hNx σ7 H7 n7
        have pin := I7.pin (it, oi) (List.mem_append_right _ (List.mem_append_right _ (mem_pinsAt List.mem_cons_self eo)))
        exact ⟨m', hm, j + 1, σ7, H7, Nat.le_trans t6 k7, I7.unpinned, ⟨oi, pin.1, cc, dd⟩, pin.2.1, w7⟩
      cases f with
      | next => obtain ⟨σ7, H7, I7, n7⟩ := q7; exact again I7 n7
      | cont => obtain ⟨σ7, H7, I7, n7⟩ := q7; exact again I7 n7
      | brk => obtain ⟨σ7, H7, I7, q7⟩ := q7; exact ⟨σ7, H7, I7.unpinned, q7⟩
      | ret v => obtain ⟨x7, σ7, H7, I7, r7, q7⟩ := q7; exact ⟨x7, σ7, H7, I7.unpinned, r7, q7⟩
  have new : ∀ o : Obj, FpOk X pins H1 s1.heap.objs.size := fun _ => I1.fpOk (Nat.le_refl _) (I1.hok.fresh (Nat.le_refl _))
  cases ha : a.cps.all (· < 128)
  · exact wpAny_pyIter_wide ha (main _ (.inr rfl) _ _ (I1.kept (t' := s1.toks) fun b o e => Heap.get?_push_of_some _ e) t1 ⟨_, Heap.get?_push_size _ rfl, rfl, rfl⟩ (new default))
  · exact wpAny_pyIter_ascii ha (main _ (.inl rfl) _ _ (I1.kept (t' := s1.toks) fun b o e => Heap.get?_push_of_some _ e) t1 ⟨_, Heap.get?_push_size _ rfl, rfl, rfl⟩ (new default))

/-- for, a token out: also in the body -/
theorem pst_forT {tg iter : Expr} {body : List Stmt} {wi : TI} {g : TG} {tb : TS} {pos : Pos} (hp : PassesOwn (model X.prog X.w) X.A X.env X.xe) (hc : X.calm = true) (hi : PI X tg iter wi) (hg : PG X tg g) (hb : PSsT X body tb)
    (hs : ∀ x, foldedSetIterable iter X.env x = pure x := by intro _; rfl) : PST X (.For tg iter body [] pos) (tFor wi g tb) := by
  intro pins s σ H D t0 I h
  refine wpAny_For (wpAny_mono (PySem.wpAny_toks (hi.run pins s σ H _ I h)) (fun v s1 q1 => ?_) fun _ _ z => z.2) hs
  obtain ⟨k1, q1⟩ := q1
  refine wpAny_mono (PySem.wpAny_toks q1) (fun itv s2 q2 => ?_) fun _ _ z => z.2
  obtain ⟨k2, it, fp, tn, J, H2, rfl, I2, T, st2, f2, W, ⟨m0, w0⟩, turn⟩ := q2
  have stat : ∀ {H' : Hp}, (∀ b ∈ fp, H' b = none) → ∀ b ∈ fp, FpOk X pins H' b := fun hn b hb => ⟨hn b hb, (f2 b hb).2⟩
  refine codeAny_forLoop_any (fun n s' => ∃ i σ' H', 1 ≤ s'.toks ∧ Inv X pins σ' H' s' ∧ tn i s'.heap ∧ (∀ b ∈ fp, H' b = none) ∧ W i n σ' H') ?_ m0 ⟨0, σ, H2, Nat.le_trans t0 (Nat.le_trans k1 k2), I2, st2, fun b hb => (f2 b hb).1, w0⟩
  rintro n s3 ⟨i, σ3, H3, t3, I3, st3, fr3, w3⟩
  rcases turn i n σ3 H3 w3 with ⟨stop, qn⟩ | ⟨go, N, hN, step⟩
  · refine wpAny_passesOwn hp (thn (T.done X rfl rfl rfl hc i pins s3 σ3 H3 X.xe I3 (stat fr3) st3 stop) fun r s4 ⟨hr, I4⟩ => ?_)
    subst hr
    exact wpAny_execs_nil ⟨σ3, H3, I4, qn⟩
  · refine wpAny_passesOwn hp (wpAny_mono (PySem.wpAny_toks (T.item X rfl rfl rfl hc i pins s3 σ3 H3 X.xe I3 (stat fr3) st3 go)) (fun r s4 q4 => ?_) fun _ _ z => z.2)
    obtain ⟨k4, u, hr, h4⟩ := q4
    subst hr
    refine wpAny_passesOwn hp (wpAny_mono (PySem.wpAny_toks h4) (fun _ s5 q5 => ?_) fun _ _ z => z.2)
    obtain ⟨k5, x, H5, I5, r5, y5, st5, fr5⟩ := q5
    have I5' := I5.pinned (stat fr5) (T.obj _ _ st5)
    refine wpAny_passesOwn hp (wpAny_mono (PySem.wpAny_toks (hg.run _ s5 σ3 H5 x u _ I5' r5 (step x H5 y5))) (fun _ s6 q6 => ?_) fun _ _ z => z.2)
    obtain ⟨k6, σ6, H6, I6, q6⟩ := q6
    have t6 : 1 ≤ s6.toks := Nat.le_trans t3 (Nat.le_trans k4 (Nat.le_trans k5 k6))
    refine wpAny_passesOwn hp (wpAny_mono (PySem.wpAny_toks (hb _ s6 σ6 H6 _ t6 I6 q6)) (fun f s7 q7 => ?_) fun _ _ z => z.2)
    obtain ⟨k7, q7⟩ := q7
    have again : ∀ {σ7 : L2.St} {H7 : Hp}, Inv X (pins ++ pinsAt fp s5.heap) σ7 H7 s7 → N σ7 H7 → ∃ m, m < n ∧ ∃ i σ' H', 1 ≤ s7.toks ∧ Inv X pins σ' H' s7 ∧ tn i s7.heap ∧ (∀ b ∈ fp, H' b = none) ∧ W i m σ' H' := fun {σ7 H7} I7 n7 => by
      obtain ⟨m', hm, w7⟩ := hN σ7 H7 n7
      refine ⟨m', hm, i + 1, σ7, H7, Nat.le_trans t6 k7, I7.unpinned, T.keep _ _ _ st5 fun b hb o e => (I7.pin (b, o) (List.mem_append_right _ (List.mem_append_right _ (mem_pinsAt hb e)))).1, fun b hb => ?_, w7⟩
      obtain ⟨o, e, d⟩ := T.obj _ _ st5 b hb
      exact (I7.pin (b, o) (List.mem_append_right _ (List.mem_append_right _ (mem_pinsAt hb e)))).2.1
    cases f with
    | next => obtain ⟨σ7, H7, I7, n7⟩ := q7; exact again I7 n7
    | cont => obtain ⟨σ7, H7, I7, n7⟩ := q7; exact again I7 n7
    | brk => obtain ⟨σ7, H7, I7, q7⟩ := q7; exact ⟨σ7, H7, I7.unpinned, q7⟩
    | ret v => obtain ⟨x7, σ7, H7, I7, r7, q7⟩ := q7; exact ⟨x7, σ7, H7, I7.unpinned, r7, q7⟩

/-- while, a token out: also in the body -/
theorem pst_whileT {c : Expr} {body : List Stmt} {tc : TT} {tb : TS} {pos : Pos} (hp : PassesOwn (model X.prog X.w) X.A X.env X.xe) (hc : PT X c tc) (hb : PSsT X body tb) : PST X (.While c body [] pos) (tWhile tc tb) := by
  intro pins s σ H D t0 I h
  obtain ⟨W, ⟨m0, w0⟩, turn⟩ := h
  refine wpAny_While (codeAny_whileLoop (fun n s' => ∃ σ' H', 1 ≤ s'.toks ∧ Inv X pins σ' H' s' ∧ W n σ' H') ?_ m0 ⟨σ, H, t0, I, w0⟩)
  rintro n s1 ⟨σ1, H1, t1, I1, w1⟩
  refine wpAny_passesOwn hp (wpAny_mono (PySem.wpAny_toks (hc.run pins s1 σ1 H1 _ I1 (turn n σ1 H1 w1))) (fun b s2 q2 => ?_) fun _ _ z => z.2)
  obtain ⟨k2, H2, I2, q2⟩ := q2
  cases b with
  | true =>
    obtain ⟨N, hN, q2⟩ := q2
    rw [if_pos rfl]
    refine wpAny_passesOwn hp (wpAny_mono (PySem.wpAny_toks (hb pins s2 σ1 H2 _ (Nat.le_trans t1 k2) I2 q2)) (fun f s3 q3 => ?_) fun _ _ z => z.2)
    obtain ⟨k3, q3⟩ := q3
    have t3 := Nat.le_trans t1 (Nat.le_trans k2 k3)
    cases f with
    | next =>
      obtain ⟨σ3, H3, I3, n3⟩ := q3
      obtain ⟨m', hm, w3⟩ := hN σ3 H3 n3
      exact ⟨m', hm, σ3, H3, t3, I3, w3⟩
    | cont =>
      obtain ⟨σ3, H3, I3, n3⟩ := q3
      obtain ⟨m', hm, w3⟩ := hN σ3 H3 n3
      exact ⟨m', hm, σ3, H3, t3, I3, w3⟩
    | brk => exact q3
    | ret v => exact q3
  | false =>
    rw [if_neg Bool.false_ne_true]
    exact wpAny_execs_nil ⟨σ1, H2, I2, q2⟩
end
end TcG
/-! A comprehension whose walked thing is told as a step. -/
namespace TcG
open PySem PySem.Spec PyProof.Rows L2
section
variable {X : Cx}
/-- n items; W holds ahead of the i-th, the new list stands at D -/
def LcN (g : TG) (te : TE) (vs : List Nat) (σ : L2.St) (Q : VK) (J : It) (H1 : Hp) : Prop := ∀ D, H1 D = none → ∃ (n : Nat) (W : Nat → Hp → Prop), W 0 (upd H1 D (.lst [])) ∧ (∀ i H, i < n → W i H → J.go i H) ∧ (∀ H, W n H → J.stop n H ∧ Q (.ref D) H) ∧
  ∀ i H x H', i < n → W i H → J.yld i H x H' → g x (wipe σ vs) H' fun σ2 H2 => wipe σ2 vs = wipe σ vs ∧ te σ2 H2 fun y H4 => ∃ acc, H4 D = some (.lst acc) ∧ acc.length < sizeLine ∧ W (i + 1) (upd H4 D (.lst (acc ++ [y])))
theorem lc_at {pins : List (Addr × Obj)} {s : Shared} {σ : L2.St} {H : Hp} {Q : VK} {elt tg iter : Expr} {scope : Scope} {own : List (Str × Nat)} {pos : Pos} {g : TG} {te : TE} (calm : X.calm = true) (hN : X.N.Nodup) (I : Inv X pins σ H s) (ok : BlkOk X.N X.env.scope scope own)
    (hg : ∀ (s : Shared) (H : Hp) (C : Addr) (cl : List (Str × Addr)) (fp : List Addr), PG (X.blk s H scope (compEnvC scope cl C X.env) fp) tg g)
    (he : ∀ (s : Shared) (H : Hp) (C : Addr) (cl : List (Str × Addr)) (fp : List Addr), PE (X.blk s H scope (compEnvC scope cl C X.env) fp) elt te)
    (first : wpAny (model X.prog X.w) X.A (eval iter X.env) (fun v s1 => wpAny (model X.prog X.w) X.A (pyIter v) (PIE X pins σ tg (LcN g te (own.map (·.2)) σ Q)) X.xe s1) X.xe s) (fold : ∀ x, foldedSetIterable iter X.env x = pure x := by intro _; rfl) :
    wpAny (model X.prog X.w) X.A (eval (.ListComp elt [⟨tg, iter, [], 0⟩] scope pos) X.env) (EP X pins σ Q) X.xe s := by
  rw [eval_ListComp]
  have caught : ∀ y ∈ scope.names, y.2 = .free → ∃ c, X.env.cells.lookup y.1 = some c := fun y hy e => (ok.free y hy e).elim (fun k => I.ok.has _ (.inl k)) fun k => I.ok.has _ (.inr k)
  refine wpAny_comprehension_free (use := none) rfl fold (closure_ok caught) ok.kind (fun y hy e => by rw [ok.uniq y hy, e]) (thn first fun xv s1 h1 => thn h1 fun itv s2 h2 => ?_)
  obtain ⟨it, fp, tn, J, H2, rfl, I2, T, st2, f2, todo⟩ := h2
  refine wpAny_newObj_type (newEnv_comp ?_) (by show 0 ≤ sizeLine; decide)
  -- the new list at D, the block's own frame at C
  have newD : H2 s2.heap.objs.size = none := I2.hok.fresh (Nat.le_refl _)
  obtain ⟨n, W, w0, go, stop, turn⟩ := todo _ newD
  generalize hD : s2.heap.objs.size = D at newD w0 stop turn ⊢
  have keep3 : ∀ b o, s2.heap.get? b = some o → (s2.heap.push { cls := .type "list", data := .seq ([] : List Value).toArray }).get? b = some o := fun b o e => Heap.get?_push_of_some _ e
  have get3 : (s2.heap.push { cls := .type "list", data := .seq ([] : List Value).toArray }).get? D = some { cls := .type "list", data := .seq ([] : List Value).toArray } := by
    rw [← hD]
    exact Heap.get?_push_size _ rfl
  have size3 : (s2.heap.push { cls := .type "list", data := .seq ([] : List Value).toArray }).objs.size = s2.heap.objs.size + 1 := Heap.size_push ..
  generalize hs3 : ({ s2 with heap := s2.heap.push { cls := .type "list", data := .seq ([] : List Value).toArray } } : Shared) = s3
  have heap3 : s3.heap = s2.heap.push { cls := .type "list", data := .seq ([] : List Value).toArray } := by rw [← hs3]
  have I3 : Inv X pins σ (upd H2 D (.lst [])) s3 := by
    rw [← hs3]
    exact I2.laid (t' := s2.toks) keep3 (Nat.le_of_eq hD) ⟨Nat.zero_le _, [], 0, .nil, get3⟩
  have f3 : ∀ b ∈ fp, FpOk X pins (upd H2 D (.lst [])) b ∧ b < s3.heap.objs.size := fun b hb => by
    obtain ⟨o, e, _⟩ := T.obj _ _ st2 b hb
    have lt := Heap.lt_size e
    refine ⟨⟨?_, (f2 b hb).2⟩, by rw [heap3, size3]; exact Nat.lt_succ_of_lt lt⟩
    rw [upd_ne (by rw [← hD]; exact Nat.ne_of_lt lt)]
    exact (f2 b hb).1
  have I4 := block_start I3 ok hN f3
  have pg := hg s3 (upd H2 D (.lst [])) s3.heap.objs.size (cellsFrom (s3.heap.objs.size + 1) scope.names (cloFrom X.env.cells scope.names [])) fp
  have pe := he s3 (upd H2 D (.lst [])) s3.heap.objs.size (cellsFrom (s3.heap.objs.size + 1) scope.names (cloFrom X.env.cells scope.names [])) fp
  show codeAny _ _ (.compStart (.ListComp elt [⟨tg, iter, [], 0⟩] scope pos) 0 (.ref it) (.ref D) (compEnvC scope (cellsFrom (s3.heap.objs.size + 1) scope.names (cloFrom X.env.cells scope.names [])) s3.heap.objs.size X.env)) (compPost (model X.prog X.w) X.A X.xe none (EP X pins σ Q) (.ref D) s3.heap.objs.size)
    { s3 with heap := pushCells (s3.heap.push { cls := .type "dict", data := .dict #[] }) scope.names }
  generalize hce : compEnvC scope (cellsFrom (s3.heap.objs.size + 1) scope.names (cloFrom X.env.cells scope.names [])) s3.heap.objs.size X.env = ce at I4 pg pe ⊢
  have atC : ce.locals = s3.heap.objs.size := by rw [← hce]; rfl
  generalize hH3 : upd H2 D (.lst []) = H3 at I3 I4 pg pe w0 f3
  generalize hs4 : ({ s3 with heap := pushCells (s3.heap.push { cls := .type "dict", data := .dict #[] }) scope.names } : Shared) = s4 at I4 ⊢
  have st4 : tn 0 s4.heap := T.keep _ _ _ st2 fun b _ o e => by
    rw [← hs4]
    exact pushCells_keeps _ _ _ _ (Heap.get?_push_of_some _ (by rw [heap3]; exact keep3 b o e))
  have fB : ∀ {σ' : L2.St} {H' : Hp} {s' : Shared}, Inv (X.blk s3 H3 scope ce fp) [] σ' H' s' → (∀ b ∈ fp, H' b = none) → ∀ b ∈ fp, FpOk (X.blk s3 H3 scope ce fp) [] H' b := fun {σ' H' s'} J hn b hb =>
    ⟨hn b hb, (J.ok.exf b hb).1, J.ok.exfs b hb, .inl hb, fun x c e => (J.ok.exf b hb).2 x c e, fun p hp => absurd (show p ∈ ([] : List (Addr × Obj)) ++ [] from hp) (by simp)⟩
  have loop : codeAny (model X.prog X.w) X.A (.compLoop (.ListComp elt [⟨tg, iter, [], 0⟩] scope pos) 0 (.ref it) (.ref D) ce) (compPost (model X.prog X.w) X.A X.xe none (EP X pins σ Q) (.ref D) s3.heap.objs.size) s4 := by
    refine compLoop_any (fun m s' => ∃ i H', m = n - i ∧ i ≤ n ∧ Inv (X.blk s3 H3 scope ce fp) [] (wipe σ (own.map (·.2))) H' s' ∧ tn i s'.heap ∧ (∀ b ∈ fp, H' b = none) ∧ W i H') ?_ n ⟨0, H3, by simp, Nat.zero_le _, I4, st4, fun b hb => (f3 b hb).1.1, w0⟩
    rintro m s5 ⟨i, H5, rfl, hi, I5, st5, n5, w5⟩
    by_cases lt : i < n
    · refine thnF (T.item (X.blk s3 H3 scope ce fp) rfl rfl rfl calm i [] s5 _ H5 (fun _ _ => False) I5 (fB I5 n5) st5 (go i H5 lt w5)) fun r s6 ⟨u, hr, h6⟩ => ?_
      subst hr
      refine thnF h6 fun _ s7 ⟨x, H7, I7, r7, y7, st7, n7⟩ => ?_
      refine thnF (pg.run _ s7 _ H7 x u _ (I7.pinned (fB I7 n7) (T.obj _ _ st7)) r7 (turn i H5 x H7 lt w5 y7)) fun _ s8 ⟨σ8, H8, I8, same8, q8⟩ => ?_
      simp only [List.forIn_nil]
      refine wpAny_pure ?_
      simp only [if_true]
      refine thnF (pe.run _ s8 σ8 H8 _ I8 q8) fun z s10 ⟨yv, H10, I10, r10, acc, hD10, room10, w10⟩ => ?_
      refine app_ok (X := X.blk s3 H3 scope ce fp) I10 hD10 room10 r10 fun s11 I11 => ?_
      have pinned : ∀ b ∈ fp, ∀ o, s7.heap.get? b = some o → s11.heap.get? b = some o ∧ upd H10 D (.lst (acc ++ [yv])) b = none := fun b hb o e =>
        let z := I11.pin (b, o) (List.mem_append_right _ (List.mem_append_right _ (mem_pinsAt hb e)))
        ⟨z.1, z.2.1⟩
      have wl : (wipe σ (own.map (·.2))).length = σ8.length := by rw [← same8, wipe_length]
      refine ⟨n - (i + 1), by omega, i + 1, _, rfl, lt, (I11.unpinned (pins := [])).weak wl (fun j v e => ?_), T.keep _ _ _ st7 fun b hb o e => (pinned b hb o e).1, fun b hb => ?_, w10⟩
      · rw [← same8] at e
        exact (wipe_some e).1
      · obtain ⟨o, e, _⟩ := T.obj _ _ st7 b hb
        exact (pinned b hb o e).2
    · have ei : i = n := by omega
      subst ei
      obtain ⟨js, q⟩ := stop H5 w5
      refine thnF (T.done (X.blk s3 H3 scope ce fp) rfl rfl rfl calm i [] s5 _ H5 (fun _ _ => False) I5 (fB I5 n5) st5 js) fun r s6 ⟨hr, I6⟩ => ?_
      subst hr
      have I7 : Inv X pins σ H5 s6 := I3.call' (ch := fp) I6.os I6.base I6.hok I6.bare fun b hb => ⟨(f3 b hb).1.2.2.2.1, (f3 b hb).1.2.1, (f3 b hb).1.2.2.2.2.1, (f3 b hb).1.2.2.2.2.2⟩
      have nC : H5 s3.heap.objs.size = none := by
        have z : H5 ce.locals = none := I6.free
        rw [atC] at z
        exact z
      obtain ⟨m, hn, _⟩ := I6.loc
      have hn : s6.heap.Ns ce.locals m := hn
      rw [atC] at hn
      refine ⟨m, hn, fun h'' sb => ?_⟩
      obtain ⟨c0, c1, c2, c3, c4, c5⟩ := I3.fpOk (b := s3.heap.objs.size) (Nat.le_refl _) nC
      exact ⟨.ref D, H5, I7.turned (t' := s6.toks) (fun b o hb e => (sb.2 b hb).trans e) c0 c1 c3 c4 c5, rfl, q⟩
  exact codeAny_compStart_list loop (T.self X.A 0 _ _ _ st4 loop)
end
end TcG
/-! found.extend([elt for t in e[first_off(a, x)]]), x a letter of its own. -/
namespace TcG
open PySem PySem.Spec PyProof.Rows L2
section
variable {X : Cx}
def tExt (K : PySem.W.Frag) (ia ix ie iF : Nat) (g : TG) (te : TE) (vs : List Nat) : TS := fun D σ H => ∃ (a : List Nat) (c : Nat) (ed l fd : Addr), σ[ia]? = some (some (.str (tx a))) ∧ σ[ix]? = some (some (.str (tx [c]))) ∧ c ∈ a ∧ a.length ≤ 1000 ∧ σ[ie]? = some (some (.ref ed)) ∧ DGet H ed (.str (tx (a.erase c))) (some (.ref l)) ∧
  σ[iF]? = some (some (.ref fd)) ∧ (∃ xs, SqL K H fd xs) ∧ (∃ zs, SqL K H l zs) ∧
  LcN g te vs σ (fun y H2 => ∃ d xs zs, y = .ref d ∧ H2 fd = some (.lst xs) ∧ H2 d = some (.lst zs) ∧ xs.length + zs.length ≤ sizeLine ∧ D.nx σ (upd H2 fd (.lst (xs ++ zs)))) (Itl K l) H
theorem pssf_ext {k ia ix ie iF : Nat} {f : Addr} {fn a x e fo : Str} {px pg pa py pe ps apos cpos ipos pos lpos : Pos} {elt tg : Expr} {scope : Scope} {own : List (Str × Nat)} {g : TG} {te : TE} {rest : List Stmt} {u : TS}
    (calm : X.calm = true) (hu : X.A.units + 1 < cLine) (R : OffRun X.prog X.w X.K X.mg X.base k f) (hr : Room k X.A) (hg : Gl X fn) (hm : X.mg fn = some (.ref f)) (hk : PySem.W.keepIn X.K (.ref f) = true) (hN : X.N.Nodup) (ok : BlkOk X.N X.env.scope scope own)
    (pgen : ∀ (s : Shared) (H : Hp) (C : Addr) (cl : List (Str × Addr)) (fp : List Addr), PG (X.blk s H scope (compEnvC scope cl C X.env) fp) tg g)
    (pelt : ∀ (s : Shared) (H : Hp) (C : Addr) (cl : List (Str × Addr)) (fp : List Addr), PE (X.blk s H scope (compEnvC scope cl C X.env) fp) elt te)
    (ha : X.N[ia]? = some a) (va : Vis X.env.scope a) (hx : X.N[ix]? = some x) (vx : Vis X.env.scope x) (he : X.N[ie]? = some e) (ve : Vis X.env.scope e) (hF : X.N[iF]? = some fo) (vF : Vis X.env.scope fo) (h2 : PSs X rest u)
    (hs : swapsWith (.Call (.Attribute (.Name fo py) "extend" apos) [.ListComp elt [⟨tg, .Subscript (.Name e pe) (.Call (.Name fn pg) [.Name a pa, .Name x px] [] ipos) ps, [], 0⟩] scope lpos] [] cpos) none pos.line X.env = pure false := by rfl)
    (hbase : attributeBase (.Name fo py) "extend" X.env (eval (.Name fo py) X.env) = eval (.Name fo py) X.env := by rfl) (hline : (apos.endLine == cpos.line) = true := by rfl)
    (dg : (fn == ("__debug__" : Str)) = false := by decide) (dy : (a == ("__debug__" : Str)) = false := by decide) (cy : (a == ("__classdict__" : Str)) = false := by decide) (dx : (x == ("__debug__" : Str)) = false := by decide) (cx : (x == ("__classdict__" : Str)) = false := by decide)
    (de : (e == ("__debug__" : Str)) = false := by decide) (ce : (e == ("__classdict__" : Str)) = false := by decide) (dF : (fo == ("__debug__" : Str)) = false := by decide) (cF : (fo == ("__classdict__" : Str)) = false := by decide) :
    PSsF X x (.Expr (.Call (.Attribute (.Name fo py) "extend" apos) [.ListComp elt [⟨tg, .Subscript (.Name e pe) (.Call (.Name fn pg) [.Name a pa, .Name x px] [] ipos) ps, [], 0⟩] scope lpos] [] cpos) pos :: rest) (tSeq (tExt X.K ia ix ie iF g te (own.map (·.2))) u) := by
  intro pins s σ H D v t0 I r gd h
  obtain ⟨al, c, ed, l, fd, ea, ex, hc, small, ee, hget, ef, lf, ⟨zs0, lz⟩, q⟩ := h
  obtain ⟨t, rfl⟩ := raw_slot I hx vx ex r
  obtain ⟨z, t', e0, n0, lt⟩ := gd
  cases e0
  obtain ⟨uF, rF, rawF⟩ := raw_of I hF vF ef
  obtain rfl : uF = Value.ref fd := rF
  obtain ⟨uE, rE, rawE⟩ := raw_of I he ve ee
  obtain rfl : uE = Value.ref ed := rE
  refine wpAny_execs_cons (wpAny_Expr_any (wpAny_Call_method_late hbase (by rfl) hline rfl (ev_raw I rawF ?_ dF cF)) I.quiet hs)
  obtain ⟨h1, h3⟩ := tyV_is (T := "list") I (show RelV (.ref fd) (Value.ref fd) from rfl) (.inl ⟨rfl, lf⟩)
  refine ⟨"list", "list.extend", PySem.F.plainAttrs_list, PySem.F.slot_list_extend, PySem.F.type_list_extend, h1, h3, Calls.callWith_builtin rfl (Calls.evalArgs_plain (Calls.spliced_cons ?_))⟩
  refine thn (lc_at (Q := fun y H2 => ∃ d xs zs, y = .ref d ∧ H2 fd = some (.lst xs) ∧ H2 d = some (.lst zs) ∧ xs.length + zs.length ≤ sizeLine ∧ u D σ (upd H2 fd (.lst (xs ++ zs)))) calm hN I ok pgen pelt ?_) fun yv s1 ⟨y, H1, I1, r1, d, xs, zs, ey, hf, hd, hz, q1⟩ => ?_
  · refine subD_of PySem.F.slot_dict_getitem.lookup (fun _ _ => rfl) (ev_raw I rawE ?_ de ce)
    refine thn (off_at (Q := fun w H' => w = .str (tx (al.erase c)) ∧ H' = H) R hr hg hm hk I ha va ea r n0 lt hc small ⟨rfl, rfl⟩ dg dy cy dx cx) fun iv s2 hq => ?_
    obtain ⟨⟨y, H2, I2, r2, rfl, rfl⟩, _⟩ := hq
    refine ⟨dict_typeIs I2 hget, d_getItem hu I2 hget r2 fun w' s3 I3 rw' => ?_⟩
    obtain rfl : w' = Value.ref l := rw'
    obtain ⟨its, rv, p, hz⟩ := I3.list lz
    refine wpAny_pyIter_list p.isList ?_
    refine ⟨s3.heap.objs.size, [s3.heap.objs.size], _, _, H2, rfl, I3.kept (t' := s3.toks) fun b o e => Heap.get?_push_of_some _ e, turn_list l _, ⟨_, Heap.get?_push_size _ rfl, rfl, rfl⟩, fun b hb => ?_, q⟩
    have e : b = s3.heap.objs.size := by simpa using hb
    subst e
    exact I3.fpOk (Nat.le_refl _) (I3.hok.fresh (Nat.le_refl _))
  · subst ey
    refine Calls.spliced_nil (thn (mt_extend (X := X) pins s1 σ H1 (.ref fd) [.ref d] (.ref fd) [yv] (fun _ H3 => u D σ H3) I1 rfl (.cons r1 .nil) ⟨fd, d, xs, zs, rfl, rfl, hf, hd, hz, q1⟩) fun rv s3 ⟨_, H3, I3, _, q3⟩ => ?_)
    exact h2.run pins s3 σ H3 D I3 q3
end
end TcG
namespace TcG
open PySem PySem.Spec PyProof.Rows L2
theorem pairsWith_len (ls : List Nat) (x : Nat) : (pairsWith ls x).length ≤ ls.length := by
  unfold pairsWith
  rw [List.length_map]
  exact List.length_filter_le _ _
theorem flat_len (ls : List Nat) : ∀ l : List Nat, (l.flatMap (pairsWith ls)).length ≤ l.length * ls.length
  | [] => by simp
  | x :: r => by
    rw [List.flatMap_cons, List.length_append, List.length_cons]
    have h1 := pairsWith_len ls x
    have h2 := flat_len ls r
    rw [Nat.succ_mul]
    omega
end TcG
namespace TcG
open PySem PySem.Spec PyProof.Rows L2
theorem sorted_one : ∀ l m : List Nat, l.Pairwise (· ≤ ·) → m.Pairwise (· ≤ ·) → l.Perm m → l = m
  | [], m, _, _, p => p.nil_eq
  | x :: l, m, h1, h2, p => by
    cases m with
    | nil => exact absurd p.symm.nil_eq (by simp)
    | cons y m =>
      have a1 := (List.pairwise_cons.mp h1).1
      have a2 := (List.pairwise_cons.mp h2).1
      have xy : x = y := by
        have i1 : y ∈ x :: l := p.mem_iff.mpr List.mem_cons_self
        have i2 : x ∈ y :: m := p.mem_iff.mp List.mem_cons_self
        rcases List.mem_cons.mp i1 with z | z
        · exact z.symm
        · rcases List.mem_cons.mp i2 with u | u
          · exact u
          · have := a1 y z
            have := a2 x u
            omega
      subst xy
      rw [sorted_one l m (List.pairwise_cons.mp h1).2 (List.pairwise_cons.mp h2).2 p.cons_inv]
def ones (l : List Nat) : List Str := l.map fun c => tx [c]
theorem ones_inj {a b : List Nat} (h : ones a = ones b) : a = b := by
  have e : ∀ l, (ones l).map (fun s => s.cps.toList.headD 0) = l := fun l => by
    unfold ones
    rw [List.map_map]
    exact List.map_id _
  rw [← e a, ← e b, h]
theorem ones_of {l : List Nat} {ys : List Str} (p : ys.Perm (ones l)) : ∃ m, ys = ones m ∧ m.Perm l := by
  refine ⟨ys.map fun s => s.cps.toList.headD 0, ?_, ?_⟩
  · unfold ones
    rw [List.map_map]
    refine (List.map_id ys).symm.trans (List.map_congr_left fun s hs => ?_)
    obtain ⟨c, _, e⟩ := List.mem_map.mp (p.mem_iff.mp hs)
    rw [← e]
    rfl
  · have q := p.map fun s : Str => s.cps.toList.headD 0
    have e : (ones l).map (fun s => s.cps.toList.headD 0) = l := by
      unfold ones
      rw [List.map_map]
      exact List.map_id _
    rw [e] at q
    exact q
theorem ones_rising : ∀ (l : List Nat), sortedS (ones l) = true → l.Pairwise (· ≤ ·) := by
  have step : ∀ (l : List Nat) (x : Nat), risingS (tx [x]) (ones l) = true → (x :: l).Pairwise (· ≤ ·) := by
    intro l
    induction l with
    | nil => intro x _; exact List.pairwise_singleton ..
    | cons y r ih =>
      intro x h
      have h' : (_ && risingS (tx [y]) (ones r)) = true := h
      obtain ⟨h1, h2⟩ := Bool.and_eq_true_iff.mp h'
      have le : x ≤ y := by
        have h1 : (!(decide (y < x) || (y == x && false))) = true := h1
        rw [Bool.and_false, Bool.or_false, Bool.not_eq_true', decide_eq_false_iff_not] at h1
        omega
      have pr := ih y h2
      refine List.pairwise_cons.mpr ⟨fun z hz => ?_, pr⟩
      rcases List.mem_cons.mp hz with e | hz
      · rw [e]
        exact le
      · exact Nat.le_trans le ((List.pairwise_cons.mp pr).1 z hz)
  intro l h
  cases l with
  | nil => exact List.Pairwise.nil
  | cons x r => exact step r x h
theorem eqv_strs : ∀ (a b : List Str), PyData.eqvAll (a.map .str) (b.map .str) = decide (a = b)
  | [], [] => by simp [PyData.eqvAll]
  | [], y :: b => by simp [PyData.eqvAll]
  | x :: a, [] => by simp [PyData.eqvAll]
  | x :: a, y :: b => by
    have ih := eqv_strs a b
    rw [List.map_cons, List.map_cons, PyData.eqvAll, ih]
    show ((x == y) && decide (a = b)) = _
    by_cases e : x = y
    · subst e
      simp
    · simp [e]
theorem lay_strs : ∀ a : List Str, (∀ s ∈ a, PyData.strOk s = true) → PyData.canLayAll0 (a.map .str) = true
  | [], _ => by rw [List.map_nil, PyData.canLayAll0]
  | x :: a, h => by
    rw [List.map_cons, PyData.canLayAll0, lay_strs a fun s hs => h s (List.mem_cons_of_mem _ hs), PyData.canLay0, h x List.mem_cons_self]
    rfl
theorem deep_strs : ∀ a : List Str, PyData.depthAll (a.map .str) = 0
  | [] => by rw [List.map_nil, PyData.depthAll]
  | x :: a => by
    rw [List.map_cons, PyData.depthAll, deep_strs a, PyData.depth]
    rfl
theorem shaped_strs (a : List Str) (h : ∀ s ∈ a, PyData.strOk s = true) : SeqAt.shaped (.list (a.map .str)) = true := by
  unfold SeqAt.shaped
  rw [PyData.canLay0, lay_strs a h, PyData.depth, deep_strs a]
  rfl
theorem dp_strs {K : PySem.W.Frag} {H : Hp} : ∀ a : List Str, DpAll K H (a.map V.str) (a.map .str)
  | [] => .nil
  | x :: a => .cons (.str x) (dp_strs a)
end TcG
/-! The letters with which alike words begin; all alike words by their first letters. -/
namespace TcG
open PySem PySem.Spec PyProof.Rows L2
variable {ps : List (List Nat)} {ls : List Nat}

/-! ### sorted lists of numbers -/
def sortN (l : List Nat) : List Nat := l.mergeSort fun a b => decide (a ≤ b)
theorem sortN_perm (l : List Nat) : (sortN l).Perm l := List.mergeSort_perm l _
theorem sortN_sorted (l : List Nat) : (sortN l).Pairwise (· ≤ ·) := by
  have := List.pairwise_mergeSort (le := fun a b : Nat => decide (a ≤ b)) (fun a b c h1 h2 => by simp at *; omega) (fun a b => by simp; omega) l
  exact this.imp fun h => by simpa using h
theorem sortN_of {l m : List Nat} (p : m.Perm l) (h : m.Pairwise (· ≤ ·)) : m = sortN l := sorted_one _ _ h (sortN_sorted l) (p.trans (sortN_perm l).symm)
theorem lt_of_sorted {l : List Nat} (h : l.Pairwise (· ≤ ·)) (nd : l.Nodup) : l.Pairwise (· < ·) := by
  induction l with
  | nil => exact .nil
  | cons x r ih =>
    obtain ⟨h1, h2⟩ := List.pairwise_cons.mp h
    obtain ⟨n1, n2⟩ := List.nodup_cons.mp nd
    refine List.pairwise_cons.mpr ⟨fun y hy => ?_, ih h2 n2⟩
    have := h1 y hy
    have ne : x ≠ y := fun z => n1 (z ▸ hy)
    omega

/-! ### first letters -/
def Lead (ps : List (List Nat)) (w : List Nat) (c : Nat) : Prop := ∃ p q, w = p ++ c :: q ∧ c ∉ p ∧ ∀ y ∈ p, ind ps y c = true
def leads (ps : List (List Nat)) : List Nat → List Nat → List Nat
  | _, [] => []
  | seen, c :: r => if c ∈ seen then leads ps seen r else if (seen.all fun y => ind ps c y) = true then c :: leads ps (seen ++ [c]) r else leads ps (seen ++ [c]) r
theorem leads_cons (seen : List Nat) (c : Nat) (r : List Nat) : leads ps seen (c :: r) = if c ∈ seen then leads ps seen r else if (seen.all fun y => ind ps c y) = true then c :: leads ps (seen ++ [c]) r else leads ps (seen ++ [c]) r := rfl
theorem lead_cons {c d : Nat} {r : List Nat} (ne : c ≠ d) : Lead ps (d :: r) c ↔ ind ps d c = true ∧ Lead ps r c := by
  constructor
  · rintro ⟨p, q, e, n, h⟩
    cases p with
    | nil => exact absurd (List.cons.inj e).1.symm ne
    | cons x p =>
      obtain ⟨rfl, rfl⟩ := List.cons.inj e
      exact ⟨h _ List.mem_cons_self, p, q, rfl, fun z => n (List.mem_cons_of_mem _ z), fun y hy => h y (List.mem_cons_of_mem _ hy)⟩
  · rintro ⟨i, p, q, rfl, n, h⟩
    refine ⟨d :: p, q, rfl, fun z => ?_, fun y hy => ?_⟩
    · rcases List.mem_cons.mp z with z | z
      · exact ne z
      · exact n z
    · rcases List.mem_cons.mp hy with z | z
      · rw [z]
        exact i
      · exact h y z
theorem lead_self {c : Nat} {r : List Nat} : Lead ps (c :: r) c := ⟨[], r, rfl, by simp, by simp⟩
theorem mem_leads : ∀ (r seen : List Nat) (c : Nat), c ∈ leads ps seen r ↔ c ∉ seen ∧ (∀ y ∈ seen, ind ps c y = true) ∧ Lead ps r c
  | [], seen, c => by
    show c ∈ ([] : List Nat) ↔ _
    constructor
    · intro h
      cases h
    · rintro ⟨_, _, p, q, e, _⟩
      cases p <;> cases e
  | d :: r, seen, c => by
    have ih := fun s => mem_leads r s c
    unfold leads
    by_cases hd : d ∈ seen
    · rw [if_pos hd, ih]
      constructor
      · rintro ⟨h1, h2, h3⟩
        exact ⟨h1, h2, (lead_cons (show c ≠ d from fun z => h1 (z ▸ hd))).mpr ⟨by rw [ind_comm]; exact h2 d hd, h3⟩⟩
      · rintro ⟨h1, h2, h3⟩
        exact ⟨h1, h2, ((lead_cons (show c ≠ d from fun z => h1 (z ▸ hd))).mp h3).2⟩
    · rw [if_neg hd]
      by_cases e : c = d
      · subst e
        have no : c ∉ leads ps (seen ++ [c]) r := fun z => ((ih _).mp z).1 (List.mem_append_right _ List.mem_cons_self)
        by_cases ha : (seen.all fun y => ind ps c y) = true
        · rw [if_pos ha]
          exact ⟨fun _ => ⟨hd, List.all_eq_true.mp ha, lead_self⟩, fun _ => List.mem_cons_self⟩
        · rw [if_neg ha]
          exact ⟨fun z => absurd z no, fun z => absurd (List.all_eq_true.mpr z.2.1) ha⟩
      · have key : c ∈ leads ps (seen ++ [d]) r ↔ c ∉ seen ∧ (∀ y ∈ seen, ind ps c y = true) ∧ Lead ps (d :: r) c := by
          rw [ih, lead_cons e]
          constructor
          · rintro ⟨h1, h2, h3⟩
            refine ⟨fun z => h1 (List.mem_append_left _ z), fun y hy => h2 y (List.mem_append_left _ hy), ?_, h3⟩
            rw [ind_comm]
            exact h2 d (List.mem_append_right _ List.mem_cons_self)
          · rintro ⟨h1, h2, h3, h4⟩
            refine ⟨fun z => ?_, fun y hy => ?_, h4⟩
            · rcases List.mem_append.mp z with z | z
              · exact h1 z
              · exact e (List.mem_singleton.mp z)
            · rcases List.mem_append.mp hy with z | z
              · exact h2 y z
              · rw [List.mem_singleton.mp z, ind_comm]
                exact h3
        by_cases ha : (seen.all fun y => ind ps d y) = true
        · rw [if_pos ha, List.mem_cons]
          rw [key]
          exact ⟨fun z => z.elim (fun z => absurd z e) id, .inr⟩
        · rw [if_neg ha]
          exact key
theorem leads_nodup : ∀ (r seen : List Nat), (leads ps seen r).Nodup
  | [], _ => List.nodup_nil
  | d :: r, seen => by
    unfold leads
    split
    · exact leads_nodup r seen
    · split
      · refine List.nodup_cons.mpr ⟨fun z => ((mem_leads r _ d).mp z).1 (List.mem_append_right _ List.mem_cons_self), leads_nodup r _⟩
      · exact leads_nodup r _
def firstsM (ps : List (List Nat)) (w : List Nat) : List Nat := sortN (leads ps [] w)
theorem mem_firsts {w : List Nat} {c : Nat} : c ∈ firstsM ps w ↔ Lead ps w c := by
  unfold firstsM
  rw [(sortN_perm _).mem_iff, mem_leads]
  simp
theorem firsts_lt (w : List Nat) : (firstsM ps w).Pairwise (· < ·) := lt_of_sorted (sortN_sorted _) ((sortN_perm _).nodup_iff.mpr (leads_nodup _ _))
theorem lead_mem {w : List Nat} {c : Nat} (h : Lead ps w c) : c ∈ w := by
  obtain ⟨p, q, rfl, _⟩ := h
  simp
theorem firsts_ne {w : List Nat} (h : w ≠ []) : firstsM ps w ≠ [] := by
  cases w with
  | nil => exact absurd rfl h
  | cons c r =>
    intro z
    have := (mem_firsts (ps := ps)).mpr (lead_self (ps := ps) (c := c) (r := r))
    rw [z] at this
    cases this
theorem lead_erase {w : List Nat} {c : Nat} (h : Lead ps w c) : Exs ps w (c :: w.erase c) := by
  obtain ⟨p, q, rfl, n, i⟩ := h
  rw [List.erase_append_right _ n, List.erase_cons_head]
  exact bubble c q p i

/-! ### by first letters -/
theorem exs_in {a b : List Nat} (h : Exs ps a b) (ia : ∀ c ∈ a, c ∈ ls) : ∀ c ∈ b, c ∈ ls := fun c hc => ia c (h.perm.mem_iff.mpr hc)
theorem keeps_of (pr : Pairs ls ps) {a b : List Nat} (h : Exs ps a b) : KeepsM ls ps a b := fun u v _ _ _ hi => h.keeps pr hi
theorem exs_cancel (pr : Pairs ls ps) {c : Nat} {a b : List Nat} (ia : ∀ x ∈ c :: a, x ∈ ls) (h : Exs ps (c :: a) (c :: b)) : Exs ps a b := by
  have ib := exs_in h ia
  refine alike_of_keeps b a (fun x hx => ia x (List.mem_cons_of_mem _ hx)) (fun x hx => ib x (List.mem_cons_of_mem _ hx)) h.perm.cons_inv fun u v hu hv ne hi => ?_
  have k := h.keeps pr hi
  by_cases hc : c ∈ [u, v]
  · rw [keepM_cons_in hc, keepM_cons_in hc] at k
    exact (List.cons.inj k).2
  · rw [keepM_cons_out hc, keepM_cons_out hc] at k
    exact k
theorem lead_of (pr : Pairs ls ps) {w v : List Nat} {c : Nat} (iw : ∀ x ∈ w, x ∈ ls) (h : Exs ps w (c :: v)) : Lead ps w c := by
  have hc : c ∈ w := h.perm.mem_iff.mpr List.mem_cons_self
  obtain ⟨p, q, rfl, n⟩ := split_first hc
  refine ⟨p, q, rfl, n, fun y hy => ?_⟩
  cases e : ind ps y c with
  | true => rfl
  | false =>
    exfalso
    have k := h.keeps pr e
    rw [keepM_append, keepM_cons_in (show c ∈ [y, c] by simp) v] at k
    have hk : ∀ x ∈ keepM [y, c] p, x = y := fun x hx => by
      obtain ⟨h1, h2⟩ := List.mem_filter.mp hx
      have h2 := of_decide_eq_true h2
      rcases List.mem_cons.mp h2 with z | z
      · exact z
      · rw [List.mem_singleton.mp z] at h1
        exact absurd h1 n
    have hy2 : y ∈ keepM [y, c] p := List.mem_filter.mpr ⟨hy, decide_eq_true List.mem_cons_self⟩
    cases ek : keepM [y, c] p with
    | nil =>
      rw [ek] at hy2
      cases hy2
    | cons x r =>
      rw [ek] at k hk
      rw [List.cons_append] at k
      have := hk x List.mem_cons_self
      have k1 := (List.cons.inj k).1
      exact n (by rw [← k1, this]; exact hy)
/-- c :: v is alike w exactly if w can begin with c, and v is alike the rest -/
theorem exs_cons (pr : Pairs ls ps) {w v : List Nat} {c : Nat} (iw : ∀ x ∈ w, x ∈ ls) : Exs ps w (c :: v) ↔ Lead ps w c ∧ Exs ps (w.erase c) v := by
  constructor
  · intro h
    have l := lead_of pr iw h
    have h2 := (lead_erase l).symm.trans h
    exact ⟨l, exs_cancel pr (fun x hx => iw x ((lead_erase l).perm.mem_iff.mpr hx)) h2⟩
  · rintro ⟨l, h⟩
    exact (lead_erase l).trans (h.pre [c])
theorem erase_in {w : List Nat} {c : Nat} (iw : ∀ x ∈ w, x ∈ ls) : ∀ x ∈ w.erase c, x ∈ ls := fun x hx => iw x (List.mem_of_mem_erase hx)
theorem lead_alike (pr : Pairs ls ps) {w v : List Nat} {c : Nat} (iw : ∀ x ∈ w, x ∈ ls) (h : Exs ps w v) (l : Lead ps w c) : Lead ps v c ∧ Exs ps (w.erase c) (v.erase c) := by
  have iv := exs_in h iw
  have l2 : Lead ps v c := lead_of pr iv (h.symm.trans (lead_erase l))
  refine ⟨l2, ?_⟩
  have h3 : Exs ps (c :: w.erase c) (c :: v.erase c) := (lead_erase l).symm.trans (h.trans (lead_erase l2))
  exact exs_cancel pr (fun x hx => iw x ((lead_erase l).perm.mem_iff.mpr hx)) h3
theorem firsts_alike (pr : Pairs ls ps) {w v : List Nat} (iw : ∀ x ∈ w, x ∈ ls) (h : Exs ps w v) : firstsM ps w = firstsM ps v := by
  refine sortN_of ((List.perm_ext_iff_of_nodup ((sortN_perm _).nodup_iff.mpr (leads_nodup _ _)) (leads_nodup _ _)).mpr fun c => ?_) (sortN_sorted _)
  have e : c ∈ leads ps [] v ↔ Lead ps v c := by rw [mem_leads]; simp
  rw [e, show c ∈ sortN (leads ps [] w) ↔ Lead ps w c from mem_firsts]
  exact ⟨fun l => (lead_alike pr iw h l).1, fun l => (lead_alike pr (exs_in h iw) h.symm l).1⟩

/-- all words alike w, of n letters, in order -/
def allM (ps : List (List Nat)) : Nat → List Nat → List (List Nat)
  | 0, _ => [[]]
  | n + 1, w => (firstsM ps w).flatMap fun c => (allM ps n (w.erase c)).map (c :: ·)
theorem erase_len {w : List Nat} {c n : Nat} (h : c ∈ w) (e : w.length = n + 1) : (w.erase c).length = n := by rw [List.length_erase_of_mem h, e]; rfl
theorem mem_all (pr : Pairs ls ps) : ∀ (n : Nat) (w v : List Nat), w.length = n → (∀ x ∈ w, x ∈ ls) → (v ∈ allM ps n w ↔ Exs ps w v)
  | 0, w, v, hn, iw => by
    have hw : w = [] := List.length_eq_zero_iff.mp hn
    subst hw
    show v ∈ [[]] ↔ _
    rw [List.mem_singleton]
    constructor
    · rintro rfl
      exact .refl _
    · intro h
      exact h.perm.nil_eq.symm
  | n + 1, w, v, hn, iw => by
    show v ∈ (firstsM ps w).flatMap _ ↔ _
    rw [List.mem_flatMap]
    constructor
    · rintro ⟨c, hc, hv⟩
      obtain ⟨v', hv', rfl⟩ := List.mem_map.mp hv
      have l := mem_firsts.mp hc
      exact (exs_cons pr iw).mpr ⟨l, (mem_all pr n _ v' (erase_len (lead_mem l) hn) (erase_in iw)).mp hv'⟩
    · intro h
      cases v with
      | nil =>
        have := h.perm.length_eq
        rw [hn] at this
        cases this
      | cons c v' =>
        obtain ⟨l, h2⟩ := (exs_cons pr iw).mp h
        exact ⟨c, mem_firsts.mpr l, List.mem_map.mpr ⟨v', (mem_all pr n _ v' (erase_len (lead_mem l) hn) (erase_in iw)).mpr h2, rfl⟩⟩
theorem all_len : ∀ (n : Nat) (w : List Nat), w.length = n → ∀ v ∈ allM ps n w, v.length = n
  | 0, _, _, v, h => by
    have h : v ∈ [[]] := h
    rw [List.mem_singleton.mp h]
    rfl
  | n + 1, w, hn, v, h => by
    obtain ⟨c, hc, hv⟩ := List.mem_flatMap.mp h
    obtain ⟨v', hv', rfl⟩ := List.mem_map.mp hv
    rw [List.length_cons, all_len n _ (erase_len (lead_mem (mem_firsts.mp hc)) hn) v' hv']
theorem all_rising : ∀ (n : Nat) (w : List Nat), (allM ps n w).Pairwise (· < ·)
  | 0, _ => List.pairwise_singleton ..
  | n + 1, w => by
    have ih := fun w => all_rising n w
    show ((firstsM ps w).flatMap fun c => (allM ps n (w.erase c)).map (c :: ·)).Pairwise (· < ·)
    have up := firsts_lt (ps := ps) w
    generalize firstsM ps w = f at up ⊢
    induction f with
    | nil => exact .nil
    | cons c r ihr =>
      obtain ⟨h1, h2⟩ := List.pairwise_cons.mp up
      rw [List.flatMap_cons]
      refine List.pairwise_append.mpr ⟨?_, ihr h2, fun a ha b hb => ?_⟩
      · rw [List.pairwise_map]
        exact (ih _).imp fun h => List.Lex.cons h
      · obtain ⟨a', _, rfl⟩ := List.mem_map.mp ha
        obtain ⟨d, hd, hb⟩ := List.mem_flatMap.mp hb
        obtain ⟨b', _, rfl⟩ := List.mem_map.mp hb
        exact List.Lex.rel (h1 d hd)
theorem all_ne : ∀ (n : Nat) (w : List Nat), w.length = n → allM ps n w ≠ []
  | 0, _, _ => by simp [allM]
  | n + 1, w, hn => by
    have hw : w ≠ [] := fun z => by rw [z] at hn; cases hn
    have f := firsts_ne (ps := ps) hw
    intro z
    have z : (firstsM ps w).flatMap (fun c => (allM ps n (w.erase c)).map (c :: ·)) = [] := z
    rw [List.flatMap_eq_nil_iff] at z
    obtain ⟨c, r, e⟩ := List.exists_cons_of_ne_nil f
    have hc : c ∈ firstsM ps w := by rw [e]; exact List.mem_cons_self
    have := z c hc
    rw [List.map_eq_nil_iff] at this
    exact all_ne n _ (erase_len (lead_mem (mem_firsts.mp hc)) hn) this

/-! ### the least and the greatest -/
def pick (which : Bool) (l : List Nat) : Nat := if which then l.getLast?.getD 0 else l.head?.getD 0
/-- letter by letter the first one (or the last one) of those that can come next -/
def turnM (ps : List (List Nat)) (which : Bool) : Nat → List Nat → List Nat
  | 0, _ => []
  | n + 1, w => pick which (firstsM ps w) :: turnM ps which n (w.erase (pick which (firstsM ps w)))
theorem pick_mem {which : Bool} {l : List Nat} (h : l ≠ []) : pick which l ∈ l := by
  unfold pick
  cases which with
  | true =>
    rw [if_pos rfl, List.getLast?_eq_some_getLast h]
    exact List.getLast_mem h
  | false =>
    obtain ⟨c, r, rfl⟩ := List.exists_cons_of_ne_nil h
    exact List.mem_cons_self
theorem turn_len (which : Bool) : ∀ (n : Nat) (w : List Nat), (turnM ps which n w).length = n
  | 0, _ => rfl
  | n + 1, w => by
    show (_ :: turnM ps which n _).length = _
    rw [List.length_cons, turn_len which n]
theorem least_head : ∀ (n : Nat) (w : List Nat), w.length = n → (allM ps n w).head? = some (turnM ps false n w)
  | 0, _, _ => rfl
  | n + 1, w, hn => by
    have hw : w ≠ [] := fun z => by rw [z] at hn; cases hn
    obtain ⟨c, r, e⟩ := List.exists_cons_of_ne_nil (firsts_ne (ps := ps) hw)
    have hc : c ∈ firstsM ps w := by rw [e]; exact List.mem_cons_self
    have ih := least_head n (w.erase c) (erase_len (lead_mem (mem_firsts.mp hc)) hn)
    show ((firstsM ps w).flatMap fun c => (allM ps n (w.erase c)).map (c :: ·)).head? = some (pick false (firstsM ps w) :: turnM ps false n (w.erase (pick false (firstsM ps w))))
    rw [e, List.flatMap_cons, List.head?_append, List.head?_map, ih]
    rfl
theorem greatest_last : ∀ (n : Nat) (w : List Nat), w.length = n → (allM ps n w).getLast? = some (turnM ps true n w)
  | 0, _, _ => rfl
  | n + 1, w, hn => by
    have hw : w ≠ [] := fun z => by rw [z] at hn; cases hn
    have hne := firsts_ne (ps := ps) hw
    have e : firstsM ps w = (firstsM ps w).dropLast ++ [pick true (firstsM ps w)] := by
      unfold pick
      rw [if_pos rfl, List.getLast?_eq_some_getLast hne]
      exact (List.dropLast_concat_getLast hne).symm
    have hc := pick_mem (which := true) hne
    have ih := greatest_last n (w.erase (pick true (firstsM ps w))) (erase_len (lead_mem (mem_firsts.mp hc)) hn)
    show ((firstsM ps w).flatMap fun c => (allM ps n (w.erase c)).map (c :: ·)).getLast? = some (pick true (firstsM ps w) :: turnM ps true n (w.erase (pick true (firstsM ps w))))
    generalize pick true (firstsM ps w) = d at e ih ⊢
    rw [e, List.flatMap_append, List.flatMap_cons, List.flatMap_nil, List.append_nil, List.getLast?_append, List.getLast?_map, ih]
    rfl
theorem rising_one {α : Type} {R : α → α → Prop} (irr : ∀ x, ¬ R x x) (tr : ∀ x y z, R x y → R y z → R x z) : ∀ (l m : List α), l.Pairwise R → m.Pairwise R → (∀ x, x ∈ l ↔ x ∈ m) → l = m
  | [], m, _, _, h => by
    cases m with
    | nil => rfl
    | cons y m => exact absurd ((h y).mpr List.mem_cons_self) (by simp)
  | x :: l, m, h1, h2, h => by
    cases m with
    | nil => exact absurd ((h x).mp List.mem_cons_self) (by simp)
    | cons y m =>
      obtain ⟨a1, a2⟩ := List.pairwise_cons.mp h1
      obtain ⟨b1, b2⟩ := List.pairwise_cons.mp h2
      have xy : x = y := by
        rcases List.mem_cons.mp ((h x).mp List.mem_cons_self) with z | z
        · exact z
        · rcases List.mem_cons.mp ((h y).mpr List.mem_cons_self) with u | u
          · exact u.symm
          · exact absurd (tr _ _ _ (b1 x z) (a1 y u)) (irr _)
      subst xy
      rw [rising_one irr tr l m a2 b2 fun z => ?_]
      constructor
      · intro hz
        rcases List.mem_cons.mp ((h z).mp (List.mem_cons_of_mem _ hz)) with e | e
        · exact absurd (e ▸ a1 z hz) (irr _)
        · exact e
      · intro hz
        rcases List.mem_cons.mp ((h z).mpr (List.mem_cons_of_mem _ hz)) with e | e
        · exact absurd (e ▸ b1 z hz) (irr _)
        · exact e
theorem all_alike (pr : Pairs ls ps) {w v : List Nat} (iw : ∀ x ∈ w, x ∈ ls) (h : Exs ps w v) : allM ps w.length w = allM ps v.length v :=
  rising_one (fun x => List.lt_irrefl x) (fun x y z => List.lt_trans) _ _ (all_rising _ _) (all_rising _ _) fun x => by
    rw [mem_all pr _ _ _ rfl iw, mem_all pr _ _ _ rfl (exs_in h iw)]
    exact ⟨fun e => h.symm.trans e, fun e => h.trans e⟩
def leastM (ps : List (List Nat)) (w : List Nat) : List Nat := turnM ps false w.length w
theorem least_alike (pr : Pairs ls ps) {w v : List Nat} (iw : ∀ x ∈ w, x ∈ ls) (h : Exs ps w v) : leastM ps w = leastM ps v := by
  have a := least_head (ps := ps) w.length w rfl
  have b := least_head (ps := ps) v.length v rfl
  rw [all_alike pr iw h, b] at a
  exact (Option.some.inj a).symm
theorem least_exs (pr : Pairs ls ps) {w : List Nat} (iw : ∀ x ∈ w, x ∈ ls) : Exs ps w (leastM ps w) :=
  (mem_all pr _ _ _ rfl iw).mp (List.mem_of_mem_head? (by rw [least_head _ _ rfl]; rfl))
end TcG
/-! What can be left of a word, with the numbers of orders; a loop over a locked dict, a token out. -/
namespace TcG
open PySem PySem.Spec PyProof.Rows L2
theorem pst_lock {X : Cx} {st : Stmt} {t : TS} (h : PST X st t) : PST X st (tLock t) := by
  intro pins s σ H D t0 I hw
  obtain ⟨d, u, hd, mu, hw⟩ := hw
  obtain ⟨od, I1⟩ := I.lock hd mu
  refine thn (h pins s σ _ _ t0 I1 (hw od)) fun f s1 q => ?_
  cases f with
  | next => obtain ⟨σ', H', I2, e, q⟩ := q; exact ⟨σ', _, I2.unlock e (I.nofrz hd mu), q⟩
  | brk => obtain ⟨σ', H', I2, e, q⟩ := q; exact ⟨σ', _, I2.unlock e (I.nofrz hd mu), q⟩
  | cont => obtain ⟨σ', H', I2, e, q⟩ := q; exact ⟨σ', _, I2.unlock e (I.nofrz hd mu), q⟩
  | ret v => obtain ⟨x, σ', H', I2, r, e, q⟩ := q; exact ⟨x, σ', _, I2.unlock e (I.nofrz hd mu), r, q⟩

/-! ### rows: words with numbers -/
abbrev Row := List (List Nat × Nat)
def keysR (r : Row) : List (List Nat) := r.map (·.1)
def getR (r : Row) (w : List Nat) : Option Nat := (r.find? fun p => decide (p.1 = w)).map (·.2)
def addTo (r : Row) (w : List Nat) (n : Nat) : Row := if w ∈ keysR r then r.map (fun p => if p.1 = w then (p.1, p.2 + n) else p) else r ++ [(w, n)]
def rowK (r : Row) : List (Key × V) := r.map fun p => (Sum.inr (tx p.1), V.int p.2)
theorem rowK_len (r : Row) : (rowK r).length = r.length := List.length_map _
theorem rowK_get (r : Row) (w : List Nat) : valV (rowK r) (Sum.inr (tx w)) = (getR r w).map fun n => V.int (n : Int) := by
  induction r with
  | nil => rfl
  | cons p r ih =>
    show valV ((Sum.inr (tx p.1), V.int p.2) :: rowK r) _ = _
    by_cases e : p.1 = w
    · rw [valV_pos (by rw [e])]
      unfold getR
      rw [List.find?_cons_of_pos (by simpa using e)]
      rfl
    · rw [valV_neg (fun z => e (tx_inj (Sum.inr.inj z))), ih]
      unfold getR
      rw [List.find?_cons_of_neg (by simpa using e)]
theorem getR_none {r : Row} {w : List Nat} (h : w ∉ keysR r) : getR r w = none := by
  unfold getR
  rw [List.find?_eq_none.mpr fun p hp => ?_]
  · rfl
  · intro z
    exact h (List.mem_map.mpr ⟨p, hp, of_decide_eq_true z⟩)
theorem getR_some {r : Row} {w : List Nat} {n : Nat} (nd : (keysR r).Nodup) (h : (w, n) ∈ r) : getR r w = some n := by
  induction r with
  | nil => cases h
  | cons p r ih =>
    unfold getR
    obtain ⟨n1, n2⟩ := List.nodup_cons.mp nd
    rcases List.mem_cons.mp h with z | z
    · rw [← z, List.find?_cons_of_pos (by simp)]
      rfl
    · have ne : p.1 ≠ w := fun e => n1 (by
        show p.1 ∈ _
        rw [e]
        exact List.mem_map.mpr ⟨(w, n), z, rfl⟩)
      rw [List.find?_cons_of_neg (by simpa using ne)]
      exact ih n2 z
theorem keys_add (r : Row) (w : List Nat) (n : Nat) : keysR (addTo r w n) = if w ∈ keysR r then keysR r else keysR r ++ [w] := by
  unfold addTo
  split
  · unfold keysR
    rw [List.map_map]
    refine List.map_congr_left fun p _ => ?_
    show (if p.1 = w then (p.1, p.2 + n) else p).1 = p.1
    split <;> rfl
  · unfold keysR
    rw [List.map_append]
    rfl
theorem add_nodup {r : Row} {w : List Nat} {n : Nat} (nd : (keysR r).Nodup) : (keysR (addTo r w n)).Nodup := by
  rw [keys_add]
  split
  · exact nd
  · rename_i h
    exact List.nodup_append.mpr ⟨nd, by simp, fun x hx y hy => by rw [List.mem_singleton.mp hy]; exact fun z => h (z ▸ hx)⟩
theorem mem_add {r : Row} {w v : List Nat} {n : Nat} : v ∈ keysR (addTo r w n) ↔ v ∈ keysR r ∨ v = w := by
  rw [keys_add]
  split
  · rename_i h
    exact ⟨.inl, fun z => z.elim id fun e => e ▸ h⟩
  · rw [List.mem_append, List.mem_singleton]
theorem rowK_put {r : Row} {w : List Nat} {n : Nat} (nd : (keysR r).Nodup) : putK (rowK r) (Sum.inr (tx w)) (.int (((getR r w).getD 0 + n : Nat) : Int)) = rowK (addTo r w n) := by
  unfold putK
  rw [valV_any, rowK_get, Option.isSome_map]
  by_cases h : w ∈ keysR r
  · obtain ⟨⟨v, m⟩, hp, e⟩ := List.mem_map.mp h
    have e : v = w := e
    subst e
    rw [getR_some nd hp, if_pos (by rfl)]
    unfold addTo
    rw [if_pos h]
    unfold rowK
    rw [List.map_map, List.map_map]
    refine List.map_congr_left fun p hq => ?_
    show (if (Sum.inr (tx p.1) : Key) = Sum.inr (tx v) then ((Sum.inr (tx p.1) : Key), V.int (((some m).getD 0 + n : Nat) : Int)) else (Sum.inr (tx p.1), V.int p.2)) = (Sum.inr (tx (if p.1 = v then (p.1, p.2 + n) else p).1), V.int (if p.1 = v then (p.1, p.2 + n) else p).2)
    by_cases e : p.1 = v
    · have em : p.2 = m := by
        have := getR_some nd (show (p.1, p.2) ∈ r from hq)
        rw [e, getR_some nd hp] at this
        exact (Option.some.inj this).symm
      rw [if_pos (by rw [e]), if_pos e, em]
      rfl
    · rw [if_neg (fun z => e (tx_inj (Sum.inr.inj z))), if_neg e]
  · rw [getR_none h, if_neg (by simp)]
    unfold addTo
    rw [if_neg h]
    unfold rowK
    rw [List.map_append]
    simp

/-- one letter more off -/
def stepR (ps : List (List Nat)) (acc : Row) (p : List Nat × Nat) : Row := (firstsM ps p.1).foldl (fun acc c => addTo acc (p.1.erase c) p.2) acc
def moreM (ps : List (List Nat)) (r : Row) : Row := r.foldl (stepR ps) []
def rowsM (ps : List (List Nat)) (w : List Nat) : Nat → Row
  | 0 => [(w, 1)]
  | k + 1 => moreM ps (rowsM ps w k)
theorem fold_nodup {α : Type} (f : α → List Nat × Nat) : ∀ (l : List α) (acc : Row), (keysR acc).Nodup → (keysR (l.foldl (fun acc c => addTo acc (f c).1 (f c).2) acc)).Nodup
  | [], _, h => h
  | c :: l, acc, h => fold_nodup f l _ (add_nodup h)
theorem fold_mem {α : Type} (f : α → List Nat × Nat) {v : List Nat} : ∀ (l : List α) (acc : Row), v ∈ keysR (l.foldl (fun acc c => addTo acc (f c).1 (f c).2) acc) ↔ v ∈ keysR acc ∨ ∃ c ∈ l, v = (f c).1
  | [], acc => by simp
  | c :: l, acc => by
    rw [List.foldl_cons, fold_mem f l, mem_add]
    constructor
    · rintro ((h | h) | ⟨d, hd, h⟩)
      · exact .inl h
      · exact .inr ⟨c, List.mem_cons_self, h⟩
      · exact .inr ⟨d, List.mem_cons_of_mem _ hd, h⟩
    · rintro (h | ⟨d, hd, h⟩)
      · exact .inl (.inl h)
      · rcases List.mem_cons.mp hd with e | hd
        · exact .inl (.inr (by rw [h, e]))
        · exact .inr ⟨d, hd, h⟩
theorem step_nodup (ps : List (List Nat)) (p : List Nat × Nat) (acc : Row) (h : (keysR acc).Nodup) : (keysR (stepR ps acc p)).Nodup := fold_nodup (fun c => (p.1.erase c, p.2)) _ _ h
theorem step_mem {ps : List (List Nat)} {p : List Nat × Nat} {acc : Row} {v : List Nat} : v ∈ keysR (stepR ps acc p) ↔ v ∈ keysR acc ∨ ∃ c, Lead ps p.1 c ∧ v = p.1.erase c := by
  unfold stepR
  rw [fold_mem (fun c => (p.1.erase c, p.2))]
  constructor
  · rintro (h | ⟨c, hc, h⟩)
    · exact .inl h
    · exact .inr ⟨c, mem_firsts.mp hc, h⟩
  · rintro (h | ⟨c, hc, h⟩)
    · exact .inl h
    · exact .inr ⟨c, mem_firsts.mpr hc, h⟩
theorem foldl_step_nodup (ps : List (List Nat)) : ∀ (r acc : Row), (keysR acc).Nodup → (keysR (r.foldl (stepR ps) acc)).Nodup
  | [], _, h => h
  | p :: r, acc, h => foldl_step_nodup ps r _ (step_nodup ps p acc h)
theorem foldl_step_mem {ps : List (List Nat)} {v : List Nat} : ∀ (r acc : Row), v ∈ keysR (r.foldl (stepR ps) acc) ↔ v ∈ keysR acc ∨ ∃ w ∈ keysR r, ∃ c, Lead ps w c ∧ v = w.erase c
  | [], acc => by simp [keysR]
  | p :: r, acc => by
    rw [List.foldl_cons, foldl_step_mem r, step_mem]
    constructor
    · rintro ((h | ⟨c, h⟩) | ⟨w, hw, h⟩)
      · exact .inl h
      · exact .inr ⟨p.1, List.mem_cons_self, c, h⟩
      · exact .inr ⟨w, List.mem_cons_of_mem _ hw, h⟩
    · rintro (h | ⟨w, hw, c, h⟩)
      · exact .inl (.inl h)
      · rcases List.mem_cons.mp hw with e | hw
        · have e : w = p.1 := e
          exact .inl (.inr ⟨c, by rw [← e]; exact h⟩)
        · exact .inr ⟨w, hw, c, h⟩
theorem more_nodup (ps : List (List Nat)) (r : Row) : (keysR (moreM ps r)).Nodup := foldl_step_nodup ps r [] List.nodup_nil
theorem more_mem {ps : List (List Nat)} {r : Row} {v : List Nat} : v ∈ keysR (moreM ps r) ↔ ∃ w ∈ keysR r, ∃ c, Lead ps w c ∧ v = w.erase c := by
  unfold moreM
  rw [foldl_step_mem]
  simp [keysR]

/-! ### all that can be left stands in the word -/
def subs : List Nat → List (List Nat)
  | [] => [[]]
  | x :: r => subs r ++ (subs r).map (x :: ·)
theorem subs_len : ∀ w : List Nat, (subs w).length = 2 ^ w.length
  | [] => rfl
  | x :: r => by
    show (subs r ++ (subs r).map (x :: ·)).length = _
    rw [List.length_append, List.length_map, subs_len r, List.length_cons, Nat.pow_succ]
    omega
theorem mem_subs : ∀ {w v : List Nat}, v.Sublist w → v ∈ subs w
  | [], v, h => by
    rw [List.sublist_nil.mp h]
    exact List.mem_singleton.mpr rfl
  | x :: r, v, h => by
    cases h with
    | cons _ h => exact List.mem_append_left _ (mem_subs h)
    | cons_cons _ h => exact List.mem_append_right _ (List.mem_map.mpr ⟨_, mem_subs h, rfl⟩)
/-- the words of a row can be left of w -/
def Within (w : List Nat) (r : Row) : Prop := ∀ v ∈ keysR r, v.Sublist w
theorem within_len {w : List Nat} {r : Row} (nd : (keysR r).Nodup) (h : Within w r) : r.length ≤ 2 ^ w.length := by
  have := len_le_of_mem nd fun v hv => mem_subs (h v hv)
  rw [subs_len] at this
  unfold keysR at this
  rw [List.length_map] at this
  exact this
theorem within_small {w : List Nat} {r : Row} (nd : (keysR r).Nodup) (h : Within w r) (hw : w.length ≤ 16) : r.length < sizeLine := by
  have h1 := within_len nd h
  have h2 : 2 ^ w.length ≤ 2 ^ 16 := Nat.pow_le_pow_right (by decide) hw
  exact Nat.lt_of_le_of_lt (Nat.le_trans h1 h2) (by decide)
theorem within_add {w v : List Nat} {n : Nat} {r : Row} (h : Within w r) (hv : v.Sublist w) : Within w (addTo r v n) := fun x hx => by
  rcases mem_add.mp hx with z | z
  · exact h x z
  · rw [z]
    exact hv
theorem rows_facts (ps : List (List Nat)) (w : List Nat) : ∀ k, (keysR (rowsM ps w k)).Nodup ∧ Within w (rowsM ps w k) ∧ ∀ v ∈ keysR (rowsM ps w k), v.length + k = w.length
  | 0 => ⟨by show [w].Nodup; simp, fun v hv => by
      have hv : v ∈ [w] := hv
      rw [List.mem_singleton.mp hv]
      exact List.Sublist.refl _, fun v hv => by
      have hv : v ∈ [w] := hv
      rw [List.mem_singleton.mp hv]
      rfl⟩
  | k + 1 => by
    obtain ⟨_, h2, h3⟩ := rows_facts ps w k
    refine ⟨more_nodup ps _, fun v hv => ?_, fun v hv => ?_⟩
    · obtain ⟨u, hu, c, l, rfl⟩ := more_mem.mp hv
      exact (List.erase_sublist ..).trans (h2 u hu)
    · obtain ⟨u, hu, c, l, rfl⟩ := more_mem.mp hv
      have := h3 u hu
      have pos := List.length_pos_of_mem (lead_mem l)
      rw [List.length_erase_of_mem (lead_mem l)]
      omega
end TcG
/-! Lists of words: how many, as values, gone through by a comprehension. -/
namespace TcG
open PySem PySem.Spec PyProof.Rows L2
def wordsV (ws : List (List Nat)) : List V := ws.map fun w => V.str (tx w)
theorem wordsV_len (ws : List (List Nat)) : (wordsV ws).length = ws.length := List.length_map _
theorem wordsV_app (a b : List (List Nat)) : wordsV (a ++ b) = wordsV a ++ wordsV b := List.map_append
theorem wordsV_at {ws : List (List Nat)} {i : Nat} {x : V} (h : (wordsV ws)[i]? = some x) : ∃ w, ws[i]? = some w ∧ x = .str (tx w) := by
  unfold wordsV at h
  rw [List.getElem?_map] at h
  cases e : ws[i]? with
  | none =>
    rw [e] at h
    cases h
  | some w =>
    rw [e] at h
    exact ⟨w, rfl, (Option.some.inj h).symm⟩
/-- n * (n - 1) * .. * 1 -/
def fac : Nat → Nat
  | 0 => 1
  | n + 1 => (n + 1) * fac n
theorem firsts_few (ps : List (List Nat)) (w : List Nat) : (firstsM ps w).length ≤ w.length := len_le_of_mem ((sortN_perm _).nodup_iff.mpr (leads_nodup _ _)) fun c hc => lead_mem (mem_firsts.mp hc)
theorem flat_le {α β : Type} {f : α → List β} {k : Nat} : ∀ (l : List α), (∀ x ∈ l, (f x).length ≤ k) → (l.flatMap f).length ≤ l.length * k
  | [], _ => Nat.zero_le _
  | x :: r, h => by
    rw [List.flatMap_cons, List.length_append, List.length_cons, Nat.succ_mul, Nat.add_comm]
    exact Nat.add_le_add (flat_le r fun y hy => h y (List.mem_cons_of_mem _ hy)) (h x List.mem_cons_self)
theorem all_few (ps : List (List Nat)) : ∀ (n : Nat) (w : List Nat), w.length = n → (allM ps n w).length ≤ fac n
  | 0, _, _ => Nat.le_refl _
  | n + 1, w, hn => by
    refine Nat.le_trans (flat_le (k := fac n) _ fun c hc => ?_) (Nat.mul_le_mul_right _ (by rw [← hn]; exact firsts_few ps w))
    rw [List.length_map]
    exact all_few ps n _ (erase_len (lead_mem (mem_firsts.mp hc)) hn)
theorem fac_mono : ∀ {m n : Nat}, m ≤ n → fac m ≤ fac n
  | m, 0, h => by
    have : m = 0 := by omega
    rw [this]
    exact Nat.le_refl _
  | m, n + 1, h => by
    rcases Nat.eq_or_lt_of_le h with e | lt
    · rw [e]
      exact Nat.le_refl _
    · exact Nat.le_trans (fac_mono (Nat.le_of_lt_succ lt)) (Nat.le_mul_of_pos_left _ (Nat.succ_pos n))
theorem all_small {ps : List (List Nat)} {n : Nat} {w : List Nat} (hn : w.length = n) (h : n ≤ 10) : (allM ps n w).length ≤ 3628800 := Nat.le_trans (all_few ps n w hn) (fac_mono (n := 10) h)
/-- the words that begin with one of the first i letters -/
def begM (ps : List (List Nat)) (n : Nat) (w : List Nat) (i : Nat) : List (List Nat) := ((firstsM ps w).take i).flatMap fun c => (allM ps n (w.erase c)).map (c :: ·)
theorem beg_next {ps : List (List Nat)} {n : Nat} {w : List Nat} {i c : Nat} (h : (firstsM ps w)[i]? = some c) : begM ps n w (i + 1) = begM ps n w i ++ (allM ps n (w.erase c)).map (c :: ·) := by
  unfold begM
  obtain ⟨lt, e⟩ := List.getElem?_eq_some_iff.mp h
  rw [List.take_succ_eq_append_getElem lt, List.flatMap_append, e]
  simp
theorem beg_all {ps : List (List Nat)} {n : Nat} {w : List Nat} : begM ps n w (firstsM ps w).length = allM ps (n + 1) w := by
  unfold begM
  rw [List.take_length]
  rfl
theorem beg_le {ps : List (List Nat)} {n : Nat} {w : List Nat} (i : Nat) : (begM ps n w i).length ≤ (allM ps (n + 1) w).length := by
  have e : allM ps (n + 1) w = begM ps n w i ++ ((firstsM ps w).drop i).flatMap fun c => (allM ps n (w.erase c)).map (c :: ·) := by
    unfold begM
    rw [← List.flatMap_append, List.take_append_drop]
    rfl
  rw [e, List.length_append]
  omega
/-- a comprehension over the list at l -/
theorem lcN_list {K : PySem.W.Frag} {l : Addr} {ws : List V} {g : TG} {te : TE} {vs : List Nat} {σ : L2.St} {Q : VK} {H1 : Hp} (Pv : Addr → Nat → Hp → Prop) (h0 : ∀ D, H1 D = none → Pv D 0 (upd H1 D (.lst [])))
    (stays : ∀ D i H, Pv D i H → SqL K H l ws) (turn : ∀ D i x H, H1 D = none → ws[i]? = some x → Pv D i H → g x (wipe σ vs) H fun σ2 H2 => wipe σ2 vs = wipe σ vs ∧ te σ2 H2 fun y H4 => ∃ acc, H4 D = some (.lst acc) ∧ acc.length < sizeLine ∧ Pv D (i + 1) (upd H4 D (.lst (acc ++ [y]))))
    (out : ∀ D H, H1 D = none → Pv D ws.length H → Q (.ref D) H) : LcN g te vs σ Q (Itl K l) H1 := by
  intro D nD
  refine ⟨ws.length, Pv D, h0 D nD, fun i H hi p => ⟨ws, ws[i], stays D i H p, List.getElem?_eq_getElem hi⟩, fun H p => ⟨⟨ws, stays D _ H p, Nat.le_refl _⟩, out D H nD p⟩, fun i H x H' hi p y => ?_⟩
  obtain ⟨e, hx⟩ := y
  subst e
  exact turn D i x H' nD (hx ws (stays D i H' p)) p
end TcG
/-! sorted of a list of texts, however many. -/
namespace TcG
open PySem PySem.Spec PyProof.Rows L2
def rSortedA (K : PySem.W.Frag) : List V → Hp → VK → Prop := fun vs H Q => ∃ (a : Addr) (xs : List Str), vs = [V.ref a] ∧ SqL K H a (xs.map V.str) ∧ xs.length ≤ sizeLine ∧
  ∀ (ys : List Str) (p : Addr), ys.Perm xs → sortedS ys = true → H p = none → Q (.ref p) (upd H p (.lst (ys.map V.str)))
theorem cr_sortedA {X : Cx} : CallR X (.builtin "sorted") (rSortedA X.K) := by
  intro pins s σ H vs us Q I r h
  obtain ⟨a, xs, rfl, hs, hz, q⟩ := h
  obtain ⟨its, rv, hl, _⟩ := I.list hs
  rw [Vals.ref1 r]
  have hlen0 := rv.length
  rw [List.length_map] at hlen0
  refine PyProof.Rows.sorted_strsAny hl.isList rv.strs (by rw [← hlen0]; exact hz) fun out ys h1 h2 h3 => ?_
  obtain ⟨ep, he'⟩ := PyProof.Rows.sortedAll_at s.heap its out
  have hlen : (ys.map V.str).length ≤ sizeLine := by rw [List.length_map, h2.length_eq]; exact hz
  exact ⟨.ref _, upd H (s.heap.objs.size + 1) (.lst (ys.map V.str)), I.laid (t' := s.toks) (fun _ _ => PyProof.Rows.sortedAll_old) (Nat.le_succ _) ⟨hlen, out.toList, ep, vals_of_strs h1, he'⟩, rfl, q ys _ h2 h3 (I.hok.fresh (Nat.le_succ _))⟩
/-- what sep.join(list) asks -/
def rJoin (K : PySem.W.Frag) : V → List V → Hp → VK → Prop := fun x xs H Q => ∃ a p, ∃ ys : List Str, x = .str a ∧ xs = [.ref p] ∧ (SqL K H p (ys.map V.str) ∨ SqT K H p (ys.map V.str)) ∧ (ys.map (·.length)).sum + ys.length * a.length ≤ 16777216 ∧ Q (.str (Txt.join a ys)) H
theorem words_rising : ∀ (l : List (List Nat)), sortedS (l.map tx) = true → l.Pairwise (· ≤ ·) := by
  have step : ∀ (l : List (List Nat)) (x : List Nat), risingS (tx x) (l.map tx) = true → (x :: l).Pairwise (· ≤ ·) := by
    intro l
    induction l with
    | nil => intro x _; exact List.pairwise_singleton ..
    | cons y r ih =>
      intro x h
      have h' : (_ && risingS (tx y) (r.map tx)) = true := h
      obtain ⟨h1, h2⟩ := Bool.and_eq_true_iff.mp h'
      have le : x ≤ y := by
        have h1 : (!ltCps (tx y).cps.toList (tx x).cps.toList) = true := h1
        rw [tx_list, tx_list, ltCps_eq, Bool.not_eq_true', decide_eq_false_iff_not] at h1
        exact List.not_lt.mp h1
      have pr := ih y h2
      refine List.pairwise_cons.mpr ⟨fun z hz => ?_, pr⟩
      rcases List.mem_cons.mp hz with e | hz
      · rw [e]
        exact le
      · exact List.le_trans le ((List.pairwise_cons.mp pr).1 z hz)
  intro l h
  cases l with
  | nil => exact List.Pairwise.nil
  | cons x r => exact step r x h
theorem lt_of_le_ne {a b : List Nat} (h : a ≤ b) (ne : a ≠ b) : a < b := by
  by_cases l : a < b
  · exact l
  · exact absurd (List.le_antisymm h (List.not_lt.mp l)) ne
/-- the one list of just these words in order -/
theorem words_sorted {F L : List (List Nat)} {ys : List Str} (nd : F.Nodup) (same : ∀ v, v ∈ F ↔ v ∈ L) (up : L.Pairwise (· < ·)) (pm : ys.Perm (F.map tx)) (so : sortedS ys = true) : ys = L.map tx := by
  have hy : ys = (ys.map fun s => s.cps.toList).map tx := by
    rw [List.map_map]
    exact ((List.map_id ys).symm.trans (List.map_congr_left fun s hs => rfl))
  have pm2 : (ys.map fun s => s.cps.toList).Perm F := by
    have q := pm.map fun s : Str => s.cps.toList
    rw [List.map_map] at q
    have e : F.map ((fun s : Str => s.cps.toList) ∘ tx) = F := (List.map_congr_left fun s _ => tx_list s).trans (List.map_id F)
    rw [e] at q
    exact q
  rw [hy] at so
  have le := words_rising _ so
  have nd2 := pm2.nodup_iff.mpr nd
  have lt : (ys.map fun s => s.cps.toList).Pairwise (· < ·) := by
    have := List.pairwise_and_iff.mpr ⟨le, nd2⟩
    exact this.imp fun h => lt_of_le_ne h.1 h.2
  rw [hy, rising_one (fun x => List.lt_irrefl x) (fun x y z => List.lt_trans) _ L lt up fun v => (pm2.mem_iff).trans (same v)]
end TcG
/-! s[::-1], t[::-1]: a text, a tuple, backwards. -/
namespace TcG
open PySem PySem.Spec PyProof.Rows L2
theorem rev_pick {α : Type} (xs : Array α) : (sliceRange ((xs.size : Int) - 1) (-1) (-1)).filterMap (xs[·]?) = xs.toList.reverse := by
  rw [PySem.W.krv_sliceRange, PySem.W.krv_range, List.filterMap_reverse, PySem.W.krv_all]
theorem rev_text (l : List Nat) (t t2 : Tok) : sliceMade (tx l) t none none (some (-1, t2)) = .str (tx l.reverse) := by
  unfold sliceMade slicePicked
  have e1 : ((((some ((-1 : Int), t2)).map (·.1)).getD 1 == 1)) = false := by rfl
  have e2 : Builtin.Str.strSliceIndices none none (-1) (tx l).length = sliceRange (((tx l).cps.size : Int) - 1) (-1) (-1) := by
    unfold Builtin.Str.strSliceIndices
    rfl
  show (if ((((some ((-1 : Int), t2)).map (·.1)).getD 1 == 1) && _) = true then _ else Made.str ⟨((Builtin.Str.strSliceIndices none none (-1) (tx l).length).filterMap ((tx l).cps[·]?)).toArray⟩) = _
  rw [e1, Bool.false_and, if_neg Bool.false_ne_true, e2, rev_pick]
  rfl
section
variable {X : Cx} {e : Expr} {te : TE} {k : Nat} {p1 p2 p3 pos : Pos}
def tRevS (te : TE) : TE := fun σ H Q => te σ H fun x H1 => ∃ l : List Nat, x = .str (tx l) ∧ l.length ≤ 1000 ∧ Q (.str (tx l.reverse)) H1
theorem pe_revS (he : PE X e te) : PE X (.Subscript e (.Slice none none (some (.UnaryOp .USub (.Constant (.int 1) k p1) p2)) p3) pos) (tRevS te) := by
  refine ⟨fun pins s σ H Q I h => ?_⟩
  refine Subscript_ (thn (he.run pins s σ H _ I h) fun v s1 ⟨x, H1, I1, r1, q1⟩ => ?_)
  obtain ⟨l, rfl, few, q⟩ := q1
  obtain ⟨t, rfl⟩ := (show ∃ t, v = Value.str (tx l) t from r1)
  have step : PO X (some (.UnaryOp .USub (.Constant (.int 1) k p1) p2)) (tPart (tUn (rU fun i => .int (-i)) (tC (.int 1)))) := po_some (pe_un un_neg pe_int)
  refine wpAny_Slice (thn (po_none.run pins s1 σ H1 (fun o H2 => o = none ∧ H2 = H1) I1 ⟨rfl, rfl⟩) fun vl s2 ⟨_, H2, I2, pl, el, e2⟩ => ?_)
  subst el e2
  refine thn (po_none.run pins s2 σ H2 (fun o H3 => o = none ∧ H3 = H2) I2 ⟨rfl, rfl⟩) fun vu s3 ⟨_, H3, I3, pu, eu, e3⟩ => ?_
  subst eu e3
  refine thn (step.run pins s3 σ H3 (fun o H4 => o = some (-1) ∧ H4 = H3) I3 ⟨1, rfl, -1, rfl, rfl, rfl⟩) fun vs s4 ⟨_, H4, I4, ps, eo, e4⟩ => ?_
  subst eo e4
  have I5 : Inv X pins σ H4 { s4 with heap := s4.heap.push { cls := .type "slice", data := .fields #[vl, vu, vs] } } := I4.kept (t' := s4.toks) fun b ob q => Heap.get?_push_of_some _ q
  cases pl
  cases pu
  cases ps with
  | int _ t2 =>
    refine tail_any (ops := [.str (tx l) t, .ref s4.heap.objs.size]) (typeIs_str _ _ _) PySem.F.slot_str_getitem.lookup ?_ (by with_unfolding_all rfl)
    refine wpAny_getItem_str_slice (l := none) (u := none) (st := some (-1, t2)) ⟨_, Heap.get?_push_size _ rfl, rfl, rfl⟩ (by rfl) ?_
    rw [rev_text]
    refine ⟨?_, .str (tx l.reverse), H4, I5.tok _, ⟨_, rfl⟩, q⟩
    rw [tx_length, List.length_reverse]
    exact Nat.le_trans few (by decide)
end
theorem rev_places (n : Nat) : Builtin.Slice.slicePlaces ((n : Int) - 1) (-1) (-1) = n := by
  unfold Builtin.Slice.slicePlaces
  have h1 : ¬ ((-1 : Int) > 0) := by decide
  have h2 : (- (-1 : Int)) = 1 := by decide
  simp only [h1, h2, if_false, Int.ediv_one]
  split <;> omega
theorem rev_adjust (n : Nat) : Builtin.Slice.sliceAdjust none none (-1) (n : Int) = ((n : Int) - 1, -1) := by
  unfold Builtin.Slice.sliceAdjust
  have h1 : (-1 : Int) < 0 := by decide
  simp only [h1, if_true]
theorem filterMap_same {α β : Type} {f g : α → Option β} : ∀ l : List α, (∀ m ∈ l, f m = g m) → l.filterMap f = l.filterMap g
  | [], _ => rfl
  | x :: l, h => by
    rw [List.filterMap_cons, List.filterMap_cons, h x List.mem_cons_self, filterMap_same l fun m hm => h m (List.mem_cons_of_mem _ hm)]
theorem rev_items (xs : Array Value) : ((List.range xs.size).filterMap fun (m : Nat) => xs[((xs.size : Int) - 1 + (m : Int) * -1).toNat]?) = xs.toList.reverse := by
  rw [← rev_pick, PySem.W.krv_sliceRange, List.filterMap_map]
  refine filterMap_same _ fun m hm => ?_
  have := List.mem_range.mp hm
  show xs[((xs.size : Int) - 1 + (m : Int) * -1).toNat]? = xs[xs.size - 1 - m]?
  congr 1
  omega
theorem tuple_back {prog : Program} {w : World} {A : Around} {E : Value → Shared → Prop} {s : Shared} {a sl : Addr} {items : Array Value} {t : Tok} {Q : Value → Shared → Prop} (ht : IsTup s.heap a items) (hs : s.heap.IsSliceOf sl .none .none (.int (-1) t))
    (few : items.size ≤ sizeLine) (h : Q (.ref s.heap.objs.size) { s with heap := s.heap.push { cls := .type "tuple", data := .seq items.toList.reverse.toArray } }) : wpAny (model prog w) A (getItem (.ref a) (.ref sl)) Q E s := by
  have ok : sizeOk (.seq items.toList.reverse.toArray) := by
    show items.toList.reverse.toArray.size ≤ sizeLine
    rw [List.size_toArray, List.length_reverse, Array.length_toList]
    exact few
  obtain ⟨os, at', cls', fields⟩ := id hs
  have isSlice : s.TypeIs (.ref sl) "slice" := ⟨os, at', cls'⟩
  unfold getItem
  try with_reducible refine wpAny_holding ?_
  first | refine wpAny_bind (wpAny_pure ?_) | skip
  refine wpAny_bind (wpAny_sequenceKey ht.typeIs (by decide) ?_)
  refine wpAny_bind (wpAny_callSpecial?_slot (name := Str.ofString "__getitem__") ht.typeIs PyProof.Rows.slot_tuple_getitem
    (wpAny_call_entry PyProof.Rows.slot_tuple_getitem ht.typeIs entry_tuple_getitem ?_ (args_tuple_getitem _ _)))
  change wpAny _ _ (Builtin.Tuple.tupleItemsOf (.ref a) >>= _) _ _ s
  refine wpAny_bind (PyProof.Rows.tupleItemsOf_ ht ?_)
  refine wpAny_bind (wpAny_typeOf isSlice ?_)
  rw [if_pos (by decide)]
  have applied : ∀ {Q' : Int × Int × Nat → Shared → Prop} {E' : Value → Shared → Prop} {A' : Around}, Q' ((items.size : Int) - 1, -1, items.size) s → wpAny (model prog w) A' (Builtin.Slice.sliceApplied (.ref sl) (pure (items.size : Int))) Q' E' s := fun {Q' E' A'} q => by
    unfold Builtin.Slice.sliceApplied Builtin.Slice.sliceFields
    refine wpAny_bind (wpAny_bind (wpAny_field at' fields (x := .none) rfl (wpAny_bind (wpAny_field at' fields (x := .none) rfl (wpAny_bind (wpAny_field at' fields (x := .int (-1) t) rfl (wpAny_pure ?_)))))))
    refine wpAny_bind (slicePart_int ?_)
    change wpAny _ _ (if ((-1 : Int) == 0) = true then _ else _) _ _ s
    rw [if_neg (by decide)]
    refine wpAny_bind (slicePart_none (wpAny_bind (slicePart_none (wpAny_bind (wpAny_pure ?_)))))
    change wpAny _ _ (match Builtin.Slice.sliceAdjust none none (-1) (items.size : Int) with | (lo, hi) => pure (lo, (-1 : Int), Builtin.Slice.slicePlaces lo hi (-1))) _ _ s
    rw [rev_adjust]
    change wpAny _ _ (pure ((items.size : Int) - 1, (-1 : Int), Builtin.Slice.slicePlaces ((items.size : Int) - 1) (-1) (-1))) _ _ s
    rw [rev_places]
    exact wpAny_pure q
  refine wpAny_bind (applied ?_)
  have other : ¬ ((((items.size : Int) - 1 == 0) && (-1 : Int) == 1 && items.size == items.size) = true) := by simp
  change wpAny _ _ (if (((items.size : Int) - 1 == 0) && (-1 : Int) == 1 && items.size == items.size) = true then _ else _) _ _ s
  rw [if_neg other, rev_items]
  first
    | exact wpAny_bind (m := Builtin.Tuple.tupleExact _) (wpAny_newObj_type (wpAny_pure ⟨_, rfl, wpAny_pure h⟩) ok)
    | exact wpAny_bind (m := Builtin.Tuple.tupleExact _) (wpAny_newObj_type (wpAny_bind (wpAny_pure (wpAny_pure ⟨_, rfl, wpAny_pure h⟩))) ok)
    | exact wpAny_bind (wpAny_bind (m := Builtin.Tuple.tupleExact _) (wpAny_newObj_type (wpAny_pure (wpAny_pure ⟨_, rfl, wpAny_pure h⟩)) ok))
    | exact wpAny_bind (wpAny_bind (m := Builtin.Tuple.tupleExact _) (wpAny_newObj_type (wpAny_pure ⟨_, rfl, wpAny_pure h⟩) ok))
section
variable {X : Cx} {e : Expr} {te : TE} {k : Nat} {p1 p2 p3 pos : Pos}
def tRevT (K : PySem.W.Frag) (te : TE) : TE := fun σ H Q => te σ H fun x H1 => ∃ a xs, x = .ref a ∧ SqT K H1 a xs ∧ ∀ p, H1 p = none → Q (.ref p) (upd H1 p (.tup xs.reverse))
theorem pe_revT (he : PE X e te) : PE X (.Subscript e (.Slice none none (some (.UnaryOp .USub (.Constant (.int 1) k p1) p2)) p3) pos) (tRevT X.K te) := by
  refine ⟨fun pins s σ H Q I h => ?_⟩
  refine Subscript_ (thn (he.run pins s σ H _ I h) fun v s1 ⟨x, H1, I1, r1, q1⟩ => ?_)
  obtain ⟨a, xs, rfl, hx, q⟩ := q1
  obtain rfl : v = Value.ref a := r1
  have step : PO X (some (.UnaryOp .USub (.Constant (.int 1) k p1) p2)) (tPart (tUn (rU fun i => .int (-i)) (tC (.int 1)))) := po_some (pe_un un_neg pe_int)
  refine wpAny_Slice (thn (po_none.run pins s1 σ H1 (fun o H2 => o = none ∧ H2 = H1) I1 ⟨rfl, rfl⟩) fun vl s2 ⟨_, H2, I2, pl, el, e2⟩ => ?_)
  subst el e2
  refine thn (po_none.run pins s2 σ H2 (fun o H3 => o = none ∧ H3 = H2) I2 ⟨rfl, rfl⟩) fun vu s3 ⟨_, H3, I3, pu, eu, e3⟩ => ?_
  subst eu e3
  refine thn (step.run pins s3 σ H3 (fun o H4 => o = some (-1) ∧ H4 = H3) I3 ⟨1, rfl, -1, rfl, rfl, rfl⟩) fun vs s4 ⟨_, H4, I4, ps, eo, e4⟩ => ?_
  subst eo e4
  have I5 : Inv X pins σ H4 { s4 with heap := s4.heap.push { cls := .type "slice", data := .fields #[vl, vu, vs] } } := I4.kept (t' := s4.toks) fun b ob q => Heap.get?_push_of_some _ q
  obtain ⟨its, r, ht, hz⟩ := I5.tuple hx
  have hlen := r.length
  cases pl
  cases pu
  cases ps with
  | int _ t2 =>
    refine tail_any (ops := [.ref a, .ref s4.heap.objs.size]) ht.typeIs (PyProof.Rows.slot_tuple_getitem.lookup) ?_ (by with_unfolding_all rfl)
    refine tuple_back ht (Heap.IsSliceOf.new _ .none .none (.int (-1) t2)) (by rw [List.size_toArray]; omega) ?_
    refine ⟨.ref _, _, I5.laid (t' := s4.toks) (o := .tup xs.reverse) (fun b ob q => Heap.get?_push_of_some _ q) (Nat.le_refl _) ?_, rfl, q _ (I5.hok.fresh (Nat.le_refl _))⟩
    exact ⟨by rw [List.length_reverse]; exact hz, its.reverse, r.reverse, ⟨_, Heap.get?_push_size _ rfl, rfl, _, rfl⟩⟩
end
/-! slices and sums of tuples, whatever object comes out -/
theorem slice_anyT {K : PySem.W.Frag} {H : Hp} {p : Addr} {xs : List V} {lo hi : Option Int} {Q : VK} (h : SqT K H p xs) (q : ∀ p' H', Same H H' → SqT K H' p' (cutV xs lo hi) → Q (.ref p') H') : rSlA K (.ref p) lo hi H Q := by
  refine ⟨p, xs, rfl, h, fun w => q p H (Same.refl _) ?_, fun _ p' n => q p' _ (same_new n) (SqT.of upd_same)⟩
  have e : cutV xs lo hi = xs := by
    unfold cutV
    rw [w.1, w.2, List.drop_zero, Nat.sub_zero, List.take_length]
  rw [e]
  exact h
theorem cat_anyT {K : PySem.W.Frag} {H : Hp} {p1 p2 : Addr} {xs ys : List V} {Q : VK} (h1 : SqT K H p1 xs) (h2 : SqT K H p2 ys) (z : xs.length + ys.length ≤ sizeLine) (q : ∀ p' H', Same H H' → SqT K H' p' (xs ++ ys) → Q (.ref p') H') : rCatA K (.ref p1) (.ref p2) H Q := by
  refine ⟨p1, p2, xs, ys, rfl, rfl, h1, h2, z, fun e => q p2 H (Same.refl _) (by rw [e]; exact h2), fun _ e => q p1 H (Same.refl _) (by rw [e, List.append_nil]; exact h1), fun _ _ p' n => q p' _ (same_new n) (SqT.of upd_same)⟩
theorem cutV_to (xs : List V) (j : Nat) : cutV xs none (some (j : Int)) = xs.take j := by
  unfold cutV
  rw [HT.sIx_none, HT.sIx_nat, List.drop_zero, Nat.sub_zero]
  by_cases h : j ≤ xs.length
  · rw [Nat.min_eq_left h]
  · rw [Nat.min_eq_right (by omega), List.take_length, List.take_of_length_le (by omega)]
theorem cutV_from (xs : List V) (j : Nat) : cutV xs (some (j : Int)) none = xs.drop j := by
  unfold cutV
  rw [HT.sIx_none, HT.sIx_nat]
  by_cases h : j ≤ xs.length
  · rw [Nat.min_eq_left h, List.take_of_length_le (by rw [List.length_drop]; omega)]
  · rw [Nat.min_eq_right (by omega), List.drop_length, List.drop_of_length_le (show xs.length ≤ j by omega)]
    simp
end TcG
/-! The text of the law by its places. -/
namespace Tc
open PySem PySem.Spec PyProof.Rows L2 TcG
def topS (i : Nat) : Stmt := PySem.Challenge.pw_traceclasses_k96_whole_alike_or_parted.main.body.getD i (.Pass ⟨0, 0, 0, 0⟩)
-- topS 0: (PySem.Stmt.Assign
-- class TraceFault: topS 1
-- class ExchangeFault: topS 2
abbrev s_ExchangeFault_init : Stmt := inClass (topS 2) 0
-- ExchangeFault_init: 0 self, 1 number
-- topS 3: (PySem.Stmt.Assign
abbrev s_letter_pairs : Stmt := topS 4
theorem sc_letter_pairs : FnScope ["letters"] ["letters"] (defScope s_letter_pairs) :=
  ⟨rfl, rfl, rfl, by decide +kernel, rfl, by decide +kernel, by decide +kernel⟩
-- letter_pairs: 0 letters [letters is a cell]
abbrev s_independent : Stmt := topS 5
theorem sc_independent : FnScope ["alphabet", "x", "y"] ["alphabet", "x", "y"] (defScope s_independent) :=
  ⟨rfl, rfl, rfl, by decide +kernel, rfl, by decide +kernel, by decide +kernel⟩
-- independent: 0 alphabet, 1 x, 2 y
abbrev s_free : Stmt := topS 6
theorem sc_free : FnScope ["alphabet", "word", "other"] ["alphabet", "word", "other"] (defScope s_free) :=
  ⟨rfl, rfl, rfl, by decide +kernel, rfl, by decide +kernel, by decide +kernel⟩
-- free: 0 alphabet, 1 word, 2 other [alphabet is a cell] [other is a cell]
abbrev s_taken_out : Stmt := topS 7
theorem sc_taken_out : FnScope ["word", "letters"] ["word", "letters"] (defScope s_taken_out) :=
  ⟨rfl, rfl, rfl, by decide +kernel, rfl, by decide +kernel, by decide +kernel⟩
-- taken_out: 0 word, 1 letters [letters is a cell]
-- topS 8: (PySem.Stmt.Assign
abbrev s_parts : Stmt := topS 9
theorem sc_parts : FnScope ["alphabet", "word", "other", "letters", "letter", "pair", "low", "high"] ["alphabet", "word", "other"] (defScope s_parts) :=
  ⟨rfl, rfl, rfl, by decide +kernel, rfl, by decide +kernel, by decide +kernel⟩
-- parts: 0 alphabet, 1 word, 2 other, 3 letters, 4 letter, 5 pair, 6 low, 7 high
abbrev s_exchanges : Stmt := topS 10
theorem sc_exchanges : FnScope ["alphabet", "word", "other", "places", "now", "at", "letter", "found", "place"] ["alphabet", "word", "other"] (defScope s_exchanges) :=
  ⟨rfl, rfl, rfl, by decide +kernel, rfl, by decide +kernel, by decide +kernel⟩
-- exchanges: 0 alphabet, 1 word, 2 other, 3 places, 4 now, 5 at, 6 letter, 7 found, 8 place
abbrev s_swapped : Stmt := topS 11
theorem sc_swapped : FnScope ["word", "place"] ["word", "place"] (defScope s_swapped) :=
  ⟨rfl, rfl, rfl, by decide +kernel, rfl, by decide +kernel, by decide +kernel⟩
-- swapped: 0 word, 1 place
abbrev s_exchanged : Stmt := topS 12
theorem sc_exchanged : FnScope ["alphabet", "word", "places", "now", "number", "place"] ["alphabet", "word", "places"] (defScope s_exchanged) :=
  ⟨rfl, rfl, rfl, by decide +kernel, rfl, by decide +kernel, by decide +kernel⟩
-- exchanged: 0 alphabet, 1 word, 2 places, 3 now, 4 number, 5 place
abbrev s_can_exchange : Stmt := topS 13
theorem sc_can_exchange : FnScope ["alphabet", "word", "place"] ["alphabet", "word", "place"] (defScope s_can_exchange) :=
  ⟨rfl, rfl, rfl, by decide +kernel, rfl, by decide +kernel, by decide +kernel⟩
-- can_exchange: 0 alphabet, 1 word, 2 place
abbrev s_distance : Stmt := topS 14
theorem sc_distance : FnScope ["alphabet", "word", "other", "places"] ["alphabet", "word", "other"] (defScope s_distance) :=
  ⟨rfl, rfl, rfl, by decide +kernel, rfl, by decide +kernel, by decide +kernel⟩
-- distance: 0 alphabet, 1 word, 2 other, 3 places
-- topS 15: (PySem.Stmt.Assign
abbrev s_firsts : Stmt := topS 16
theorem sc_firsts : FnScope ["alphabet", "word", "seen", "found", "letter"] ["alphabet", "word"] (defScope s_firsts) :=
  ⟨rfl, rfl, rfl, by decide +kernel, rfl, by decide +kernel, by decide +kernel⟩
-- firsts: 0 alphabet, 1 word, 2 seen, 3 found, 4 letter
abbrev s_levels : Stmt := topS 17
theorem sc_levels : FnScope ["alphabet", "word", "found", "place", "letter", "below"] ["alphabet", "word"] (defScope s_levels) :=
  ⟨rfl, rfl, rfl, by decide +kernel, rfl, by decide +kernel, by decide +kernel⟩
-- levels: 0 alphabet, 1 word, 2 found, 3 place, 4 letter, 5 below [alphabet is a cell] [word is a cell] [found is a cell] [letter is a cell]
abbrev s_height : Stmt := topS 18
theorem sc_height : FnScope ["alphabet", "word"] ["alphabet", "word"] (defScope s_height) :=
  ⟨rfl, rfl, rfl, by decide +kernel, rfl, by decide +kernel, by decide +kernel⟩
-- height: 0 alphabet, 1 word
abbrev s_ways_off : Stmt := topS 19
theorem sc_ways_off : FnScope ["alphabet", "word", "rows", "_"] ["alphabet", "word"] (defScope s_ways_off) :=
  ⟨rfl, rfl, rfl, by decide +kernel, rfl, by decide +kernel, by decide +kernel⟩
-- ways_off: 0 alphabet, 1 word, 2 rows, 3 _
abbrev s_one_more_off : Stmt := topS 20
theorem sc_one_more_off : FnScope ["alphabet", "row", "found", "left", "ways", "letter", "shorter"] ["alphabet", "row"] (defScope s_one_more_off) :=
  ⟨rfl, rfl, rfl, by decide +kernel, rfl, by decide +kernel, by decide +kernel⟩
-- one_more_off: 0 alphabet, 1 row, 2 found, 3 left, 4 ways, 5 letter, 6 shorter
abbrev s_first_off : Stmt := topS 21
theorem sc_first_off : FnScope ["word", "letter"] ["word", "letter"] (defScope s_first_off) :=
  ⟨rfl, rfl, rfl, by decide +kernel, rfl, by decide +kernel, by decide +kernel⟩
-- first_off: 0 word, 1 letter
-- topS 22: (PySem.Stmt.Assign
abbrev s_least : Stmt := topS 23
theorem sc_least : FnScope ["alphabet", "word"] ["alphabet", "word"] (defScope s_least) :=
  ⟨rfl, rfl, rfl, by decide +kernel, rfl, by decide +kernel, by decide +kernel⟩
-- least: 0 alphabet, 1 word
abbrev s_greatest : Stmt := topS 24
theorem sc_greatest : FnScope ["alphabet", "word"] ["alphabet", "word"] (defScope s_greatest) :=
  ⟨rfl, rfl, rfl, by decide +kernel, rfl, by decide +kernel, by decide +kernel⟩
-- greatest: 0 alphabet, 1 word
abbrev s_taken_in_turn : Stmt := topS 25
theorem sc_taken_in_turn : FnScope ["alphabet", "word", "which", "found", "left", "letter"] ["alphabet", "word", "which"] (defScope s_taken_in_turn) :=
  ⟨rfl, rfl, rfl, by decide +kernel, rfl, by decide +kernel, by decide +kernel⟩
-- taken_in_turn: 0 alphabet, 1 word, 2 which, 3 found, 4 left, 5 letter
abbrev s_steps : Stmt := topS 26
theorem sc_steps : FnScope ["alphabet", "word", "rows", "letter", "level"] ["alphabet", "word"] (defScope s_steps) :=
  ⟨rfl, rfl, rfl, by decide +kernel, rfl, by decide +kernel, by decide +kernel⟩
-- steps: 0 alphabet, 1 word, 2 rows, 3 letter, 4 level
abbrev s_words_of : Stmt := topS 27
theorem sc_words_of : FnScope ["alphabet", "word", "endings", "row", "left"] ["alphabet", "word"] (defScope s_words_of) :=
  ⟨rfl, rfl, rfl, by decide +kernel, rfl, by decide +kernel, by decide +kernel⟩
-- words_of: 0 alphabet, 1 word, 2 endings, 3 row, 4 left
abbrev s_words_from : Stmt := topS 28
theorem sc_words_from : FnScope ["alphabet", "left", "endings", "found", "letter"] ["alphabet", "left", "endings"] (defScope s_words_from) :=
  ⟨rfl, rfl, rfl, by decide +kernel, rfl, by decide +kernel, by decide +kernel⟩
-- words_from: 0 alphabet, 1 left, 2 endings, 3 found, 4 letter [letter is a cell]
-- topS 29: (PySem.Stmt.Assign
abbrev s_law_cell : Stmt := topS 30
theorem sc_law_cell : FnScope ["script", "k"] ["script", "k"] (defScope s_law_cell) :=
  ⟨rfl, rfl, rfl, by decide +kernel, rfl, by decide +kernel, by decide +kernel⟩
-- law_cell: 0 script, 1 k
abbrev s_law_digits : Stmt := topS 31
theorem sc_law_digits : FnScope ["script", "first", "last", "digits", "k", "cell", "turn", "seed"] ["script", "first", "last"] (defScope s_law_digits) :=
  ⟨rfl, rfl, rfl, by decide +kernel, rfl, by decide +kernel, by decide +kernel⟩
-- law_digits: 0 script, 1 first, 2 last, 3 digits, 4 k, 5 cell, 6 turn, 7 seed
abbrev s_law_draw : Stmt := topS 32
theorem sc_law_draw : FnScope ["box", "many", "at"] ["box", "many"] (defScope s_law_draw) :=
  ⟨rfl, rfl, rfl, by decide +kernel, rfl, by decide +kernel, by decide +kernel⟩
-- law_draw: 0 box, 1 many, 2 at
abbrev s_law_same : Stmt := topS 33
theorem sc_law_same : FnScope ["actual", "expected", "k"] ["actual", "expected"] (defScope s_law_same) :=
  ⟨rfl, rfl, rfl, by decide +kernel, rfl, by decide +kernel, by decide +kernel⟩
-- law_same: 0 actual, 1 expected, 2 k
abbrev s_law_box : Stmt := topS 34
theorem sc_law_box : FnScope ["script", "first", "last"] ["script", "first", "last"] (defScope s_law_box) :=
  ⟨rfl, rfl, rfl, by decide +kernel, rfl, by decide +kernel, by decide +kernel⟩
-- law_box: 0 script, 1 first, 2 last
abbrev s_law_alphabet : Stmt := topS 35
theorem sc_law_alphabet : FnScope ["box", "most", "letters", "pairs", "j", "k"] ["box", "most"] (defScope s_law_alphabet) :=
  ⟨rfl, rfl, rfl, by decide +kernel, rfl, by decide +kernel, by decide +kernel⟩
-- law_alphabet: 0 box, 1 most, 2 letters, 3 pairs, 4 j, 5 k
abbrev s_law_word : Stmt := topS 36
theorem sc_law_word : FnScope ["box", "alphabet", "most", "word", "k"] ["box", "alphabet", "most"] (defScope s_law_word) :=
  ⟨rfl, rfl, rfl, by decide +kernel, rfl, by decide +kernel, by decide +kernel⟩
-- law_word: 0 box, 1 alphabet, 2 most, 3 word, 4 k
abbrev s_law_free : Stmt := topS 37
theorem sc_law_free : FnScope ["alphabet", "x", "y"] ["alphabet", "x", "y"] (defScope s_law_free) :=
  ⟨rfl, rfl, rfl, by decide +kernel, rfl, by decide +kernel, by decide +kernel⟩
-- law_free: 0 alphabet, 1 x, 2 y
abbrev s_law_mixed : Stmt := topS 38
theorem sc_law_mixed : FnScope ["box", "alphabet", "word", "turn", "k"] ["box", "alphabet", "word"] (defScope s_law_mixed) :=
  ⟨rfl, rfl, rfl, by decide +kernel, rfl, by decide +kernel, by decide +kernel⟩
-- law_mixed: 0 box, 1 alphabet, 2 word, 3 turn, 4 k
abbrev s_law_only : Stmt := topS 39
theorem sc_law_only : FnScope ["word", "letters", "kept", "x"] ["word", "letters"] (defScope s_law_only) :=
  ⟨rfl, rfl, rfl, by decide +kernel, rfl, by decide +kernel, by decide +kernel⟩
-- law_only: 0 word, 1 letters, 2 kept, 3 x
abbrev s_law_really : Stmt := topS 40
theorem sc_law_really : FnScope ["word", "other", "paper"] ["word", "other", "paper"] (defScope s_law_really) :=
  ⟨rfl, rfl, rfl, by decide +kernel, rfl, by decide +kernel, by decide +kernel⟩
-- law_really: 0 word, 1 other, 2 paper [paper is a cell]
abbrev s_law_exchange_far : Stmt := topS 41
theorem sc_law_exchange_far : FnScope ["alphabet", "word", "far", "found", "at", "here", "k", "there"] ["alphabet", "word"] (defScope s_law_exchange_far) :=
  ⟨rfl, rfl, rfl, by decide +kernel, rfl, by decide +kernel, by decide +kernel⟩
-- law_exchange_far: 0 alphabet, 1 word, 2 far, 3 found, 4 at, 5 here, 6 k, 7 there
abbrev s_law : Stmt := topS 42
theorem sc_law : FnScope ["script", "box", "alphabet", "word", "far", "rows", "tried", "other", "told", "paper"] ["script"] (defScope s_law) :=
  ⟨rfl, rfl, rfl, by decide +kernel, rfl, by decide +kernel, by decide +kernel⟩
-- law: 0 script, 1 box, 2 alphabet, 3 word, 4 far, 5 rows, 6 tried, 7 other, 8 told, 9 paper
end Tc
namespace Tc
open PySem PySem.Spec PyProof.Rows L2 TcG
section
variable {P : Program} {w : World} {K : PySem.W.Frag} {mg : Str → Option Value} {base : Heap}
/-! _law_cell -/
def sp_cell (K : PySem.W.Frag) : Sp := fun vs H Q _ => ∃ (a : Addr) (ns : List Int) (k : Int), vs = [.ref a, .int k] ∧ SqL K H a (ns.map V.int) ∧ 0 ≤ k ∧ ∀ z : Int, Q (.int z) H
theorem ok_cell {f : Addr} {fd : FuncData} {k : Nat} (F : Fun K "_law_cell" "_law_cell" s_law_cell f fd) (ml : mg "len" = none) : FnOk P w K mg base CX0 (k + 1) f fd ["script", "k"] (sp_cell K) := by
  refine F.ok sc_law_cell (fun vs H Q E h => ?_) (fun cdv A outer s H vs Q E hr h => ?_)
  · obtain ⟨a, ns, k, rfl, _⟩ := h
    rfl
  · obtain ⟨a, ns, k, rfl, hS, hk, q⟩ := h
    refine ⟨_, pss_cons (ps_if (pt_cmpR op_lt (pv 1) (pe_callB call_len_seq (by rfl) ml PySem.boot_len (pa_cons (pv 0) pa_nil)) (nomark _))
        (pss_one (ps_ret (pe_ix ix_list (pv 0) (pv 1) (fun _ _ => rfl)))) pss_nil)
      (pss_one (ps_ret pe_int)), ?_⟩
    refine ⟨.int k, rfl, .ref a, rfl, a, _, rfl, .inl hS, _, _, rfl, rfl, _, rfl, ite2 (fun e => ?_) (fun e => ?_)⟩
    · have e0 : k < ((ns.map V.int).length : Int) := of_decide_eq_true e
      rw [List.length_map] at e0
      obtain ⟨j, rfl⟩ : ∃ j : Nat, k = (j : Int) := ⟨k.toNat, by omega⟩
      have hj : j < ns.length := by omega
      refine ⟨.ref a, rfl, .int j, rfl, a, _, _, .int ns[j], rfl, rfl, hS, atI_nat ?_, q _⟩
      rw [List.getElem?_map, List.getElem?_eq_getElem hj]
      rfl
    · exact q _

/-! _law_digits -/
def sp_digits (K : PySem.W.Frag) : Sp := fun vs H Q _ => ∃ (a : Addr) (ns : List Int), vs = [.ref a, .int 0, .int 62] ∧ SqL K H a (ns.map V.int) ∧
  ∀ (p : Addr) (ds : List Int) (H' : Hp), Same H H' → H p = none → H' p = some (.lst (ds.map V.int)) → Q (.ref p) H'
theorem ok_digits {f fC : Addr} {fd fdC : FuncData} (F : Fun K "_law_digits" "_law_digits" s_law_digits f fd) (FC : Fun K "_law_cell" "_law_cell" s_law_cell fC fdC) (gC : mg "_law_cell" = some (.ref fC))
    (ml : mg "len" = none) (mr : mg "range" = none) (mi : mg "int" = none) : FnOk P w K mg base CX0 2 f fd ["script", "first", "last"] (sp_digits K) := by
  have GC : FnOk P w K mg base CX0 1 fC fdC ["script", "k"] (sp_cell K) := ok_cell FC ml
  have bC : Binds K fdC ["script", "k"] [] := FC.binds fun _ _ _ _ _ _ us hl => match us, hl with | [_, _], _ => rfl
  refine F.ok sc_law_digits (fun vs H Q E h => ?_) (fun cdv A outer s H vs Q E hr h => ?_)
  · obtain ⟨a, ns, rfl, _⟩ := h
    rfl
  · obtain ⟨a, ns, rfl, hS, q⟩ := h
    have nd := sc_law_digits.nd
    refine ⟨_, pss_cons (ps_set (i := 3) nd rfl (.inl rfl) (pe_lst pa_nil))
      (pss_cons (ps_for PassesOwn.never rfl (pi_range2 (by rfl) mr (pa_cons (pv 1) (pa_cons (pv 2) pa_nil))) (pg_name (i := 4) nd rfl (.inl rfl))
        (pss_cons (ps_set (i := 5) nd rfl (.inl rfl) (pe_call GC hr (by rfl) gC FC.kp bC .nil pass0 (pa_cons (pv 0) (pa_cons (pv 4) pa_nil))))
        (C8.pss_cut (ps_if (pt_cmpR op_lt (pv 5) pe_int (nomark _))
            (pss_one (ps_set (i := 5) nd rfl (.inl rfl) (pe_op op_sub pe_int (pe_op op_mul pe_int (pv 5))))) pss_nil)
        (pss_one (ps_if (pt_cmpR op_ge (pv 5) (pe_op op_pow pe_int pe_int) (nomark _))
            (pss_one (ps_for PassesOwn.never rfl (pi_range1 (by rfl) mr (pa_cons pe_int pa_nil)) (pg_name (i := 6) nd rfl (.inl rfl))
              (pss_one (ps_if (pt_cmpR op_gt (pv 5) pe_int (nomark _))
                (pss_cons (ps_expr (pe_bm PySem.F.plainAttrs_list PySem.F.slot_list_append PySem.F.type_list_append mt_append (pv 3)
                    (pa_cons (pe_op op_modN (pe_callTy call_int1 (by rfl) mi (by decide +kernel) (pa_cons (pv 5) pa_nil)) pe_int) pa_nil)))
                  (pss_one (ps_set (i := 5) nd rfl (.inl rfl) (pe_op op_fdiv (pv 5) pe_int)))) pss_nil))))
            (pss_cons (ps_set (i := 7) nd rfl (.inl rfl) (pe_op op_modN (pe_callTy call_int1 (by rfl) mi (by decide +kernel)
                (pa_cons (pe_op op_add (pe_op op_add (pe_op op_mul (pv 5) pe_int) (pe_op op_mul (pv 4) pe_int)) pe_int) pa_nil)) pe_int))
              (pss_one (ps_for PassesOwn.never rfl (pi_range1 (by rfl) mr (pa_cons pe_int pa_nil)) (pg_name (i := 6) nd rfl (.inl rfl))
                (pss_cons (ps_set (i := 7) nd rfl (.inl rfl) (pe_op op_modN (pe_callTy call_int1 (by rfl) mi (by decide +kernel)
                    (pa_cons (pe_op op_add (pe_op op_add (pe_op op_mul (pv 7) pe_int) (pe_op op_mul pe_int (pv 6))) pe_int) pa_nil)) pe_int))
                  (pss_one (ps_expr (pe_bm PySem.F.plainAttrs_list PySem.F.slot_list_append PySem.F.type_list_append mt_append (pv 3)
                    (pa_cons (pe_op op_modN (pe_callTy call_int1 (by rfl) mi (by decide +kernel) (pa_cons (pe_op op_fdiv (pv 7) pe_int) pa_nil)) pe_int) pa_nil)))))))))))))
      (pss_one (ps_ret (pv 3)))), ?_⟩
    refine ⟨Nat.zero_le _, fun p np => ?_⟩
    -- the turns: at most 60 digits each
    refine ⟨.int 0, rfl, .int 62, rfl, 0, 62, rfl, ⟨by decide, by decide, by decide, by decide⟩, for_range (lo := 0) (n := 62)
      (fun i σ H' => ∃ ds y4 y5 y6 y7, σ = [some (.ref a), some (.int 0), some (.int 62), some (.ref p), y4, y5, y6, y7] ∧ Same H H' ∧ H' p = some (.lst (List.map V.int ds)) ∧ ds.length ≤ 60 * i)
      ⟨[], none, none, none, none, rfl, same_new np, upd_same, Nat.le_refl _⟩ (fun i σ H1 hi hW => ?_) (fun σ H1 hW => ?_)⟩
    · obtain ⟨ds, y4, y5, y6, y7, rfl, sm, hp, hl⟩ := hW
      refine ⟨.ref a, rfl, .int (0 + (i : Int)), rfl, a, ns, 0 + (i : Int), rfl, sm.seq hS, by omega, fun z => ?_⟩
      -- the number, no more below 0
      refine ⟨fun σ' H' => ∃ z' : Int, σ' = [some (.ref a), some (.int 0), some (.int 62), some (.ref p), some (.int (0 + (i : Int))), some (.int z'), y6, y7] ∧ H' = H1,
        ⟨.int z, rfl, z, 0, rfl, rfl, _, rfl, ite2 (fun _ => ⟨.int z, rfl, 2, z, rfl, rfl, .inl ⟨by decide, by decide⟩, 1, _, rfl, rfl, _, rfl, rfl⟩) (fun _ => ⟨z, rfl, rfl⟩)⟩, ?_⟩
      rintro σ' H' ⟨z, rfl, rfl⟩
      refine ⟨.int z, rfl, 10, 18, rfl, rfl, ⟨by decide, by decide, by decide⟩, z, _, rfl, rfl, _, rfl, ite2 (fun _ => ?_) (fun _ => ?_)⟩
      · -- a great number: its digits
        refine ⟨60, rfl, by decide, by decide, for_range (lo := 0) (n := 60)
          (fun j σ H2 => ∃ ds z y6, σ = [some (.ref a), some (.int 0), some (.int 62), some (.ref p), some (.int (0 + (i : Int))), some (.int z), y6, y7] ∧ Same H H2 ∧ H2 p = some (.lst (List.map V.int ds)) ∧ ds.length ≤ 60 * i + j)
          ⟨ds, z, y6, rfl, sm, hp, hl⟩ (fun j σ H2 hj hV => ?_) (fun σ H2 hV => ?_)⟩
        · obtain ⟨ds, z, y6, rfl, sm, hp, hl⟩ := hV
          refine ⟨.int z, rfl, z, 0, rfl, rfl, _, rfl, ite2 (fun _ => ?_) (fun _ => ?_)⟩
          · refine ⟨.ref p, rfl, .inl ⟨rfl, _, SqL.of hp⟩, .int z, rfl, .inl ⟨z, rfl, z, 1000, rfl, rfl, (by decide : (1000 : Int) ≠ 0), p, _, _, rfl, rfl, hp, ?_, ?_⟩⟩
            · rw [List.length_map]
              exact Nat.lt_of_le_of_lt (show ds.length ≤ 10000 by omega) (by decide)
            · refine ⟨.int z, rfl, z, 1000, rfl, rfl, ⟨by decide, by decide⟩, ds ++ [z.fmod 1000], z / 1000, some (.int (0 + (j : Int))), rfl, fun b o e => ?_, ?_, ?_⟩
              · rw [upd_ne (ne_of_none e np)]
                exact sm b o e
              · rw [upd_same, List.map_append]
                rfl
              · rw [List.length_append, List.length_singleton]
                omega
          · exact ⟨ds, z, some (.int (0 + (j : Int))), rfl, sm, hp, by omega⟩
        · obtain ⟨ds, z, y6, rfl, sm, hp, hl⟩ := hV
          exact ⟨ds, _, _, _, _, rfl, sm, hp, by omega⟩
      · -- another one: drawn on from it
        refine ⟨.int z, rfl, z, 48271, rfl, rfl, .inr ⟨by decide, by decide⟩, .int (0 + (i : Int)), rfl, 0 + (i : Int), 69621, rfl, rfl, .inr ⟨by decide, by decide⟩, _, _, rfl, rfl, _, 11, rfl, rfl, .inl ⟨_, rfl, ?_⟩⟩
        refine ⟨_, 2147483647, rfl, rfl, (by decide : (2147483647 : Int) ≠ 0), 12, rfl, by decide, by decide, for_range (lo := 0) (n := 12)
          (fun j σ H2 => ∃ (ds : List Int) (z x : Int) (y6 : Option V), σ = [some (.ref a), some (.int 0), some (.int 62), some (.ref p), some (.int (0 + (i : Int))), some (.int z), y6, some (.int x)] ∧ Same H H2 ∧ H2 p = some (.lst (List.map V.int ds)) ∧ ds.length ≤ 60 * i + j)
          ⟨ds, z, _, y6, rfl, sm, hp, hl⟩ (fun j σ H2 hj hV => ?_) (fun σ H2 hV => ?_)⟩
        · obtain ⟨ds, z, x, y6, rfl, sm, hp, hl⟩ := hV
          refine ⟨.int x, rfl, x, 16807, rfl, rfl, .inr ⟨by decide, by decide⟩, .int (0 + (j : Int)), rfl, 7, _, rfl, rfl, .inl ⟨by decide, by decide⟩, _, _, rfl, rfl, _, 1, rfl, rfl, .inl ⟨_, rfl, _, 2147483647, rfl, rfl, (by decide : (2147483647 : Int) ≠ 0), ?_⟩⟩
          refine ⟨.ref p, rfl, .inl ⟨rfl, _, SqL.of hp⟩, .int _, rfl, _, 997, rfl, rfl, ⟨by decide, by decide⟩, .inl ⟨_, rfl, _, 1000, rfl, rfl, (by decide : (1000 : Int) ≠ 0), p, _, _, rfl, rfl, hp, ?_, ?_⟩⟩
          · rw [List.length_map]
            exact Nat.lt_of_le_of_lt (show ds.length ≤ 10000 by omega) (by decide)
          · refine ⟨ds ++ [((x * 16807 + 7 * (0 + (j : Int)) + 1).fmod 2147483647 / 997).fmod 1000], z, _, some (.int (0 + (j : Int))), rfl, fun b o e => ?_, ?_, ?_⟩
            · rw [upd_ne (ne_of_none e np)]
              exact sm b o e
            · rw [upd_same, List.map_append]
              rfl
            · rw [List.length_append, List.length_singleton]
              omega
        · obtain ⟨ds, z, x, y6, rfl, sm, hp, hl⟩ := hV
          exact ⟨ds, _, _, _, _, rfl, sm, hp, by omega⟩
    · obtain ⟨ds, y4, y5, y6, y7, rfl, sm, hp, hl⟩ := hW
      exact ⟨.ref p, rfl, q p ds H1 sm np hp⟩

/-! _law_box -/
def sp_box (K : PySem.W.Frag) : Sp := fun vs H Q _ => ∃ (a : Addr) (ns : List Int), vs = [.ref a, .int 0, .int 62] ∧ SqL K H a (ns.map V.int) ∧
  ∀ (b dl : Addr) (H' : Hp), Same H H' → H b = none → Box K b dl H' → Q (.ref b) H'
theorem ok_box {f fC fD : Addr} {fd fdC fdD : FuncData} (F : Fun K "_law_box" "_law_box" s_law_box f fd) (FC : Fun K "_law_cell" "_law_cell" s_law_cell fC fdC) (gC : mg "_law_cell" = some (.ref fC))
    (FD : Fun K "_law_digits" "_law_digits" s_law_digits fD fdD) (gD : mg "_law_digits" = some (.ref fD))
    (ml : mg "len" = none) (mr : mg "range" = none) (mi : mg "int" = none) : FnOk P w K mg base CX0 3 f fd ["script", "first", "last"] (sp_box K) := by
  have GD : FnOk P w K mg base CX0 2 fD fdD ["script", "first", "last"] (sp_digits K) := ok_digits FD FC gC ml mr mi
  have bD : Binds K fdD ["script", "first", "last"] [] := FD.binds fun _ _ _ _ _ _ us hl => match us, hl with | [_, _, _], _ => rfl
  refine F.ok sc_law_box (fun vs H Q E h => ?_) (fun cdv A outer s H vs Q E hr h => ?_)
  · obtain ⟨a, ns, rfl, _⟩ := h
    rfl
  · obtain ⟨a, ns, rfl, hS, q⟩ := h
    refine ⟨_, pss_one (ps_ret (pe_lst (pa_cons (pe_call GD hr (by rfl) gD FD.kp bD .nil pass0 (pa_cons (pv 0) (pa_cons (pv 1) (pa_cons (pv 2) pa_nil)))) (pa_cons pe_int pa_nil)))), ?_⟩
    refine ⟨.ref a, rfl, .int 0, rfl, .int 62, rfl, a, ns, rfl, hS, fun p ds H1 sm np hp => ⟨by show 2 ≤ sizeLine; decide, fun b nb => ?_⟩⟩
    exact q b p _ (sm.trans (same_new nb)) (sm.free nb) ⟨ds, 0, upd_same, Int.le_refl _, (same_new nb).seq (SqL.of hp)⟩

/-! _law_draw -/
def sp_draw (K : PySem.W.Frag) : Sp := fun vs H Q _ => ∃ (b dl : Addr) (m : Int), vs = [.ref b, .int m] ∧ Box K b dl H ∧ 0 < m ∧
  ∀ (r : Int) (H' : Hp), 0 ≤ r → r < m → Mv [b] H H' → Box K b dl H' → Q (.int r) H'
theorem ok_draw {f : Addr} {fd : FuncData} {k : Nat} (F : Fun K "_law_draw" "_law_draw" s_law_draw f fd) (ml : mg "len" = none) (mi : mg "int" = none) : FnOk P w K mg base CX0 (k + 1) f fd ["box", "many"] (sp_draw K) := by
  refine F.ok sc_law_draw (fun vs H Q E h => ?_) (fun cdv A outer s H vs Q E hr h => ?_)
  · obtain ⟨b, dl, m, rfl, _⟩ := h
    rfl
  · obtain ⟨b, dl, m, rfl, ⟨ds, n, hb, hn, hd⟩, hm, q⟩ := h
    have nd := sc_law_draw.nd
    refine ⟨_, pss_cons (ps_set (i := 2) nd rfl (.inl rfl) (pe_ix ix_list (pv 0) pe_int (fun _ _ => rfl)))
      (pss_cons (ps_asg (pe_op op_add (pv 2) pe_int) (pg_sub (pv 0) pe_int set_list))
      (pss_cons (ps_if (pt_cmpR op_lt (pv 2) (pe_callB call_len_seq (by rfl) ml PySem.boot_len (pa_cons (pe_ix ix_list (pv 0) pe_int (fun _ _ => rfl)) pa_nil)) (nomark _))
        (pss_one (ps_ret (pe_op op_modN (pe_callTy call_int1 (by rfl) mi (by decide +kernel) (pa_cons (pe_ix ix_list (pe_ix ix_list (pv 0) pe_int (fun _ _ => rfl)) (pv 2) (fun _ _ => rfl)) pa_nil)) (pv 1)))) pss_nil)
      (pss_one (ps_ret pe_int)))), ?_⟩
    -- at = box[1]; box[1] = at + 1
    refine ⟨.ref b, rfl, b, _, 1, .int n, rfl, rfl, SqL.of hb, atI_nat (j := 1) rfl, ?_⟩
    refine ⟨.int n, rfl, n, 1, rfl, rfl, .ref b, rfl, b, _, 1, 1, rfl, rfl, hb, rfl, ?_⟩
    have h1 : (upd H b (.lst [.ref dl, .int (n + 1)])) b = some (.lst [.ref dl, .int (n + 1)]) := upd_same
    have m1 : Mv [b] H (upd H b (.lst [.ref dl, .int (n + 1)])) := Mv.put
    have hd1 : SqL K (upd H b (.lst [.ref dl, .int (n + 1)])) dl (ds.map V.int) := m1.seqL hd fun p hp u r => by
      rw [List.mem_singleton.mp hp] at r
      rw [rd_of hb (fun _ _ z => by cases z) r]
      exact box_list_ne ds
    have box1 : Box K b dl (upd H b (.lst [.ref dl, .int (n + 1)])) := ⟨ds, n + 1, h1, by omega, hd1⟩
    -- if at < len(box[0])
    refine ⟨.int n, rfl, .ref b, rfl, b, _, 0, .ref dl, rfl, rfl, SqL.of h1, atI_nat (j := 0) rfl, dl, _, rfl, .inl hd1, n, _, rfl, rfl, _, rfl, ite2 (fun e => ?_) (fun e => ?_)⟩
    · have e0 : n < ((ds.map V.int).length : Int) := of_decide_eq_true e
      rw [List.length_map] at e0
      obtain ⟨j, rfl⟩ : ∃ j : Nat, n = (j : Int) := ⟨n.toNat, by omega⟩
      have hj : j < ds.length := by omega
      have g : (ds.map V.int)[j]? = some (.int ds[j]) := by
        rw [List.getElem?_map, List.getElem?_eq_getElem hj]
        rfl
      have rg := fmod_range (x := ds[j]) hm
      exact ⟨.ref b, rfl, b, _, 0, .ref dl, rfl, rfl, SqL.of h1, atI_nat (j := 0) rfl, .int j, rfl, dl, _, j, .int ds[j], rfl, rfl, hd1, atI_nat g, .inl ⟨_, rfl, .int m, rfl, _, m, rfl, rfl, by omega, q _ _ rg.1 rg.2 m1 box1⟩⟩
    · exact q 0 _ (Int.le_refl _) hm m1 box1
end
end Tc
namespace Tc
open PySem PySem.Spec PyProof.Rows L2 TcG
section
variable {P : Program} {w : World} {K : PySem.W.Frag} {mg : Str → Option Value} {base : Heap}
theorem ok_off {f : Addr} {fd : FuncData} {k : Nat} (F : Fun K "first_off" "first_off" s_first_off f fd) : OffRun P w K mg base (k + 1) f :=
  off_run (x0 := "word") (x1 := "letter") F sc_first_off (by rfl) (fun _ _ _ _ _ _ us hl => match us, hl with | [_, _], _ => rfl) (by decide +kernel) (by decide +kernel) (by decide) (by decide) (by decide) (by decide) (by rfl)
end
end Tc
namespace TcG
open PySem PySem.Spec PyProof.Rows L2
theorem glued_fold : ∀ (ys : List (List Nat)) (acc : Array Nat), (ys.map tx).foldl (fun acc p => acc ++ (tx []).cps ++ p.cps) acc = acc ++ ys.flatten.toArray
  | [], acc => by simp
  | y :: r, acc => by
    rw [List.map_cons, List.foldl_cons, glued_fold r]
    show acc ++ (#[] : Array Nat) ++ y.toArray ++ r.flatten.toArray = _
    simp
theorem join_flat (ys : List (List Nat)) : Txt.join (tx []) (ys.map tx) = tx ys.flatten := by
  cases ys with
  | nil => rfl
  | cons y r =>
    show (⟨((r.map tx)).foldl (fun acc p => acc ++ (tx []).cps ++ p.cps) (tx y).cps⟩ : Str) = _
    rw [glued_fold]
    show (⟨y.toArray ++ r.flatten.toArray⟩ : Str) = ⟨(y ++ r.flatten).toArray⟩
    simp
theorem ones_map (l : List Nat) : ones l = (l.map fun c => [c]).map tx := by
  unfold ones
  rw [List.map_map]
  rfl
theorem join_ones (l : List Nat) : Txt.join (tx []) (ones l) = tx l := by
  rw [ones_map, join_flat]
  congr 1
  induction l with
  | nil => rfl
  | cons c r ih =>
    rw [List.map_cons, List.flatten_cons, ih]
    rfl
theorem ones_len (l : List Nat) : (ones l).length = l.length := by unfold ones; rw [List.length_map]
theorem ones_sum (l : List Nat) : ((ones l).map (·.length)).sum = l.length := by
  induction l with
  | nil => rfl
  | cons c r ih =>
    show ((tx [c]).length :: (ones r).map (·.length)).sum = _
    rw [List.sum_cons, ih, List.length_cons, show (tx [c]).length = 1 from rfl, Nat.add_comm]
theorem ones_V (l : List Nat) : (l.map fun c => V.str (tx [c])) = (ones l).map V.str := by
  unfold ones
  rw [List.map_map]
  rfl
theorem ones_append (a b : List Nat) : ones (a ++ b) = ones a ++ ones b := by
  unfold ones
  rw [List.map_append]
/-- sorted letters are the sorted letters -/
theorem ones_sorted {l : List Nat} {ys : List Str} (p : ys.Perm (ones l)) (h : sortedS ys = true) : ∃ m, ys = ones m ∧ m.Perm l ∧ m.Pairwise (· ≤ ·) := by
  obtain ⟨m, rfl, pm⟩ := ones_of p
  exact ⟨m, rfl, pm, ones_rising m h⟩
end TcG
/-! What a def that only reads leaves: all that stood, but that tables have grown. -/
namespace TcG
open PySem PySem.Spec PyProof.Rows L2
def Tabs (S : List Addr) (H : Hp) : Prop := ∀ P ∈ S, GxR.TabG H P
/-- all that stood stands, tables and what stands at W aside -/
def Kp (W : List Addr) (H H' : Hp) : Prop := ∀ a o, a ∉ W → (∀ ps, o ≠ .tbl ps) → H a = some o → H' a = some o
structure Gr (S : List Addr) (H H' : Hp) : Prop where
  tab : Tabs S H'
  keep : Kp [] H H'
  there : ∀ a, H' a = none → H a = none
theorem there_same {H H' : Hp} (s : Same H H') : ∀ a, H' a = none → H a = none := fun a h => by
  cases e : H a with
  | none => rfl
  | some o =>
    rw [s a o e] at h
    cases h
theorem there_put {H H' : Hp} {p : Addr} {o : HO} (t : ∀ a, H' a = none → H a = none) : ∀ a, upd H' p o a = none → H a = none := fun a h => by
  by_cases e : a = p
  · rw [e, upd_same] at h
    cases h
  · rw [upd_ne e] at h
    exact t a h
theorem Kp.refl (W : List Addr) (H : Hp) : Kp W H H := fun _ _ _ _ e => e
theorem Kp.trans {W : List Addr} {H H1 H2 : Hp} (a : Kp W H H1) (b : Kp W H1 H2) : Kp W H H2 := fun c o n t e => b c o n t (a c o n t e)
theorem Kp.wide {W V : List Addr} {H H1 : Hp} (a : Kp W H H1) (h : ∀ x ∈ W, x ∈ V) : Kp V H H1 := fun c o n t e => a c o (fun z => n (h c z)) t e
theorem Kp.same {W : List Addr} {H H1 : Hp} (a : Same H H1) : Kp W H H1 := fun c o _ _ e => a c o e
theorem Kp.mv {W : List Addr} {H H1 : Hp} (a : Mv W H H1) : Kp W H H1 := fun c o n _ e => a c o n e
theorem Kp.new {W : List Addr} {H : Hp} {p : Addr} {o : HO} (n : H p = none) : Kp W H (upd H p o) := .same (same_new n)
/-- what was new is written -/
theorem Kp.put {W : List Addr} {H H1 : Hp} {p : Addr} {o : HO} (k : Kp W H H1) (n : H p = none) : Kp W H (upd H1 p o) := fun a u h t e => by
  rw [upd_ne (ne_of_none e n)]
  exact k a u h t e
theorem Tabs.same {S : List Addr} {H H1 : Hp} (t : Tabs S H) (s : Same H H1) : Tabs S H1 := fun P hP => let ⟨ps, e, r⟩ := t P hP; ⟨ps, s _ _ e, r⟩
theorem Tabs.put {S : List Addr} {H : Hp} {p : Addr} {o : HO} (t : Tabs S H) (n : ∀ ps, H p ≠ some (.tbl ps)) : Tabs S (upd H p o) := fun P hP => by
  obtain ⟨ps, e, r⟩ := t P hP
  refine ⟨ps, ?_, r⟩
  rw [upd_ne fun z => n ps (by rw [← z]; exact e)]
  exact e
theorem Tabs.new {S : List Addr} {H : Hp} {p : Addr} {o : HO} (t : Tabs S H) (n : H p = none) : Tabs S (upd H p o) := t.put fun ps z => by rw [n] at z; cases z
theorem Tabs.tabbed {S : List Addr} {P : Addr} {H H1 : Hp} (t : Tabs S H) (h : GxR.Tabbed P H H1) : Tabs S H1 := fun Q hQ => by
  by_cases e : Q = P
  · rw [e]
    exact h.1
  · obtain ⟨ps, e1, r⟩ := t Q hQ
    exact ⟨ps, by rw [h.2 Q e]; exact e1, r⟩
theorem Gr.refl {S : List Addr} {H : Hp} (t : Tabs S H) : Gr S H H := ⟨t, .refl _ _, fun _ h => h⟩
theorem Gr.trans {S : List Addr} {H H1 H2 : Hp} (a : Gr S H H1) (b : Gr S H1 H2) : Gr S H H2 := ⟨b.tab, a.keep.trans b.keep, fun x h => a.there x (b.there x h)⟩
theorem Gr.same {S : List Addr} {H H1 : Hp} (t : Tabs S H) (s : Same H H1) : Gr S H H1 := ⟨t.same s, .same s, there_same s⟩
theorem Gr.new {S : List Addr} {H : Hp} {p : Addr} {o : HO} (t : Tabs S H) (n : H p = none) : Gr S H (upd H p o) := .same t (same_new n)
theorem Gr.tabbed {S : List Addr} {P : Addr} {H H1 : Hp} (t : Tabs S H) (hP : P ∈ S) (h : GxR.Tabbed P H H1) : Gr S H H1 := ⟨t.tabbed h, fun a o _ n e => by
  obtain ⟨ps, e1, _⟩ := t P hP
  rw [h.2 a fun z => by rw [z, e1] at e; cases e; exact n ps rfl]
  exact e, fun a n => by
  by_cases e : a = P
  · obtain ⟨ps, e1, _⟩ := h.1
    rw [e, e1] at n
    cases n
  · rw [← h.2 a e]
    exact n⟩
/-- what was new is written -/
theorem Gr.put {S : List Addr} {H H1 : Hp} {p : Addr} {o u : HO} (g : Gr S H H1) (n : H p = none) (hp : H1 p = some u) (nt : ∀ ps, u ≠ .tbl ps) : Gr S H (upd H1 p o) :=
  ⟨g.tab.put fun ps z => by rw [hp] at z; exact nt ps (Option.some.inj z), g.keep.put n, there_put g.there⟩
theorem Kp.seqL {K : PySem.W.Frag} {W : List Addr} {H H' : Hp} {a : Addr} {xs : List V} (m : Kp W H H') (h : SqL K H a xs) (n : ∀ p ∈ W, ∀ u, Rd H p u → u ≠ .lst xs) : SqL K H' a xs := by
  rcases h with h | h
  · have nW : a ∉ W := fun z => n a z _ h rfl
    rcases h with h | ⟨o, h⟩
    · exact .inl (.inl (m a _ nW (fun _ z => by cases z) h))
    · exact .inl (.inr ⟨o, m a _ nW (fun _ z => by cases z) h⟩)
  · exact .inr h
theorem Kp.seqT {K : PySem.W.Frag} {W : List Addr} {H H' : Hp} {a : Addr} {xs : List V} (m : Kp W H H') (h : SqT K H a xs) (n : ∀ p ∈ W, ∀ u, Rd H p u → ∀ ys, u ≠ .tup ys) : SqT K H' a xs := by
  rcases h with h | h
  · have nW : a ∉ W := fun z => n a z _ h _ rfl
    rcases h with h | ⟨o, h⟩
    · exact .inl (.inl (m a _ nW (fun _ z => by cases z) h))
    · exact .inl (.inr ⟨o, m a _ nW (fun _ z => by cases z) h⟩)
  · exact .inr h
theorem Gr.seqL {K : PySem.W.Frag} {S : List Addr} {H H' : Hp} {a : Addr} {xs : List V} (g : Gr S H H') (h : SqL K H a xs) : SqL K H' a xs := g.keep.seqL h fun _ hp => nomatch hp
theorem Gr.seqT {K : PySem.W.Frag} {S : List Addr} {H H' : Hp} {a : Addr} {xs : List V} (g : Gr S H H') (h : SqT K H a xs) : SqT K H' a xs := g.keep.seqT h fun _ hp => nomatch hp
theorem Gr.lst {S : List Addr} {H H' : Hp} {a : Addr} {xs : List V} (g : Gr S H H') (h : H a = some (.lst xs)) : H' a = some (.lst xs) := g.keep a _ (by simp) (fun _ z => by cases z) h
theorem Gr.tup {S : List Addr} {H H' : Hp} {a : Addr} {xs : List V} (g : Gr S H H') (h : H a = some (.tup xs)) : H' a = some (.tup xs) := g.keep a _ (by simp) (fun _ z => by cases z) h
theorem Gr.dK {S : List Addr} {H H' : Hp} {a : Addr} {xs : List (Key × V)} (g : Gr S H H') (h : H a = some (.dK xs)) : H' a = some (.dK xs) := g.keep a _ (by simp) (fun _ z => by cases z) h
theorem Gr.frz {S : List Addr} {H H' : Hp} {a : Addr} {o : Obj} {u : HO} (g : Gr S H H') (h : H a = some (.frz o u)) : H' a = some (.frz o u) := g.keep a _ (by simp) (fun _ z => by cases z) h
theorem Alpha.gr {K : PySem.W.Frag} {S : List Addr} {H H' : Hp} {a : Addr} {ls : List Nat} {ps : List (List Nat)} (h : Alpha K H a ls ps) (g : Gr S H H') : Alpha K H' a ls ps := by
  obtain ⟨pt, h1, h2⟩ := h
  exact ⟨pt, g.seqT h1, g.seqT h2⟩
theorem Box.gr {K : PySem.W.Frag} {S : List Addr} {b dl : Addr} {H H' : Hp} (h : Box K b dl H) (g : Gr S H H') : Box K b dl H' := by
  obtain ⟨ds, n, hb, hn, hd⟩ := h
  exact ⟨ds, n, g.lst hb, hn, g.seqL hd⟩
/-- the box is drawn from -/
theorem Box.tabs {K : PySem.W.Frag} {S : List Addr} {b dl : Addr} {H H' : Hp} (h : Box K b dl H) (m : Mv [b] H H') (t : Tabs S H) : Tabs S H' := fun P hP => h.tabG m (t P hP)
end TcG
/-! A generator with two clauses. -/
namespace TcG
open PySem PySem.Spec PyProof.Rows L2
theorem two_outer (elt t1 i1 t2 i2 : Expr) (scope : Scope) (pos : Pos) (it acc : Value) (env : Env) :
    compTurn (.GeneratorExp elt [⟨t1, i1, [], 0⟩, ⟨t2, i2, [], 0⟩] scope pos) 0 it acc env = (do
      standAt i1.pos
      match ← pyNext it with
      | none => pure (.done .next)
      | some v =>
        letOwnedTupleGo t1 it v
        assign t1 env v
        let x ← eval i2 env
        standAt i2.pos
        let x ← foldedSetIterable i2 env x
        let _ ← runOwn (.compStart (.GeneratorExp elt [⟨t1, i1, [], 0⟩, ⟨t2, i2, [], 0⟩] scope pos) 1 (← holding [x] (pyIter x)) acc env) env
        again (.compLoop (.GeneratorExp elt [⟨t1, i1, [], 0⟩, ⟨t2, i2, [], 0⟩] scope pos) 0 it acc env)) := by rfl
theorem two_inner (elt t1 i1 t2 i2 : Expr) (scope : Scope) (pos : Pos) (it acc : Value) (env : Env) :
    compTurn (.GeneratorExp elt [⟨t1, i1, [], 0⟩, ⟨t2, i2, [], 0⟩] scope pos) 1 it acc env = (do
      standAt i2.pos
      match ← pyNext it with
      | none => pure (.done .next)
      | some v =>
        letOwnedTupleGo t2 it v
        assign t2 env v
        (do let v ← eval elt env; standAt elt.pos; let _ ← yieldOut env v)
        again (.compLoop (.GeneratorExp elt [⟨t1, i1, [], 0⟩, ⟨t2, i2, [], 0⟩] scope pos) 1 it acc env)) := by rfl
end TcG
/-! A generator expression run for all(): its steps in the hand layer's words. -/
namespace TcG
open PySem PySem.Spec PyProof.Rows L2 GenW

def Keep (σ σ' : L2.St) : Prop := ∀ (i : Nat) (v : V), σ[i]? = some (some v) → σ'[i]? = some (some v)
theorem Keep.refl (σ : L2.St) : Keep σ σ := fun _ _ h => h
theorem Keep.set {σ : L2.St} {k : Nat} {x : V} (h : σ[k]? = some none) : Keep σ (σ.set k (some x)) := fun i v e => by
  have : k ≠ i := fun z => by rw [z, e] at h; cases h
  rw [List.getElem?_set_ne this]
  exact e
theorem Keep.trans {σ σ' σ'' : L2.St} (x : Keep σ σ') (y : Keep σ' σ'') : Keep σ σ'' := fun i v h => y i v (x i v h)
theorem Inv.keep {X : Cx} {pins : List (Addr × Obj)} {σ σ' : L2.St} {H : Hp} {s : Shared} (I : Inv X pins σ' H s) (hl : σ.length = X.N.length) (k : Keep σ σ') : Inv X pins σ H s := I.weak (by rw [hl, I.len]) k

def GenR (X : Cx) (pins : List (Addr × Obj)) (σ : L2.St) (Qt : Hp → Prop) : GenEnd := fun _ _ r s => r = .ok .next ∧ ∃ H, Inv X pins σ H s ∧ Qt H
def GenY (X : Cx) (pins : List (Addr × Obj)) (σ : L2.St) (Qf : Hp → Prop) : Protocol := fun _ _ v s kap => ∃ b H, v = .bool b ∧ Inv X pins σ H s ∧ (b = false → Qf H) ∧ (b = true → ∀ s', Woken s s' → kap (.send .none) s')

/-- the around of the frame -/
structure GenA (X : Cx) (A : Around) (c : Code) (fs : List Frame) : Prop where
  over : A.over c fs = X.A
  calm : X.calm = true
  xe : ∀ e s, ¬ X.xe e s
  co : X.env.scope.isCoroutine = false

section
variable {X : Cx} {A : Around} {pins : List (Addr × Obj)} {σ0 : L2.St} {Qt Qf : Hp → Prop} {elt iter tg : Expr} {gs : Scope} {gpos : Pos}

theorem thx {α : Type} {M : Model} {B : Around} {t : Sem α} {Q Q' : α → Shared → Prop} {E : Value → Shared → Prop} {s : Shared} (xe : ∀ e s, ¬ X.xe e s) (h : wpAny M B t Q X.xe s) (f : ∀ a s', Q a s' → Q' a s') : wpAny M B t Q' E s := wpAny_mono h f fun e s z => absurd z (xe e s)
theorem yield_out {env : Env} (hco : env.scope.isCoroutine = false) : ∀ v, yieldOut env v = yieldValue v := fun v => by simp only [yieldOut, hco, Bool.false_eq_true, if_false]

theorem seg_all1 {it : Addr} {fp : List Addr} {tn : Nat → Heap → Prop} {J : It} {g : TG} {te : TE} {n : Nat} {W : Nat → Hp → Prop}
    (GA : GenA X A (.compLoop (.GeneratorExp elt [⟨tg, iter, [], 0⟩] gs gpos) 0 (.ref it) .none X.env) [])
    (T : Turn X.prog X.w X.K tg J fp it tn) (hf : ∀ H, (∀ b ∈ fp, H b = none) → ∀ b ∈ fp, FpOk X pins H b) (hl : σ0.length = X.N.length) (hg : PG X tg g) (he : PE X elt te)
    (go : ∀ i H, i < n → W i H → J.go i H) (stop : ∀ H, W n H → J.stop n H ∧ Qt H)
    (turn : ∀ i H x H', i < n → W i H → J.yld i H x H' → g x σ0 H' fun σ2 H3 => Keep σ0 σ2 ∧ te σ2 H3 fun v H4 => ∃ b, v = .bl b ∧ (b = true → W (i + 1) H4) ∧ (b = false → Qf H4)) :
    ∀ (k i : Nat) (s0 s : Shared) (H : Hp), n - i = k → i ≤ n → Inv X pins σ0 H s → tn i s.heap → (∀ b ∈ fp, H b = none) → W i H →
      Seg (model X.prog X.w) A (GenR X pins σ0 Qt) (GenY X pins σ0 Qf) (n - i) s0
        (.compLoop (.GeneratorExp elt [⟨tg, iter, [], 0⟩] gs gpos) 0 (.ref it) .none X.env)
        ((model X.prog X.w).den (.compLoop (.GeneratorExp elt [⟨tg, iter, [], 0⟩] gs gpos) 0 (.ref it) .none X.env)) [] s := by
  obtain ⟨ov, calm, xe, co⟩ := GA
  intro k
  induction k with
  | zero =>
    intro i s0 s H hk hi I st fr w
    have hin : i = n := by omega
    subst hin
    show Seg _ A _ _ _ s0 _ ((compTurn (.GeneratorExp elt [⟨tg, iter, [], 0⟩] gs gpos) 0 (.ref it) .none X.env).onRaise (leaving X.env)) [] s
    rw [compTurn_gen, Sem.onRaise_eq_wrap]
    refine seg_bind_wrap (wpAny_standAt ?_)
    obtain ⟨js, q⟩ := stop H w
    refine seg_bind_wrap (ov.symm ▸ thx xe (T.done X rfl rfl rfl calm i pins s σ0 H _ I (hf H fr) st js) fun r s1 ⟨hr, I1⟩ => ?_)
    subst hr
    exact seg_end (.ok .next) ⟨rfl, H, I1, q⟩
  | succ k ih =>
    intro i s0 s H hk hi I st fr w
    have hlt : i < n := by omega
    have hn : n - i = (n - (i + 1)) + 1 := by omega
    rw [hn]
    show Seg _ A _ _ _ s0 _ ((compTurn (.GeneratorExp elt [⟨tg, iter, [], 0⟩] gs gpos) 0 (.ref it) .none X.env).onRaise (leaving X.env)) [] s
    rw [compTurn_gen, Sem.onRaise_eq_wrap]
    refine seg_bind_wrap (wpAny_standAt ?_)
    refine seg_bind_wrap (ov.symm ▸ thx xe (T.item X rfl rfl rfl calm i pins s σ0 H _ I (hf H fr) st (go i H hlt w)) fun r s1 ⟨u, hr, h1⟩ => ?_)
    subst hr
    refine seg_bind_wrap (ov.symm ▸ thx xe h1 fun _ s2 ⟨x, H2, I2, r2, y2, st2, fr2⟩ => ?_)
    have I2' := I2.pinned (hf H2 fr2) (T.obj _ _ st2)
    refine seg_bind_wrap (ov.symm ▸ thx xe (hg.run _ s2 σ0 H2 x u _ I2' r2 (turn i H x H2 hlt w y2)) fun _ s3 ⟨σ3, H3, I3, k3, q3⟩ => ?_)
    simp only [List.forIn_nil]
    refine seg_bind_wrap (wpAny_pure ?_)
    simp only [if_true]
    simp only [yield_out co]
    rw [Sem.bind_eq_wrap', Sem.bind_eq_wrap', Sem.wrap_wrap, Sem.wrap_wrap]
    refine seg_wrap (ov.symm ▸ thx xe (he.run _ s3 σ3 H3 _ I3 q3) fun y s4 ⟨v, H4, I4, r4, b, hv, qt, qf⟩ => ?_)
    subst hv
    obtain rfl : y = .bool b := r4
    have fr4 : ∀ b ∈ fp, H4 b = none := fun b hb => by
      obtain ⟨o, e, d⟩ := T.obj _ _ st2 b hb
      exact (I4.pin (b, o) (List.mem_append_right _ (List.mem_append_right _ (mem_pinsAt hb e)))).2.1
    have st4 : tn (i + 1) s4.heap := T.keep _ _ _ st2 fun b hb o e => (I4.pin (b, o) (List.mem_append_right _ (List.mem_append_right _ (mem_pinsAt hb e)))).1
    have I5 : Inv X pins σ0 H4 s4 := Inv.keep I4.unpinned hl k3
    refine seg_at (seg_yield rfl rfl rfl ⟨b, H4, rfl, I5, qf, fun hb s5 wk => ?_⟩)
    exact seg_again rfl (ih (i + 1) s5 s5 H4 (by omega) hlt (Inv.woken I5 wk) (T.keep _ _ _ st4 fun b _ o e => wk.keep b o e) fr4 (qt hb))

/-! ### two clauses -/
variable {i1 i2 t1 t2 : Expr}
abbrev gen2 (elt t1 i1 t2 i2 : Expr) (gs : Scope) (gpos : Pos) : Expr := .GeneratorExp elt [⟨t1, i1, [], 0⟩, ⟨t2, i2, [], 0⟩] gs gpos

theorem seg_in {it : Addr} {fp : List Addr} {tn : Nat → Heap → Prop} {J : It} {g : TG} {te : TE} {n r : Nat} {W : Nat → Hp → Prop} {R : GenEnd} {pins0 : List (Addr × Obj)} {σ1 : L2.St} {fs : List Frame} {Qe : Hp → Prop}
    (GA : GenA X A (.compLoop (gen2 elt t1 i1 t2 i2 gs gpos) 1 (.ref it) .none X.env) fs) (split : splitAtGen fs = none) (guard : fs.any Frame.guarded = false)
    (T : Turn X.prog X.w X.K t2 J fp it tn) (hf : ∀ H, (∀ b ∈ fp, H b = none) → ∀ b ∈ fp, FpOk X pins H b) (hl : σ1.length = X.N.length) (hg : PG X t2 g) (he : PE X elt te) (un : ∀ H s, Inv X pins σ1 H s → Inv X pins0 σ0 H s)
    (go : ∀ i H, i < n → W i H → J.go i H) (stop : ∀ H, W n H → J.stop n H ∧ Qe H)
    (turn : ∀ i H x H', i < n → W i H → J.yld i H x H' → g x σ1 H' fun σ2 H3 => Keep σ1 σ2 ∧ te σ2 H3 fun v H4 => ∃ b, v = .bl b ∧ (b = true → W (i + 1) H4) ∧ (b = false → Qf H4))
    (fin : ∀ s0 s H, Inv X pins σ1 H s → Qe H → Seg (model X.prog X.w) A R (GenY X pins0 σ0 Qf) r s0 (.compLoop (gen2 elt t1 i1 t2 i2 gs gpos) 1 (.ref it) .none X.env) (.pure (.done .next)) fs s) :
    ∀ (k i : Nat) (s0 s : Shared) (H : Hp), n - i = k → i ≤ n → Inv X pins σ1 H s → tn i s.heap → (∀ b ∈ fp, H b = none) → W i H →
      Seg (model X.prog X.w) A R (GenY X pins0 σ0 Qf) (r + (n - i)) s0
        (.compLoop (gen2 elt t1 i1 t2 i2 gs gpos) 1 (.ref it) .none X.env)
        ((model X.prog X.w).den (.compLoop (gen2 elt t1 i1 t2 i2 gs gpos) 1 (.ref it) .none X.env)) fs s := by
  obtain ⟨ov, calm, xe, co⟩ := GA
  intro k
  induction k with
  | zero =>
    intro i s0 s H hk hi I st fr w
    have hin : i = n := by omega
    subst hin
    rw [Nat.sub_self, Nat.add_zero]
    show Seg _ A _ _ _ s0 _ ((compTurn (gen2 elt t1 i1 t2 i2 gs gpos) 1 (.ref it) .none X.env).onRaise _) fs s
    rw [two_inner, Sem.onRaise_eq_wrap]
    refine seg_bind_wrap (wpAny_standAt ?_)
    obtain ⟨js, q⟩ := stop H w
    refine seg_bind_wrap (ov.symm ▸ thx xe (T.done X rfl rfl rfl calm i pins s σ1 H _ I (hf H fr) st js) fun r s1 ⟨hr, I1⟩ => ?_)
    subst hr
    exact fin s0 s1 H I1 q
  | succ k ih =>
    intro i s0 s H hk hi I st fr w
    have hlt : i < n := by omega
    have hn : r + (n - i) = (r + (n - (i + 1))) + 1 := by omega
    rw [hn]
    show Seg _ A _ _ _ s0 _ ((compTurn (gen2 elt t1 i1 t2 i2 gs gpos) 1 (.ref it) .none X.env).onRaise _) fs s
    rw [two_inner, Sem.onRaise_eq_wrap]
    refine seg_bind_wrap (wpAny_standAt ?_)
    refine seg_bind_wrap (ov.symm ▸ thx xe (T.item X rfl rfl rfl calm i pins s σ1 H _ I (hf H fr) st (go i H hlt w)) fun r s1 ⟨u, hr, h1⟩ => ?_)
    subst hr
    refine seg_bind_wrap (ov.symm ▸ thx xe h1 fun _ s2 ⟨x, H2, I2, r2, y2, st2, fr2⟩ => ?_)
    have I2' := I2.pinned (hf H2 fr2) (T.obj _ _ st2)
    refine seg_bind_wrap (ov.symm ▸ thx xe (hg.run _ s2 σ1 H2 x u _ I2' r2 (turn i H x H2 hlt w y2)) fun _ s3 ⟨σ3, H3, I3, k3, q3⟩ => ?_)
    simp only [yield_out co]
    rw [Sem.bind_eq_wrap', Sem.bind_eq_wrap', Sem.wrap_wrap, Sem.wrap_wrap]
    refine seg_wrap (ov.symm ▸ thx xe (he.run _ s3 σ3 H3 _ I3 q3) fun y s4 ⟨v, H4, I4, r4, b, hv, qt, qf⟩ => ?_)
    subst hv
    obtain rfl : y = .bool b := r4
    have fr4 : ∀ b ∈ fp, H4 b = none := fun b hb => by
      obtain ⟨o, e, d⟩ := T.obj _ _ st2 b hb
      exact (I4.pin (b, o) (List.mem_append_right _ (List.mem_append_right _ (mem_pinsAt hb e)))).2.1
    have st4 : tn (i + 1) s4.heap := T.keep _ _ _ st2 fun b hb o e => (I4.pin (b, o) (List.mem_append_right _ (List.mem_append_right _ (mem_pinsAt hb e)))).1
    have I5 : Inv X pins σ1 H4 s4 := Inv.keep I4.unpinned hl k3
    refine seg_at (seg_yield split rfl guard ⟨b, H4, rfl, un _ _ I5, qf, fun hb s5 wk => ?_⟩)
    exact seg_again rfl (ih (i + 1) s5 s5 H4 (by omega) hlt (Inv.woken I5 wk) (T.keep _ _ _ st4 fun b _ o e => wk.keep b o e) fr4 (qt hb))
end
end TcG
namespace TcG
open PySem PySem.Spec PyProof.Rows L2 GenW
section
variable {X : Cx} {A : Around} {pins : List (Addr × Obj)} {σ0 : L2.St} {Qt Qf : Hp → Prop} {elt i1 i2 t1 t2 : Expr} {gs : Scope} {gpos : Pos}

/-- all pairs are gone through: what the inner walk of one turn is to show -/
def In2 (Qf : Hp → Prop) (n2 : Nat) (g2 : TG) (te : TE) (Nx : Hp → Prop) (σ : L2.St) (J2 : It) (H : Hp) : Prop :=
  ∃ W2 : Nat → Hp → Prop, W2 0 H ∧ (∀ j H, j < n2 → W2 j H → J2.go j H) ∧ (∀ H, W2 n2 H → J2.stop n2 H ∧ Nx H) ∧
    ∀ j H y H', j < n2 → W2 j H → J2.yld j H y H' → g2 y σ H' fun σ3 H5 => Keep σ σ3 ∧ te σ3 H5 fun v H6 => ∃ b, v = .bl b ∧ (b = true → W2 (j + 1) H6) ∧ (b = false → Qf H6)

theorem seg_all2 {it : Addr} {fp : List Addr} {tn : Nat → Heap → Prop} {J : It} {g1 g2 : TG} {w2 : TI} {te : TE} {n n2 : Nat} {W : Nat → Hp → Prop}
    (GA : GenA X A (.compLoop (gen2 elt t1 i1 t2 i2 gs gpos) 0 (.ref it) .none X.env) [])
    (T : Turn X.prog X.w X.K t1 J fp it tn) (hf : ∀ H, (∀ b ∈ fp, H b = none) → ∀ b ∈ fp, FpOk X pins H b) (hl : σ0.length = X.N.length) (hg1 : PG X t1 g1) (hi2 : PI X t2 i2 w2) (hg2 : PG X t2 g2) (he : PE X elt te)
    (fold : ∀ x, foldedSetIterable i2 X.env x = pure x)
    (go : ∀ i H, i < n → W i H → J.go i H) (stop : ∀ H, W n H → J.stop n H ∧ Qt H)
    (turn : ∀ i H x H', i < n → W i H → J.yld i H x H' → g1 x σ0 H' fun σ2 H3 => Keep σ0 σ2 ∧ w2 σ2 H3 (In2 Qf n2 g2 te (W (i + 1)) σ2)) :
    ∀ (k i : Nat) (s0 s : Shared) (H : Hp), n - i = k → i ≤ n → Inv X pins σ0 H s → tn i s.heap → (∀ b ∈ fp, H b = none) → W i H →
      Seg (model X.prog X.w) A (GenR X pins σ0 Qt) (GenY X pins σ0 Qf) ((n - i) * n2) s0
        (.compLoop (gen2 elt t1 i1 t2 i2 gs gpos) 0 (.ref it) .none X.env)
        ((model X.prog X.w).den (.compLoop (gen2 elt t1 i1 t2 i2 gs gpos) 0 (.ref it) .none X.env)) [] s := by
  obtain ⟨ov, calm, xe, co⟩ := id GA
  intro k
  induction k with
  | zero =>
    intro i s0 s H hk hi I st fr w
    have hin : i = n := by omega
    subst hin
    show Seg _ A _ _ _ s0 _ ((compTurn (gen2 elt t1 i1 t2 i2 gs gpos) 0 (.ref it) .none X.env).onRaise (leaving X.env)) [] s
    rw [two_outer, Sem.onRaise_eq_wrap]
    refine seg_bind_wrap (wpAny_standAt ?_)
    obtain ⟨js, q⟩ := stop H w
    refine seg_bind_wrap (ov.symm ▸ thx xe (T.done X rfl rfl rfl calm i pins s σ0 H _ I (hf H fr) st js) fun r s1 ⟨hr, I1⟩ => ?_)
    subst hr
    exact seg_end (.ok .next) ⟨rfl, H, I1, q⟩
  | succ k ih =>
    intro i s0 s H hk hi I st fr w
    have hlt : i < n := by omega
    have hn : (n - i) * n2 = (n - (i + 1)) * n2 + (n2 - 0) := by
      have : n - i = (n - (i + 1)) + 1 := by omega
      rw [this, Nat.succ_mul, Nat.sub_zero]
    rw [hn]
    show Seg _ A _ _ _ s0 _ ((compTurn (gen2 elt t1 i1 t2 i2 gs gpos) 0 (.ref it) .none X.env).onRaise (leaving X.env)) [] s
    rw [two_outer, Sem.onRaise_eq_wrap]
    refine seg_bind_wrap (wpAny_standAt ?_)
    refine seg_bind_wrap (ov.symm ▸ thx xe (T.item X rfl rfl rfl calm i pins s σ0 H _ I (hf H fr) st (go i H hlt w)) fun r s1 ⟨u, hr, h1⟩ => ?_)
    subst hr
    refine seg_bind_wrap (ov.symm ▸ thx xe h1 fun _ s2 ⟨x, H2, I2, r2, y2, st2, fr2⟩ => ?_)
    have I2' := I2.pinned (hf H2 fr2) (T.obj _ _ st2)
    refine seg_bind_wrap (ov.symm ▸ thx xe (hg1.run _ s2 σ0 H2 x u _ I2' r2 (turn i H x H2 hlt w y2)) fun _ s3 ⟨σ3, H3, I3, k3, q3⟩ => ?_)
    refine seg_bind_wrap (ov.symm ▸ thx xe (hi2.run _ s3 σ3 H3 _ I3 q3) fun v s4 h4 => ?_)
    refine seg_bind_wrap (wpAny_standAt ?_)
    refine seg_bind_wrap (wpAny_of_eq (fold v) ?_)
    refine seg_bind_wrap (wpAny_holding (ov.symm ▸ thx xe h4 fun itv s5 h5 => ?_))
    obtain ⟨it2, fp2, tn2, J2, H5, e, I5, T2, st5, f5, W2, w0, go2, stop2, turn2⟩ := h5
    subst e
    have hl3 : σ3.length = X.N.length := I5.len
    rw [Sem.bind_eq_wrap', Sem.wrap_wrap]
    have ov2 : ∀ (c' : Code) (k' : Result → Sem PySem.Fin) (g' : Bool) (l' kp' : List Value) (p' : Pos), c'.weight = 0 → c'.cUnits = 0 → A.over c' [.ret k' none g' l' (.compLoop (gen2 elt t1 i1 t2 i2 gs gpos) 0 (.ref it) .none X.env) p' kp'] = X.A :=
      fun c' k' g' l' kp' p' hw hu => by rw [over_loop hw hu]; exact ov
    show Seg _ A _ _ _ s0 _ (.call _ none false [] _) [] s5
    refine seg_call fun p => ?_
    have key : ∀ (k' : Result → Sem PySem.Fin) (l' kp' : List Value), (∀ s0 s H, Inv X (pins ++ pinsAt fp s2.heap) σ3 H s → W (i + 1) H →
        Seg (model X.prog X.w) A (GenR X pins σ0 Qt) (GenY X pins σ0 Qf) ((n - (i + 1)) * n2) s0 (.compLoop (gen2 elt t1 i1 t2 i2 gs gpos) 0 (.ref it) .none X.env) (k' (.ok .next)) [] s) →
        Seg (model X.prog X.w) A (GenR X pins σ0 Qt) (GenY X pins σ0 Qf) ((n - (i + 1)) * n2 + (n2 - 0)) s0 (.compStart (gen2 elt t1 i1 t2 i2 gs gpos) 1 (.ref it2) .none X.env)
          ((model X.prog X.w).den (.compStart (gen2 elt t1 i1 t2 i2 gs gpos) 1 (.ref it2) .none X.env)) [.ret k' none false l' (.compLoop (gen2 elt t1 i1 t2 i2 gs gpos) 0 (.ref it) .none X.env) p kp'] s5 := fun k' l' kp' fin => by
      have loop : ∀ s0 s, Inv X (pins ++ pinsAt fp s2.heap) σ3 H5 s → tn2 0 s.heap → Seg (model X.prog X.w) A (GenR X pins σ0 Qt) (GenY X pins σ0 Qf) ((n - (i + 1)) * n2 + (n2 - 0)) s0
          (.compLoop (gen2 elt t1 i1 t2 i2 gs gpos) 1 (.ref it2) .none X.env) ((model X.prog X.w).den (.compLoop (gen2 elt t1 i1 t2 i2 gs gpos) 1 (.ref it2) .none X.env)) [.ret k' none false l' (.compLoop (gen2 elt t1 i1 t2 i2 gs gpos) 0 (.ref it) .none X.env) p kp'] s := fun s0 s I st =>
        seg_in (pins := pins ++ pinsAt fp s2.heap) (pins0 := pins) (σ0 := σ0) (σ1 := σ3) (W := W2) (Qe := W (i + 1)) ⟨ov2 _ _ _ _ _ _ rfl rfl, calm, xe, co⟩ rfl rfl T2 (fun H hn b hb => ⟨hn b hb, (f5 b hb).2⟩) hl3 hg2 he
          (fun H s I => Inv.keep I.unpinned hl k3) go2 stop2 turn2 (fun s0 s H I q => seg_leaf (.ok .next) (fin s0 s H I q)) n2 0 s0 s H5 (Nat.sub_zero _) (Nat.zero_le _) I st (fun b hb => (f5 b hb).1) w0
      show Seg _ A _ _ _ s0 _ ((compStart (gen2 elt t1 i1 t2 i2 gs gpos) 1 (.ref it2) .none X.env).onRaise _) _ s5
      unfold compStart
      rw [Sem.onRaise_eq_wrap]
      show Seg _ A _ _ _ s0 _ ((ask >>= _).wrap _ _ _ _) _ s5
      refine seg_bind_wrap (wpAny_askSetting ?_)
      split
      · exact seg_again rfl (loop _ _ I5 st5)
      · refine seg_bind_wrap (wpAny_rule (seg_bind_wrap (wpAny_standAt (seg_bind_wrap ?_))))
        exact T2.self _ 0 _ _ _ st5 (seg_again rfl (loop _ _ I5 st5))
    refine key _ _ _ fun s0 s H I w => ?_
    have st6 : tn (i + 1) s.heap := T.keep _ _ _ st2 fun b hb o e => (I.pin (b, o) (List.mem_append_right _ (List.mem_append_right _ (mem_pinsAt hb e)))).1
    have fr6 : ∀ b ∈ fp, H b = none := fun b hb => by
      obtain ⟨o, e, d⟩ := T.obj _ _ st2 b hb
      exact (I.pin (b, o) (List.mem_append_right _ (List.mem_append_right _ (mem_pinsAt hb e)))).2.1
    exact seg_again rfl (ih (i + 1) s0 s H (by omega) hlt (Inv.keep I.unpinned hl k3) st6 fr6 w)
end
end TcG
/-! all() of a generator expression. -/
namespace TcG
open PySem PySem.Spec PyProof.Rows L2 GenW
section
variable {prog : Program} {w : World} {A : Around}

/-- what the loop of all() has in its hand -/
theorem all_loopG {X : Cx} {pins : List (Addr × Obj)} {σ0 : L2.St} {Qt Qf : Hp → Prop} {a : Addr} {g : Nat} {oa : Obj} {Rr : Result → Shared → Prop} (hpin : (a, oa) ∈ pins) (hisg : ∀ h : Heap, h.get? a = some oa → h.IsGen a g) (hh : A.handled = none) (hroom : A.depth < recursionLimit) (hlim : ∀ H s, Inv X pins σ0 H s → s.heap.NoLimit)
    (hR : ∀ s' b H, Inv X pins σ0 H s' → (b = true → Qt H) → (b = false → Qf H) → Rr (.ok (.ret (.bool b))) s') :
    ∀ (n : Nat) (s : Shared) (gs : GenState), s.heap.get? a = some oa → s.heap.NoLimit → s.gens[g]? = some gs → (∀ s', Woken s s' → gs.Goes (model prog w) A.in1.in1 (GenR X pins σ0 Qt) (GenY X pins σ0 Qf) n (.send .none) s') →
      codeAny (model prog w) A (.builtin "all.loop" ⟨[.ref a], []⟩) Rr s := by
  intro n
  induction n with
  | zero =>
    intro s gs ha hl hgs hgo
    refine codeAny_builtin F.entry_all_loop ?_
    rw [Around.under_plainId F.plain_all_loop _]
    show wpAny _ A.in1 (pyNext (.ref a) >>= _) _ _ s
    refine wpAny_bind (wpAny_pyNext_genexpQ (P := fun _ _ s => ∃ H, Inv X pins σ0 H s ∧ Qt H) hh hl hroom (hisg _ ha) hgs (hgo _ (Woken.set rfl)) (fun v s1 gs' hb hv => ?_) (fun s1 hp h' hk => ?_))
    · obtain ⟨b, H, rfl, I1, qf, qt⟩ := hv
      cases b with
      | true => exact False.elim (qt rfl s1 (Woken.refl _))
      | false =>
        refine wpAny_bind (wpAny_holding (wpAny_truthy_bool ?_))
        refine wpAny_bind (wpAny_letGo ?_)
        simp only [Bool.false_eq_true, if_false]
        refine wpAny_bind (wpAny_rule (wpAny_pure ?_))
        exact hR _ false H (Inv.woken I1 (Woken.set hb)) (fun z => nomatch z) fun _ => qf rfl
    · obtain ⟨H, I1, q⟩ := hp
      refine wpAny_bind (wpAny_rule (wpAny_pure ?_))
      exact hR _ true H (Inv.woken (s' := { s1.setGen g .finished with heap := h' }) I1 ((Woken.set (s := s1) (g := g) (x := .finished) rfl).trans ⟨rfl, fun h => h, fun b o e => hk b o e⟩)) (fun _ => q) fun z => nomatch z
  | succ n ih =>
    intro s gs ha hl hgs hgo
    have hg : g < s.gens.size := (Array.getElem?_eq_some_iff.mp hgs).1
    refine codeAny_builtin F.entry_all_loop ?_
    rw [Around.under_plainId F.plain_all_loop _]
    show wpAny _ A.in1 (pyNext (.ref a) >>= _) _ _ s
    refine wpAny_bind (wpAny_gsz (Nat.le_refl s.gens.size) (wpAny_pyNext_genexpQ (P := fun _ _ s => ∃ H, Inv X pins σ0 H s ∧ Qt H) hh hl hroom (hisg _ ha) hgs (hgo _ (Woken.set rfl)) (fun v s1 gs' hb hv hsz => ?_) (fun s1 hp h' hk hsz => ?_)))
    · obtain ⟨b, H, rfl, I1, qf, qt⟩ := hv
      refine wpAny_bind (wpAny_holding (wpAny_truthy_bool ?_))
      refine wpAny_bind (wpAny_letGo ?_)
      have I2 : Inv X pins σ0 H (s1.setGen g gs') := Inv.woken I1 (Woken.set hb)
      cases b with
      | true =>
        simp only [if_true]
        refine wpAny_pure ⟨plainId_quiet F.plain_all_loop _, ih _ gs' (I2.pin _ (List.mem_append_right _ hpin)).1 (hlim _ _ I2) ?_ fun s' wk => qt rfl s' ((Woken.set hb).trans wk)⟩
        have hsz : s.gens.size ≤ (s1.setGen g gs').gens.size := hsz
        rw [GenW.setGen_size] at hsz
        have : g < s1.gens.size := Nat.lt_of_lt_of_le hg hsz
        exact setGen_self (gs := s1.gens[g]) (Array.getElem?_eq_getElem this)
      | false =>
        simp only [Bool.false_eq_true, if_false]
        refine wpAny_bind (wpAny_rule (wpAny_pure ?_))
        exact hR _ false H I2 (fun z => nomatch z) fun _ => qf rfl
    · obtain ⟨H, I1, q⟩ := hp
      refine wpAny_bind (wpAny_rule (wpAny_pure ?_))
      exact hR _ true H (Inv.woken (s' := { s1.setGen g .finished with heap := h' }) I1 ((Woken.set (s := s1) (g := g) (x := .finished) rfl).trans ⟨rfl, fun h => h, fun b o e => hk b o e⟩)) (fun _ => q) fun z => nomatch z

theorem call_allG {a : Addr} {E : Value → Shared → Prop} {Q : Value → Shared → Prop} {s : Shared} {g : Nat} (hg : s.heap.IsGen a g) (h : codeAny (model prog w) A (.builtin "all.loop" ⟨[.ref a], []⟩) (fun r s' => match r with | .ok (.ret v) => Q v s' | .ok _ => False | .error e => E e s') s) :
    wpAny (model prog w) A (call (.builtin "all") [.ref a]) Q E s := by
  refine call_function_tree F.kind_all F.plain_all F.entry_all (F.args_all1 _) ?_
  unfold Builtin.«all»
  refine wpAny_bind (m := oneArg "all" _) (wpAny_pure ?_)
  refine wpAny_bind (wpAny_pyIter_gen hg ?_)
  exact wpAny_pure ⟨plainId_quiet F.plain_all_loop _, h⟩
end

section
variable {M : Model} {A : Around} {E : Value → Shared → Prop} {s : Shared}
theorem eval_Gen (elt target iter : Expr) (ifs : List Expr) (rest : List Comprehension) (scope : Scope) (pos : Pos) (env : Env) (hco : scope.isCoroutine = false) :
    eval (.GeneratorExp elt (⟨target, iter, ifs, 0⟩ :: rest) scope pos) env = (do
      let x ← eval iter env
      standAt iter.pos
      let x ← genFold iter env x
      let it ← holding [x] (pyIter x)
      enterFrame
      let cl ← closureFor scope env
      let code ← genexprCode env pos (env.qual ++ "<genexpr>") scope
      let bi ← builtinsFor env.globals env.builtins
      let cenv ← newFunctionEnv scope env.globals cl [(".0", it)] (env.qual ++ "<genexpr>.") none code none bi
      newGenerator (.compStart (.GeneratorExp elt (⟨target, iter, ifs, 0⟩ :: rest) scope pos) 0 it .none cenv) "<genexpr>" (env.qual ++ "<genexpr>")) := by
  rw [arm_eval_GeneratorExp]
  simp only [hco, Bool.false_eq_true, if_false]
  cases iter <;> rfl
theorem gen_make {env : Env} {elt target iter : Expr} {ifs : List Expr} {rest : List Comprehension} {scope : Scope} {cl : List (Str × Addr)} {pos : Pos} {Q : Value → Shared → Prop}
    (hco : scope.isCoroutine = false) (hclos : closureFor scope env = pure cl) (hcell : ∀ y ∈ scope.names, y.2 ≠ .cell) (h0 : scope.names.lookup (".0" : Str) = some NameKind.local) (hkind : scope.kind = .function)
    (hroom : A.depth < recursionLimit)
    (h : wpAny M A (eval iter env) (fun xv s₁ => wpAny M A (pyIter xv) (fun it s₂ => s₂.heap.NoLimit ∧
      wpAny M A (genexprCode env pos (env.qual ++ "<genexpr>") scope) (fun code s₃ => wpAny M A (builtinsFor env.globals env.builtins) (fun bi s₄ =>
        ∀ h', h'.Ns s₄.heap.objs.size (fun y => if y = ".0" then some it else none) → Heap.SameBut s₄.heap.objs.size (s₄.heap.push { cls := .type "frame", data := .dict #[] }) h' →
          Q (.ref h'.objs.size) { s₄ with
            gens := s₄.gens.push (.fresh (.compStart (.GeneratorExp elt (⟨target, iter, ifs, 0⟩ :: rest) scope pos) 0 it .none (genEnv scope cl s₄.heap.objs.size code bi env))),
            toks := s₄.toks + 1 + 1 + 1,
            heap := h'.push { cls := .type "generator", data := .fields #[.int s₄.gens.size 0, .str "<genexpr>" (s₄.toks + 1), .str (env.qual ++ "<genexpr>") (s₄.toks + 1 + 1)] } }) E s₃) E s₂) E s₁) E s)
    (hs : ∀ x, genFold iter env x = pure x) :
    wpAny M A (eval (.GeneratorExp elt (⟨target, iter, ifs, 0⟩ :: rest) scope pos) env) Q E s := by
  rw [eval_Gen _ _ _ _ _ _ _ _ hco, hclos]
  refine wpAny_bind (wpAny_mono h (fun xv s₁ h₁ => ?_) fun _ _ e => e)
  refine wpAny_bind (wpAny_standAt ?_)
  refine wpAny_bind (wpAny_of_eq (hs xv) ?_)
  refine wpAny_bind (wpAny_holding (wpAny_mono h₁ (fun it s₂ h₂ => ?_) fun _ _ e => e))
  refine wpAny_bind (wpAny_enterFrame h₂.1 hroom ?_)
  refine wpAny_bind (wpAny_pure ?_)
  refine wpAny_bind (wpAny_mono h₂.2 (fun code s₃ h₃ => ?_) fun _ _ e => e)
  refine wpAny_bind (wpAny_mono h₃ (fun bi s₄ h₄ => ?_) fun _ _ e => e)
  have hbinds : ∀ y ∈ ([((".0" : Str), it)] : List (Str × Value)), scope.names.lookup y.1 = some NameKind.local := by
    intro y hy
    rcases List.mem_cons.mp hy with rfl | hy
    · exact h0
    · cases hy
  refine wpAny_bind (wpAny_newFunctionEnv hcell hbinds (fun h' hn' hs' => ?_) hkind)
  have e : (fun y : Str => ([((".0" : Str), it)] : List (Str × Value)).reverse.lookup y) = fun y : Str => if y = (".0" : Str) then some it else none := by
    funext y
    by_cases hy : y = ".0"
    · subst hy; simp
    · have : (y == (".0" : Str)) = false := by simpa using hy
      simp [List.lookup, this, hy]
  rw [e] at hn'
  simp only [newGenerator, newFields]
  refine wpAny_bind (wpAny_newGen (wpAny_bind (wpAny_mkText (wpAny_bind (wpAny_mkText (wpAny_newObj_type ?_ (by size_fits)))))))
  exact h₄ h' hn' hs'
end
end TcG
/-! all(elt for x in xs), all(elt for x in xs for y in ys): rules; the element may call defs. -/
namespace TcG
open PySem PySem.Spec PyProof.Rows L2 GenW
section
variable {X : Cx}

/-- the loop of the generator, in its own frame, shows what Z wants -/
def RunG (X : Cx) (own : List Str) (gs : Scope) (k : Nat) (e tg : Expr) (Z : It → Hp → L2.St → VK → Prop) : Prop :=
  ∀ (code : Value) (C : Addr) (s0 : Shared) (H2 : Hp) (fp : List Addr) (it : Addr) (tn : Nat → Heap → Prop) (J : It) (A Ag : Around) (pins : List (Addr × Obj)) (σ : L2.St) (Q : VK),
    GenA (genX X own gs code C s0 H2 fp Ag) A (.compLoop e 0 (.ref it) .none (genX X own gs code C s0 H2 fp Ag).env) [] → Room k Ag → Turn X.prog X.w X.K tg J fp it tn →
    (∀ H, (∀ b ∈ fp, H b = none) → ∀ b ∈ fp, FpOk (genX X own gs code C s0 H2 fp Ag) pins H b) → σ.length = (genX X own gs code C s0 H2 fp Ag).N.length → Z J H2 σ Q →
    ∃ n : Nat, ∀ s0' s, Inv (genX X own gs code C s0 H2 fp Ag) pins σ H2 s → tn 0 s.heap → (∀ b ∈ fp, H2 b = none) →
      Seg (model X.prog X.w) A (GenR (genX X own gs code C s0 H2 fp Ag) pins σ fun H => Q (.bl true) H) (GenY (genX X own gs code C s0 H2 fp Ag) pins σ fun H => Q (.bl false) H) n s0'
        (.compLoop e 0 (.ref it) .none (genX X own gs code C s0 H2 fp Ag).env) ((model X.prog X.w).den (.compLoop e 0 (.ref it) .none (genX X own gs code C s0 H2 fp Ag).env)) [] s

def tAllG (P : Addr) (own : List Str) (wi : TI) (Z : It → Hp → L2.St → VK → Prop) : TE := fun σ H Q => wi σ H fun J H1 => TabG' H1 P ∧ ∀ H2, GxR.Tabbed P H1 H2 → Z J H2 (gSt σ own) Q
where TabG' := GxR.TabG

theorem pe_allG {c P : Addr} {elt iter tg : Expr} {rest : List Comprehension} {own : List Str} {pa pos gpos : Pos} {gs : Scope} {wi : TI} {Z : It → Hp → L2.St → VK → Prop} {k : Nat}
    (room : Room (k + 1) X.A) (ga : Gl X "all") (ma : X.mg "all" = none) (ba : bootBuiltins "all" = some (.builtin "all")) (TB : GxR.TabB X.base X.mg c P) (codeAt : X.env.code = .ref c) (fit : genFit X.N X.env.scope.names gs = true)
    (hi : PI X tg iter wi) (plain : ∀ v, genFold iter X.env v = pure v) (run : RunG X own gs k (.GeneratorExp elt (⟨tg, iter, [], 0⟩ :: rest) gs gpos) tg Z)
    (he : starEach [.GeneratorExp elt (⟨tg, iter, [], 0⟩ :: rest) gs gpos] X.env = (false, eval (.GeneratorExp elt (⟨tg, iter, [], 0⟩ :: rest) gs gpos) X.env) :: starEach [] X.env := by rfl) :
    PE X (.Call (.Name "all" pa) [.GeneratorExp elt (⟨tg, iter, [], 0⟩ :: rest) gs gpos] [] pos) (tAllG P own wi Z) := by
  refine ⟨fun pins s σ H Q I h => ?_⟩
  have F : GenF X.N X.env gs := genF_of fit
  refine wpAny_Call_Name_kw (ld_blt I ga ma ba ?_)
  refine PyProof.Rows.callWith_builtin1 ?_ he (by rfl)
  rw [he]
  refine Calls.spliced_cons (gen_make F.co (closure_ok fun y hy e => I.ok.has _ (.inl (F.free y hy e))) F.cell F.dot F.kind (by have := room.dp; omega) ?_ plain)
  refine thn (hi.run pins s σ H _ I h) fun xv s1 h1 => thn h1 fun itv s2 h2 => ?_
  obtain ⟨it, fp, tn, J, H1, rfl, I2, T, st2, f2, tab, q⟩ := h2
  obtain ⟨ps, tabAt, tri⟩ : GxR.TabG H1 P := tab
  have tab2 : s2.heap.get? P = some { cls := .none, data := .fields ps } := I2.hok P _ tabAt
  have cd : PySem.W.CodeHd s2.heap c P := TB.code.keeps fun b u e => I2.bk b u e
  refine ⟨I2.nolimit, ?_⟩
  have cont : ∀ (code : Value) (h3 : Heap) (tk : Nat) (ps' : Array Value), Heap.ExtBut P s2.heap h3 → s2.heap.objs.size ≤ h3.objs.size → h3.get? P = some { cls := .none, data := .fields ps' } → (∃ more, ps' = ps ++ more) → TriplesOk ps'.toList →
      wpAny (model X.prog X.w) X.A (builtinsFor X.env.globals X.env.builtins) (fun bi s4 =>
        ∀ h', h'.Ns s4.heap.objs.size (fun y => if y = ".0" then some (Value.ref it) else none) → Heap.SameBut s4.heap.objs.size (s4.heap.push { cls := .type "frame", data := .dict #[] }) h' →
          wpAny (model X.prog X.w) X.A (spliced (backTo pos (starEach [] X.env))) (fun us s' => wpAny (model X.prog X.w) X.A (call (.builtin "all") (.ref h'.objs.size :: us)) (EP X pins σ Q) X.xe s') X.xe { s4 with
            gens := s4.gens.push (.fresh (.compStart (.GeneratorExp elt (⟨tg, iter, [], 0⟩ :: rest) gs gpos) 0 (.ref it) .none (genEnv gs (cloFrom X.env.cells gs.names []) s4.heap.objs.size code bi X.env))),
            toks := s4.toks + 1 + 1 + 1,
            heap := h'.push { cls := .type "generator", data := .fields #[.int s4.gens.size 0, .str "<genexpr>" (s4.toks + 1), .str (X.env.qual ++ "<genexpr>") (s4.toks + 1 + 1)] } }) X.xe { s2 with heap := h3, toks := tk } := by
    intro code h3 tk ps' ext size3 tab3 grown tri3
    obtain ⟨bm, ob, e1, e2, e3, e4, e5, e6, e7, e8⟩ := TB.bm
    refine wpAny_builtinsFor (m := X.mg)
      (by rw [I2.ok.glob]; exact (I2.mod.glob.keeps I2.bk).extBut ext TB.gP)
      e1 e2 (ext _ _ e4 (I2.bk _ _ e5)) e6 e7 e8 ?_
    intro h' ns sb
    obtain ⟨more, em⟩ := grown
    subst em
    have I3 := GxR.inv_tab (more := more) (h' := h3) (g' := s2.gens) (d' := s2.drawn) (t' := tk) I2 tabAt (fun b u hb e => ext b u hb e) tab3 I2.bare
    have tb3 : GxR.Tabbed P H1 (upd H1 P (.tbl (ps ++ more))) := ⟨⟨ps ++ more, upd_same, tri3⟩, fun b hb => upd_ne hb⟩
    have nP : ∀ b ∈ fp, b ≠ P := fun b hb z => by
      have := (f2 b hb).1
      rw [z, tabAt] at this
      cases this
    have fr3 : ∀ b ∈ fp, upd H1 P (.tbl (ps ++ more)) b = none := fun b hb => by rw [upd_ne (nP b hb)]; exact (f2 b hb).1
    have f3 : ∀ b ∈ fp, FpOk X pins (upd H1 P (.tbl (ps ++ more))) b := fun b hb => ⟨fr3 b hb, (f2 b hb).2⟩
    have st3 : tn 0 h3 := T.keep _ _ _ st2 fun b hb o e => ext b o (nP b hb) e
    have hob : ∀ b ∈ fp, ∃ o, h3.get? b = some o := fun b hb => let ⟨o, e, _⟩ := T.obj _ _ st3 b hb; ⟨o, e⟩
    have sz : h'.objs.size = h3.objs.size + 1 := by rw [sb.1, Heap.size_push]
    have keep5 : ∀ b o, h3.get? b = some o → (h'.push { cls := .type "generator", data := .fields #[.int s2.gens.size 0, .str "<genexpr>" (tk + 1), .str (X.env.qual ++ "<genexpr>") (tk + 1 + 1)] }).get? b = some o :=
      fun b o e => Heap.get?_push_of_some _ (sb.extBut b o (Nat.ne_of_lt (Heap.lt_size e)) (Heap.get?_push_of_some _ e))
    have hA : ((X.A.in1.in1).over (.compLoop (.GeneratorExp elt (⟨tg, iter, [], 0⟩ :: rest) gs gpos) 0 (.ref it) .none (genE X gs code h3.objs.size)) []).frames = some (genE X gs code h3.objs.size :: X.stack) := by
      show pushEnvs [genE X gs code h3.objs.size] (pushEnvs (envsOf []) X.A.frames) = _
      rw [I2.ok.frames]
      rfl
    have rk : Room k ((X.A.in1.in1).over (.compLoop (.GeneratorExp elt (⟨tg, iter, [], 0⟩ :: rest) gs gpos) 0 (.ref it) .none (genE X gs code h3.objs.size)) []) :=
      ⟨room.hd, by have := room.dp; show X.A.depth + 0 + 1 + 3 * k + 5 < _; omega, by have := room.un; show X.A.units + 1 + 1 + 0 + 3 + 16 * k + 200 < _; omega⟩
    have get5 := Heap.get?_push_size h' (o := { cls := .type "generator", data := .fields #[.int s2.gens.size 0, .str "<genexpr>" (tk + 1), .str (X.env.qual ++ "<genexpr>") (tk + 1 + 1)] }) rfl
    have haC : h3.objs.size < h'.objs.size := by rw [sz]; exact Nat.lt_succ_self _
    have J5 := inv_gen (own := own) (code := code) (Ag := (X.A.in1.in1).over (.compLoop (.GeneratorExp elt (⟨tg, iter, [], 0⟩ :: rest) gs gpos) 0 (.ref it) .none (genE X gs code h3.objs.size)) []) (g5 := s2.gens.push (.fresh (.compStart (.GeneratorExp elt (⟨tg, iter, [], 0⟩ :: rest) gs gpos) 0 (.ref it) .none (genE X gs code h3.objs.size)))) (tk := tk + 1 + 1 + 1) F I3 f3 hob room.hd hA rfl (ns.push _) keep5 (I2.bare.push rfl) get5 haC (fun v z => by cases z)
    obtain ⟨n, seg⟩ := run code h3.objs.size _ _ fp it tn J X.A.in1.in1 _ _ (gSt σ own) Q ⟨rfl, rfl, fun _ _ z => z, F.co⟩ rk T (fun H hn => fp_gen F I3 f3 hob rfl haC hn) J5.len (q _ tb3)
    refine Calls.spliced_nil ?_
    have isg : ∀ h : Heap, h.get? h'.objs.size = some { cls := .type "generator", data := .fields #[.int s2.gens.size 0, .str "<genexpr>" (tk + 1), .str (X.env.qual ++ "<genexpr>") (tk + 1 + 1)] } → h.IsGen h'.objs.size s2.gens.size := fun h e => ⟨_, _, _, e, rfl, rfl, rfl⟩
    refine call_allG (isg _ get5) (all_loopG (X := genX X own gs code h3.objs.size { s2 with heap := h3, toks := tk } (upd H1 P (.tbl (ps ++ more))) fp ((X.A.in1.in1).over (.compLoop (.GeneratorExp elt (⟨tg, iter, [], 0⟩ :: rest) gs gpos) 0 (.ref it) .none (genE X gs code h3.objs.size)) [])) (pins := [(h'.objs.size, { cls := .type "generator", data := .fields #[.int s2.gens.size 0, .str "<genexpr>" (tk + 1), .str (X.env.qual ++ "<genexpr>") (tk + 1 + 1)] })]) (σ0 := gSt σ own) (Qt := fun H => Q (.bl true) H) (Qf := fun H => Q (.bl false) H) List.mem_cons_self isg room.hd (by have := room.dp; omega) (fun H s J => J.nolimit) (fun s' b H J qt qf => ?_) n _ _ get5 J5.nolimit (Array.getElem?_push_size ..) fun s' wk => ⟨rfl, ?_⟩)
    · refine ⟨.bl b, H, inv_back I3 f3 J, rfl, ?_⟩
      cases b with
      | true => exact qt rfl
      | false => exact qf rfl
    · have J6 := Inv.woken J5 wk
      have st6 : tn 0 s'.heap := T.keep _ _ _ st3 fun b _ o e => wk.keep b o (keep5 b o e)
      show Seg _ _ _ _ _ _ _ ((compStart (.GeneratorExp elt (⟨tg, iter, [], 0⟩ :: rest) gs gpos) 0 (.ref it) .none (genE X gs code h3.objs.size)).onRaise _) _ s'
      unfold compStart
      rw [Sem.onRaise_eq_wrap]
      show Seg _ _ _ _ _ _ _ ((ask >>= _).wrap _ _ _ _) _ s'
      refine seg_bind_wrap (wpAny_askSetting ?_)
      split
      · exact seg_again rfl (seg _ _ J6 st6 fr3)
      · refine seg_bind_wrap (wpAny_rule (seg_bind_wrap (wpAny_standAt (seg_bind_wrap ?_))))
        exact T.self _ 0 _ _ _ st6 (seg_again rfl (seg _ _ J6 st6 fr3))
  cases hf : codeAmong gpos ps.toList with
  | none =>
    refine wpAny_genexprCodeX codeAt (cd.code tab2 tri) (cd.tab tab2) hf fun c' h' tk ext ge lt code' _ tab' _ => ?_
    obtain ⟨o1, vs, f1, tf, fl, tg, inF, tx, tt, op, _, _, _, _, _, _, _, _, _, tri', _⟩ := code'
    exact cont _ h' tk _ ext (Nat.le_trans ge (Nat.le_of_lt lt)) tab'.2 ⟨_, rfl⟩ tri'
  | some cv =>
    refine wpAny_genexprCode_hit codeAt (cd.code tab2 tri) hf ?_
    exact cont cv s2.heap s2.toks ps (Heap.ExtBut.refl _ _) (Nat.le_refl _) tab2 ⟨#[], by simp⟩ tri

/-! ### one clause -/
/-- every item is tested: n of them; W tells what holds ahead of the i-th -/
def Z1 (g : TG) (te : TE) : It → Hp → L2.St → VK → Prop := fun J H2 σ Q => ∃ (n : Nat) (W : Nat → Hp → Prop), W 0 H2 ∧ (∀ i H, i < n → W i H → J.go i H) ∧ (∀ H, W n H → J.stop n H ∧ Q (.bl true) H) ∧
  ∀ i H x H', i < n → W i H → J.yld i H x H' → g x σ H' fun σ2 H3 => Keep σ σ2 ∧ te σ2 H3 fun v H4 => ∃ b, v = .bl b ∧ (b = true → W (i + 1) H4) ∧ (b = false → Q (.bl false) H4)
theorem run1 {own : List Str} {gs : Scope} {k : Nat} {elt tg iter : Expr} {gpos : Pos} {g : TG} {te : TE} (co : gs.isCoroutine = false)
    (hg : ∀ code C s0 H0 fp Ag, PG (genX X own gs code C s0 H0 fp Ag) tg g) (he : ∀ code C s0 H0 fp Ag, Room k Ag → PE (genX X own gs code C s0 H0 fp Ag) elt te) : RunG X own gs k (.GeneratorExp elt [⟨tg, iter, [], 0⟩] gs gpos) tg (Z1 g te) := by
  intro code C s0 H2 fp it tn J A Ag pins σ Q GA rk T hf hl z
  obtain ⟨n, W, w0, go, stop, turn⟩ := z
  exact ⟨n, fun s0' s I st fr => by
    have := seg_all1 (X := genX X own gs code C s0 H2 fp Ag) (σ0 := σ) (Qt := fun H => Q (.bl true) H) (Qf := fun H => Q (.bl false) H) (W := W) GA T hf hl (hg _ _ _ _ _ _) (he _ _ _ _ _ _ rk) go stop turn n 0 s0' s H2 (Nat.sub_zero _) (Nat.zero_le _) I st fr w0
    rw [Nat.sub_zero] at this
    exact this⟩
/-! ### two clauses -/
def Z2 (g1 : TG) (w2 : TI) (g2 : TG) (te : TE) : It → Hp → L2.St → VK → Prop := fun J H2 σ Q => ∃ (n n2 : Nat) (W : Nat → Hp → Prop), W 0 H2 ∧ (∀ i H, i < n → W i H → J.go i H) ∧ (∀ H, W n H → J.stop n H ∧ Q (.bl true) H) ∧
  ∀ i H x H', i < n → W i H → J.yld i H x H' → g1 x σ H' fun σ2 H3 => Keep σ σ2 ∧ w2 σ2 H3 (In2 (fun H => Q (.bl false) H) n2 g2 te (W (i + 1)) σ2)
theorem run2 {own : List Str} {gs : Scope} {k : Nat} {elt t1 i1 t2 i2 : Expr} {gpos : Pos} {g1 g2 : TG} {w2 : TI} {te : TE} (co : gs.isCoroutine = false)
    (hg1 : ∀ code C s0 H0 fp Ag, PG (genX X own gs code C s0 H0 fp Ag) t1 g1) (hi2 : ∀ code C s0 H0 fp Ag, Room k Ag → PI (genX X own gs code C s0 H0 fp Ag) t2 i2 w2) (fold : ∀ env x, foldedSetIterable i2 env x = pure x)
    (hg2 : ∀ code C s0 H0 fp Ag, PG (genX X own gs code C s0 H0 fp Ag) t2 g2) (he : ∀ code C s0 H0 fp Ag, Room k Ag → PE (genX X own gs code C s0 H0 fp Ag) elt te) : RunG X own gs k (gen2 elt t1 i1 t2 i2 gs gpos) t1 (Z2 g1 w2 g2 te) := by
  intro code C s0 H2 fp it tn J A Ag pins σ Q GA rk T hf hl z
  obtain ⟨n, n2, W, w0, go, stop, turn⟩ := z
  exact ⟨n * n2, fun s0' s I st fr => by
    have := seg_all2 (X := genX X own gs code C s0 H2 fp Ag) (σ0 := σ) (Qt := fun H => Q (.bl true) H) (Qf := fun H => Q (.bl false) H) (W := W) GA T hf hl (hg1 _ _ _ _ _ _) (hi2 _ _ _ _ _ _ rk) (hg2 _ _ _ _ _ _) (he _ _ _ _ _ _ rk) (fold _) go stop turn n 0 s0' s H2 (Nat.sub_zero _) (Nat.zero_le _) I st fr w0
    rw [Nat.sub_zero] at this
    exact this⟩
end
end TcG
namespace Tc
open PySem PySem.Spec PyProof.Rows L2 TcG
theorem small_line {n : Nat} (h : n ≤ 100000) : n ≤ sizeLine := Nat.le_trans h (by decide)

section
variable {P : Program} {w : World} {K : PySem.W.Frag} {mg : Str → Option Value} {base : Heap}
/-! independent -/
def sp_independent (K : PySem.W.Frag) : Sp := fun vs H Q _ => ∃ (a : Addr) (x y : Nat) (ls : List Nat) (ps : List (List Nat)), vs = [.ref a, .str (tx [x]), .str (tx [y])] ∧ Alpha K H a ls ps ∧ Q (.bl (ind ps x y)) H
theorem ok_independent {f : Addr} {fd : FuncData} {k : Nat} (F : Fun K "independent" "independent" s_independent f fd) (mn : mg "min" = none) (mx : mg "max" = none) : FnOk P w K mg base CX0 (k + 1) f fd ["alphabet", "x", "y"] (sp_independent K) := by
  refine F.ok sc_independent (fun vs H Q E h => ?_) (fun cdv A outer s H vs Q E hr h => ?_)
  · obtain ⟨a, x, y, ls, ps, rfl, _⟩ := h
    rfl
  · obtain ⟨a, x, y, ls, ps, rfl, ⟨pt, h1, h2⟩, q⟩ := h
    refine ⟨_, pss_one (ps_ret (pe_cmpR op_in_seq (pe_op op_add_str
        (pe_callB (call_minT rfl) (by rfl) mn (by decide +kernel) (pa_cons (pv 1) (pa_cons (pv 2) pa_nil)))
        (pe_callB (call_maxT rfl) (by rfl) mx (by decide +kernel) (pa_cons (pv 1) (pa_cons (pv 2) pa_nil))))
      (pe_ix ix_tup (pv 0) pe_int (fun _ _ => rfl)) (by rfl))), ?_⟩
    refine ⟨.str (tx [x]), rfl, .str (tx [y]), rfl, _, _, rfl, .str (tx [x]), rfl, .str (tx [y]), rfl, _, _, rfl, ?_⟩
    rw [min_tx, max_tx]
    refine ⟨_, _, rfl, rfl, by show (1 + 1 : Nat) ≤ sizeLine; decide, .ref a, rfl, a, _, 2, .ref pt, rfl, rfl, h1, atI_nat (j := 2) rfl, pt, _, rfl, .inr h2, rfl, txs_flat ps, ?_⟩
    rw [tx_append, inV_txs]
    exact q
end
end Tc
namespace Tc
open PySem PySem.Spec PyProof.Rows L2 TcG
/-- each letter of the one is independent of each one of the other -/
def apartM (ps : List (List Nat)) (a b : List Nat) : Bool := a.all fun x => b.all fun y => ind ps x y
section
variable {P : Program} {w : World} {K : PySem.W.Frag} {mg : Str → Option Value} {base : Heap}
def sp_freeT (K : PySem.W.Frag) (Pf : Addr) : Sp := fun vs H Q _ => ∃ (al : Addr) (a b ls : List Nat) (ps : List (List Nat)), vs = [.ref al, .str (tx a), .str (tx b)] ∧ Alpha K H al ls ps ∧ GxR.TabG H Pf ∧ ∀ H', GxR.Tabbed Pf H H' → Q (.bl (apartM ps a b)) H'
theorem ok_freeT {f c Pf fI : Addr} {fd fdI : FuncData} (F : FunC K "free" "free" s_free f fd c) (TB : GxR.TabB base mg c Pf) (ma : mg "all" = none) (FI : Fun K "independent" "independent" s_independent fI fdI) (gI : mg "independent" = some (.ref fI)) (mn : mg "min" = none) (mx : mg "max" = none) :
    FnOk P w K mg base CX0 3 f fd ["alphabet", "word", "other"] (sp_freeT K Pf) := by
  have GI : FnOk P w K mg base CX0 1 fI fdI ["alphabet", "x", "y"] (sp_independent K) := ok_independent FI mn mx
  have bI : Binds K fdI ["alphabet", "x", "y"] [] := FI.binds fun _ _ _ _ _ _ us hl => match us, hl with | [_, _, _], _ => rfl
  refine F.ok sc_free (fun vs H Q E h => ?_) (fun A outer s H vs Q E hr h => ?_)
  · obtain ⟨al, a, b, ls, ps, rfl, _⟩ := h
    rfl
  · obtain ⟨al, a, b, ls, ps, rfl, ah, tab, q⟩ := h
    refine ⟨_, pss_one (ps_ret (pe_allG (own := ["x", "y"]) (k := 1) hr (by rfl) ma (by decide +kernel) TB rfl (by show genFit ["alphabet", "word", "other"] (defScope s_free).names _ = true; decide +kernel) (pi_str (pv 1)) (fun _ => rfl)
      (run2 rfl (fun _ _ _ _ _ _ => pg_name (i := 3) (by show (["alphabet", "word", "other", "x", "y"] : List Str).Nodup; decide) rfl (.inl rfl)) (fun _ _ _ _ _ _ _ => pi_str (pv 2)) (fun _ _ => rfl) (fun _ _ _ _ _ _ => pg_name (i := 4) (by show (["alphabet", "word", "other", "x", "y"] : List Str).Nodup; decide) rfl (.inl rfl))
        (fun _ _ _ _ _ _ rk => pe_call GI rk (by rfl) gI FI.kp bI .nil pass0 (pa_cons (pv 0) (pa_cons (pv 3) (pa_cons (pv 4) pa_nil))))))), ?_⟩
    refine ⟨.str (tx a), rfl, tx a, rfl, tab, fun H2 tb => ⟨a.length, b.length, fun i H => H = H2 ∧ ∀ x ∈ a.take i, ∀ y ∈ b, ind ps x y = true, ⟨rfl, by simp⟩, fun i H hi _ => its_go.mpr hi, fun H h => ?_, fun i H x H' hi h y => ?_⟩⟩
    · obtain ⟨rfl, h⟩ := h
      refine ⟨its_stop.mpr (Nat.le_refl _), ?_⟩
      rw [List.take_length] at h
      have e : apartM ps a b = true := List.all_eq_true.mpr fun x hx => List.all_eq_true.mpr fun y hy => h x hx y hy
      rw [← e]
      exact q _ tb
    · obtain ⟨rfl, h⟩ := h
      obtain ⟨rfl, c, hc, rfl⟩ := its_yld y
      have ah2 : Alpha K H' al ls ps := ah.mvT tab (Mv.tabbed tb)
      refine ⟨Keep.set rfl, .str (tx b), rfl, tx b, rfl, fun j H => H = H' ∧ ∀ y ∈ b.take j, ind ps c y = true, ⟨rfl, by simp⟩, fun j H hj _ => its_go.mpr hj, fun H hh => ?_, fun j H y H'' hj hh yy => ?_⟩
      · obtain ⟨rfl, hh⟩ := hh
        refine ⟨its_stop.mpr (Nat.le_refl _), rfl, fun x hx => ?_⟩
        rw [take_next hc] at hx
        rw [List.take_length] at hh
        rcases List.mem_append.mp hx with hx | hx
        · exact h x hx
        · rw [List.mem_singleton.mp hx]
          exact hh
      · obtain ⟨rfl, hh⟩ := hh
        obtain ⟨rfl, d, hd, rfl⟩ := its_yld yy
        refine ⟨Keep.set rfl, .ref al, rfl, .str (tx [c]), rfl, .str (tx [d]), rfl, al, c, d, ls, ps, rfl, ah2, ind ps c d, rfl, fun e => ⟨rfl, fun y hy => ?_⟩, fun e => ?_⟩
        · rw [take_next hd] at hy
          rcases List.mem_append.mp hy with hy | hy
          · exact hh y hy
          · rw [List.mem_singleton.mp hy]
            exact e
        · have e2 : apartM ps a b = false := by
            rw [← Bool.not_eq_true]
            intro z
            have := List.all_eq_true.mp (List.all_eq_true.mp z c (List.mem_of_getElem? hc)) d (List.mem_of_getElem? hd)
            rw [e] at this
            cases this
          rw [← e2]
          exact q _ tb
end
end Tc
namespace Tc
open PySem PySem.Spec PyProof.Rows L2 TcG
section
variable {P : Program} {w : World} {K : PySem.W.Frag} {mg : Str → Option Value} {base : Heap}
def sp_firsts (K : PySem.W.Frag) (S : List Addr) : Sp := fun vs H Q _ => ∃ (al : Addr) (a ls : List Nat) (ps : List (List Nat)), vs = [.ref al, .str (tx a)] ∧ Alpha K H al ls ps ∧ (∀ c ∈ a, c ∈ ls) ∧ ls.length ≤ 50 ∧ Tabs S H ∧
  ∀ H', Gr S H H' → Q (.str (tx (firstsM ps a))) H'
theorem ok_firsts {f c Pf fI fF : Addr} {fd fdI fdF : FuncData} {S : List Addr} (F : Fun K "firsts" "firsts" s_firsts f fd) (FF : FunC K "free" "free" s_free fF fdF c) (gF : mg "free" = some (.ref fF)) (TB : GxR.TabB base mg c Pf) (hP : Pf ∈ S) (ma : mg "all" = none)
    (FI : Fun K "independent" "independent" s_independent fI fdI) (gI : mg "independent" = some (.ref fI)) (mn : mg "min" = none) (mx : mg "max" = none) (ms : mg "sorted" = none) : FnOk P w K mg base CX0 4 f fd ["alphabet", "word"] (sp_firsts K S) := by
  have GF : FnOk P w K mg base CX0 3 fF fdF ["alphabet", "word", "other"] (sp_freeT K Pf) := ok_freeT FF TB ma FI gI mn mx
  have bF : Binds K fdF ["alphabet", "word", "other"] [] := FF.fun.binds fun _ _ _ _ _ _ us hl => match us, hl with | [_, _, _], _ => rfl
  refine F.ok sc_firsts (fun vs H Q E h => ?_) (fun cdv A outer s H vs Q E hr h => ?_)
  · obtain ⟨al, a, ls, ps, rfl, _⟩ := h
    rfl
  · obtain ⟨al, a, ls, ps, rfl, ah, ia, sl, tabs, q⟩ := h
    have nd := sc_firsts.nd
    refine ⟨_, pss_cons (ps_set (i := 2) nd rfl (.inl rfl) pe_str)
      (pss_cons (ps_set (i := 3) nd rfl (.inl rfl) (pe_lst pa_nil))
      (pss_cons (ps_for PassesOwn.never rfl (pi_str (pv 1)) (pg_name (i := 4) nd rfl (.inl rfl))
        (pss_one (ps_if (pt_cmpR op_notIn_sign (pv 4) (pv 2) (by rfl))
          (pss_cons (ps_if (pt_val (pe_call GF hr (by rfl) gF FF.kp bF .nil pass0 (pa_cons (pv 0) (pa_cons (pv 4) (pa_cons (pv 2) pa_nil)))))
              (pss_one (ps_expr (pe_bm PySem.F.plainAttrs_list PySem.F.slot_list_append PySem.F.type_list_append mt_append (pv 3) (pa_cons (pv 4) pa_nil)))) pss_nil)
            (pss_one (ps_aug (i := 2) nd rfl (.inl rfl) (pv 4) ip_adds))) pss_nil)))
      (pss_one (ps_ret (pe_join pe_str (pe_callB cr_sortedS (by rfl) ms (by decide +kernel) (pa_cons (pv 3) pa_nil))))))), ?_⟩
    refine ⟨Nat.zero_le _, fun p np => ?_⟩
    have fewer : ∀ (seen r : List Nat), (∀ c ∈ r, c ∈ ls) → (leads ps seen r).length ≤ 50 := fun seen r hr => Nat.le_trans (len_le_of_mem (leads_nodup r seen) fun c hc => hr c (lead_mem ((mem_leads r seen c).mp hc).2.2)) sl
    refine ⟨.str (tx a), rfl, tx a, rfl, for_text (fun i σ H' => ∃ seen F y4, σ = [some (.ref al), some (.str (tx a)), some (.str (tx seen)), some (.ref p), y4] ∧ Gr S H H' ∧ H' p = some (.lst (F.map fun c => .str (tx [c]))) ∧ F ++ leads ps seen (a.drop i) = leads ps [] a ∧ seen.length ≤ i ∧ seen.Nodup ∧ ∀ c ∈ seen, c ∈ ls)
      ⟨[], [], none, rfl, .new tabs np, upd_same, by rw [List.nil_append, List.drop_zero], Nat.le_refl _, List.nodup_nil, fun c hc => nomatch hc⟩ (fun i c σ H1 hc hW => ?_) (fun σ H1 hW => ?_)⟩
    · obtain ⟨seen, F, y4, rfl, gr, hp, hF, hs, nds, is⟩ := hW
      have hd : a.drop i = c :: a.drop (i + 1) := by
        obtain ⟨lt, e⟩ := List.getElem?_eq_some_iff.mp hc
        rw [List.drop_eq_getElem_cons lt, e]
      have cl : c ∈ ls := ia c (List.mem_of_getElem? hc)
      have sb : seen.length ≤ 50 := Nat.le_trans (len_le_of_mem nds is) sl
      rw [hd] at hF
      refine ⟨.str (tx [c]), rfl, .str (tx seen), rfl, c, tx seen, rfl, rfl, _, rfl, ?_⟩
      rw [tx_list]
      by_cases hm : c ∈ seen
      · rw [decide_eq_true hm]
        rw [leads_cons, if_pos hm] at hF
        exact iteF ⟨seen, F, _, rfl, gr, hp, hF, by omega, nds, is⟩
      · rw [decide_eq_false hm]
        rw [leads_cons, if_neg hm] at hF
        have grow : ∀ (F' : List Nat) (H2 : Hp), Gr S H H2 → H2 p = some (.lst (F'.map fun c => .str (tx [c]))) → F' ++ leads ps (seen ++ [c]) (a.drop (i + 1)) = leads ps [] a → ∃ x, [some (V.ref al), some (V.str (tx a)), some (V.str (tx seen)), some (V.ref p), some (V.str (tx [c]))][2]? = some (some x) ∧ tVar 4 [some (V.ref al), some (V.str (tx a)), some (V.str (tx seen)), some (V.ref p), some (V.str (tx [c]))] H2 fun y H1 => ∃ i_1 j, x = V.str i_1 ∧ y = V.str j ∧ i_1.length + j.length ≤ sizeLine ∧
            (∃ seen F y4, [some (V.ref al), some (V.str (tx a)), some (V.str (tx seen)), some (V.ref p), some (V.str (tx [c]))].set 2 (some (V.str (i_1 ++ j))) = [some (.ref al), some (.str (tx a)), some (.str (tx seen)), some (.ref p), y4] ∧ Gr S H H1 ∧ H1 p = some (.lst (F.map fun c => .str (tx [c]))) ∧ F ++ leads ps seen (a.drop (i + 1)) = leads ps [] a ∧ seen.length ≤ i + 1 ∧ seen.Nodup ∧ ∀ c ∈ seen, c ∈ ls) := by
          intro F' H2 g2 h2 e2
          refine ⟨_, rfl, _, rfl, _, _, rfl, rfl, ?_, seen ++ [c], F', some (.str (tx [c])), ?_, g2, h2, e2, ?_, ?_, ?_⟩
          · rw [tx_length, tx_length]
            exact small_line (by simp; omega)
          · rw [tx_append]
            rfl
          · rw [List.length_append, List.length_singleton]
            omega
          · exact List.nodup_append.mpr ⟨nds, by simp, fun x hx y hy => by rw [List.mem_singleton.mp hy]; exact fun z => hm (z ▸ hx)⟩
          · intro x hx
            rcases List.mem_append.mp hx with hx | hx
            · exact is x hx
            · rw [List.mem_singleton.mp hx]
              exact cl
        refine iteT ⟨.ref al, rfl, .str (tx [c]), rfl, .str (tx seen), rfl, al, [c], seen, ls, ps, rfl, ah.gr gr, gr.tab _ hP, fun H2 tb => ?_⟩
        have g2 : Gr S H H2 := gr.trans (.tabbed gr.tab hP tb)
        have hp2 : H2 p = some (.lst (F.map fun c => .str (tx [c]))) := (Gr.tabbed gr.tab hP tb).lst hp
        have ea : apartM ps [c] seen = seen.all fun y => ind ps c y := by unfold apartM; simp
        refine ⟨_, rfl, ?_⟩
        rw [ea]
        cases hb : seen.all fun y => ind ps c y with
        | true =>
          rw [hb, if_pos rfl] at hF
          have fl : F.length ≤ 50 := by
            have h1 := congrArg List.length hF
            rw [List.length_append] at h1
            have := fewer [] a ia
            omega
          refine iteT ⟨.ref p, rfl, .inl ⟨rfl, _, SqL.of hp2⟩, .str (tx [c]), rfl, p, _, _, rfl, rfl, hp2, ?_, ?_⟩
          · rw [List.length_map]
            exact small_line (by omega)
          · refine grow (F ++ [c]) _ (g2.put np hp2 fun _ z => by cases z) ?_ ?_
            · rw [upd_same, List.map_append]
              rfl
            · rw [← hF, List.append_assoc]
              rfl
        | false =>
          rw [hb, if_neg Bool.false_ne_true] at hF
          exact iteF (grow F H2 g2 hp2 hF)
    · obtain ⟨seen, F, y4, rfl, gr, hp, hF, _⟩ := hW
      rw [List.drop_length] at hF
      have hF : F ++ [] = leads ps [] a := hF
      rw [List.append_nil] at hF
      subst hF
      have fl := fewer [] a ia
      refine ⟨⟨tx [], rfl⟩, .ref p, rfl, p, ones (leads ps [] a), rfl, SqL.of (by rw [hp, ones_V]), ?_, fun ys r pm so nr => ?_⟩
      · rw [ones_len]
        omega
      · obtain ⟨m, rfl, pm2, hm⟩ := ones_sorted pm so
        have em : m = firstsM ps a := sortN_of pm2 hm
        refine ⟨tx [], r, ones m, rfl, rfl, .inl (SqL.of upd_same), ?_, ?_⟩
        · rw [ones_sum, ones_len, pm2.length_eq, show (tx ([] : List Nat)).length = 0 from rfl]
          omega
        · rw [TcG.join_ones, em]
          exact q _ (gr.trans (.new gr.tab nr))
end
end Tc
namespace Tc
open PySem PySem.Spec PyProof.Rows L2 TcG
theorem pick_at {l : List Nat} (which : Bool) (h : l ≠ []) : atI l (if which = true then -1 else 0) = some (pick which l) := by
  cases which with
  | true =>
    rw [if_pos rfl]
    unfold pick
    rw [if_pos rfl, List.getLast?_eq_some_getLast h]
    have := atI_last l.dropLast (l.getLast h)
    rw [List.dropLast_concat_getLast h] at this
    exact this
  | false =>
    obtain ⟨c, r, rfl⟩ := List.exists_cons_of_ne_nil h
    exact atI_nat (j := 0) rfl
section
variable {P : Program} {w : World} {K : PySem.W.Frag} {mg : Str → Option Value} {base : Heap}
/-- where the defs stand that firsts needs -/
structure FirstsAt (K : PySem.W.Frag) (mg : Str → Option Value) (base : Heap) (S : List Addr) where
  f : Addr
  d : FuncData
  F : Fun K "firsts" "firsts" s_firsts f d
  g : mg "firsts" = some (.ref f)
  fF : Addr
  dF : FuncData
  c : Addr
  FF : FunC K "free" "free" s_free fF dF c
  gF : mg "free" = some (.ref fF)
  Pf : Addr
  TB : GxR.TabB base mg c Pf
  hP : Pf ∈ S
  fI : Addr
  dI : FuncData
  FI : Fun K "independent" "independent" s_independent fI dI
  gI : mg "independent" = some (.ref fI)
  ma : mg "all" = none
  mn : mg "min" = none
  mx : mg "max" = none
  ms : mg "sorted" = none
theorem FirstsAt.ok {S : List Addr} (T : FirstsAt K mg base S) : FnOk P w K mg base CX0 4 T.f T.d ["alphabet", "word"] (sp_firsts K S) := ok_firsts T.F T.FF T.gF T.TB T.hP T.ma T.FI T.gI T.mn T.mx T.ms
theorem FirstsAt.binds {S : List Addr} (T : FirstsAt K mg base S) : Binds K T.d ["alphabet", "word"] [] := T.F.binds fun _ _ _ _ _ _ us hl => match us, hl with | [_, _], _ => rfl
def sp_turn (K : PySem.W.Frag) (S : List Addr) : Sp := fun vs H Q _ => ∃ (al : Addr) (a ls : List Nat) (ps : List (List Nat)) (which : Bool), vs = [.ref al, .str (tx a), .int (if which = true then -1 else 0)] ∧ Alpha K H al ls ps ∧ (∀ c ∈ a, c ∈ ls) ∧ ls.length ≤ 50 ∧ a.length ≤ 1000 ∧ Tabs S H ∧
  ∀ H', Gr S H H' → Q (.str (tx (turnM ps which a.length a))) H'
theorem ok_turn {f fO : Addr} {fd fdO : FuncData} {S : List Addr} (F : Fun K "taken_in_turn" "taken_in_turn" s_taken_in_turn f fd) (T : FirstsAt K mg base S) (FO : Fun K "first_off" "first_off" s_first_off fO fdO) (gO : mg "first_off" = some (.ref fO)) :
    FnOk P w K mg base CX0 5 f fd ["alphabet", "word", "which"] (sp_turn K S) := by
  have GF := T.ok (P := P) (w := w)
  have bF := T.binds
  have RO : OffRun P w K mg base 1 fO := ok_off FO
  refine F.ok sc_taken_in_turn (fun vs H Q E h => ?_) (fun cdv A outer s H vs Q E hr h => ?_)
  · obtain ⟨al, a, ls, ps, which, rfl, _⟩ := h
    rfl
  · obtain ⟨al, a, ls, ps, which, rfl, ah, ia, sl, small, tabs, q⟩ := h
    have nd := sc_taken_in_turn.nd
    refine ⟨_, pss_setT (i := 3) nd rfl rfl pe_str (psst_set (i := 4) nd rfl (.inl rfl) (pv 1)
      (psst_cons (pst_whileT PassesOwn.never (pt_truth (pv 4) (by intro _; rfl))
        (psst_setF (i := 5) nd rfl (.inl rfl) (peg_ix (pe_call GF hr (by rfl) T.g T.F.kp bF .nil pass0 (pa_cons (pv 0) (pa_cons (pv 4) pa_nil))) (pv 2) (fun _ _ => rfl))
          (pssf_cons (psr_adds (iy := 3) (ix := 5) nd rfl (.inl rfl) (by decide) (pv 5) (by exact .inl rfl) (by decide) (by decide) (by decide) (by decide) rfl (.inl rfl))
            (pssf_off (ia := 4) (ix := 5) (iy := 4) RO (hr.mono (by decide)) (by rfl) gO FO.kp nd rfl (.inl rfl) rfl (.inl rfl) rfl (.inl rfl) pss_nil))))
      (PSsT.of (pss_one (ps_ret (pv 3)))))), ?_⟩
    refine ⟨.str (tx a), rfl, fun n σ H1 => ∃ left found y5, σ = [some (.ref al), some (.str (tx a)), some (.int (if which = true then -1 else 0)), some (.str (tx found)), some (.str (tx left)), y5] ∧ left.length = n ∧ Gr S H H1 ∧ (∀ c ∈ left, c ∈ ls) ∧ found ++ turnM ps which n left = turnM ps which a.length a ∧ found.length + n = a.length,
      ⟨a.length, a, [], none, rfl, rfl, .refl tabs, ia, rfl, Nat.zero_add _⟩, fun n σ H1 hW => ?_⟩
    obtain ⟨left, found, y5, rfl, ln, gr, il, hf, hl⟩ := hW
    refine ⟨.str (tx left), rfl, left.length != 0, ⟨?_, ?_⟩, ?_⟩
    · rw [tx_length]
      exact small_line (by omega)
    · rw [tx_length]
      cases left <;> rfl
    · cases n with
      | zero =>
        rw [ln]
        refine iteF ⟨.str (tx found), rfl, ?_⟩
        have hf : found ++ [] = turnM ps which a.length a := hf
        rw [List.append_nil] at hf
        rw [hf]
        exact q _ gr
      | succ n =>
        have ne : left ≠ [] := fun z => by rw [z] at ln; cases ln
        rw [ln]
        refine iteT ⟨fun σ' H' => ∃ left found y5, σ' = [some (.ref al), some (.str (tx a)), some (.int (if which = true then -1 else 0)), some (.str (tx found)), some (.str (tx left)), y5] ∧ left.length = n ∧ Gr S H H' ∧ (∀ c ∈ left, c ∈ ls) ∧ found ++ turnM ps which n left = turnM ps which a.length a ∧ found.length + n = a.length,
          fun σ' H' h => ⟨n, Nat.lt_succ_self n, h⟩, ?_⟩
        refine ⟨.ref al, rfl, .str (tx left), rfl, al, left, ls, ps, rfl, ah.gr gr, il, sl, gr.tab, fun H2 g2 => ⟨.int (if which = true then -1 else 0), rfl, tx (firstsM ps left), _, pick which (firstsM ps left), rfl, rfl, ?_, pick_at which (firsts_ne ne), ?_⟩⟩
        · rw [tx_length]
          have fl : (firstsM ps left).length ≤ ls.length := len_le_of_mem ((sortN_perm _).nodup_iff.mpr (leads_nodup _ _)) fun c hc => il c (lead_mem (mem_firsts.mp hc))
          exact small_line (by omega)
        · have hc : pick which (firstsM ps left) ∈ left := lead_mem (mem_firsts.mp (pick_mem (firsts_ne ne)))
          refine ⟨.str (tx found), rfl, .str (tx [pick which (firstsM ps left)]), rfl, tx found, tx [pick which (firstsM ps left)], rfl, rfl, ?_, ?_⟩
          · rw [tx_length, tx_length]
            exact small_line (by simp; omega)
          · rw [tx_append]
            refine ⟨left, pick which (firstsM ps left), rfl, rfl, hc, by omega, left.erase (pick which (firstsM ps left)), found ++ [pick which (firstsM ps left)], _, rfl, erase_len hc ln, gr.trans g2, erase_in il, ?_, ?_⟩
            · rw [List.append_assoc]
              exact hf
            · rw [List.length_append, List.length_singleton]
              omega
/-! least, greatest -/
def sp_least (K : PySem.W.Frag) (S : List Addr) (which : Bool) : Sp := fun vs H Q _ => ∃ (al : Addr) (a ls : List Nat) (ps : List (List Nat)), vs = [.ref al, .str (tx a)] ∧ Alpha K H al ls ps ∧ (∀ c ∈ a, c ∈ ls) ∧ ls.length ≤ 50 ∧ a.length ≤ 1000 ∧ Tabs S H ∧
  ∀ H', Gr S H H' → Q (.str (tx (turnM ps which a.length a))) H'
theorem ok_least {f fT fO : Addr} {fd fdT fdO : FuncData} {S : List Addr} (F : Fun K "least" "least" s_least f fd) (FT : Fun K "taken_in_turn" "taken_in_turn" s_taken_in_turn fT fdT) (gT : mg "taken_in_turn" = some (.ref fT)) (T : FirstsAt K mg base S) (FO : Fun K "first_off" "first_off" s_first_off fO fdO) (gO : mg "first_off" = some (.ref fO)) :
    FnOk P w K mg base CX0 6 f fd ["alphabet", "word"] (sp_least K S false) := by
  have GT : FnOk P w K mg base CX0 5 fT fdT ["alphabet", "word", "which"] (sp_turn K S) := ok_turn FT T FO gO
  have bT : Binds K fdT ["alphabet", "word", "which"] [] := FT.binds fun _ _ _ _ _ _ us hl => match us, hl with | [_, _, _], _ => rfl
  refine F.ok sc_least (fun vs H Q E h => ?_) (fun cdv A outer s H vs Q E hr h => ?_)
  · obtain ⟨al, a, ls, ps, rfl, _⟩ := h
    rfl
  · obtain ⟨al, a, ls, ps, rfl, ah, ia, sl, small, tabs, q⟩ := h
    refine ⟨_, pss_one (ps_ret (pe_call GT hr (by rfl) gT FT.kp bT .nil pass0 (pa_cons (pv 0) (pa_cons (pv 1) (pa_cons pe_int pa_nil))))), ?_⟩
    exact ⟨.ref al, rfl, .str (tx a), rfl, al, a, ls, ps, false, rfl, ah, ia, sl, small, tabs, q⟩
end
end Tc
namespace Tc
open PySem PySem.Spec PyProof.Rows L2 TcG
section
variable {P : Program} {w : World} {K : PySem.W.Frag} {mg : Str → Option Value} {base : Heap}
theorem sc_from6 : FnScope ["alphabet", "left", "endings", "found", "letter", "ending"] ["alphabet", "left", "endings"] (defScope s_words_from) :=
  ⟨rfl, rfl, rfl, by decide +kernel, rfl, by decide +kernel, by decide +kernel⟩
/-- the endings of what is one letter shorter -/
def HasEnds (ps : List (List Nat)) (n : Nat) (a : List Nat) (ed : Addr) (H : Hp) : Prop := ∃ kvs, H ed = some (.dK kvs) ∧ ∀ c, Lead ps a c → ∃ l, valV kvs (Sum.inr (tx (a.erase c))) = some (.ref l) ∧ H l = some (.lst (wordsV (allM ps n (a.erase c))))
theorem HasEnds.gr {S : List Addr} {ps : List (List Nat)} {n : Nat} {a : List Nat} {ed : Addr} {H H' : Hp} (h : HasEnds ps n a ed H) (g : Gr S H H') : HasEnds ps n a ed H' := by
  obtain ⟨kvs, h1, h2⟩ := h
  refine ⟨kvs, g.dK h1, fun c l => ?_⟩
  obtain ⟨l, e, hl⟩ := h2 c l
  exact ⟨l, e, g.lst hl⟩
def sp_from (K : PySem.W.Frag) (S : List Addr) : Sp := fun vs H Q _ => ∃ (al ed : Addr) (a ls : List Nat) (ps : List (List Nat)) (n : Nat), vs = [.ref al, .str (tx a), .ref ed] ∧ Alpha K H al ls ps ∧ (∀ c ∈ a, c ∈ ls) ∧ ls.length ≤ 50 ∧ a.length = n + 1 ∧ n < 10 ∧ Tabs S H ∧ HasEnds ps n a ed H ∧
  ∀ (p : Addr) (H' : Hp), Gr S H H' → H p = none → H' p = some (.lst (wordsV (allM ps (n + 1) a))) → Q (.ref p) H'
theorem ok_from {f fO : Addr} {fd fdO : FuncData} {S : List Addr} (F : Fun K "words_from" "words_from" s_words_from f fd) (T : FirstsAt K mg base S) (FO : Fun K "first_off" "first_off" s_first_off fO fdO) (gO : mg "first_off" = some (.ref fO)) :
    FnOk P w K mg base CX0 5 f fd ["alphabet", "left", "endings"] (sp_from K S) := by
  have GF := T.ok (P := P) (w := w)
  have bF := T.binds
  have RO : OffRun P w K mg base 1 fO := ok_off FO
  refine F.ok sc_from6 (fun vs H Q E h => ?_) (fun cdv A outer s H vs Q E hr h => ?_)
  · obtain ⟨al, ed, a, ls, ps, n, rfl, _⟩ := h
    rfl
  · obtain ⟨al, ed, a, ls, ps, n, rfl, ah, ia, sl, ln, n9, tabs, he, q⟩ := h
    have nd := sc_from6.nd
    refine ⟨_, pss_setT (i := 3) nd rfl rfl (pe_lst pa_nil)
      (psst_cons (pst_forF PassesOwn.never rfl (pe_call GF hr (by rfl) T.g T.F.kp bF .nil pass0 (pa_cons (pv 0) (pa_cons (pv 1) pa_nil))) (i := 4) nd rfl (.inr rfl)
        (pssf_ext (ia := 1) (ix := 4) (ie := 2) (iF := 3) (own := [("ending", 5)]) (g := gName 5) rfl (hu_of hr) RO (hr.mono (by decide)) (by rfl) gO FO.kp nd
          (blkOk_by (own := [("ending", 5)]) (N := ["alphabet", "left", "endings", "found", "letter", "ending"]) (sc := defScope s_words_from) (by decide +kernel))
          (fun _ _ _ _ _ => pg_name (i := 5) nd rfl (Or.inl rfl)) (fun _ _ _ _ _ => pe_op op_add_str (pv 4) (pv 5))
          rfl (.inl rfl) rfl (.inr (.inl rfl)) rfl (.inl rfl) rfl (.inl rfl) pss_nil))
      (PSsT.of (pss_one (ps_ret (pv 3))))), ?_⟩
    refine ⟨Nat.zero_le _, fun p np => ?_⟩
    have many := all_small (ps := ps) ln (by omega)
    refine ⟨.ref al, rfl, .str (tx a), rfl, al, a, ls, ps, rfl, ah.gr (.new tabs np), ia, sl, tabs.new np, fun H1 g1 => ⟨tx (firstsM ps a), rfl, for_text (fun i σ H' => ∃ y4, σ = [some (.ref al), some (.str (tx a)), some (.ref ed), some (.ref p), y4, none] ∧ Gr S H H' ∧ H' p = some (.lst (wordsV (begM ps n a i))))
      ⟨none, rfl, (Gr.new tabs np).trans g1, g1.lst upd_same⟩ (fun i c σ H2 hc hW => ?_) (fun σ H2 hW => ?_)⟩⟩
    · obtain ⟨y4, rfl, gr, hp⟩ := hW
      have lc : Lead ps a c := mem_firsts.mp (List.mem_of_getElem? hc)
      obtain ⟨kvs, hed, hw⟩ := he.gr gr
      obtain ⟨l, hv, hl⟩ := hw c lc
      have lw := all_small (ps := ps) (erase_len (lead_mem lc) ln) (by omega)
      refine ⟨a, c, ed, l, p, rfl, rfl, lead_mem lc, by omega, rfl, ?_, rfl, ⟨_, SqL.of hp⟩, ⟨_, SqL.of hl⟩, lcN_list (ws := wordsV (allM ps n (a.erase c))) (fun D j H' => Same H2 H' ∧ H' D = some (.lst (wordsV (((allM ps n (a.erase c)).take j).map (c :: ·)))))
        (fun D nD => ⟨same_new nD, upd_same⟩) (fun D j H' hV => SqL.of (hV.1 _ _ hl)) (fun D j x H' nD hx hV => ?_) (fun D H' nD hV => ?_)⟩
      · rw [← hv]
        exact DGet.k (k := Sum.inr (tx (a.erase c))) hed
      · obtain ⟨sm, hD⟩ := hV
        obtain ⟨u, hu, rfl⟩ := wordsV_at hx
        have lu : u.length = n := all_len n _ (erase_len (lead_mem lc) ln) u (List.mem_of_getElem? hu)
        have lt := (List.getElem?_eq_some_iff.mp hu).1
        refine ⟨rfl, .str (tx [c]), rfl, .str (tx u), rfl, tx [c], tx u, rfl, rfl, ?_, _, hD, ?_, ?_, ?_⟩
        · rw [tx_length, tx_length]
          exact small_line (by rw [lu]; simp; omega)
        · rw [wordsV_len, List.length_map, List.length_take]
          exact Nat.lt_of_lt_of_le (m := 3628800) (by omega) (by show 3628800 ≤ sizeLine; decide)
        · exact fun b o e => by rw [upd_ne (ne_of_none e nD)]; exact sm b o e
        · rw [upd_same, tx_append, take_next hu, List.map_append, wordsV_app]
          rfl
      · obtain ⟨sm, hD⟩ := hV
        rw [wordsV_len, List.take_length] at hD
        have hp2 : H' p = some (.lst (wordsV (begM ps n a i))) := sm _ _ hp
        refine ⟨D, _, _, rfl, hp2, hD, ?_, _, rfl, ?_, ?_⟩
        · have := beg_le (ps := ps) (n := n) (w := a) (i + 1)
          rw [beg_next hc, List.length_append] at this
          rw [wordsV_len, wordsV_len]
          exact Nat.le_trans this (Nat.le_trans many (by decide))
        · exact (gr.trans (.same gr.tab sm)).put np hp2 fun _ z => by cases z
        · rw [upd_same, beg_next hc, wordsV_app]
    · obtain ⟨y4, rfl, gr, hp⟩ := hW
      rw [beg_all] at hp
      exact ⟨.ref p, rfl, q p H2 gr np hp⟩
end
end Tc
namespace Tc
open PySem PySem.Spec PyProof.Rows L2 TcG
section
variable {P : Program} {w : World} {K : PySem.W.Frag} {mg : Str → Option Value} {base : Heap}
def sp_more (K : PySem.W.Frag) (S : List Addr) : Sp := fun vs H Q _ => ∃ (al d : Addr) (a ls : List Nat) (ps : List (List Nat)) (r : TcG.Row), vs = [.ref al, .ref d] ∧ Alpha K H al ls ps ∧ H d = some (.dK (rowK r)) ∧ Within a r ∧ (∀ c ∈ a, c ∈ ls) ∧ ls.length ≤ 50 ∧ a.length ≤ 16 ∧ Tabs S H ∧
  ∀ (p : Addr) (H' : Hp), Gr S H H' → H p = none → H' p = some (.dK (rowK (moreM ps r))) → Q (.ref p) H'
theorem ok_more {f fO : Addr} {fd fdO : FuncData} {S : List Addr} (F : Fun K "one_more_off" "one_more_off" s_one_more_off f fd) (T : FirstsAt K mg base S) (FO : Fun K "first_off" "first_off" s_first_off fO fdO) (gO : mg "first_off" = some (.ref fO)) :
    FnOk P w K mg base CX0 5 f fd ["alphabet", "row"] (sp_more K S) := by
  have GF := T.ok (P := P) (w := w)
  have bF := T.binds
  have RO : OffRun P w K mg base 1 fO := ok_off FO
  refine F.ok sc_one_more_off (fun vs H Q E h => ?_) (fun cdv A outer s H vs Q E hr h => ?_)
  · obtain ⟨al, d, a, ls, ps, r, rfl, _⟩ := h
    rfl
  · obtain ⟨al, d, a, ls, ps, r, rfl, ah, hd, wi, ia, sl, small, tabs, q⟩ := h
    have nd := sc_one_more_off.nd
    refine ⟨_, pss_setT (i := 2) nd rfl rfl pe_dnewK
      (psst_cons (pst_lock (pst_forT PassesOwn.never rfl (pi_items (pv 1)) (pg_tup rfl (pgs_cons (pg_name (i := 3) nd rfl (.inl rfl)) (pgs_cons (pg_name (i := 4) nd rfl (.inl rfl)) pgs_nil)))
        (psst_cons (pst_forF PassesOwn.never rfl (pe_call GF hr (by rfl) T.g T.F.kp bF .nil pass0 (pa_cons (pv 0) (pa_cons (pv 3) pa_nil))) (i := 5) nd rfl (.inl rfl)
          (pssf_off (ia := 3) (ix := 5) (iy := 6) RO (hr.mono (by decide)) (by rfl) gO FO.kp nd rfl (.inl rfl) rfl (.inl rfl) rfl (.inl rfl)
            (pss_one (ps_dput (hu_of hr) (pv 2) (pv 6) (pe_op op_add (pe_dget2 (hu_of hr) (pv 2) (pv 6) pe_int ⟨by rfl, by rfl, by rfl, by rfl⟩) (pv 4)) rfl)))) (PSsT.of pss_nil))))
      (PSsT.of (pss_one (ps_ret (pv 2))))), ?_⟩
    intro f nf
    have fd : f ≠ d := fun z => by rw [z, hd] at nf; cases nf
    have hd1 : (upd H f (.dK [])) d = some (.dK (rowK r)) := by rw [upd_ne (Ne.symm fd)]; exact hd
    refine ⟨d, .dK (rowK r), hd1, trivial, fun od => ?_⟩
    have notT : ∀ p ∈ [d], ∀ u, Rd H p u → ∀ ys, u ≠ .tup ys := fun p hp u r ys z => by
      rw [List.mem_singleton.mp hp] at r
      have := rd_of hd (fun _ _ z => by cases z) r
      rw [this] at z
      cases z
    have alpha : ∀ {H' : Hp}, Kp [d] H H' → Alpha K H' al ls ps := fun k => by
      obtain ⟨pt, h1, h2⟩ := ah
      exact ⟨pt, k.seqT h1 notT, k.seqT h2 notT⟩
    have tabs0 : Tabs S (upd (upd H f (.dK [])) d (.frz od (.dK (rowK r)))) := (tabs.new nf).put fun ps z => by rw [hd1] at z; cases z
    have keep0 : Kp [d] H (upd (upd H f (.dK [])) d (.frz od (.dK (rowK r)))) := fun b o n t e => by
      rw [upd_ne (fun z => n (by rw [z]; exact List.mem_cons_self)), upd_ne (ne_of_none e nf)]
      exact e
    refine ⟨.ref d, rfl, d, od, rowK r, rfl, upd_same, for_it (walk_items (d := d) (o := od) (kvs := rowK r)) (fun i σ H' => ∃ y3 y4 y5 y6, σ = [some (.ref al), some (.ref d), some (.ref f), y3, y4, y5, y6] ∧ Kp [d] H H' ∧ Tabs S H' ∧ H' d = some (.frz od (.dK (rowK r))) ∧ H' f = some (.dK (rowK ((r.take i).foldl (stepR ps) []))) ∧ Within a ((r.take i).foldl (stepR ps) []) ∧ ∀ a, H' a = none → H a = none)
      ⟨none, none, none, none, rfl, keep0, tabs0, upd_same, by rw [upd_ne fd]; exact upd_same, (fun v hv => by cases hv), there_put (there_put fun _ h => h)⟩ (fun i σ H' _ hW => ?_) (fun i x σ H1 H2 hi hW hY => ?_) (fun σ H1 hW => ?_)⟩
    · obtain ⟨_, _, _, _, _, _, _, h, _⟩ := hW
      exact h
    · obtain ⟨y3, y4, y5, y6, rfl, kp, tb, hfr, hf, wf, th⟩ := hW
      obtain ⟨T1, x1, x2, rfl, nT, rfl, e1, e2⟩ := hY
      rw [rowK_len] at hi
      have hri : r[i]? = some r[i] := List.getElem?_eq_getElem hi
      have e0 : (rowK r)[i]? = some (Sum.inr (tx r[i].1), V.int r[i].2) := by unfold rowK; rw [List.getElem?_map, hri]; rfl
      have e1 : (rowK r)[i]?.map (fun kv => kV kv.1) = some x1 := e1
      have e2 : (rowK r)[i]?.map Prod.snd = some x2 := e2
      rw [e0] at e1 e2
      cases e1
      cases e2
      generalize r[i] = p at hri
      have hleft : p.1.Sublist a := wi p.1 (List.mem_map.mpr ⟨p, List.mem_of_getElem? hri, rfl⟩)
      have il : ∀ c ∈ p.1, c ∈ ls := fun c hc => ia c (hleft.subset hc)
      have ll : p.1.length ≤ 16 := Nat.le_trans hleft.length_le small
      have s2 : Same H1 (upd H1 T1 (.tup [.str (tx p.1), .int p.2])) := same_new nT
      have kp2 := kp.trans (.same s2)
      refine ⟨T1, [.str (tx p.1), .int p.2], rfl, SqT.of upd_same, rfl, _, _, rfl, _, _, rfl, rfl, ?_⟩
      refine ⟨.ref al, rfl, .str (tx p.1), rfl, al, p.1, ls, ps, rfl, alpha kp2, il, sl, tb.same s2, fun H3 g3 => ⟨tx (firstsM ps p.1), rfl, for_text (fun j σ H' => ∃ y5 y6, σ = [some (.ref al), some (.ref d), some (.ref f), some (.str (tx p.1)), some (.int p.2), y5, y6] ∧ Kp [d] H H' ∧ Tabs S H' ∧ H' d = some (.frz od (.dK (rowK r))) ∧
        H' f = some (.dK (rowK (((firstsM ps p.1).take j).foldl (fun acc c => addTo acc (p.1.erase c) p.2) ((r.take i).foldl (stepR ps) [])))) ∧ Within a (((firstsM ps p.1).take j).foldl (fun acc c => addTo acc (p.1.erase c) p.2) ((r.take i).foldl (stepR ps) [])) ∧ ∀ a, H' a = none → H a = none)
        ⟨_, _, rfl, kp2.trans (g3.keep.wide fun _ z => nomatch z), g3.tab, g3.frz (s2 _ _ hfr), g3.dK (s2 _ _ hf), wf, fun b h => th b (there_same s2 b (g3.there b h))⟩ (fun j c σ H4 hc hV => ?_) (fun σ H4 hV => ?_)⟩⟩
      · obtain ⟨y5, y6, rfl, kp4, tb4, hfr4, hf4, wf4, th4⟩ := hV
        have lc : Lead ps p.1 c := mem_firsts.mp (List.mem_of_getElem? hc)
        have nodup4 : (keysR (((firstsM ps p.1).take j).foldl (fun acc c => addTo acc (p.1.erase c) p.2) ((r.take i).foldl (stepR ps) []))).Nodup := fold_nodup (fun c => (p.1.erase c, p.2)) ((firstsM ps p.1).take j) _ (foldl_step_nodup ps (r.take i) [] List.nodup_nil)
        refine ⟨p.1, c, rfl, rfl, lead_mem lc, by omega, ?_⟩
        refine ⟨.ref f, rfl, f, rfl, .inl ⟨_, .inl hf4⟩, .str (tx (p.1.erase c)), rfl, _, DGet.k (k := Sum.inr (tx (p.1.erase c))) hf4, .int p.2, rfl, (((getR (((firstsM ps p.1).take j).foldl (fun acc c => addTo acc (p.1.erase c) p.2) ((r.take i).foldl (stepR ps) [])) (p.1.erase c)).getD 0 : Nat) : Int), p.2, ?_, rfl, ?_⟩
        · rw [rowK_get]
          cases getR (((firstsM ps p.1).take j).foldl (fun acc c => addTo acc (p.1.erase c) p.2) ((r.take i).foldl (stepR ps) [])) (p.1.erase c) <;> rfl
        · refine ⟨.ref f, rfl, .str (tx (p.1.erase c)), rfl, f, _, rfl, DPut.k (k := Sum.inr (tx (p.1.erase c))) hf4 (by rw [rowK_len]; exact within_small nodup4 wf4 small), _, _, rfl, ?_, ?_, ?_, ?_, ?_, there_put th4⟩
          · exact kp4.put nf
          · exact tb4.put fun ps z => by rw [hf4] at z; cases z
          · rw [upd_ne (Ne.symm fd)]
            exact hfr4
          · rw [upd_same, take_next hc, List.foldl_append]
            exact congrArg (fun z => some (HO.dK z)) (rowK_put nodup4)
          · rw [take_next hc, List.foldl_append]
            exact within_add wf4 ((List.erase_sublist ..).trans hleft)
      · obtain ⟨y5, y6, rfl, kp4, tb4, hfr4, hf4, wf4, th4⟩ := hV
        rw [List.take_length] at hf4 wf4
        refine ⟨_, _, _, _, rfl, kp4, tb4, hfr4, ?_, ?_, th4⟩
        · rw [take_next hri, List.foldl_append]
          exact hf4
        · rw [take_next hri, List.foldl_append]
          exact wf4
    · obtain ⟨y3, y4, y5, y6, rfl, kp, tb, hfr, hf, wf, th⟩ := hW
      rw [rowK_len, List.take_length] at hf
      refine ⟨hfr, .ref f, rfl, q f _ ⟨tb.put (fun ps z => by rw [hfr] at z; cases z), fun b o _ t e => ?_, there_put th⟩ nf (by rw [upd_ne fd]; exact hf)⟩
      by_cases hb : b = d
      · rw [hb, upd_same, ← hd, ← hb]
        exact e
      · rw [upd_ne hb]
        exact kp b o (fun z => hb (List.mem_singleton.mp z)) t e
/-! ways_off -/
def sp_ways (K : PySem.W.Frag) (S : List Addr) : Sp := fun vs H Q _ => ∃ (al : Addr) (a ls : List Nat) (ps : List (List Nat)), vs = [.ref al, .str (tx a)] ∧ Alpha K H al ls ps ∧ (∀ c ∈ a, c ∈ ls) ∧ ls.length ≤ 50 ∧ a.length ≤ 16 ∧ Tabs S H ∧
  ∀ (p : Addr) (dl : List Addr) (H' : Hp), Gr S H H' → H p = none → H' p = some (.lst (dl.map V.ref)) → dl.length = a.length + 1 → (∀ (k : Nat) (d : Addr), dl[k]? = some d → H d = none ∧ H' d = some (.dK (rowK (rowsM ps a k)))) → Q (.ref p) H'
theorem ok_ways {f fM fO : Addr} {fd fdM fdO : FuncData} {S : List Addr} (F : Fun K "ways_off" "ways_off" s_ways_off f fd) (FM : Fun K "one_more_off" "one_more_off" s_one_more_off fM fdM) (gM : mg "one_more_off" = some (.ref fM)) (T : FirstsAt K mg base S) (FO : Fun K "first_off" "first_off" s_first_off fO fdO) (gO : mg "first_off" = some (.ref fO)) :
    FnOk P w K mg base CX0 6 f fd ["alphabet", "word"] (sp_ways K S) := by
  have GM : FnOk P w K mg base CX0 5 fM fdM ["alphabet", "row"] (sp_more K S) := ok_more FM T FO gO
  have bM : Binds K fdM ["alphabet", "row"] [] := FM.binds fun _ _ _ _ _ _ us hl => match us, hl with | [_, _], _ => rfl
  refine F.ok sc_ways_off (fun vs H Q E h => ?_) (fun cdv A outer s H vs Q E hr h => ?_)
  · obtain ⟨al, a, ls, ps, rfl, _⟩ := h
    rfl
  · obtain ⟨al, a, ls, ps, rfl, ah, ia, sl, small, tabs, q⟩ := h
    have nd := sc_ways_off.nd
    refine ⟨_, pss_cons (ps_set (i := 2) nd rfl (.inl rfl) (pe_lst (pa_cons (pe_disp (pps_cons (pv 1) pe_int pps_nil) (by rfl) (by rfl) (fun z => by cases z) (by decide)) pa_nil)))
      (pss_cons (ps_for PassesOwn.never rfl (pi_str (pv 1)) (pg_name (i := 3) nd rfl (.inl rfl))
        (pss_one (ps_expr (pe_bm PySem.F.plainAttrs_list PySem.F.slot_list_append PySem.F.type_list_append mt_append (pv 2)
          (pa_cons (pe_call GM hr (by rfl) gM FM.kp bM .nil pass0 (pa_cons (pv 0) (pa_cons (pe_ix ix_list (pv 2) (pe_un un_neg pe_int) (fun _ _ => rfl)) pa_nil))) pa_nil)))))
      (pss_one (ps_ret (pv 2)))), ?_⟩
    intro d0 n0
    refine ⟨.str (tx a), rfl, upd_same, [(Sum.inr (tx a), .int 1)], rfl, by show 1 ≤ 15; decide, by show 1 ≤ sizeLine; decide, fun p np => ?_⟩
    have e0 : mergeK [] [((Sum.inr (tx a) : Key), V.int 1)] = rowK (rowsM ps a 0) := rfl
    rw [e0] at np ⊢
    have pd : p ≠ d0 := fun z => by rw [z, upd_same] at np; cases np
    have npH : H p = none := by rw [upd_ne pd, upd_ne pd] at np; exact np
    have g0 : Gr S H (upd (upd (upd H d0 (.dK [])) d0 (.dK (rowK (rowsM ps a 0)))) p (.lst [.ref d0])) := by
      refine ⟨?_, fun b o _ t e => ?_, there_put (there_put (there_put fun _ h => h))⟩
      · refine Tabs.put (Tabs.put (tabs.new n0) fun ps z => by rw [upd_same] at z; cases z) fun ps z => ?_
        rw [np] at z
        cases z
      · rw [upd_ne (ne_of_none e npH), upd_ne (ne_of_none e n0), upd_ne (ne_of_none e n0)]
        exact e
    refine ⟨.str (tx a), rfl, tx a, rfl, for_text (fun i σ H' => ∃ (dl : List Addr) (y3 : Option V), σ = [some (.ref al), some (.str (tx a)), some (.ref p), y3] ∧ Gr S H H' ∧ H' p = some (.lst (dl.map V.ref)) ∧ dl.length = i + 1 ∧ ∀ (k : Nat) (d : Addr), dl[k]? = some d → H d = none ∧ H' d = some (.dK (rowK (rowsM ps a k))))
      ⟨[d0], none, rfl, g0, upd_same, rfl, fun k d hk => ?_⟩ (fun i c σ H1 hc hW => ?_) (fun σ H1 hW => ?_)⟩
    · cases k with
      | zero =>
        have e : d0 = d := Option.some.inj hk
        subst e
        refine ⟨n0, ?_⟩
        rw [upd_ne (Ne.symm pd), upd_same]
      | succ k => cases hk
    · obtain ⟨dl, y3, rfl, gr, hp, hl, hd⟩ := hW
      have lt := (List.getElem?_eq_some_iff.mp hc).1
      have hli : i < dl.length := by omega
      obtain ⟨nd1, hd1⟩ := hd i dl[i] (List.getElem?_eq_getElem hli)
      have last : dl.map V.ref = (dl.map V.ref).dropLast ++ [V.ref dl[i]] := by
        have ne : dl.map V.ref ≠ [] := fun z => by
          have := congrArg List.length z
          rw [List.length_map] at this
          simp at this
          rw [this] at hl
          cases hl
        have h1 := (List.dropLast_concat_getLast ne).symm
        have h2 : (dl.map V.ref).getLast ne = V.ref dl[i] := by
          rw [List.getLast_eq_getElem]
          simp [hl]
        rw [h2] at h1
        exact h1
      obtain ⟨_, wi, _⟩ := rows_facts ps a i
      refine ⟨.ref p, rfl, .inl ⟨rfl, _, SqL.of hp⟩, .ref al, rfl, .ref p, rfl, 1, rfl, p, dl.map V.ref, -1, .ref dl[i], rfl, rfl, SqL.of hp, by rw [last]; exact atI_last _ _, ?_⟩
      refine ⟨al, dl[i], a, ls, ps, rowsM ps a i, rfl, ah.gr gr, hd1, wi, ia, sl, small, gr.tab, fun d2 H2 g2 n2 h2 => ?_⟩
      have hp2 := g2.lst hp
      have g3 := gr.trans g2
      refine ⟨p, _, _, rfl, rfl, hp2, ?_, dl ++ [d2], _, rfl, g3.put npH hp2 (fun _ z => by cases z), ?_, ?_, fun k d hk => ?_⟩
      · rw [List.length_map]
        exact small_line (by omega)
      · rw [upd_same, List.map_append]
        rfl
      · rw [List.length_append, List.length_singleton, hl]
      · have apart : ∀ {e : Addr} {r : TcG.Row}, H2 e = some (.dK (rowK r)) → e ≠ p := fun he z => by rw [z, hp2] at he; cases he
        by_cases hk2 : k < dl.length
        · rw [List.getElem?_append_left hk2] at hk
          obtain ⟨h1, h3⟩ := hd k d hk
          have h4 := g2.dK h3
          exact ⟨h1, by rw [upd_ne (apart h4)]; exact h4⟩
        · rw [List.getElem?_append_right (by omega)] at hk
          have ek : k - dl.length = 0 := by
            rcases Nat.eq_zero_or_pos (k - dl.length) with z | z
            · exact z
            · rw [List.getElem?_eq_none (by rw [List.length_singleton]; omega)] at hk
              cases hk
          rw [ek] at hk
          have e : d2 = d := Option.some.inj hk
          subst e
          have ki : k = i + 1 := by omega
          subst ki
          have hn : H d2 = none := gr.there _ n2
          exact ⟨hn, by rw [upd_ne (apart h2)]; exact h2⟩
    · obtain ⟨dl, y3, rfl, gr, hp, hl, hd⟩ := hW
      exact ⟨.ref p, rfl, q p dl H1 gr npH hp hl hd⟩
end
end Tc
namespace Tc
open PySem PySem.Spec PyProof.Rows L2 TcG
section
variable {P : Program} {w : World} {K : PySem.W.Frag} {mg : Str → Option Value} {base : Heap}
def sp_words (K : PySem.W.Frag) (S : List Addr) : Sp := fun vs H Q _ => ∃ (al : Addr) (a ls : List Nat) (ps : List (List Nat)), vs = [.ref al, .str (tx a)] ∧ Alpha K H al ls ps ∧ (∀ c ∈ a, c ∈ ls) ∧ ls.length ≤ 50 ∧ a.length ≤ 10 ∧ Tabs S H ∧
  ∀ (p : Addr) (H' : Hp), Gr S H H' → H p = none → H' p = some (.tup (wordsV (allM ps a.length a))) → Q (.ref p) H'
/-- the words of what stands in the rows, up to i letters and what else is asked -/
def EndsTo (ps : List (List Nat)) (a : List Nat) (ed : Addr) (m : Nat) (G : List Nat → Prop) (H : Hp) : Prop := ∃ kvs, H ed = some (.dK kvs) ∧ kvs.length ≤ m ∧ ∀ v, G v → ∃ l, valV kvs (Sum.inr (tx v)) = some (.ref l) ∧ H l = some (.lst (wordsV (allM ps v.length v)))
theorem EndsTo.gr {S : List Addr} {ps : List (List Nat)} {m : Nat} {a : List Nat} {ed : Addr} {G : List Nat → Prop} {H H' : Hp} (h : EndsTo ps a ed m G H) (g : Gr S H H') : EndsTo ps a ed m G H' := by
  obtain ⟨kvs, h1, h2, h3⟩ := h
  refine ⟨kvs, g.dK h1, h2, fun v hv => ?_⟩
  obtain ⟨l, e, hl⟩ := h3 v hv
  exact ⟨l, e, g.lst hl⟩
/-- another thing is written -/
theorem EndsTo.off {ps : List (List Nat)} {m : Nat} {a : List Nat} {ed d : Addr} {o : HO} {G : List Nat → Prop} {H : Hp} (h : EndsTo ps a ed m G H) (ne : d ≠ ed) (hd : ∀ ys, H d ≠ some (.lst ys)) : EndsTo ps a ed m G (upd H d o) := by
  obtain ⟨kvs, h1, h2, h3⟩ := h
  refine ⟨kvs, by rw [upd_ne (Ne.symm ne)]; exact h1, h2, fun v hv => ?_⟩
  obtain ⟨l, e, hl⟩ := h3 v hv
  exact ⟨l, e, by rw [upd_ne fun z => hd _ (by rw [← z]; exact hl)]; exact hl⟩
theorem EndsTo.put {ps : List (List Nat)} {m : Nat} {a v : List Nat} {ed p : Addr} {G : List Nat → Prop} {H : Hp} {kvs : List (Key × V)} (h1 : H ed = some (.dK kvs)) (h2 : kvs.length ≤ m) (h3 : ∀ v, G v → ∃ l, valV kvs (Sum.inr (tx v)) = some (.ref l) ∧ H l = some (.lst (wordsV (allM ps v.length v))))
    (hp : H p = some (.lst (wordsV (allM ps v.length v)))) : EndsTo ps a ed (m + 1) (fun u => G u ∨ u = v) (upd H ed (.dK (putK kvs (Sum.inr (tx v)) (.ref p)))) := by
  have off : ∀ {l : Addr} {ys : List V}, H l = some (.lst ys) → upd H ed (.dK (putK kvs (Sum.inr (tx v)) (.ref p))) l = some (.lst ys) := fun {l ys} hl => by
    rw [upd_ne fun z => by rw [z, h1] at hl; cases hl]
    exact hl
  refine ⟨_, upd_same, Nat.le_trans (length_putK ..) (Nat.succ_le_succ h2), fun u hu => ?_⟩
  rw [valV_put]
  by_cases e : u = v
  · subst e
    rw [if_pos rfl]
    exact ⟨p, rfl, off hp⟩
  · rw [if_neg fun z => e (tx_inj (Sum.inr.inj z))]
    rcases hu with hu | hu
    · obtain ⟨l, el, hl⟩ := h3 u hu
      exact ⟨l, el, off hl⟩
    · exact absurd hu e
theorem EndsTo.weak {ps : List (List Nat)} {m m' : Nat} {a : List Nat} {ed : Addr} {G G' : List Nat → Prop} {H : Hp} (h : EndsTo ps a ed m G H) (hm : m ≤ m') (hg : ∀ v, G' v → G v) : EndsTo ps a ed m' G' H := by
  obtain ⟨kvs, h1, h2, h3⟩ := h
  exact ⟨kvs, h1, Nat.le_trans h2 hm, fun v hv => h3 v (hg v hv)⟩
theorem cutV_last (xs : List V) : cutV xs none (some (-1)) = xs.dropLast := by
  unfold cutV
  have e : HT.sIx xs.length xs.length (some (-1)) = xs.length - 1 := by
    unfold HT.sIx
    simp only [show ((-1 : Int) < 0) = True from by simp, if_true]
    omega
  rw [HT.sIx_none, List.drop_zero, Nat.sub_zero, List.dropLast_eq_take, e]
theorem ok_words {f fW fM fR fO : Addr} {fd fdW fdM fdR fdO : FuncData} {S : List Addr} (F : Fun K "words_of" "words_of" s_words_of f fd) (FW : Fun K "words_from" "words_from" s_words_from fW fdW) (gW : mg "words_from" = some (.ref fW)) (FR : Fun K "ways_off" "ways_off" s_ways_off fR fdR) (gR : mg "ways_off" = some (.ref fR))
    (FM : Fun K "one_more_off" "one_more_off" s_one_more_off fM fdM) (gM : mg "one_more_off" = some (.ref fM)) (T : FirstsAt K mg base S) (FO : Fun K "first_off" "first_off" s_first_off fO fdO) (gO : mg "first_off" = some (.ref fO)) (mr : mg "reversed" = none) (mt : mg "tuple" = none) :
    FnOk P w K mg base CX0 7 f fd ["alphabet", "word"] (sp_words K S) := by
  have GW : FnOk P w K mg base CX0 5 fW fdW ["alphabet", "left", "endings"] (sp_from K S) := ok_from FW T FO gO
  have bW : Binds K fdW ["alphabet", "left", "endings"] [] := FW.binds fun _ _ _ _ _ _ us hl => match us, hl with | [_, _, _], _ => rfl
  have GR : FnOk P w K mg base CX0 6 fR fdR ["alphabet", "word"] (sp_ways K S) := ok_ways FR FM gM T FO gO
  have bR : Binds K fdR ["alphabet", "word"] [] := FR.binds fun _ _ _ _ _ _ us hl => match us, hl with | [_, _], _ => rfl
  refine F.ok sc_words_of (fun vs H Q E h => ?_) (fun cdv A outer s H vs Q E hr h => ?_)
  · obtain ⟨al, a, ls, ps, rfl, _⟩ := h
    rfl
  · obtain ⟨al, a, ls, ps, rfl, ah, ia, sl, small, tabs, q⟩ := h
    have nd := sc_words_of.nd
    refine ⟨_, pss_cons (ps_set (i := 2) nd rfl (.inl rfl) (pe_disp (pps_cons pe_str (pe_lst (pa_cons pe_str pa_nil)) pps_nil) (by rfl) (by rfl) (fun z => by cases z) (by decide)))
      (pss_cons (ps_for PassesOwn.never rfl (pi_reversed (by rfl) mr (pa_cons (pe_slice sl_list (pe_call GR hr (by rfl) gR FR.kp bR .nil pass0 (pa_cons (pv 0) (pa_cons (pv 1) pa_nil))) po_none (po_some (pe_un un_neg pe_int))) pa_nil)) (pg_name (i := 3) nd rfl (.inl rfl))
        (pss_one (ps_lock (ps_for PassesOwn.never rfl (pi_keys (pv 3)) (pg_name (i := 4) nd rfl (.inl rfl))
          (pss_one (ps_dput (hu_of hr) (pv 2) (pv 4) (pe_call GW (hr.mono (by decide)) (by rfl) gW FW.kp bW .nil pass0 (pa_cons (pv 0) (pa_cons (pv 4) (pa_cons (pv 2) pa_nil)))) rfl))))))
      (pss_one (ps_ret (pe_callTy call_tuple_of (by rfl) mt (by decide +kernel) (pa_cons (pe_dget (hu_of hr) (pv 2) (pv 1) (fun _ _ => rfl)) pa_nil))))), ?_⟩
    intro ed ne
    refine ⟨by show (1 : Nat) ≤ sizeLine; decide, fun l0 nl0 => ⟨by rw [upd_ne (by rintro rfl; rw [upd_same] at nl0; cases nl0), upd_same], [(Sum.inr (tx []), .ref l0)], rfl, by show 1 ≤ 15; decide, ?_⟩⟩
    generalize hH0 : upd (upd (upd H ed (HO.dK [])) l0 (HO.lst [V.str (Str.ofString "")])) ed (HO.dK (mergeK [] [(Sum.inr (tx []), V.ref l0)])) = H0
    have l0e : l0 ≠ ed := fun z => by rw [z, upd_same] at nl0; cases nl0
    have nl0H : H l0 = none := by rw [upd_ne l0e] at nl0; exact nl0
    have he0 : H0 ed = some (.dK [(Sum.inr (tx []), V.ref l0)]) := by rw [← hH0]; exact upd_same
    have hl0 : H0 l0 = some (.lst (wordsV [[]])) := by rw [← hH0, upd_ne l0e, upd_same]; rfl
    have g0 : Gr S H H0 := by
      rw [← hH0]
      refine Gr.put (u := .dK []) (((Gr.new tabs ne).trans (.new (tabs.new ne) nl0))) ne ?_ fun _ z => by cases z
      rw [upd_ne (Ne.symm l0e), upd_same]
    refine ⟨.ref al, rfl, .str (tx a), rfl, al, a, ls, ps, rfl, ah.gr g0, ia, sl, by omega, g0.tab, fun p dl H1 g1 np hp hl hd => ?_⟩
    refine ⟨1, rfl, -1, rfl, p, dl.map V.ref, rfl, SqL.of hp, fun q' nq => ?_⟩
    rw [cutV_last]
    generalize hxs : (dl.map V.ref).dropLast = xs
    have xl : xs.length = a.length := by rw [← hxs, List.length_dropLast, List.length_map, hl]; rfl
    have hx : ∀ {j : Nat} {x : V}, xs[j]? = some x → ∃ d, dl[j]? = some d ∧ x = .ref d := fun {j x} h => by
      have lt := (List.getElem?_eq_some_iff.mp h).1
      rw [← hxs, List.getElem?_dropLast] at h
      rw [if_pos (by rw [List.length_map, hl]; omega), List.getElem?_map] at h
      cases e : dl[j]? with
      | none =>
        rw [e] at h
        cases h
      | some d =>
        rw [e] at h
        exact ⟨d, rfl, (Option.some.inj h).symm⟩
    have ned : ∀ {k : Nat} {d : Addr}, dl[k]? = some d → d ≠ ed := fun {k d} h z => by
      have := (hd k d h).1
      rw [z, he0] at this
      cases this
    have newd : ∀ {k : Nat} {d : Addr}, dl[k]? = some d → H d = none := fun {k d} h => g0.there _ (hd k d h).1
    have neq : ∀ {k : Nat} {d : Addr}, dl[k]? = some d → d ≠ q' := fun {k d} h z => by
      have := (hd k d h).2
      rw [z, nq] at this
      cases this
    have qe : q' ≠ ed := fun z => by
      have := g1.dK he0
      rw [← z, nq] at this
      cases this
    have g2 : Gr S H (upd H1 q' (.lst xs)) := (g0.trans g1).trans (.new g1.tab nq)
    refine ⟨q', xs, rfl, SqL.of upd_same, for_it walk_rev (fun i σ H' => ∃ y3 y4, σ = [some (.ref al), some (.str (tx a)), some (.ref ed), y3, y4] ∧ Gr S H H' ∧ H' q' = some (.lst xs) ∧ (∀ k d, dl[k]? = some d → H' d = some (.dK (rowK (rowsM ps a k)))) ∧ EndsTo ps a ed (1 + i * 1024) (fun v => (∃ k, v ∈ keysR (rowsM ps a k)) ∧ v.length ≤ i) H')
      ⟨none, none, rfl, g2, upd_same, fun k d h => by rw [upd_ne (neq h)]; exact (hd k d h).2, ?_⟩ (fun i σ H' _ hW => ?_) (fun i x σ H3 H3' hi hW hY => ?_) (fun σ H3 hW => ?_)⟩
    · refine ⟨_, by rw [upd_ne (Ne.symm qe)]; exact g1.dK he0, Nat.le_refl _, fun v hv => ?_⟩
      have e : v = [] := List.length_eq_zero_iff.mp (Nat.le_zero.mp hv.2)
      subst e
      refine ⟨l0, valV_pos rfl, ?_⟩
      have h := g1.lst hl0
      rw [upd_ne fun z => by rw [z, nq] at h; cases h]
      exact h
    · obtain ⟨_, _, _, _, h, _⟩ := hW
      exact SqL.of h
    · obtain ⟨y3, y4, rfl, gr, hq, hrow, hE⟩ := hW
      obtain ⟨rfl, hY⟩ := hY
      obtain ⟨d, hk, rfl⟩ := hx hY
      generalize ek : xs.length - 1 - i = k at hk
      obtain ⟨ndr, wi, lens⟩ := rows_facts ps a k
      have hdk := hrow k d hk
      have rlen : (rowsM ps a k).length ≤ 1024 := Nat.le_trans (within_len ndr wi) (Nat.le_trans (Nat.pow_le_pow_right (by decide) small) (by decide))
      refine ⟨d, _, hdk, trivial, fun od => ?_⟩
      have gl : Gr S H (upd H3' d (.frz od (.dK (rowK (rowsM ps a k))))) := gr.put (newd hk) hdk fun _ z => by cases z
      refine ⟨.ref d, rfl, d, od, rfl, .inl ⟨rowK (rowsM ps a k), upd_same, for_it walk_keys (fun j σ H' => ∃ y4, σ = [some (.ref al), some (.str (tx a)), some (.ref ed), some (.ref d), y4] ∧ Gr S H H' ∧ H' q' = some (.lst xs) ∧ (∀ k' d', dl[k']? = some d' → d' ≠ d → H' d' = some (.dK (rowK (rowsM ps a k')))) ∧ H' d = some (.frz od (.dK (rowK (rowsM ps a k)))) ∧
          EndsTo ps a ed (1 + i * 1024 + j) (fun v => ((∃ k, v ∈ keysR (rowsM ps a k)) ∧ v.length ≤ i) ∨ v ∈ (keysR (rowsM ps a k)).take j) H')
        ⟨y4, rfl, gl, by rw [upd_ne (Ne.symm (neq hk))]; exact hq, fun k' d' h' n' => by rw [upd_ne n']; exact hrow k' d' h', upd_same, (hE.off (ned hk) fun ys z => by rw [hdk] at z; cases z).weak (Nat.le_refl _) fun v hv => ?_⟩ (fun j σ H' _ hW => ?_) (fun j x σ H4 H4' hj hW hY2 => ?_) (fun σ H4 hW => ?_)⟩⟩
      · rcases hv with hv | hv
        · exact hv
        · rw [List.take_zero] at hv
          cases hv
      · obtain ⟨_, _, _, _, _, h, _⟩ := hW
        exact h
      · obtain ⟨y4', rfl, gr4, hq4, hrow4, hfr, hE4⟩ := hW
        obtain ⟨rfl, kk, vv, hkk, rfl⟩ := hY2
        rw [rowK_len] at hj
        have hrj : (rowsM ps a k)[j]? = some (rowsM ps a k)[j] := List.getElem?_eq_getElem hj
        have e0 : (rowK (rowsM ps a k))[j]? = some (Sum.inr (tx (rowsM ps a k)[j].1), V.int (rowsM ps a k)[j].2) := by unfold rowK; rw [List.getElem?_map, hrj]; rfl
        rw [e0] at hkk
        cases hkk
        have hkj : (keysR (rowsM ps a k))[j]? = some (rowsM ps a k)[j].1 := by unfold keysR; rw [List.getElem?_map, hrj]; rfl
        generalize (rowsM ps a k)[j].1 = left at hkj
        have hmem := List.mem_of_getElem? hkj
        have ll : left.length = i + 1 := by
          have := lens left hmem
          omega
        have il : ∀ c ∈ left, c ∈ ls := fun c hc => ia c ((wi left hmem).subset hc)
        obtain ⟨kvs, hed, hkl, hw⟩ := hE4
        have i9 : i < 10 := by omega
        refine ⟨.ref al, rfl, .str (tx left), rfl, .ref ed, rfl, al, ed, left, ls, ps, i, rfl, ah.gr gr4, il, sl, ll, i9, gr4.tab, ⟨kvs, hed, fun c lc => ?_⟩, fun p2 H5 g5 np2 hp2 => ?_⟩
        · have el := erase_len (lead_mem lc) ll
          obtain ⟨l, h1, h2⟩ := hw (left.erase c) (.inl ⟨⟨k + 1, more_mem.mpr ⟨left, hmem, c, lc, rfl⟩⟩, Nat.le_of_eq el⟩)
          rw [el] at h2
          exact ⟨l, h1, h2⟩
        · have hed5 := g5.dK hed
          have gr5 := gr4.trans g5
          refine ⟨.ref ed, rfl, .str (tx left), rfl, ed, _, rfl, DPut.k (k := Sum.inr (tx left)) hed5 (small_line (by omega)), _, rfl, gr5.put ne hed5 (fun _ z => by cases z), ?_, fun k' d' h' n' => ?_, ?_, ?_⟩
          · rw [upd_ne qe]
            exact g5.lst hq4
          · rw [upd_ne (ned h')]
            exact g5.dK (hrow4 k' d' h' n')
          · rw [upd_ne (ned hk)]
            exact g5.frz hfr
          · have hw5 : ∀ v, (((∃ k, v ∈ keysR (rowsM ps a k)) ∧ v.length ≤ i) ∨ v ∈ (keysR (rowsM ps a k)).take j) → ∃ l, valV kvs (Sum.inr (tx v)) = some (.ref l) ∧ H5 l = some (.lst (wordsV (allM ps v.length v))) := fun v hv => by
              obtain ⟨l, h1, h2⟩ := hw v hv
              exact ⟨l, h1, g5.lst h2⟩
            refine (EndsTo.put hed5 hkl hw5 (by rw [ll]; exact hp2)).weak (Nat.le_refl _) fun v hv => ?_
            rcases hv with hv | hv
            · exact .inl (.inl hv)
            · rw [take_next hkj] at hv
              rcases List.mem_append.mp hv with hv | hv
              · exact .inl (.inr hv)
              · exact .inr (List.mem_singleton.mp hv)
      · obtain ⟨y4', rfl, gr4, hq4, hrow4, hfr, hE4⟩ := hW
        rw [rowK_len] at hE4
        refine ⟨hfr, _, _, rfl, gr4.put (newd hk) hfr (fun _ z => by cases z), ?_, fun k' d' h' => ?_, (hE4.off (ned hk) fun ys z => by rw [hfr] at z; cases z).weak (by omega) fun v hv => ?_⟩
        · rw [upd_ne (Ne.symm (neq hk))]
          exact hq4
        · by_cases e : d' = d
          · subst e
            rw [upd_same, ← hdk]
            exact hrow k' d' h'
          · rw [upd_ne e]
            exact hrow4 k' d' h' e
        · obtain ⟨⟨k', hk'⟩, hv⟩ := hv
          by_cases e : v.length ≤ i
          · exact .inl ⟨⟨k', hk'⟩, e⟩
          · right
            have h1 := (rows_facts ps a k').2.2 v hk'
            have : k' = k := by omega
            subst this
            rw [show (rowsM ps a k').length = (keysR (rowsM ps a k')).length from (List.length_map _).symm, List.take_length]
            exact hk'
    · obtain ⟨y3, y4, rfl, gr, hq, hrow, kvs, hed, hkl, hw⟩ := hW
      obtain ⟨l, hv, hl2⟩ := hw a ⟨⟨0, by show a ∈ [a]; simp⟩, by omega⟩
      refine ⟨.ref ed, rfl, .str (tx a), rfl, ed, .ref l, rfl, ?_, l, _, rfl, .inl ⟨SqL.of hl2, fun t nt => q t _ (gr.trans (.new gr.tab nt)) (gr.there t nt) upd_same⟩⟩
      rw [← hv]
      exact DGet.k (k := Sum.inr (tx a)) hed
end
end Tc
namespace Tc
open PySem PySem.Spec PyProof.Rows L2 TcG
section
variable {P : Program} {w : World} {K : PySem.W.Frag} {mg : Str → Option Value} {base : Heap}
theorem ok_greatest {f fT fO : Addr} {fd fdT fdO : FuncData} {S : List Addr} (F : Fun K "greatest" "greatest" s_greatest f fd) (FT : Fun K "taken_in_turn" "taken_in_turn" s_taken_in_turn fT fdT) (gT : mg "taken_in_turn" = some (.ref fT)) (T : FirstsAt K mg base S) (FO : Fun K "first_off" "first_off" s_first_off fO fdO) (gO : mg "first_off" = some (.ref fO)) :
    FnOk P w K mg base CX0 6 f fd ["alphabet", "word"] (sp_least K S true) := by
  have GT : FnOk P w K mg base CX0 5 fT fdT ["alphabet", "word", "which"] (sp_turn K S) := ok_turn FT T FO gO
  have bT : Binds K fdT ["alphabet", "word", "which"] [] := FT.binds fun _ _ _ _ _ _ us hl => match us, hl with | [_, _, _], _ => rfl
  refine F.ok sc_greatest (fun vs H Q E h => ?_) (fun cdv A outer s H vs Q E hr h => ?_)
  · obtain ⟨al, a, ls, ps, rfl, _⟩ := h
    rfl
  · obtain ⟨al, a, ls, ps, rfl, ah, ia, sl, small, tabs, q⟩ := h
    refine ⟨_, pss_one (ps_ret (pe_call GT hr (by rfl) gT FT.kp bT .nil pass0 (pa_cons (pv 0) (pa_cons (pv 1) (pa_cons (pe_un un_neg pe_int) pa_nil))))), ?_⟩
    exact ⟨.ref al, rfl, .str (tx a), rfl, 1, rfl, al, a, ls, ps, true, rfl, ah, ia, sl, small, tabs, q⟩
end
end Tc
namespace Tc
open PySem PySem.Spec PyProof.Rows L2 TcG
section
variable {P : Program} {w : World} {K : PySem.W.Frag} {mg : Str → Option Value} {base : Heap}
theorem ne_lst {H : Hp} {p q : Addr} {o : HO} {xs : List V} (hp : H p = some (.lst xs)) (hq : H q = some o) (h : ∀ ys, o = .lst ys → ys ≠ xs) : p ≠ q := fun e => by
  rw [e, hq] at hp
  cases hp
  exact h _ rfl rfl

/-! _law_alphabet -/
def sp_alphabet (K : PySem.W.Frag) : Sp := fun vs H Q _ => ∃ (b dl : Addr) (m : Int), vs = [.ref b, .int m] ∧ Box K b dl H ∧ 1 ≤ m ∧ m ≤ 6 ∧
  ∀ (a : Addr) (n : Nat) (ps : List (List Nat)) (H' : Hp), (n : Int) ≤ m → Drawn n ps → Mv [b] H H' → Box K b dl H' → Alpha K H' a (alph n) ps → Q (.ref a) H'
theorem ok_alphabet {f fD : Addr} {fd fdD : FuncData} (F : Fun K "_law_alphabet" "_law_alphabet" s_law_alphabet f fd) (FD : Fun K "_law_draw" "_law_draw" s_law_draw fD fdD) (gD : mg "_law_draw" = some (.ref fD))
    (ml : mg "len" = none) (mi : mg "int" = none) (mr : mg "range" = none) (ms : mg "sorted" = none) (mt : mg "tuple" = none) : FnOk P w K mg base CX0 2 f fd ["box", "most"] (sp_alphabet K) := by
  have GD : FnOk P w K mg base CX0 1 fD fdD ["box", "many"] (sp_draw K) := ok_draw FD ml mi
  have bD : Binds K fdD ["box", "many"] [] := FD.binds fun _ _ _ _ _ _ us hl => match us, hl with | [_, _], _ => rfl
  refine F.ok sc_law_alphabet (fun vs H Q E h => ?_) (fun cdv A outer s H vs Q E hr h => ?_)
  · obtain ⟨b, dl, m, rfl, _⟩ := h
    rfl
  · obtain ⟨b, dl, m, rfl, hB, m1, m6, q⟩ := h
    have nd := sc_law_alphabet.nd
    refine ⟨_, pss_cons (ps_set (i := 2) nd rfl (.inl rfl) (pe_slice sl_str pe_str po_none (po_some (pe_op op_add pe_int (pe_call GD hr (by rfl) gD FD.kp bD .nil pass0 (pa_cons (pv 0) (pa_cons (pv 1) pa_nil)))))))
      (pss_cons (ps_set (i := 3) nd rfl (.inl rfl) (pe_lst pa_nil))
      (pss_cons (ps_for PassesOwn.never rfl (pi_range1 (by rfl) mr (pa_cons (pe_callB call_len_str (by rfl) ml PySem.boot_len (pa_cons (pv 2) pa_nil)) pa_nil)) (pg_name (i := 4) nd rfl (.inl rfl))
        (pss_one (ps_for PassesOwn.never rfl (pi_range2 (by rfl) mr (pa_cons (pe_op op_add (pv 4) pe_int) (pa_cons (pe_callB call_len_str (by rfl) ml PySem.boot_len (pa_cons (pv 2) pa_nil)) pa_nil))) (pg_name (i := 5) nd rfl (.inl rfl))
          (pss_one (ps_if (pt_cmpR op_lt (pe_call GD hr (by rfl) gD FD.kp bD .nil pass0 (pa_cons (pv 0) (pa_cons pe_int pa_nil))) pe_int (nomark _))
            (pss_one (ps_expr (pe_bm PySem.F.plainAttrs_list PySem.F.slot_list_append PySem.F.type_list_append mt_append (pv 3)
              (pa_cons (pe_op op_add_str (pe_ix ix_str (pv 2) (pv 4) (fun _ _ => rfl)) (pe_ix ix_str (pv 2) (pv 5) (fun _ _ => rfl))) pa_nil)))) pss_nil)))))
      (pss_one (ps_ret (pe_tup (pa_cons pe_str (pa_cons (pv 2) (pa_cons (pe_callTy call_tuple_of (by rfl) mt (by decide +kernel)
        (pa_cons (pe_callB cr_sortedS (by rfl) ms (by decide +kernel) (pa_cons (pv 3) pa_nil)) pa_nil)) pa_nil)))))))), ?_⟩
    -- letters = 'abcdef'[:1 + r]
    refine ⟨.ref b, rfl, .int m, rfl, b, dl, m, rfl, hB, by omega, fun r H1 r0 rm mv1 hB1 => ⟨1, r, rfl, rfl, 1 + r, rfl, ?_⟩⟩
    obtain ⟨n, en⟩ : ∃ n : Nat, 1 + r = (n : Int) := ⟨(1 + r).toNat, by omega⟩
    have n1 : 1 ≤ n := by omega
    have n6 : n ≤ 6 := by omega
    have nm : (n : Int) ≤ m := by omega
    refine ⟨tx [97, 98, 99, 100, 101, 102], rfl, by show (6 : Nat) ≤ sizeLine; decide, ?_⟩
    rw [en, cut_to]
    -- pairs = []
    refine ⟨Nat.zero_le _, fun p np => ?_⟩
    have len : (tx (alph n)).length = n := by rw [tx_length, alph_len n6]
    have zl : (tx (alph n)).length ≤ sizeLine := by
      rw [len]
      exact small_line (by omega)
    have hp1 : (upd H1 p (.lst [])) p = some (.lst (txs [])) := upd_same
    -- all pairs of places
    refine ⟨.str (tx (alph n)), rfl, tx (alph n), rfl, zl, ((tx (alph n)).length : Int), rfl, by rw [len]; omega, by rw [len]; omega, ?_⟩
    have e1 : (((tx (alph n)).length : Int)).toNat = n := by rw [len]; omega
    rw [e1]
    have step : ∀ i, i < n → (alph n)[i]? = some (97 + i) := fun i hi => alph_at n6 hi
    refine for_range (lo := 0) (n := n) (fun i σ H' => ∃ prs y4 y5, σ = [some (.ref b), some (.int m), some (.str (tx (alph n))), some (.ref p), y4, y5] ∧ Mv [b] H H' ∧ Box K b dl H' ∧ H' p = some (.lst (txs prs)) ∧ prs.Sublist (((alph n).take i).flatMap (pairsWith (alph n))))
      ⟨[], none, none, rfl, mv1.trans (Mv.new np), hB1.same (same_new np), hp1, List.Sublist.refl _⟩ (fun i σ H2 hi hW => ?_) (fun σ H2 hW => ?_)
    · obtain ⟨prs, y4, y5, rfl, mv2, hB2, hp2, sub⟩ := hW
      refine ⟨.int (0 + (i : Int)), rfl, _, 1, rfl, rfl, .str (tx (alph n)), rfl, tx (alph n), rfl, zl, 0 + (i : Int) + 1, ((tx (alph n)).length : Int), rfl, by rw [len]; omega, ?_⟩
      have e2 : (((tx (alph n)).length : Int) - (0 + (i : Int) + 1)).toNat = n - (i + 1) := by rw [len]; omega
      rw [e2]
      refine for_range (lo := 0 + (i : Int) + 1) (n := n - (i + 1)) (fun t σ H' => ∃ prs y5, σ = [some (.ref b), some (.int m), some (.str (tx (alph n))), some (.ref p), some (.int (0 + (i : Int))), y5] ∧ Mv [b] H H' ∧ Box K b dl H' ∧ H' p = some (.lst (txs prs)) ∧
          prs.Sublist (((alph n).take i).flatMap (pairsWith (alph n)) ++ (((alph n).drop (i + 1)).take t).map fun y => [97 + i, y]))
        ⟨prs, y5, rfl, mv2, hB2, hp2, by simpa using sub⟩ (fun t σ H3 ht hV => ?_) (fun σ H3 hV => ?_)
      · obtain ⟨prs, y5, rfl, mv3, hB3, hp3, sub⟩ := hV
        have hd : ((alph n).drop (i + 1))[t]? = some (97 + (i + 1 + t)) := by
          rw [List.getElem?_drop]
          exact step _ (by omega)
        have nx : (((alph n).drop (i + 1)).take (t + 1)).map (fun y => [97 + i, y]) = (((alph n).drop (i + 1)).take t).map (fun y => [97 + i, y]) ++ [[97 + i, 97 + (i + 1 + t)]] := by
          rw [take_next hd, List.map_append]
          rfl
        refine ⟨.ref b, rfl, b, dl, 5, rfl, hB3, by decide, fun r H4 r0 r5 mv4 hB4 => ⟨r, 2, rfl, rfl, _, rfl, ?_⟩⟩
        have hpb : p ≠ b := by
          obtain ⟨ds, nn, hb, _⟩ := hB3
          refine ne_lst hp3 hb fun ys e z => ?_
          cases e
          unfold txs at z
          cases prs with
          | nil => cases z
          | cons x l => cases z
        have hp4 : H4 p = some (.lst (txs prs)) := mv4 p _ (fun z => hpb (List.mem_singleton.mp z)) hp3
        refine ite2 (fun _ => ?_) (fun _ => ?_)
        · refine ⟨.ref p, rfl, .inl ⟨rfl, _, SqL.of hp4⟩, .str (tx (alph n)), rfl, .int (0 + (i : Int)), rfl, tx (alph n), 0 + (i : Int), 97 + i, rfl, rfl, zl, at_eq (z := 0 + (i : Int)) (j := i) (by omega) (step i hi), ?_⟩
          refine ⟨.str (tx (alph n)), rfl, .int (0 + (i : Int) + 1 + (t : Int)), rfl, tx (alph n), 0 + (i : Int) + 1 + (t : Int), 97 + (i + 1 + t), rfl, rfl, zl, at_eq (z := 0 + (i : Int) + 1 + (t : Int)) (j := i + 1 + t) (by omega) (step (i + 1 + t) (by omega)), ?_⟩
          refine ⟨_, _, rfl, rfl, by show (1 + 1 : Nat) ≤ sizeLine; decide, p, _, _, rfl, rfl, hp4, ?_, ?_⟩
          · unfold txs
            rw [List.length_map]
            have h1 := sub.length_le
            rw [List.length_append, List.length_map, List.length_take] at h1
            have h2 := flat_len (alph n) ((alph n).take i)
            rw [alph_len n6, List.length_take, alph_len n6] at h2
            have h3 : min i n * n ≤ 6 * 6 := Nat.mul_le_mul (by omega) n6
            refine Nat.lt_of_le_of_lt (show prs.length ≤ 100 by omega) (by decide)
          · have e3 : (⟨#[97 + i]⟩ : Str) ++ ⟨#[97 + (i + 1 + t)]⟩ = tx [97 + i, 97 + (i + 1 + t)] := tx_append [97 + i] [97 + (i + 1 + t)]
            rw [e3]
            refine ⟨prs ++ [[97 + i, 97 + (i + 1 + t)]], some (.int (0 + (i : Int) + 1 + (t : Int))), rfl, fun a o na e => ?_, ?_, ?_, ?_⟩
            · have e5 := (mv3.trans mv4) a o na e
              have nap : a ≠ p := fun z => by
                rw [z] at e
                have := mv1 p _ (fun y => hpb (List.mem_singleton.mp y)) e
                rw [np] at this
                cases this
              rw [upd_ne nap]
              exact e5
            · exact hB1.put np hB4
            · rw [upd_same]
              unfold txs
              rw [List.map_append]
              rfl
            · rw [nx, ← List.append_assoc]
              exact List.Sublist.append sub (List.Sublist.refl _)
        · refine ⟨prs, some (.int (0 + (i : Int) + 1 + (t : Int))), rfl, mv3.trans mv4, hB4, hp4, ?_⟩
          rw [nx, ← List.append_assoc]
          exact List.Sublist.trans sub (List.sublist_append_left _ _)
      · obtain ⟨prs, y5, rfl, mv3, hB3, hp3, sub⟩ := hV
        refine ⟨prs, _, _, rfl, mv3, hB3, hp3, ?_⟩
        rw [take_next (step i hi), List.flatMap_append]
        have e4 : ((alph n).drop (i + 1)).take (n - (i + 1)) = (alph n).drop (i + 1) := List.take_of_length_le (by rw [List.length_drop, alph_len n6]; exact Nat.le_refl _)
        rw [e4, ← alph_pairs n6 hi] at sub
        simpa using sub
    · obtain ⟨prs, y4, y5, rfl, mv2, hB2, hp2, sub⟩ := hW
      have e5 : (alph n).take n = alph n := List.take_of_length_le (by rw [alph_len n6]; exact Nat.le_refl _)
      rw [e5] at sub
      rw [txs_map] at hp2
      refine ⟨.str (tx (alph n)), rfl, .ref p, rfl, p, prs.map tx, rfl, SqL.of hp2, ?_, fun ys c pm so nc => ?_⟩
      · rw [List.length_map]
        have h1 := sub.length_le
        have h2 := alph_count n6
        exact Nat.lt_of_le_of_lt (Nat.le_trans h1 h2) (by decide)
      · obtain ⟨ps, rfl, dr⟩ := drawn_of n6 n1 sub pm so
        refine ⟨c, _, rfl, .inl ⟨SqL.of upd_same, fun t nt => ⟨by show 3 ≤ sizeLine; decide, fun a na => ?_⟩⟩⟩
        have sm : Same H2 (upd (upd (upd H2 c (.lst ((ps.map tx).map V.str))) t (.tup ((ps.map tx).map V.str))) a (.tup [.str "alphabet", .str (tx (alph n)), .ref t])) := (same_new nc).trans ((same_new nt).trans (same_new na))
        refine q a n ps _ nm dr (mv2.trans (Mv.of_same sm)) (hB2.same sm) ⟨t, SqT.of upd_same, SqT.of ?_⟩
        rw [upd_ne (fun z => by rw [← z, upd_same] at na; cases na), upd_same, txs_map]
end
end Tc
namespace Tc
open PySem PySem.Spec PyProof.Rows L2 TcG
section
variable {P : Program} {w : World} {K : PySem.W.Frag} {mg : Str → Option Value} {base : Heap}
/-! _law_word -/
def sp_word (K : PySem.W.Frag) : Sp := fun vs H Q _ => ∃ (b dl al : Addr) (m : Int) (ls : List Nat) (ps : List (List Nat)), vs = [.ref b, .ref al, .int m] ∧ Box K b dl H ∧ Alpha K H al ls ps ∧ 0 < ls.length ∧ ls.length ≤ 100 ∧ 0 ≤ m ∧ m ≤ 100 ∧
  ∀ (a : List Nat) (H' : Hp), (a.length : Int) ≤ m → (∀ c ∈ a, c ∈ ls) → Mv [b] H H' → Box K b dl H' → Q (.str (tx a)) H'
theorem ok_word {f fD : Addr} {fd fdD : FuncData} (F : Fun K "_law_word" "_law_word" s_law_word f fd) (FD : Fun K "_law_draw" "_law_draw" s_law_draw fD fdD) (gD : mg "_law_draw" = some (.ref fD))
    (ml : mg "len" = none) (mi : mg "int" = none) (mr : mg "range" = none) : FnOk P w K mg base CX0 2 f fd ["box", "alphabet", "most"] (sp_word K) := by
  have GD : FnOk P w K mg base CX0 1 fD fdD ["box", "many"] (sp_draw K) := ok_draw FD ml mi
  have bD : Binds K fdD ["box", "many"] [] := FD.binds fun _ _ _ _ _ _ us hl => match us, hl with | [_, _], _ => rfl
  refine F.ok sc_law_word (fun vs H Q E h => ?_) (fun cdv A outer s H vs Q E hr h => ?_)
  · obtain ⟨b, dl, al, m, ls, ps, rfl, _⟩ := h
    rfl
  · obtain ⟨b, dl, al, m, ls, ps, rfl, hB, hA, l0, l100, m0, m100, q⟩ := h
    have nd := sc_law_word.nd
    refine ⟨_, pss_cons (ps_set (i := 3) nd rfl (.inl rfl) pe_str)
      (pss_cons (ps_for PassesOwn.never rfl (pi_range1 (by rfl) mr (pa_cons (pe_call GD hr (by rfl) gD FD.kp bD .nil pass0 (pa_cons (pv 0) (pa_cons (pe_op op_add (pv 2) pe_int) pa_nil))) pa_nil)) (pg_name (i := 4) nd rfl (.inl rfl))
        (pss_one (ps_set (i := 3) nd rfl (.inl rfl) (pe_op op_add_str (pv 3) (pe_ix ix_str (pe_ix ix_tup (pv 1) pe_int (fun _ _ => rfl))
          (pe_call GD hr (by rfl) gD FD.kp bD .nil pass0 (pa_cons (pv 0) (pa_cons (pe_callB call_len_str (by rfl) ml PySem.boot_len (pa_cons (pe_ix ix_tup (pv 1) pe_int (fun _ _ => rfl)) pa_nil)) pa_nil))) (fun _ _ => rfl))))))
      (pss_one (ps_ret (pv 3)))), ?_⟩
    refine ⟨.ref b, rfl, .int m, rfl, m, 1, rfl, rfl, b, dl, m + 1, rfl, hB, by omega, fun r H1 r0 rm mv1 hB1 => ⟨r, rfl, by omega, by omega, ?_⟩⟩
    have len : (tx ls).length = ls.length := tx_length ls
    have zl : (tx ls).length ≤ sizeLine := by
      rw [len]
      exact small_line (by omega)
    refine for_range (lo := 0) (n := r.toNat) (fun i σ H' => ∃ a y4, σ = [some (.ref b), some (.ref al), some (.int m), some (.str (tx a)), y4] ∧ a.length = i ∧ (∀ c ∈ a, c ∈ ls) ∧ Mv [b] H H' ∧ Box K b dl H')
      ⟨[], none, rfl, rfl, fun c hc => (nomatch hc), mv1, hB1⟩ (fun i σ H2 hi hW => ?_) (fun σ H2 hW => ?_)
    · obtain ⟨a, y4, rfl, la, ia, mv2, hB2⟩ := hW
      obtain ⟨pt, h1, h2⟩ := hA.mvB hB mv2
      refine ⟨.str (tx a), rfl, .ref al, rfl, al, _, 1, .str (tx ls), rfl, rfl, h1, atI_nat (j := 1) rfl, ?_⟩
      refine ⟨.ref b, rfl, .ref al, rfl, al, _, 1, .str (tx ls), rfl, rfl, h1, atI_nat (j := 1) rfl, tx ls, rfl, zl, b, dl, ((tx ls).length : Int), rfl, hB2, by rw [len]; omega, fun k H3 k0 kl mv3 hB3 => ?_⟩
      rw [len] at kl
      obtain ⟨j, rfl⟩ : ∃ j : Nat, k = (j : Int) := ⟨k.toNat, by omega⟩
      have hj : j < ls.length := by omega
      refine ⟨tx ls, (j : Int), ls[j], rfl, rfl, zl, atI_nat (List.getElem?_eq_getElem hj), tx a, tx [ls[j]], rfl, rfl, ?_, ?_⟩
      · rw [tx_length, tx_length, la]
        exact small_line (by simp; omega)
      · rw [tx_append]
        refine ⟨a ++ [ls[j]], some (.int (0 + (i : Int))), rfl, by rw [List.length_append, la]; rfl, fun c hc => ?_, mv2.trans mv3, hB3⟩
        rcases List.mem_append.mp hc with hc | hc
        · exact ia c hc
        · rw [List.mem_singleton.mp hc]
          exact List.getElem_mem hj
    · obtain ⟨a, y4, rfl, la, ia, mv2, hB2⟩ := hW
      exact ⟨_, rfl, q a H2 (by omega) ia mv2 hB2⟩
end
end Tc
namespace Tc
open PySem PySem.Spec PyProof.Rows L2 TcG
section
variable {P : Program} {w : World} {K : PySem.W.Frag} {mg : Str → Option Value} {base : Heap}
/-! _law_free -/
def sp_free (K : PySem.W.Frag) : Sp := fun vs H Q _ => ∃ (a : Addr) (x y : Nat) (ls : List Nat) (ps : List (List Nat)), vs = [.ref a, .str (tx [x]), .str (tx [y])] ∧ Alpha K H a ls ps ∧ Pairs ls ps ∧ Q (.bl (ind ps x y)) H
theorem ok_free {f : Addr} {fd : FuncData} {k : Nat} (F : Fun K "_law_free" "_law_free" s_law_free f fd) : FnOk P w K mg base CX0 (k + 1) f fd ["alphabet", "x", "y"] (sp_free K) := by
  refine F.ok sc_law_free (fun vs H Q E h => ?_) (fun cdv A outer s H vs Q E hr h => ?_)
  · obtain ⟨a, x, y, ls, ps, rfl, _⟩ := h
    rfl
  · obtain ⟨a, x, y, ls, ps, rfl, ⟨pt, h1, h2⟩, pr, q⟩ := h
    refine ⟨_, pss_one (ps_ret (pe_or (pe_cmpR op_in_seq (pe_op op_add_str (pv 1) (pv 2)) (pe_ix ix_tup (pv 0) pe_int (fun _ _ => rfl)) (by rfl))
      (pe_one (pe_cmpR op_in_seq (pe_op op_add_str (pv 2) (pv 1)) (pe_ix ix_tup (pv 0) pe_int (fun _ _ => rfl)) (by rfl))))), ?_⟩
    rw [← ind_either pr] at q
    refine ⟨.str (tx [x]), rfl, .str (tx [y]), rfl, _, _, rfl, rfl, by show (1 + 1 : Nat) ≤ sizeLine; decide, .ref a, rfl, a, _, 2, .ref pt, rfl, rfl, h1, atI_nat (j := 2) rfl, pt, _, rfl, .inr h2, rfl, txs_flat ps, _, rfl, ?_⟩
    rw [tx_append]
    have e1 : inV (.str (tx ([x] ++ [y]))) (txs ps) = decide ([x, y] ∈ ps) := inV_txs _ _
    have e2 : inV (.str (tx ([y] ++ [x]))) (txs ps) = decide ([y, x] ∈ ps) := inV_txs _ _
    show if inV (.str (tx ([x] ++ [y]))) (txs ps) = true then _ else _
    rw [e1]
    by_cases h : [x, y] ∈ ps
    · rw [decide_eq_true h] at q ⊢
      exact q
    · rw [decide_eq_false h] at q ⊢
      refine iteF ⟨.str (tx [y]), rfl, .str (tx [x]), rfl, _, _, rfl, rfl, by show (1 + 1 : Nat) ≤ sizeLine; decide, .ref a, rfl, a, _, 2, .ref pt, rfl, rfl, h1, atI_nat (j := 2) rfl, pt, _, rfl, .inr h2, rfl, txs_flat ps, ?_⟩
      rw [tx_append]
      show Q (.bl (inV (.str (tx ([y] ++ [x]))) (txs ps))) H
      rw [e2]
      exact q
end
end Tc
namespace Tc
open PySem PySem.Spec PyProof.Rows L2 TcG
section
variable {P : Program} {w : World} {K : PySem.W.Frag} {mg : Str → Option Value} {base : Heap}
/-! _law_mixed -/
def sp_mixed (K : PySem.W.Frag) : Sp := fun vs H Q _ => ∃ (b dl al : Addr) (a ls : List Nat) (ps : List (List Nat)), vs = [.ref b, .ref al, .str (tx a)] ∧ Box K b dl H ∧ Alpha K H al ls ps ∧ Pairs ls ps ∧ a.length ≤ 100 ∧
  ∀ (a' : List Nat) (H' : Hp), Exs ps a a' → Mv [b] H H' → Box K b dl H' → Q (.str (tx a')) H'
theorem ok_mixed {f fD fF : Addr} {fd fdD fdF : FuncData} (F : Fun K "_law_mixed" "_law_mixed" s_law_mixed f fd) (FD : Fun K "_law_draw" "_law_draw" s_law_draw fD fdD) (gD : mg "_law_draw" = some (.ref fD))
    (FF : Fun K "_law_free" "_law_free" s_law_free fF fdF) (gF : mg "_law_free" = some (.ref fF)) (ml : mg "len" = none) (mi : mg "int" = none) (mr : mg "range" = none) : FnOk P w K mg base CX0 2 f fd ["box", "alphabet", "word"] (sp_mixed K) := by
  have GD : FnOk P w K mg base CX0 1 fD fdD ["box", "many"] (sp_draw K) := ok_draw FD ml mi
  have bD : Binds K fdD ["box", "many"] [] := FD.binds fun _ _ _ _ _ _ us hl => match us, hl with | [_, _], _ => rfl
  have GF : FnOk P w K mg base CX0 1 fF fdF ["alphabet", "x", "y"] (sp_free K) := ok_free FF
  have bF : Binds K fdF ["alphabet", "x", "y"] [] := FF.binds fun _ _ _ _ _ _ us hl => match us, hl with | [_, _, _], _ => rfl
  refine F.ok sc_law_mixed (fun vs H Q E h => ?_) (fun cdv A outer s H vs Q E hr h => ?_)
  · obtain ⟨b, dl, al, a, ls, ps, rfl, _⟩ := h
    rfl
  · obtain ⟨b, dl, al, a, ls, ps, rfl, hB, hA, pr, la, q⟩ := h
    have nd := sc_law_mixed.nd
    refine ⟨_, pss_cons (ps_for PassesOwn.never rfl (pi_range1 (by rfl) mr (pa_cons (pe_op op_mul pe_int (pe_callB call_len_str (by rfl) ml PySem.boot_len (pa_cons (pv 2) pa_nil))) pa_nil)) (pg_name (i := 3) nd rfl (.inl rfl))
        (pss_cons (ps_set (i := 4) nd rfl (.inl rfl) (pe_call GD hr (by rfl) gD FD.kp bD .nil pass0 (pa_cons (pv 0) (pa_cons (pe_callB call_len_str (by rfl) ml PySem.boot_len (pa_cons (pv 2) pa_nil)) pa_nil))))
        (pss_one (ps_if (PW.pt (pw_and (pt_cmpR op_lt (pe_op op_add (pv 4) pe_int) (pe_callB call_len_str (by rfl) ml PySem.boot_len (pa_cons (pv 2) pa_nil)) (nomark _))
            (pw_and1 (pt_val (pe_call GF hr (by rfl) gF FF.kp bF .nil pass0 (pa_cons (pv 1) (pa_cons (pe_ix ix_str (pv 2) (pv 4) (fun _ _ => rfl)) (pa_cons (pe_ix ix_str (pv 2) (pe_op op_add (pv 4) pe_int) (fun _ _ => rfl)) pa_nil))))))))
          (pss_one (ps_set (i := 2) nd rfl (.inl rfl) (pe_op op_add_str (pe_op op_add_str (pe_op op_add_str (pe_slice sl_str (pv 2) po_none (po_some (pv 4))) (pe_ix ix_str (pv 2) (pe_op op_add (pv 4) pe_int) (fun _ _ => rfl)))
            (pe_ix ix_str (pv 2) (pv 4) (fun _ _ => rfl))) (pe_slice sl_str (pv 2) (po_some (pe_op op_add (pv 4) pe_int)) po_none)))) pss_nil))))
      (pss_one (ps_ret (pv 2))), ?_⟩
    have zl : ∀ a' : List Nat, a'.length = a.length → (tx a').length ≤ sizeLine := fun a' e => by
      rw [tx_length, e]
      exact small_line (by omega)
    refine ⟨.str (tx a), rfl, tx a, rfl, zl a rfl, 2, ((tx a).length : Int), rfl, rfl, .inl ⟨by decide, by decide⟩, 2 * ((tx a).length : Int), rfl, ?_⟩
    rw [tx_length]
    refine ⟨by omega, by omega, for_range (lo := 0) (n := (2 * (a.length : Int)).toNat) (fun i σ H' => ∃ a' y3 y4, σ = [some (.ref b), some (.ref al), some (.str (tx a')), y3, y4] ∧ Exs ps a a' ∧ Mv [b] H H' ∧ Box K b dl H')
      ⟨a, none, none, rfl, .refl a, Mv.refl _ _, hB⟩ (fun i σ H2 hi hW => ?_) (fun σ H2 hW => ?_)⟩
    · obtain ⟨a', y3, y4, rfl, ex, mv2, hB2⟩ := hW
      have la' : a'.length = a.length := ex.perm.length_eq.symm
      refine ⟨.ref b, rfl, .str (tx a'), rfl, tx a', rfl, zl a' la', b, dl, ((tx a').length : Int), rfl, hB2, by rw [tx_length]; omega, fun k H3 k0 kl mv3 hB3 => ?_⟩
      rw [tx_length] at kl
      obtain ⟨j, rfl⟩ : ∃ j : Nat, k = (j : Int) := ⟨k.toNat, by omega⟩
      refine ⟨.int j, rfl, (j : Int), 1, rfl, rfl, .str (tx a'), rfl, tx a', rfl, zl a' la', (j : Int) + 1, ((tx a').length : Int), rfl, rfl, _, rfl, ?_⟩
      rw [tx_length]
      by_cases lt : (j : Int) + 1 < (a'.length : Int)
      · rw [decide_eq_true lt]
        have h1 : j < a'.length := by omega
        have h2 : j + 1 < a'.length := by omega
        have g1 : a'[j]? = some a'[j] := List.getElem?_eq_getElem h1
        have g2 : a'[j + 1]? = some a'[j + 1] := List.getElem?_eq_getElem h2
        have g3 : atI (tx a').cps.toList ((j : Int) + 1) = some a'[j + 1] := at_eq (by omega) g2
        have hA3 : Alpha K H3 al ls ps := hA.mvB hB (mv2.trans mv3)
        refine iteT ⟨.ref al, rfl, .str (tx a'), rfl, .int j, rfl, tx a', (j : Int), a'[j], rfl, rfl, zl a' la', atI_nat g1, .str (tx a'), rfl, .int j, rfl, (j : Int), 1, rfl, rfl, tx a', (j : Int) + 1, a'[j + 1], rfl, rfl, zl a' la', g3, al, a'[j], a'[j + 1], ls, ps, rfl, hA3, pr, _, rfl, ?_⟩
        by_cases fr : ind ps a'[j] a'[j + 1] = true
        · rw [fr]
          have sw := swapAt_eq g1 g2
          have e1 := swap_ex g1 g2 fr
          refine iteT ⟨.str (tx a'), rfl, .int j, rfl, (j : Int), rfl, tx a', rfl, zl a' la', .str (tx a'), rfl, .int j, rfl, (j : Int), 1, rfl, rfl, tx a', (j : Int) + 1, a'[j + 1], rfl, rfl, zl a' la', g3, ?_⟩
          rw [cut_to]
          have t1 : (tx (a'.take j)).length ≤ 100 := by
            rw [tx_length, List.length_take]
            omega
          refine ⟨tx (a'.take j), tx [a'[j + 1]], rfl, rfl, small_line (by rw [tx_length [_]]; simp; omega), .str (tx a'), rfl, .int j, rfl, tx a', (j : Int), a'[j], rfl, rfl, zl a' la', atI_nat g1, ?_⟩
          rw [tx_append]
          refine ⟨tx (a'.take j ++ [a'[j + 1]]), tx [a'[j]], rfl, rfl, small_line (by rw [tx_length, tx_length] at *; simp at *; omega), .str (tx a'), rfl, .int j, rfl, (j : Int), 2, rfl, rfl, ((j + 2 : Nat) : Int), rfl, tx a', rfl, zl a' la', ?_⟩
          rw [tx_append, cut_from]
          have t2 : (a'.drop (j + 2)).length ≤ 100 := by
            rw [List.length_drop]
            omega
          refine ⟨tx (a'.take j ++ [a'[j + 1]] ++ [a'[j]]), tx (a'.drop (j + 2)), rfl, rfl, small_line (by rw [tx_length, tx_length] at *; simp at *; omega), ?_⟩
          rw [tx_append, ← sw]
          exact ⟨swapAt a' j, some (.int (0 + (i : Int))), some (.int j), rfl, .step ex e1, mv2.trans mv3, hB3⟩
        · rw [Bool.not_eq_true] at fr
          rw [fr]
          exact iteF ⟨a', some (.int (0 + (i : Int))), some (.int j), rfl, ex, mv2.trans mv3, hB3⟩
      · rw [decide_eq_false lt]
        exact iteF (iteF ⟨a', some (.int (0 + (i : Int))), some (.int j), rfl, ex, mv2.trans mv3, hB3⟩)
    · obtain ⟨a', y3, y4, rfl, ex, mv2, hB2⟩ := hW
      exact ⟨_, rfl, q a' H2 ex mv2 hB2⟩
end
end Tc
/-! How many exchanges lead from one word to another, at least. -/
namespace TcG
variable {ls : List Nat} {ps : List (List Nat)}
/-- n exchanges, one behind the other -/
inductive Pth (ps : List (List Nat)) : Nat → List Nat → List Nat → Prop
  | zero (a : List Nat) : Pth ps 0 a a
  | step {n : Nat} {a b c : List Nat} (h : Pth ps n a b) (e : Ex1 ps b c) : Pth ps (n + 1) a c
theorem Pth.exs {n : Nat} {a b : List Nat} (h : Pth ps n a b) : Exs ps a b := by
  induction h with
  | zero => exact .refl _
  | step _ e ih => exact .step ih e
theorem Pth.cons {a b : List Nat} (e : Ex1 ps a b) : ∀ {n : Nat} {c : List Nat}, Pth ps n b c → Pth ps (n + 1) a c := by
  intro n c h
  induction h with
  | zero => exact .step (.zero a) e
  | step _ e' ih => exact .step (ih e) e'
theorem Pth.front {n : Nat} {a c : List Nat} (h : Pth ps n a c) : ∀ m, n = m + 1 → ∃ b, Ex1 ps a b ∧ Pth ps m b c := by
  induction h with
  | zero => intro m e; cases e
  | step h e ih =>
    rename_i n a b c
    intro m em
    have : n = m := by omega
    subst this
    cases n with
    | zero =>
      cases h
      exact ⟨c, e, .zero c⟩
    | succ k =>
      obtain ⟨x, hx, hp⟩ := ih k rfl
      exact ⟨x, hx, .step hp e⟩
theorem pth_run : ∀ (zs : List Int) (a v : List Nat) (k : Nat), runEx ps a zs k = (v, none) → Pth ps zs.length a v
  | [], a, v, k, h => by
    have h : (a, (none : Option Nat)) = (v, none) := h
    injection h with e
    subst e
    exact .zero a
  | z :: r, a, v, k, h => by
    cases can : canAt ps a z with
    | false =>
      rw [runEx_no _ _ can] at h
      injection h with _ e
      cases e
    | true =>
      rw [runEx_go _ _ can] at h
      have ih := pth_run r _ v (k + 1) h
      obtain ⟨j, rfl, lj⟩ := canAt_bounds can
      have g1 : a[j]? = some a[j] := List.getElem?_eq_getElem (by omega)
      have g2 : a[j + 1]? = some a[j + 1] := List.getElem?_eq_getElem lj
      have hi : ind ps a[j] a[j + 1] = true := by
        unfold canAt at can
        have e : ((j : Nat) : Int).toNat = j := rfl
        rw [e, g1, g2] at can
        exact (Bool.and_eq_true_iff.mp (Bool.and_eq_true_iff.mp can).2).2
      exact .cons (swap_ex g1 g2 hi) ih
theorem pth_exL (pr : Pairs ls ps) {a v : List Nat} (h : Exs ps a v) : Pth ps (exL 0 a v).length a v := by
  obtain ⟨n, e, _⟩ := run_exL pr v a [] 0 (h.keepsA pr)
  have := pth_run _ _ _ _ e
  rw [List.length_map] at this
  exact this
theorem inverts_perm : ∀ (S : List Nat) {T U : List Nat}, T.Perm U → inverts (S ++ T) + inverts U = inverts (S ++ U) + inverts T
  | [], T, U, _ => by show inverts T + inverts U = inverts U + inverts T; omega
  | x :: S, T, U, p => by
    have ih := inverts_perm S p
    have e : ((S ++ T).filter fun y => decide (y < x)).length = ((S ++ U).filter fun y => decide (y < x)).length := ((p.append_left S).filter _).length_eq
    show ((S ++ T).filter fun y => decide (y < x)).length + inverts (S ++ T) + inverts U = ((S ++ U).filter fun y => decide (y < x)).length + inverts (S ++ U) + inverts T
    omega
theorem inverts_two (i j : Nat) (S : List Nat) : inverts (i :: j :: S) ≤ inverts (j :: i :: S) + 1 := by
  show ((j :: S).filter fun y => decide (y < i)).length + ((S.filter fun y => decide (y < j)).length + inverts S) ≤ ((i :: S).filter fun y => decide (y < j)).length + ((S.filter fun y => decide (y < i)).length + inverts S) + 1
  rw [List.filter_cons, List.filter_cons]
  by_cases h1 : j < i
  · rw [if_pos (decide_eq_true h1), List.length_cons]
    split
    · rw [List.length_cons]; omega
    · omega
  · rw [if_neg (by rw [decide_eq_false h1]; exact Bool.false_ne_true)]
    split
    · rw [List.length_cons]; omega
    · omega
theorem inverts_ex (pr : Pairs ls ps) {a a' v : List Nat} (e : Ex1 ps a a') : inverts (spots v [] a) ≤ inverts (spots v [] a') + 1 := by
  obtain ⟨p, q, x, y, hi⟩ := e
  have ne : x ≠ y := fun z => by rw [z, ind_self pr] at hi; cases hi
  rw [spots_append, spots_append]
  generalize p.reverse ++ [] = seen
  have c1 : (x :: seen).count y = seen.count y := by rw [List.count_cons_of_ne ne]
  have c2 : (y :: seen).count x = seen.count x := by rw [List.count_cons_of_ne (Ne.symm ne)]
  have s1 : spots v seen (x :: y :: q) = nth v x (seen.count x) :: nth v y (seen.count y) :: spots v (y :: x :: seen) q := by
    show nth v x (seen.count x) :: nth v y ((x :: seen).count y) :: spots v (y :: x :: seen) q = _
    rw [c1]
  have s2 : spots v seen (y :: x :: q) = nth v y (seen.count y) :: nth v x (seen.count x) :: spots v (x :: y :: seen) q := by
    show nth v y (seen.count y) :: nth v x ((y :: seen).count x) :: spots v (x :: y :: seen) q = _
    rw [c2]
  have s3 : spots v (y :: x :: seen) q = spots v (x :: y :: seen) q := spots_same q _ _ fun c => (List.Perm.swap x y seen).count_eq c
  rw [s1, s2, s3]
  have p1 := inverts_perm (spots v [] p) (List.Perm.swap (nth v y (seen.count y)) (nth v x (seen.count x)) (spots v (x :: y :: seen) q))
  have p2 := inverts_two (nth v x (seen.count x)) (nth v y (seen.count y)) (spots v (x :: y :: seen) q)
  omega
theorem inverts_self (pr : Pairs ls ps) (v : List Nat) : inverts (spots v [] v) = 0 := by
  have k := exL_least pr v v 0 ((Exs.refl (ps := ps) v).keepsA pr)
  have e : ∀ (v : List Nat) (n : Nat), exL n v v = [] := by
    intro v
    induction v with
    | nil => intro n; rfl
    | cons x r ih =>
      intro n
      have h1 := idx_first (p := []) (q := r) (x := x) (by simp)
      have h2 := erase_first (p := []) (q := r) (x := x) (by simp)
      rw [List.nil_append] at h1 h2
      rw [exL, h1, h2, List.nil_append, ih]
      rfl
  rw [e] at k
  exact k.symm
theorem pth_ge (pr : Pairs ls ps) : ∀ (n : Nat) (a v : List Nat), Pth ps n a v → inverts (spots v [] a) ≤ n
  | 0, a, v, h => by
    cases h
    rw [inverts_self pr]
    exact Nat.le_refl _
  | n + 1, a, v, h => by
    obtain ⟨b, e, h2⟩ := h.front n rfl
    have := pth_ge pr n b v h2
    have := inverts_ex pr (v := v) e
    omega
/-! ### the walk -/
structure FarB (ps : List (List Nat)) (a : List Nat) (r : Row) (n : Nat) : Prop where
  grown : Grown ps a (keysR r)
  paths : ∀ f d, (f, d) ∈ r → Pth ps d a f
  rise : r.Pairwise fun p q => p.2 ≤ q.2
  near : ∀ i, i < n → ∀ f d, r[i]? = some (f, d) → ∀ g, Ex1 ps f g → ∃ e, (g, e) ∈ r ∧ e ≤ d + 1
  bound : ∀ f d, r[n]? = some (f, d) → ∀ p ∈ r, p.2 ≤ d + 1
theorem far_start (ps : List (List Nat)) (a : List Nat) : FarB ps a [(a, 0)] 0 where
  grown := ⟨by show [a].Nodup; simp, by show a ∈ [a]; simp, fun f hf => by
    have hf : f ∈ [a] := hf
    rw [List.mem_singleton.mp hf]
    exact .refl a⟩
  paths := fun f d h => by
    have := List.mem_singleton.mp h
    injection this with e1 e2
    rw [e1, e2]
    exact .zero a
  rise := List.pairwise_singleton ..
  near := fun i hi => absurd hi (Nat.not_lt_zero i)
  bound := fun f d h p hp => by
    have e := Option.some.inj h
    rw [List.mem_singleton.mp hp]
    exact Nat.zero_le _
theorem keysR_app (r m : Row) : keysR (r ++ m) = keysR r ++ keysR m := List.map_append
theorem FarB.put {a f g : List Nat} {d n : Nat} {r : Row} (F : FarB ps a r n) (hn : r[n]? = some (f, d)) (e : Ex1 ps f g) (new : g ∉ keysR r) : FarB ps a (r ++ [(g, d + 1)]) n where
  grown := by
    rw [keysR_app]
    exact F.grown.put (List.mem_map.mpr ⟨_, List.mem_of_getElem? hn, rfl⟩) e new
  paths := fun f' d' h => by
    rcases List.mem_append.mp h with h | h
    · exact F.paths f' d' h
    · have := List.mem_singleton.mp h
      injection this with e1 e2
      rw [e1, e2]
      exact .step (F.paths f d (List.mem_of_getElem? hn)) e
  rise := List.pairwise_append.mpr ⟨F.rise, List.pairwise_singleton .., fun p hp q hq => by
    rw [List.mem_singleton.mp hq]
    exact F.bound f d hn p hp⟩
  near := fun i hi f' d' h g' e' => by
    have lt := (List.getElem?_eq_some_iff.mp hn).1
    rw [List.getElem?_append_left (by omega)] at h
    obtain ⟨k, hk, le⟩ := F.near i hi f' d' h g' e'
    exact ⟨k, List.mem_append_left _ hk, le⟩
  bound := fun f' d' h p hp => by
    have lt := (List.getElem?_eq_some_iff.mp hn).1
    rw [List.getElem?_append_left lt, hn] at h
    injection h with h
    injection h with e1 e2
    subst e2
    rcases List.mem_append.mp hp with hp | hp
    · exact F.bound f d hn p hp
    · rw [List.mem_singleton.mp hp]
      exact Nat.le_refl _
theorem FarB.next {a f : List Nat} {d n : Nat} {r : Row} (F : FarB ps a r n) (hn : r[n]? = some (f, d)) (all : ∀ g, Ex1 ps f g → g ∈ keysR r) : FarB ps a r (n + 1) where
  grown := F.grown
  paths := F.paths
  rise := F.rise
  near := fun i hi f' d' h g e => by
    by_cases ei : i = n
    · subst ei
      rw [hn] at h
      injection h with h
      injection h with e1 e2
      subst e1
      subst e2
      obtain ⟨p, hp, e3⟩ := List.mem_map.mp (all g e)
      refine ⟨p.2, ?_, F.bound f d hn p hp⟩
      rw [← e3]
      exact hp
    · exact F.near i (by omega) f' d' h g e
  bound := fun f' d' h p hp => by
    have h1 := F.bound f d hn p hp
    obtain ⟨l1, e1⟩ := List.getElem?_eq_some_iff.mp hn
    obtain ⟨l2, e2⟩ := List.getElem?_eq_some_iff.mp h
    have h2 := List.pairwise_iff_getElem.mp F.rise n (n + 1) l1 l2 (Nat.lt_succ_self n)
    rw [e1, e2] at h2
    have h2 : d ≤ d' := h2
    omega
theorem FarB.least {a : List Nat} {r : Row} (F : FarB ps a r r.length) (h0 : (a, 0) ∈ r) {m : Nat} {b v : List Nat} (h : Pth ps m b v) : b = a → ∃ e, (v, e) ∈ r ∧ e ≤ m := by
  induction h with
  | zero => intro e; rw [e]; exact ⟨0, h0, Nat.le_refl _⟩
  | step _ e ih =>
    intro eb
    obtain ⟨k, hk, le⟩ := ih eb
    obtain ⟨i, hi⟩ := List.mem_iff_getElem?.mp hk
    obtain ⟨j, hj, le2⟩ := F.near i (List.getElem?_eq_some_iff.mp hi).1 _ _ hi _ e
    exact ⟨j, hj, by omega⟩
/-- what is told is as few as can be -/
theorem FarB.all (pr : Pairs ls ps) {a : List Nat} {r : Row} (F : FarB ps a r r.length) (h0 : (a, 0) ∈ r) : (∀ v, v ∈ keysR r ↔ Exs ps a v) ∧ ∀ v d, (v, d) ∈ r → d = (exL 0 a v).length := by
  have has : ∀ v, Exs ps a v → ∃ e, (v, e) ∈ r ∧ e ≤ (exL 0 a v).length := fun v h => F.least h0 (pth_exL pr h) rfl
  refine ⟨fun v => ⟨F.grown.sound v, fun h => ?_⟩, fun v d h => ?_⟩
  · obtain ⟨e, he, _⟩ := has v h
    exact List.mem_map.mpr ⟨_, he, rfl⟩
  · have p := F.paths v d h
    have ge := pth_ge pr d a v p
    rw [← exL_least pr v a 0 (p.exs.keepsA pr)] at ge
    obtain ⟨e, he, le⟩ := has v p.exs
    have : e = d := by
      have h1 := getR_some F.grown.nd he
      have h2 := getR_some F.grown.nd h
      rw [h1] at h2
      exact Option.some.inj h2
    omega
end TcG
namespace Tc
open PySem PySem.Spec PyProof.Rows L2 TcG
section
variable {P : Program} {w : World} {K : PySem.W.Frag} {mg : Str → Option Value} {base : Heap}
def sp_far (K : PySem.W.Frag) : Sp := fun vs H Q _ => ∃ (al : Addr) (a ls : List Nat) (ps : List (List Nat)), vs = [.ref al, .str (tx a)] ∧ Alpha K H al ls ps ∧ Pairs ls ps ∧ ls.length ≤ 5 ∧ a.length ≤ 7 ∧ (∀ c ∈ a, c ∈ ls) ∧
  ∀ (p : Addr) (r : TcG.Row) (H' : Hp), Same H H' → H' p = some (.dK (rowK r)) → (keysR r).Nodup → (∀ v, v ∈ keysR r ↔ Exs ps a v) → (∀ v d, (v, d) ∈ r → d = (exL 0 a v).length) → Q (.ref p) H'
theorem ok_far {f fF : Addr} {fd fdF : FuncData} (F : Fun K "_law_exchange_far" "_law_exchange_far" s_law_exchange_far f fd) (FF : Fun K "_law_free" "_law_free" s_law_free fF fdF) (gF : mg "_law_free" = some (.ref fF))
    (ml : mg "len" = none) (mr : mg "range" = none) : FnOk P w K mg base CX0 2 f fd ["alphabet", "word"] (sp_far K) := by
  have GF : FnOk P w K mg base CX0 1 fF fdF ["alphabet", "x", "y"] (sp_free K) := ok_free FF
  have bF : Binds K fdF ["alphabet", "x", "y"] [] := FF.binds fun _ _ _ _ _ _ us hl => match us, hl with | [_, _, _], _ => rfl
  refine F.ok sc_law_exchange_far (fun vs H Q E h => ?_) (fun cdv A outer s H vs Q E hr h => ?_)
  · obtain ⟨al, a, ls, ps, rfl, _⟩ := h
    rfl
  · obtain ⟨al, a, ls, ps, rfl, hA, pr, sl, sa, ia, q⟩ := h
    have nd := sc_law_exchange_far.nd
    refine ⟨_, pss_cons (ps_set (i := 2) nd rfl (.inl rfl) (pe_disp (pps_cons (pv 1) pe_int pps_nil) (by rfl) (by rfl) (fun z => by cases z) (by decide)))
      (pss_cons (ps_set (i := 3) nd rfl (.inl rfl) (pe_lst (pa_cons (pv 1) pa_nil)))
      (pss_cons (ps_set (i := 4) nd rfl (.inl rfl) pe_int)
      (pss_cons (ps_while PassesOwn.never (pt_cmpR op_lt (pv 4) (pe_callB call_len_seq (by rfl) ml PySem.boot_len (pa_cons (pv 3) pa_nil)) (nomark _))
        (pss_cons (ps_set (i := 5) nd rfl (.inl rfl) (pe_ix ix_list (pv 3) (pv 4) (fun _ _ => rfl)))
        (pss_cons (ps_set (i := 4) nd rfl (.inl rfl) (pe_op op_add (pv 4) pe_int))
        (pss_one (ps_for PassesOwn.never rfl (pi_range1 (by rfl) mr (pa_cons (pe_op op_sub (pe_callB call_len_str (by rfl) ml PySem.boot_len (pa_cons (pv 5) pa_nil)) pe_int) pa_nil)) (pg_name (i := 6) nd rfl (.inl rfl))
          (pss_one (ps_if (pt_val (pe_call GF hr (by rfl) gF FF.kp bF .nil pass0 (pa_cons (pv 0) (pa_cons (pe_ix ix_str (pv 5) (pv 6) (fun _ _ => rfl)) (pa_cons (pe_ix ix_str (pv 5) (pe_op op_add (pv 6) pe_int) (fun _ _ => rfl)) pa_nil)))))
            (pss_cons (ps_set (i := 7) nd rfl (.inl rfl) (pe_op op_add_str (pe_op op_add_str (pe_op op_add_str (pe_slice sl_str (pv 5) po_none (po_some (pv 6))) (pe_ix ix_str (pv 5) (pe_op op_add (pv 6) pe_int) (fun _ _ => rfl)))
              (pe_ix ix_str (pv 5) (pv 6) (fun _ _ => rfl))) (pe_slice sl_str (pv 5) (po_some (pe_op op_add (pv 6) pe_int)) po_none)))
            (pss_one (ps_if (pt_cmp (pc_dnotin (hu_of hr) (pv 7) (pv 2)))
              (pss_cons (ps_dput (hu_of hr) (pv 2) (pv 7) (pe_op op_add (pe_dget (hu_of hr) (pv 2) (pv 5) (fun _ _ => rfl)) pe_int) rfl)
              (pss_one (ps_expr (pe_bm PySem.F.plainAttrs_list PySem.F.slot_list_append PySem.F.type_list_append mt_append (pv 3) (pa_cons (pv 7) pa_nil))))) pss_nil))) pss_nil)))))))
      (pss_one (ps_ret (pv 2)))))), ?_⟩
    intro kp nk
    refine ⟨.str (tx a), rfl, upd_same, [(Sum.inr (tx a), .int 0)], rfl, by show 1 ≤ 15; decide, .str (tx a), rfl, by show 1 ≤ sizeLine; decide, fun fp nf => ?_⟩
    have e0 : mergeK [] [((Sum.inr (tx a) : Key), V.int 0)] = rowK [(a, 0)] := rfl
    rw [e0] at nf ⊢
    have kf : kp ≠ fp := fun z => by
      rw [← z, upd_same] at nf
      cases nf
    have nfH : H fp = none := by
      rw [upd_ne (Ne.symm kf), upd_ne (Ne.symm kf)] at nf
      exact nf
    have nkH : H kp = none := nk
    have lenT : ∀ r : TcG.Row, (txs (keysR r)).length = r.length := fun r => by unfold txs keysR; rw [List.length_map, List.length_map]
    have atT : ∀ {r : TcG.Row} {i : Nat} {f : List Nat} {d : Nat}, r[i]? = some (f, d) → (txs (keysR r))[i]? = some (.str (tx f)) := fun {r i f d} h => by
      unfold txs keysR
      rw [List.getElem?_map, List.getElem?_map, h]
      rfl
    refine while_by (fun σ H' => ∃ (r : TcG.Row) (n : Nat) (y5 y6 y7 : Option V), σ = [some (.ref al), some (.str (tx a)), some (.ref kp), some (.ref fp), some (.int (n : Int)), y5, y6, y7] ∧ Same H H' ∧ H' fp = some (.lst (txs (keysR r))) ∧ H' kp = some (.dK (rowK r)) ∧ FarB ps a r n ∧ n ≤ r.length ∧ r[0]? = some (a, 0))
      (fun (σ : L2.St) _ => match σ[4]? with | some (some (V.int i)) => 100000 - i.toNat | _ => 0) ?_ (fun σ H1 hW => ?_) (fun σ H Q Q' m ⟨x, h1, y, h2, p, ys, e1, hq, i, j, e2, e3, k, e4, hh⟩ => ⟨x, h1, y, h2, p, ys, e1, hq, i, j, e2, e3, k, e4, m _ _ hh⟩)
    · refine ⟨[(a, 0)], 0, none, none, none, rfl, fun x o e => ?_, upd_same, ?_, far_start ps a, Nat.zero_le _, rfl⟩
      · rw [upd_ne (ne_of_none e nfH), upd_ne (ne_of_none e nkH), upd_ne (ne_of_none e nkH)]
        exact e
      · rw [upd_ne kf, upd_same]
    · obtain ⟨r, n, y5, y6, y7, rfl, sm, hfp, hkp, FB, hn, h0⟩ := hW
      refine ⟨.int n, rfl, .ref fp, rfl, fp, _, rfl, .inl (SqL.of hfp), (n : Int), _, rfl, rfl, _, rfl, ?_⟩
      rw [lenT]
      have bound : ∀ {r : TcG.Row} {n : Nat}, FarB ps a r n → r.length ≤ 78125 := fun {r n} B => by
        have := B.grown.bound ia sl sa
        unfold keysR at this
        rw [List.length_map] at this
        exact this
      by_cases lt : (n : Int) < (r.length : Int)
      · rw [decide_eq_true lt]
        have hlt : n < r.length := by omega
        obtain ⟨f, d, hfd⟩ : ∃ f d, r[n]? = some (f, d) := ⟨r[n].1, r[n].2, List.getElem?_eq_getElem hlt⟩
        have lf : f.length = a.length := ((FB.grown.sound f (List.mem_map.mpr ⟨_, List.mem_of_getElem? hfd, rfl⟩)).perm.length_eq).symm
        refine iteT ⟨.ref fp, rfl, .int n, rfl, fp, _, (n : Int), .str (tx f), rfl, rfl, SqL.of hfp, atI_nat (atT hfd), .int n, rfl, (n : Int), 1, rfl, rfl, ?_⟩
        have zl : (tx f).length ≤ sizeLine := by
          rw [tx_length]
          exact small_line (by omega)
        refine ⟨.str (tx f), rfl, tx f, rfl, zl, ((tx f).length : Int), 1, rfl, rfl, ((tx f).length : Int) - 1, rfl, ?_⟩
        rw [tx_length]
        refine ⟨by omega, by omega, for_range (lo := 0) (n := ((f.length : Int) - 1).toNat) (fun k σ H' => ∃ (g : TcG.Row) (y6 y7 : Option V), σ = [some (.ref al), some (.str (tx a)), some (.ref kp), some (.ref fp), some (.int ((n : Int) + 1)), some (.str (tx f)), y6, y7] ∧
            Same H H' ∧ H' fp = some (.lst (txs (keysR g))) ∧ H' kp = some (.dK (rowK g)) ∧ FarB ps a g n ∧ n < g.length ∧ g[n]? = some (f, d) ∧ g[0]? = some (a, 0) ∧ ∀ j, j < k → ∀ x y, f[j]? = some x → f[j + 1]? = some y → ind ps x y = true → swapAt f j ∈ keysR g)
          ⟨r, y6, y7, rfl, sm, hfp, hkp, FB, hlt, hfd, h0, fun j hj => absurd hj (Nat.not_lt_zero j)⟩ (fun k σ H2 hk hV => ?_) (fun σ H2 hV => ?_)⟩
        · obtain ⟨g, y6, y7, rfl, sm2, hfp2, hkp2, FB2, hn2, gG, g0, near⟩ := hV
          have h1 : k < f.length := by omega
          have h2 : k + 1 < f.length := by omega
          have g1 : f[k]? = some f[k] := List.getElem?_eq_getElem h1
          have g2 : f[k + 1]? = some f[k + 1] := List.getElem?_eq_getElem h2
          have a1 : atI (tx f).cps.toList (0 + (k : Int)) = some f[k] := at_eq (by omega) g1
          have a2 : atI (tx f).cps.toList (0 + (k : Int) + 1) = some f[k + 1] := at_eq (by omega) g2
          refine ⟨.ref al, rfl, .str (tx f), rfl, .int (0 + (k : Int)), rfl, tx f, 0 + (k : Int), f[k], rfl, rfl, zl, a1, .str (tx f), rfl, .int (0 + (k : Int)), rfl, 0 + (k : Int), 1, rfl, rfl, tx f, 0 + (k : Int) + 1, f[k + 1], rfl, rfl, zl, a2, al, f[k], f[k + 1], ls, ps, rfl, hA.same sm2, pr, _, rfl, ?_⟩
          have stay : ∀ (g' : TcG.Row) (y7' : Option V) (H3 : Hp), Same H H3 → H3 fp = some (.lst (txs (keysR g'))) → H3 kp = some (.dK (rowK g')) → FarB ps a g' n → n < g'.length → g'[n]? = some (f, d) → g'[0]? = some (a, 0) → (∀ x ∈ keysR g, x ∈ keysR g') → (ind ps f[k] f[k + 1] = true → swapAt f k ∈ keysR g') →
              ∃ (g : TcG.Row) (y6 y7 : Option V), [some (V.ref al), some (.str (tx a)), some (.ref kp), some (.ref fp), some (.int ((n : Int) + 1)), some (.str (tx f)), some (.int (0 + (k : Int))), y7'] = [some (.ref al), some (.str (tx a)), some (.ref kp), some (.ref fp), some (.int ((n : Int) + 1)), some (.str (tx f)), y6, y7] ∧
            Same H H3 ∧ H3 fp = some (.lst (txs (keysR g))) ∧ H3 kp = some (.dK (rowK g)) ∧ FarB ps a g n ∧ n < g.length ∧ g[n]? = some (f, d) ∧ g[0]? = some (a, 0) ∧ ∀ j, j < k + 1 → ∀ x y, f[j]? = some x → f[j + 1]? = some y → ind ps x y = true → swapAt f j ∈ keysR g := fun g' y7' H3 s3 f3 k3 B3 n3 gg g00 sub new => by
            refine ⟨g', _, _, rfl, s3, f3, k3, B3, n3, gg, g00, fun j hj x y hx hy hi => ?_⟩
            by_cases ej : j = k
            · subst ej
              rw [g1] at hx
              rw [g2] at hy
              cases hx
              cases hy
              exact new hi
            · exact sub _ (near j (by omega) x y hx hy hi)
          by_cases fr : ind ps f[k] f[k + 1] = true
          · rw [fr]
            have sw := swapAt_eq g1 g2
            have ex := swap_ex g1 g2 fr
            refine iteT ⟨.str (tx f), rfl, .int (0 + (k : Int)), rfl, ((k : Nat) : Int), by rw [Int.zero_add], tx f, rfl, zl, .str (tx f), rfl, .int (0 + (k : Int)), rfl, 0 + (k : Int), 1, rfl, rfl, tx f, 0 + (k : Int) + 1, f[k + 1], rfl, rfl, zl, a2, ?_⟩
            rw [cut_to]
            have t1 : (f.take k).length ≤ 7 := by
              rw [List.length_take]
              omega
            refine ⟨tx (f.take k), tx [f[k + 1]], rfl, rfl, small_line (by rw [tx_length, tx_length]; simp at *; omega), .str (tx f), rfl, .int (0 + (k : Int)), rfl, tx f, 0 + (k : Int), f[k], rfl, rfl, zl, a1, ?_⟩
            rw [tx_append]
            refine ⟨tx (f.take k ++ [f[k + 1]]), tx [f[k]], rfl, rfl, small_line (by rw [tx_length, tx_length]; simp at *; omega), .str (tx f), rfl, .int (0 + (k : Int)), rfl, 0 + (k : Int), 2, rfl, rfl, ((k + 2 : Nat) : Int), by rw [Int.zero_add]; rfl, tx f, rfl, zl, ?_⟩
            rw [tx_append, cut_from]
            have t2 : (f.drop (k + 2)).length ≤ 7 := by
              rw [List.length_drop]
              omega
            refine ⟨tx (f.take k ++ [f[k + 1]] ++ [f[k]]), tx (f.drop (k + 2)), rfl, rfl, small_line (by rw [tx_length, tx_length]; simp at *; omega), ?_⟩
            rw [tx_append, ← sw]
            -- if there not in far
            refine ⟨.str (tx (swapAt f k)), rfl, .ref kp, rfl, kp, _, rfl, DGet.k (k := Sum.inr (tx (swapAt f k))) hkp2, _, rfl, ?_⟩
            rw [rowK_get]
            by_cases old : swapAt f k ∈ keysR g
            · obtain ⟨p, hp, e⟩ := List.mem_map.mp old
              have hg : getR g (swapAt f k) = some p.2 := getR_some FB2.grown.nd (by rw [← e]; exact hp)
              rw [hg]
              exact iteF (stay g _ H2 sm2 hfp2 hkp2 FB2 hn2 gG g0 (fun x hx => hx) fun _ => old)
            · rw [getR_none old]
              have bd := bound FB2
              have hgf : getR g f = some d := getR_some FB2.grown.nd (List.mem_of_getElem? gG)
              refine iteT ⟨.ref kp, rfl, .str (tx f), rfl, kp, .int (d : Int), rfl, ?_, (d : Int), 1, rfl, rfl, .ref kp, rfl, .str (tx (swapAt f k)), rfl, kp, _, rfl, DPut.k (k := Sum.inr (tx (swapAt f k))) hkp2 ?_, ?_⟩
              · have := DGet.k (k := Sum.inr (tx f)) hkp2
                rw [rowK_get, hgf] at this
                exact this
              · rw [rowK_len]
                exact Nat.lt_of_le_of_lt bd (by decide)
              · have eput : putK (rowK g) (Sum.inr (tx (swapAt f k))) (.int ((d : Int) + 1)) = rowK (g ++ [(swapAt f k, d + 1)]) := by
                  rw [putK_new _ (by rw [rowK_get, getR_none old]; rfl)]
                  unfold rowK
                  rw [List.map_append]
                  rfl
                have hfp3 : (upd H2 kp (.dK (putK (rowK g) (Sum.inr (tx (swapAt f k))) (.int ((d : Int) + 1))))) fp = some (.lst (txs (keysR g))) := by
                  rw [upd_ne (Ne.symm kf)]
                  exact hfp2
                refine ⟨.ref fp, rfl, .inl ⟨rfl, _, SqL.of hfp3⟩, .str (tx (swapAt f k)), rfl, fp, _, _, rfl, rfl, hfp3, ?_, ?_⟩
                · rw [lenT]
                  exact Nat.lt_of_le_of_lt bd (by decide)
                · refine stay (g ++ [(swapAt f k, d + 1)]) _ _ (fun x o e => ?_) ?_ ?_ (FB2.put gG ex old) (by rw [List.length_append]; omega) (by rw [List.getElem?_append_left hn2]; exact gG) (by rw [List.getElem?_append_left (by omega)]; exact g0) (fun x hx => by rw [keysR_app]; exact List.mem_append_left _ hx) fun _ => by rw [keysR_app]; exact List.mem_append_right _ (List.mem_singleton.mpr rfl)
                  · rw [upd_ne (ne_of_none e nfH), upd_ne (ne_of_none e nkH)]
                    exact sm2 x o e
                  · rw [upd_same, keysR_app]
                    unfold txs
                    rw [List.map_append]
                    rfl
                  · rw [upd_ne kf, upd_same]
                    exact congrArg (fun z => some (HO.dK z)) eput
          · rw [Bool.not_eq_true] at fr
            rw [fr]
            exact iteF (stay g _ H2 sm2 hfp2 hkp2 FB2 hn2 gG g0 (fun x hx => hx) fun z => by rw [fr] at z; cases z)
        · obtain ⟨g, y6, y7, rfl, sm2, hfp2, hkp2, FB2, hn2, gG, g0, near⟩ := hV
          have bd := bound FB2
          refine ⟨⟨g, n + 1, _, _, _, rfl, sm2, hfp2, hkp2, FB2.next gG fun g' e => ?_, hn2, g0⟩, ?_⟩
          · obtain ⟨k, x, y, hx, hy, hi2, rfl⟩ := e.swap
            have := (List.getElem?_eq_some_iff.mp hy).1
            exact near k (by omega) x y hx hy hi2
          · show 100000 - ((n : Int) + 1).toNat < 100000 - ((n : Int)).toNat
            omega
      · rw [decide_eq_false lt]
        have en : n = r.length := by omega
        subst en
        obtain ⟨k1, k2⟩ := FB.all pr (List.mem_of_getElem? h0)
        exact iteF ⟨_, rfl, q kp r H1 sm hkp FB.grown.nd k1 k2⟩
end
end Tc
/-! Levels of letters, and the steps of a word. -/
namespace TcG
variable {ls : List Nat} {ps : List (List Nat)}
abbrev Lvs := List (Nat × Nat)
def nearL (ps : List (List Nat)) (st : Lvs) (c : Nat) : List Nat := (st.filter fun p => !ind ps p.1 c).map (·.2)
def topN (l : List Nat) : Nat := l.foldl max 0
theorem topN_app (l m : List Nat) : topN (l ++ m) = max (topN l) (topN m) := by
  have h : ∀ (m : List Nat) (k : Nat), m.foldl max k = max k (topN m) := by
    intro m
    induction m with
    | nil => intro k; show k = max k 0; omega
    | cons x r ih =>
      intro k
      show r.foldl max (max k x) = max k (r.foldl max (max 0 x))
      rw [ih, ih (max 0 x)]
      omega
  unfold topN
  rw [List.foldl_append, h]
  rfl
theorem topN_one (x : Nat) : topN [x] = x := by show max 0 x = x; omega
theorem topN_cons (x : Nat) (l : List Nat) : topN (x :: l) = max x (topN l) := by
  have := topN_app [x] l
  rw [topN_one] at this
  exact this
theorem topN_le {l : List Nat} {x : Nat} (h : x ∈ l) : x ≤ topN l := by
  induction l with
  | nil => cases h
  | cons y r ih =>
    rw [topN_cons]
    rcases List.mem_cons.mp h with e | e
    · omega
    · have := ih e
      omega
theorem topN_mem {l : List Nat} (h : topN l ≠ 0) : topN l ∈ l := by
  induction l with
  | nil => exact absurd rfl h
  | cons y r ih =>
    rw [topN_cons] at h ⊢
    by_cases e : topN r ≤ y
    · rw [Nat.max_eq_left e]
      exact List.mem_cons_self
    · rw [Nat.max_eq_right (by omega)]
      exact List.mem_cons_of_mem _ (ih (by omega))
theorem topN_perm {l m : List Nat} (p : l.Perm m) : topN l = topN m := by
  induction p with
  | nil => rfl
  | cons x _ ih => rw [topN_cons, topN_cons, ih]
  | swap x y l =>
    rw [topN_cons, topN_cons, topN_cons, topN_cons]
    omega
  | trans _ _ a b => exact a.trans b
/-- the level of one letter more -/
def nextL (ps : List (List Nat)) (st : Lvs) (c : Nat) : Nat := topN (nearL ps st c) + 1
def putL (ps : List (List Nat)) (st : Lvs) (c : Nat) : Lvs := st ++ [(c, nextL ps st c)]
def levL (ps : List (List Nat)) (w : List Nat) : Lvs := w.foldl (putL ps) []
theorem levL_snoc (w : List Nat) (c : Nat) : levL ps (w ++ [c]) = putL ps (levL ps w) c := by
  unfold levL
  rw [List.foldl_append]
  rfl
theorem levL_fst (w : List Nat) : (levL ps w).map (·.1) = w := by
  have h : ∀ (w : List Nat) (st : Lvs), (w.foldl (putL ps) st).map (·.1) = st.map (·.1) ++ w := by
    intro w
    induction w with
    | nil => intro st; simp
    | cons c r ih =>
      intro st
      rw [List.foldl_cons, ih]
      unfold putL
      simp
  have := h w []
  exact this
theorem levL_len (w : List Nat) : (levL ps w).length = w.length := by
  rw [← List.length_map (f := (·.1)), levL_fst]
def heightM (ps : List (List Nat)) (w : List Nat) : Nat := topN ((levL ps w).map (·.2))
/-- the letters of one level -/
def rowL (st : Lvs) (k : Nat) : List Nat := (st.filter fun p => decide (p.2 = k)).map (·.1)
def stepsM (ps : List (List Nat)) (w : List Nat) : List (List Nat) := (List.range (heightM ps w)).map fun i => sortN (rowL (levL ps w) (i + 1))
theorem stepsM_len (w : List Nat) : (stepsM ps w).length = heightM ps w := by unfold stepsM; rw [List.length_map, List.length_range]
theorem rowL_app (st m : Lvs) (k : Nat) : rowL (st ++ m) k = rowL st k ++ rowL m k := by
  unfold rowL
  rw [List.filter_append, List.map_append]
theorem rowL_one (c l k : Nat) : rowL [(c, l)] k = if l = k then [c] else [] := by
  unfold rowL
  by_cases h : l = k
  · simp [h]
  · simp [h]
theorem mem_row {st : Lvs} {k c : Nat} : c ∈ rowL st k ↔ (c, k) ∈ st := by
  unfold rowL
  rw [List.mem_map]
  constructor
  · rintro ⟨p, hp, rfl⟩
    obtain ⟨h1, h2⟩ := List.mem_filter.mp hp
    have : p.2 = k := of_decide_eq_true h2
    rw [← this]
    exact h1
  · intro h
    exact ⟨(c, k), List.mem_filter.mpr ⟨h, by simp⟩, rfl⟩
/-! ### alike words have the same steps -/
theorem nearL_perm {st st' : Lvs} (p : st.Perm st') (c : Nat) : nextL ps st c = nextL ps st' c := by
  unfold nextL nearL
  rw [topN_perm ((p.filter _).map _)]
theorem putL_perm {st st' : Lvs} (p : st.Perm st') (w : List Nat) : (w.foldl (putL ps) st).Perm (w.foldl (putL ps) st') := by
  induction w generalizing st st' with
  | nil => exact p
  | cons c r ih =>
    refine ih ?_
    unfold putL
    rw [nearL_perm p]
    exact p.append_right _
theorem nextL_skip {st : Lvs} {a la b : Nat} (h : ind ps a b = true) : nextL ps (st ++ [(a, la)]) b = nextL ps st b := by
  unfold nextL nearL
  rw [List.filter_append]
  have : List.filter (fun p : Nat × Nat => !ind ps p.1 b) [(a, la)] = [] := by
    rw [List.filter_cons, if_neg (by simp [h])]
    rfl
  rw [this, List.append_nil]
theorem lev_alike {w v : List Nat} (h : Exs ps w v) : (levL ps w).Perm (levL ps v) := by
  induction h with
  | refl => exact List.Perm.refl _
  | step _ e ih =>
    refine ih.trans ?_
    obtain ⟨p, q, x, y, hi⟩ := e
    unfold levL
    rw [List.foldl_append, List.foldl_append]
    show (q.foldl (putL ps) (putL ps (putL ps (p.foldl (putL ps) []) x) y)).Perm (q.foldl (putL ps) (putL ps (putL ps (p.foldl (putL ps) []) y) x))
    refine putL_perm ?_ q
    generalize p.foldl (putL ps) [] = st
    unfold putL
    rw [nextL_skip hi, nextL_skip (by rw [ind_comm]; exact hi), List.append_assoc, List.append_assoc]
    exact List.Perm.append_left _ (List.Perm.swap _ _ _)
theorem height_alike {w v : List Nat} (h : Exs ps w v) : heightM ps w = heightM ps v := topN_perm ((lev_alike h).map _)
theorem height_le (w : List Nat) : heightM ps w ≤ w.length := by
  have h : ∀ (w : List Nat) (st : Lvs), topN ((w.foldl (putL ps) st).map (·.2)) ≤ topN (st.map (·.2)) + w.length := by
    intro w
    induction w with
    | nil => intro st; exact Nat.le_refl _
    | cons c r ih =>
      intro st
      have := ih (putL ps st c)
      have e : topN ((putL ps st c).map (·.2)) ≤ topN (st.map (·.2)) + 1 := by
        unfold putL
        rw [List.map_append, topN_app]
        have e1 : topN (List.map (fun x : Nat × Nat => x.2) [(c, nextL ps st c)]) = nextL ps st c := topN_one _
        rw [e1]
        have : nextL ps st c ≤ topN (st.map (·.2)) + 1 := by
          unfold nextL
          by_cases z : topN (nearL ps st c) = 0
          · omega
          · have m := topN_mem z
            unfold nearL at m
            obtain ⟨p, hp, e⟩ := List.mem_map.mp m
            have := topN_le (List.mem_map.mpr ⟨p, (List.mem_filter.mp hp).1, rfl⟩ : p.2 ∈ st.map (·.2))
            have e : p.2 = topN (nearL ps st c) := e
            omega
        omega
      show topN ((r.foldl (putL ps) (putL ps st c)).map (·.2)) ≤ topN (st.map (·.2)) + (r.length + 1)
      omega
  have := h w []
  have e : topN (([] : Lvs).map (·.2)) = 0 := rfl
  unfold heightM levL
  omega
theorem steps_alike {w v : List Nat} (h : Exs ps w v) : stepsM ps w = stepsM ps v := by
  unfold stepsM
  rw [height_alike h]
  refine List.map_congr_left fun i _ => ?_
  exact (sortN_of ((sortN_perm _).trans (((lev_alike h).filter _).map _)) (sortN_sorted _))
/-! ### the steps are the word -/
/-- each letter is at the level above those that it depends on, and each level is reached -/
structure Lev (ps : List (List Nat)) (st : Lvs) : Prop where
  pos : ∀ p ∈ st, 1 ≤ p.2
  full : ∀ p ∈ st, ∀ k, 1 ≤ k → k ≤ p.2 → ∃ c, (c, k) ∈ st
  below : ∀ p ∈ st, 2 ≤ p.2 → ∃ c, (c, p.2 - 1) ∈ st ∧ ind ps c p.1 = false
  apart : st.Pairwise fun p q => p.2 = q.2 → ind ps p.1 q.1 = true
theorem mem_near {st : Lvs} {c k : Nat} : k ∈ nearL ps st c ↔ ∃ x, (x, k) ∈ st ∧ ind ps x c = false := by
  unfold nearL
  rw [List.mem_map]
  constructor
  · rintro ⟨p, hp, rfl⟩
    obtain ⟨h1, h2⟩ := List.mem_filter.mp hp
    exact ⟨p.1, h1, by simpa using h2⟩
  · rintro ⟨x, h1, h2⟩
    exact ⟨(x, k), List.mem_filter.mpr ⟨h1, by simp [h2]⟩, rfl⟩
theorem Lev.put {st : Lvs} (L : Lev ps st) (c : Nat) : Lev ps (putL ps st c) := by
  have cases' : ∀ {p}, p ∈ putL ps st c → p ∈ st ∨ p = (c, nextL ps st c) := fun {p} hp => by
    rcases List.mem_append.mp hp with h | h
    · exact .inl h
    · exact .inr (List.mem_singleton.mp h)
  have old : ∀ {p}, p ∈ st → p ∈ putL ps st c := fun h => List.mem_append_left _ h
  have low : 2 ≤ nextL ps st c → ∃ x, (x, nextL ps st c - 1) ∈ st ∧ ind ps x c = false := fun h => by
    have : topN (nearL ps st c) ≠ 0 := fun z => by unfold nextL at h; rw [z] at h; omega
    have := mem_near.mp (topN_mem this)
    exact this
  refine ⟨fun p hp => ?_, fun p hp k h1 h2 => ?_, fun p hp h => ?_, ?_⟩
  · rcases cases' hp with h | rfl
    · exact L.pos p h
    · exact Nat.succ_le_succ (Nat.zero_le _)
  · rcases cases' hp with h | rfl
    · obtain ⟨x, hx⟩ := L.full p h k h1 h2
      exact ⟨x, old hx⟩
    · by_cases e : k = nextL ps st c
      · exact ⟨c, by rw [e]; exact List.mem_append_right _ (List.mem_singleton.mpr rfl)⟩
      · have h2 : k ≤ nextL ps st c := h2
        obtain ⟨x, hx, _⟩ := low (by omega)
        obtain ⟨y, hy⟩ := L.full _ hx k h1 (by show k ≤ nextL ps st c - 1; omega)
        exact ⟨y, old hy⟩
  · rcases cases' hp with h' | rfl
    · obtain ⟨x, hx, hi⟩ := L.below p h' h
      exact ⟨x, old hx, hi⟩
    · obtain ⟨x, hx, hi⟩ := low h
      exact ⟨x, old hx, hi⟩
  · refine List.pairwise_append.mpr ⟨L.apart, List.pairwise_singleton .., fun p hp q hq e => ?_⟩
    rw [List.mem_singleton.mp hq] at e ⊢
    have e : p.2 = nextL ps st c := e
    cases h : ind ps p.1 c with
    | true => rfl
    | false =>
      have : p.2 ≤ topN (nearL ps st c) := topN_le (mem_near.mpr ⟨p.1, hp, h⟩)
      unfold nextL at e
      omega
theorem lev_ok (w : List Nat) : Lev ps (levL ps w) := by
  have h : ∀ (w : List Nat) (st : Lvs), Lev ps st → Lev ps (w.foldl (putL ps) st) := by
    intro w
    induction w with
    | nil => intro st L; exact L
    | cons c r ih => intro st L; exact ih _ (L.put c)
  exact h w [] ⟨fun p hp => (nomatch hp), fun p hp => (nomatch hp), fun p hp => (nomatch hp), List.Pairwise.nil⟩
/-- row behind row -/
def flatL (st : Lvs) (n : Nat) : List Nat := (List.range n).flatMap fun i => rowL st (i + 1)
theorem flatL_next (st : Lvs) (n : Nat) : flatL st (n + 1) = flatL st n ++ rowL st (n + 1) := by
  unfold flatL
  rw [List.range_succ, List.flatMap_append]
  simp
theorem flatL_less {st : Lvs} {c l : Nat} : ∀ n, n < l → flatL (st ++ [(c, l)]) n = flatL st n
  | 0, _ => rfl
  | n + 1, h => by
    rw [flatL_next, flatL_next, flatL_less n (by omega), rowL_app, rowL_one, if_neg (by omega), List.append_nil]
theorem flatL_put {st : Lvs} {c l : Nat} (hl : 1 ≤ l) (far : ∀ p ∈ st, l ≤ p.2 → ind ps p.1 c = true) : ∀ n, l ≤ n → ∃ A B, flatL (st ++ [(c, l)]) n = A ++ c :: B ∧ flatL st n = A ++ B ∧ ∀ x ∈ B, ind ps x c = true
  | 0, h => by omega
  | n + 1, h => by
    by_cases e : l = n + 1
    · refine ⟨flatL st (n + 1), [], ?_, by simp, by simp⟩
      rw [flatL_next, flatL_next, flatL_less n (by omega), rowL_app, rowL_one, if_pos e, List.append_assoc]
    · obtain ⟨A, B, h1, h2, h3⟩ := flatL_put hl far n (by omega)
      refine ⟨A, B ++ rowL st (n + 1), ?_, ?_, fun x hx => ?_⟩
      · rw [flatL_next, h1, rowL_app, rowL_one, if_neg e]
        simp
      · rw [flatL_next, h2, List.append_assoc]
      · rcases List.mem_append.mp hx with hx | hx
        · exact h3 x hx
        · exact far (x, n + 1) (mem_row.mp hx) (by show l ≤ n + 1; omega)
theorem flatL_more {st : Lvs} {h : Nat} (top : ∀ p ∈ st, p.2 ≤ h) : ∀ n, h ≤ n → flatL st n = flatL st h
  | 0, e => by
    have : h = 0 := by omega
    rw [this]
  | n + 1, e => by
    by_cases z : h = n + 1
    · rw [z]
    · rw [flatL_next, flatL_more top n (by omega)]
      have : rowL st (n + 1) = [] := List.eq_nil_iff_forall_not_mem.mpr fun x hx => by
        have := top _ (mem_row.mp hx)
        have : n + 1 ≤ h := this
        omega
      rw [this, List.append_nil]
theorem top_lev {st : Lvs} : ∀ p ∈ st, p.2 ≤ topN (st.map (·.2)) := fun p hp => topN_le (List.mem_map.mpr ⟨p, hp, rfl⟩)
theorem flat_alike : ∀ (r : List Nat), Exs ps r.reverse (flatL (levL ps r.reverse) (heightM ps r.reverse))
  | [] => .refl _
  | c :: r => by
    have ih := flat_alike r
    rw [List.reverse_cons]
    generalize r.reverse = w at ih
    unfold heightM at ih ⊢
    rw [levL_snoc]
    have far : ∀ p ∈ levL ps w, nextL ps (levL ps w) c ≤ p.2 → ind ps p.1 c = true := fun p hp h => by
      cases e : ind ps p.1 c with
      | true => rfl
      | false =>
        have := topN_le (mem_near.mpr ⟨p.1, hp, e⟩)
        unfold nextL at h
        omega
    unfold putL
    rw [List.map_append, topN_app]
    have e1 : topN (List.map (fun x : Nat × Nat => x.2) [(c, nextL ps (levL ps w) c)]) = nextL ps (levL ps w) c := topN_one _
    rw [e1]
    obtain ⟨A, B, h1, h2, h3⟩ := flatL_put (ps := ps) (st := levL ps w) (c := c) (l := nextL ps (levL ps w) c) (Nat.succ_le_succ (Nat.zero_le _)) far (max (topN ((levL ps w).map (·.2))) (nextL ps (levL ps w) c)) (Nat.le_max_right _ _)
    rw [flatL_more top_lev _ (Nat.le_max_left _ _)] at h2
    rw [h1]
    refine (ih.post [c]).trans ?_
    rw [h2, List.append_assoc]
    have := (bubble (ps := ps) c [] B h3).pre A
    rw [List.append_nil] at this
    exact this
/-- letters of which each two are independent may stand in any order -/
theorem exs_perm {l m : List Nat} (p : l.Perm m) (h : l.Pairwise fun x y => ind ps x y = true) : Exs ps l m := by
  induction p with
  | nil => exact .refl _
  | cons x _ ih => exact (ih (List.pairwise_cons.mp h).2).pre [x]
  | swap x y l => exact .one (.mk [] l y x ((List.pairwise_cons.mp h).1 x List.mem_cons_self))
  | trans p q a b => exact (a h).trans (b ((p.pairwise_iff (fun {x y} h => by rw [ind_comm]; exact h)).mp h))
theorem row_apart {st : Lvs} (L : Lev ps st) (k : Nat) : (rowL st k).Pairwise fun x y => ind ps x y = true := by
  unfold rowL
  rw [List.pairwise_map]
  have h := L.apart.filter (fun p : Nat × Nat => decide (p.2 = k))
  refine (List.Pairwise.and_mem.mp h).imp fun {p q} hpq => ?_
  obtain ⟨hp, hq, i⟩ := hpq
  have e1 : p.2 = k := of_decide_eq_true (List.mem_filter.mp hp).2
  have e2 : q.2 = k := of_decide_eq_true (List.mem_filter.mp hq).2
  exact i (e1.trans e2.symm)
theorem flat_sorted {st : Lvs} (L : Lev ps st) (n : Nat) : Exs ps (flatL st n) ((List.range n).flatMap fun i => sortN (rowL st (i + 1))) := by
  induction n with
  | zero => exact .refl _
  | succ n ih =>
    rw [flatL_next, List.range_succ, List.flatMap_append]
    have e : (List.flatMap (fun i => sortN (rowL st (i + 1))) [n]) = sortN (rowL st (n + 1)) := by simp
    rw [e]
    exact (ih.post _).trans ((exs_perm (sortN_perm _).symm (row_apart L _)).pre _)
/-- the steps, one behind the other, are alike the word -/
theorem steps_exs (w : List Nat) : Exs ps w (stepsM ps w).flatten := by
  have h := flat_alike (ps := ps) w.reverse
  rw [List.reverse_reverse] at h
  have g := flat_sorted (ps := ps) (lev_ok w) (heightM ps w)
  unfold stepsM
  rw [← List.flatMap_def]
  exact h.trans g
/-- what each step holds -/
theorem steps_iff {w v : List Nat} : stepsM ps w = stepsM ps v ↔ Exs ps w v := by
  constructor
  · intro h
    have h1 := steps_exs (ps := ps) w
    rw [h] at h1
    exact h1.trans (steps_exs v).symm
  · exact steps_alike
end TcG
/-! max(xs, default=d), xs a list of ints. -/
namespace TcG
open PySem PySem.Spec PyProof.Rows L2
theorem readsAll_ints {h : Heap} : ∀ {vs : List Value} {ns : List Int}, IntsAre vs ns → ∃ as, ReadsAll h vs (ns.map .int) as
  | _, _, .nil => ⟨_, .nil⟩
  | _, _, .cons i t r => let ⟨_, q⟩ := readsAll_ints r; ⟨_, .cons (.int i t) q⟩
theorem alike_ints (ns : List Int) : PySem.W.AlikeAll (ns.map .int) := by
  refine ⟨fun x hx y hy => ?_, fun x hx => ?_⟩
  · obtain ⟨i, _, rfl⟩ := List.mem_map.mp hx
    obtain ⟨j, _, rfl⟩ := List.mem_map.mp hy
    rfl
  · obtain ⟨i, _, rfl⟩ := List.mem_map.mp hx
    exact fun z => nomatch z
def rMaxD (K : PySem.W.Frag) : List V → List V → Hp → VK → Prop := fun vs zs H Q => ∃ (a : Addr) (ns : List Int) (d : V), vs = [.ref a] ∧ zs = [d] ∧ SqL K H a (ns.map V.int) ∧ (ns = [] → Q d H) ∧ ∀ y ys, ns = y :: ys → Q (.int (ys.foldl max y)) H
theorem cr_maxD {X : Cx} (hc : X.calm = true) (hu : X.A.units + 1 < cLine) : CallRK X (.builtin "max") [Str.ofString "default"] (rMaxD X.K) := by
  intro pins s σ H xs zs us ws Q I rx rz h
  obtain ⟨a, ns, d, rfl, rfl, hs, h0, h1⟩ := h
  obtain ⟨u, rfl, rd⟩ := vals1 rz
  obtain ⟨its, rv, hl, _⟩ := I.list hs
  rw [Vals.ref1 rx]
  obtain ⟨as, ra⟩ := readsAll_ints (h := s.heap) rv.ints
  refine PySem.W.max_list_default (I.ok.hd hc) hl.isList ra (alike_ints ns) (by rw [depthAll_ints]; exact hu) (fun e h' tk hk => ?_) (fun y ys i v h' tk bs e hv hr hk => ?_)
  · have e : ns = [] := List.map_eq_nil_iff.mp e
    exact ⟨d, H, I.kept hk, rd, h0 e⟩
  · cases ns with
    | nil => cases e
    | cons n r =>
      injection e with e1 e2
      subst e1
      subst e2
      rw [PySem.W.maxD_ints] at hr
      cases hr
      exact ⟨.int (r.foldl max n), H, I.kept hk, ⟨_, rfl⟩, h1 n r rfl⟩
end TcG
/-! Lists of natural numbers as values; the greatest one of them. -/
namespace TcG
open PySem PySem.Spec PyProof.Rows L2
def natsV (l : List Nat) : List V := l.map fun n : Nat => V.int (n : Int)
theorem natsV_len (l : List Nat) : (natsV l).length = l.length := List.length_map _
theorem natsV_app (a b : List Nat) : natsV (a ++ b) = natsV a ++ natsV b := List.map_append
theorem natsV_ints (l : List Nat) : natsV l = (l.map Int.ofNat).map V.int := by unfold natsV; rw [List.map_map]; rfl
theorem natsV_at {l : List Nat} {i n : Nat} (h : l[i]? = some n) : (natsV l)[i]? = some (.int (n : Int)) := by unfold natsV; rw [List.getElem?_map, h]; rfl
theorem fold_cast : ∀ (l : List Nat) (k : Nat), (l.map Int.ofNat).foldl max (k : Int) = ((l.foldl max k : Nat) : Int)
  | [], _ => rfl
  | x :: r, k => by
    show (r.map Int.ofNat).foldl max (max (k : Int) (Int.ofNat x)) = _
    have e : max (k : Int) (Int.ofNat x) = ((max k x : Nat) : Int) := by
      show max (k : Int) (x : Int) = _
      omega
    rw [e, fold_cast r]
    rfl
theorem tYes_of {σ : L2.St} {H : Hp} {A B : Hp → Prop} (h : A H) : tYes σ H fun b H3 => if b = true then A H3 else B H3 := by
  show if (true : Bool) = true then A H else B H
  rw [if_pos rfl]
  exact h
theorem nodup_at {α : Type} {l : List α} {i j : Nat} {x : α} (nd : l.Nodup) (hi : l[i]? = some x) (hj : l[j]? = some x) : i = j := by
  obtain ⟨a1, b1⟩ := List.getElem?_eq_some_iff.mp hi
  obtain ⟨a2, b2⟩ := List.getElem?_eq_some_iff.mp hj
  have h := List.pairwise_iff_getElem.mp nd
  rcases Nat.lt_trichotomy i j with lt | e | lt
  · exact absurd (b1.trans b2.symm) (h i j a1 a2 lt)
  · exact e
  · exact absurd (b2.trans b1.symm) (h j i a2 a1 lt)
/-- max(xs, default=d) -/
def maxNd (d : Int) (l : List Nat) : Int := if l = [] then d else (topN l : Int)
theorem maxNd_zero (l : List Nat) : maxNd 0 l = (topN l : Int) := by
  unfold maxNd
  by_cases h : l = []
  · rw [if_pos h, h]
    rfl
  · rw [if_neg h]
def rMaxN (K : PySem.W.Frag) : List V → List V → Hp → VK → Prop := fun vs zs H Q => ∃ (a : Addr) (l : List Nat) (d : Int), vs = [.ref a] ∧ zs = [.int d] ∧ SqL K H a (natsV l) ∧ Q (.int (maxNd d l)) H
theorem cr_maxN {X : Cx} (hc : X.calm = true) (hu : X.A.units + 1 < cLine) : CallRK X (.builtin "max") [Str.ofString "default"] (rMaxN X.K) := by
  intro pins s σ H xs zs us ws Q I rx rz h
  obtain ⟨a, l, d, rfl, rfl, h, q⟩ := h
  refine cr_maxD hc hu pins s σ H _ _ us ws Q I rx rz ⟨a, l.map Int.ofNat, .int d, rfl, rfl, by rw [← natsV_ints]; exact h, fun e => ?_, fun y ys e => ?_⟩
  · have : l = [] := List.map_eq_nil_iff.mp e
    subst this
    exact q
  · cases l with
    | nil => cases e
    | cons x r =>
      injection e with e1 e2
      subst e1
      subst e2
      have : (r.map Int.ofNat).foldl max (Int.ofNat x) = maxNd d (x :: r) := by
        refine (fold_cast r x).trans ?_
        unfold maxNd
        rw [if_neg (by simp)]
        show ((r.foldl max x : Nat) : Int) = ((r.foldl max (max 0 x) : Nat) : Int)
        rw [Nat.zero_max]
      rw [this]
      exact q
/-- those before the i-th that a letter depends on -/
theorem near_next {ps : List (List Nat)} {st : Lvs} {i x l c : Nat} (h : st[i]? = some (x, l)) : nearL ps (st.take (i + 1)) c = nearL ps (st.take i) c ++ if ind ps x c = true then [] else [l] := by
  unfold nearL
  rw [take_next h, List.filter_append, List.map_append]
  congr 1
  cases e : ind ps x c <;> simp [e]
theorem levL_take (ps : List (List Nat)) (a : List Nat) (i : Nat) : (levL ps a).take i = levL ps (a.take i) := by
  have g : ∀ (r : List Nat) (st : Lvs), ∃ m, r.foldl (putL ps) st = st ++ m := by
    intro r
    induction r with
    | nil => intro st; exact ⟨[], by simp⟩
    | cons c r ih =>
      intro st
      obtain ⟨m, e⟩ := ih (putL ps st c)
      refine ⟨(c, nextL ps st c) :: m, ?_⟩
      rw [List.foldl_cons, e]
      unfold putL
      simp
  have h : ∀ (r p : List Nat), (levL ps (p ++ r)).take p.length = levL ps p := by
    intro r p
    obtain ⟨m, e⟩ := g r (levL ps p)
    have e2 : levL ps (p ++ r) = levL ps p ++ m := by
      unfold levL at e ⊢
      rw [List.foldl_append, e]
    rw [e2, List.take_append_of_le_length (by rw [levL_len]; exact Nat.le_refl _), List.take_of_length_le (by rw [levL_len]; exact Nat.le_refl _)]
  by_cases hi : i ≤ a.length
  · have := h (a.drop i) (a.take i)
    rw [List.take_append_drop, List.length_take, Nat.min_eq_left hi] at this
    exact this
  · rw [List.take_of_length_le (by rw [levL_len]; omega), List.take_of_length_le (by omega)]
theorem levL_at {ps : List (List Nat)} {a : List Nat} {i c : Nat} (h : a[i]? = some c) : ∃ l, (levL ps a)[i]? = some (c, l) := by
  have e := congrArg (fun z : List Nat => z[i]?) (levL_fst (ps := ps) a)
  simp only [List.getElem?_map, h] at e
  cases g : (levL ps a)[i]? with
  | none =>
    rw [g] at e
    cases e
  | some p =>
    rw [g] at e
    exact ⟨p.2, by rw [← Option.some.inj e]⟩
end TcG
namespace Tc
open PySem PySem.Spec PyProof.Rows L2 TcG
section
variable {P : Program} {w : World} {K : PySem.W.Frag} {mg : Str → Option Value} {base : Heap}
/-! _law_only -/
def sp_only (K : PySem.W.Frag) : Sp := fun vs H Q _ => ∃ (a l : List Nat) (p : Addr), vs = [.str (tx a), .ref p] ∧ SqL K H p (l.map fun c => .str (tx [c])) ∧ a.length ≤ 1000 ∧ Q (.str (tx (a.filter fun c => decide (c ∈ l)))) H
theorem ok_only {f : Addr} {fd : FuncData} {k : Nat} (F : Fun K "_law_only" "_law_only" s_law_only f fd) : FnOk P w K mg base CX0 (k + 1) f fd ["word", "letters"] (sp_only K) := by
  refine F.ok sc_law_only (fun vs H Q E h => ?_) (fun cdv A outer s H vs Q E hr h => ?_)
  · obtain ⟨a, l, p, rfl, _⟩ := h
    rfl
  · obtain ⟨a, l, p, rfl, hS, small, q⟩ := h
    have nd := sc_law_only.nd
    refine ⟨_, pss_cons (ps_set (i := 2) nd rfl (.inl rfl) pe_str)
      (pss_cons (ps_for PassesOwn.never rfl (pi_str (pv 0)) (pg_name (i := 3) nd rfl (.inl rfl))
        (pss_one (ps_if (pt_cmpR op_in_seq (pv 3) (pv 1) (by rfl)) (pss_one (ps_set (i := 2) nd rfl (.inl rfl) (pe_op op_add_str (pv 2) (pv 3)))) pss_nil)))
      (pss_one (ps_ret (pv 2)))), ?_⟩
    refine ⟨.str (tx a), rfl, tx a, rfl, for_text (fun i σ H' => ∃ y3, σ = [some (.str (tx a)), some (.ref p), some (.str (tx ((a.take i).filter fun c => decide (c ∈ l)))), y3] ∧ H' = H) ⟨none, rfl, rfl⟩ (fun i c σ H1 hc hW => ?_) (fun σ H1 hW => ?_)⟩
    · obtain ⟨y3, rfl, rfl⟩ := hW
      have e : (l.map fun c => V.str (tx [c])) = txs (l.map fun c => [c]) := by
        unfold txs
        rw [List.map_map]
        rfl
      rw [e] at hS
      have mem : inV (.str (tx [c])) (txs (l.map fun c => [c])) = decide (c ∈ l) := by
        rw [inV_txs, Bool.eq_iff_iff, decide_eq_true_eq, decide_eq_true_eq, List.mem_map]
        constructor
        · rintro ⟨d, hd, e⟩
          cases e
          exact hd
        · intro h
          exact ⟨c, h, rfl⟩
      refine ⟨.str (tx [c]), rfl, .ref p, rfl, p, _, rfl, .inl hS, rfl, txs_flat _, _, rfl, ?_⟩
      show if inV (.str (tx [c])) (txs (l.map fun c => [c])) = true then _ else _
      rw [mem]
      by_cases h : c ∈ l
      · rw [decide_eq_true h]
        refine iteT ⟨.str _, rfl, .str _, rfl, _, _, rfl, rfl, ?_, some (.str (tx [c])), ?_, rfl⟩
        · rw [tx_length, tx_length]
          have := List.length_filter_le (fun c => decide (c ∈ l)) (a.take i)
          have h2 : (a.take i).length ≤ 1000 := by
            rw [List.length_take]
            omega
          exact small_line (by simp; omega)
        · rw [take_next hc, List.filter_append, List.filter_cons, if_pos (decide_eq_true h), tx_append]
          rfl
      · rw [decide_eq_false h]
        refine iteF ⟨some (.str (tx [c])), ?_, rfl⟩
        rw [take_next hc, List.filter_append, List.filter_cons, if_neg (by rw [decide_eq_false h]; exact Bool.false_ne_true), List.filter_nil, List.append_nil]
        rfl
    · obtain ⟨y3, rfl, rfl⟩ := hW
      rw [List.take_length]
      exact ⟨_, rfl, q⟩
end
end Tc
namespace Tc
open PySem PySem.Spec PyProof.Rows L2 TcG
theorem parts_count {ls : List Nat} {ps : List (List Nat)} {a b : List Nat} {x : Nat} (h : partsM ls ps a b = some (.count x)) : a.count x ≠ b.count x := by
  unfold partsM at h
  cases e : ls.find? (countsApart a b) with
  | some c =>
    rw [e] at h
    injection h with h
    injection h with h
    subst h
    have t := List.find?_some e
    exact of_decide_eq_true t
  | none =>
    rw [e] at h
    have h : orderOf ((pairsOf ls).find? (parted ps a b)) = some (.count x) := h
    cases g : (pairsOf ls).find? (parted ps a b) with
    | none =>
      rw [g] at h
      cases h
    | some p =>
      rw [g] at h
      unfold orderOf at h
      split at h
      · injection h with h
        cases h
      · cases h
theorem parts_order {ls : List Nat} {ps : List (List Nat)} {a b : List Nat} {x y : Nat} (h : partsM ls ps a b = some (.order x y)) : ind ps x y = false ∧ keepM [x, y] a ≠ keepM [x, y] b := by
  unfold partsM at h
  cases e : ls.find? (countsApart a b) with
  | some c =>
    rw [e] at h
    injection h with h
    cases h
  | none =>
    rw [e] at h
    have h : orderOf ((pairsOf ls).find? (parted ps a b)) = some (.order x y) := h
    cases g : (pairsOf ls).find? (parted ps a b) with
    | none =>
      rw [g] at h
      cases h
    | some p =>
      have t := List.find?_some g
      rw [g] at h
      obtain ⟨u, v, rfl, _⟩ := pairsOf_mem (List.mem_of_find?_eq_some g)
      have h : some (Paper.order u v) = some (.order x y) := h
      injection h with h
      injection h with h1 h2
      subst h1
      subst h2
      rw [parted_two] at t
      obtain ⟨t1, t2⟩ := Bool.and_eq_true_iff.mp t
      exact ⟨by simpa using t1, of_decide_eq_true t2⟩
section
variable {P : Program} {w : World} {K : PySem.W.Frag} {mg : Str → Option Value} {base : Heap}
theorem sc_really4 : FnScope ["word", "other", "paper", "x"] ["word", "other", "paper"] (defScope s_law_really) :=
  ⟨rfl, rfl, rfl, by decide +kernel, rfl, by decide +kernel, by decide +kernel⟩
def sp_really (K : PySem.W.Frag) : Sp := fun vs H Q _ => ∃ (v : V) (a b ls : List Nat) (ps : List (List Nat)) (m : Paper), vs = [.str (tx a), .str (tx b), v] ∧ PaperV H v (some m) ∧ partsM ls ps a b = some m ∧ a.length ≤ 60 ∧ b.length ≤ 60 ∧
  ∀ H', Same H H' → Q (.bl true) H'
theorem ok_really {f fO : Addr} {fd fdO : FuncData} (F : Fun K "_law_really" "_law_really" s_law_really f fd) (FO : Fun K "_law_only" "_law_only" s_law_only fO fdO) (gO : mg "_law_only" = some (.ref fO)) (ml : mg "len" = none) (mL : mg "list" = none) :
    FnOk P w K mg base CX0 2 f fd ["word", "other", "paper"] (sp_really K) := by
  have GO : FnOk P w K mg base CX0 1 fO fdO ["word", "letters"] (sp_only K) := ok_only FO
  have bO : Binds K fdO ["word", "letters"] [] := FO.binds fun _ _ _ _ _ _ us hl => match us, hl with | [_, _], _ => rfl
  refine F.ok sc_really4 (fun vs H Q E h => ?_) (fun cdv A outer s H vs Q E hr h => ?_)
  · obtain ⟨v, a, b, ls, ps, m, rfl, _⟩ := h
    rfl
  · obtain ⟨v, a, b, ls, ps, m, rfl, hp, hm, sa, sb, q⟩ := h
    have nd := sc_really4.nd
    refine ⟨_, pss_cons (ps_if (pt_cmpR op_eq (pe_ix ix_tup (pv 2) pe_int (fun _ _ => rfl)) pe_str (nomark _))
        (pss_one (ps_ret (pe_cmpR op_ne
          (pe_callB call_len_seq (by rfl) ml PySem.boot_len (pa_cons (pe_lc (own := [("x", 3)]) (g := gName 3) (tt := tTest (tOp rEq (tVar 3) (tOp (rIxT K) (tVar 2) (tC (.int 1))))) (te := tVar 3) rfl nd (pi_str (pv 0)) (blkOk_by (own := [("x", 3)]) (N := ["word", "other", "paper", "x"]) (sc := defScope s_law_really) (by decide +kernel))
            (fun _ _ _ _ _ => pg_name (i := 3) nd rfl (Or.inl rfl)) (fun _ _ _ _ _ => pts_one (pt_cmpR op_eq (pv 3) (pe_ix (r := rIxT K) ix_tup (pv 2) pe_int (fun _ _ => rfl)) (nomark _))) (fun _ _ _ _ _ => pv 3)) pa_nil))
          (pe_callB call_len_seq (by rfl) ml PySem.boot_len (pa_cons (pe_lc (own := [("x", 3)]) (g := gName 3) (tt := tTest (tOp rEq (tVar 3) (tOp (rIxT K) (tVar 2) (tC (.int 1))))) (te := tVar 3) rfl nd (pi_str (pv 1)) (blkOk_by (own := [("x", 3)]) (N := ["word", "other", "paper", "x"]) (sc := defScope s_law_really) (by decide +kernel))
            (fun _ _ _ _ _ => pg_name (i := 3) nd rfl (Or.inl rfl)) (fun _ _ _ _ _ => pts_one (pt_cmpR op_eq (pv 3) (pe_ix (r := rIxT K) ix_tup (pv 2) pe_int (fun _ _ => rfl)) (nomark _))) (fun _ _ _ _ _ => pv 3)) pa_nil)) (nomark _)))) pss_nil)
      (pss_one (ps_ret (pe_cmpR op_ne
        (pe_call GO hr (by rfl) gO FO.kp bO .nil pass0 (pa_cons (pv 0) (pa_cons (pe_callTy call_list_of (by rfl) mL (by decide +kernel) (pa_cons (pe_slice sl_tupA (pv 2) (po_some pe_int) po_none) pa_nil)) pa_nil)))
        (pe_call GO hr (by rfl) gO FO.kp bO .nil pass0 (pa_cons (pv 1) (pa_cons (pe_callTy call_list_of (by rfl) mL (by decide +kernel) (pa_cons (pe_slice sl_tupA (pv 2) (po_some pe_int) po_none) pa_nil)) pa_nil))) (nomark _)))), ?_⟩
    cases m with
    | count x =>
      obtain ⟨p, rfl, hp⟩ := hp
      have ne := parts_count hm
      refine ⟨.ref p, rfl, p, _, 0, .str "count", rfl, rfl, SqT.of hp, atI_nat (j := 0) rfl, rfl, _, rfl, ?_⟩
      rw [decide_eq_true rfl]
      have comp : ∀ (t : List Nat) (H1 : Hp), Same H H1 → t.length ≤ 60 → ∀ D, H1 D = none → ∀ (σ : L2.St) (y3 : Option V), σ = [some (.str (tx a)), some (.str (tx b)), some (.ref p), y3] → ∀ (Qd : Hp → Prop),
          (∀ H2, Same H1 H2 → H2 D = some (.lst ((ones (t.filter fun y => decide (y = x))).map V.str)) → Qd H2) → _ := fun t H1 sm0 st D nD σ y3 eσ Qd hq =>
        lc_text (l := t) (g := gName 3) (tt := tTest (tOp rEq (tVar 3) (tOp (rIxT K) (tVar 2) (tC (.int 1))))) (te := tVar 3) (vs := [3]) (σ := σ) (H1 := H1) (D := D) (Qd := Qd)
          (fun i H2 => Same H1 H2 ∧ H2 D = some (.lst ((ones ((t.take i).filter fun y => decide (y = x))).map V.str))) ⟨same_new nD, upd_same⟩ (fun i d H2 hd hV => by
            obtain ⟨sm, hD⟩ := hV
            subst eσ
            refine ⟨rfl, .str (tx [d]), rfl, .ref p, rfl, p, _, 1, .str (tx [x]), rfl, rfl, SqT.of (sm _ _ (sm0 _ _ hp)), atI_nat (j := 1) rfl, rfl, _, rfl, ?_⟩
            show if decide (V.str (tx [d]) = V.str (tx [x])) = true then _ else _
            rw [tx_eq, take_next hd, List.filter_append]
            by_cases e : d = x
            · rw [decide_eq_true (show [d] = [x] by rw [e])]
              refine iteT ⟨.str (tx [d]), rfl, _, hD, ?_, fun z o ez => ?_, ?_⟩
              · rw [List.length_map, ones_len]
                have h1 := List.length_filter_le (fun y => decide (y = x)) (t.take i)
                rw [List.length_take] at h1
                exact Nat.lt_of_le_of_lt (show _ ≤ 60 by omega) (by decide)
              · rw [upd_ne (ne_of_none ez nD)]
                exact sm z o ez
              · rw [upd_same, List.filter_cons, if_pos (decide_eq_true e), ones_append, List.map_append]
                rfl
            · rw [decide_eq_false (show ¬ [d] = [x] from fun z => e (List.cons.inj z).1)]
              refine iteF ⟨sm, ?_⟩
              rw [List.filter_cons, if_neg (by rw [decide_eq_false e]; exact Bool.false_ne_true), List.filter_nil, List.append_nil]
              exact hD) (fun H2 hV => by
            obtain ⟨sm, hD⟩ := hV
            rw [List.take_length] at hD
            exact hq H2 sm hD)
      have cnt : ∀ t : List Nat, (((ones (t.filter fun y => decide (y = x))).map V.str).length : Int) = ((t.count x : Nat) : Int) := fun t => by
        rw [List.length_map, ones_len, List.count_eq_length_filter]
        congr 2
      refine iteT ⟨.str (tx a), rfl, tx a, rfl, fun D nD => comp a H (Same.refl _) sa D nD _ _ rfl _ fun H2 sm2 hD => ?_⟩
      refine ⟨D, _, rfl, .inl (SqL.of hD), .str (tx b), rfl, tx b, rfl, fun D2 nD2 => comp b H2 sm2 sb D2 nD2 _ _ rfl _ fun H3 sm3 hD2 => ?_⟩
      refine ⟨D2, _, rfl, .inl (SqL.of hD2), rfl, ?_⟩
      rw [cnt, cnt, decide_eq_false (show ¬ V.int ((a.count x : Nat) : Int) = V.int ((b.count x : Nat) : Int) from fun z => ne (by have := V.int.inj z; omega))]
      exact q H3 (sm2.trans sm3)
    | order x y =>
      obtain ⟨p, rfl, hp⟩ := hp
      obtain ⟨_, ne⟩ := parts_order hm
      refine ⟨.ref p, rfl, p, _, 0, .str "order", rfl, rfl, SqT.of hp, atI_nat (j := 0) rfl, rfl, _, rfl, ?_⟩
      rw [decide_eq_false (show ¬ V.str "order" = V.str "count" from fun z => by have := V.str.inj z; revert this; decide)]
      refine iteF ?_
      have cut : cutV [V.str "order", .str (tx [x]), .str (tx [y])] (some 1) none = [V.str (tx [x]), .str (tx [y])] := rfl
      have part : ¬ HT.sIx 3 0 (some 1) = 0 := by decide
      refine ⟨.str (tx a), rfl, .ref p, rfl, 1, rfl, p, _, rfl, SqT.of hp, fun z => absurd z.1 part, fun _ t1 n1 => ?_⟩
      rw [cut]
      refine ⟨t1, _, rfl, .inr (SqT.of upd_same), fun l1 m1 => ?_⟩
      have sm1 : Same H (upd (upd H t1 (.tup [V.str (tx [x]), .str (tx [y])])) l1 (.lst [V.str (tx [x]), .str (tx [y])])) := (same_new n1).trans (same_new m1)
      refine ⟨a, [x, y], l1, rfl, SqL.of upd_same, by omega, ?_⟩
      generalize upd (upd H t1 (.tup [V.str (tx [x]), .str (tx [y])])) l1 (.lst [V.str (tx [x]), .str (tx [y])]) = H1 at sm1
      refine ⟨.str (tx b), rfl, .ref p, rfl, 1, rfl, p, _, rfl, SqT.of (sm1 _ _ hp), fun z => absurd z.1 part, fun _ t2 n2 => ?_⟩
      rw [cut]
      refine ⟨t2, _, rfl, .inr (SqT.of upd_same), fun l2 m2 => ?_⟩
      refine ⟨b, [x, y], l2, rfl, SqL.of upd_same, by omega, rfl, ?_⟩
      rw [decide_eq_false (show ¬ V.str (tx (a.filter fun c => decide (c ∈ [x, y]))) = V.str (tx (b.filter fun c => decide (c ∈ [x, y]))) from fun z => ne (tx_inj (V.str.inj z)))]
      exact q _ (sm1.trans ((same_new n2).trans (same_new m2)))
end
end Tc
namespace Tc
open PySem PySem.Spec PyProof.Rows L2 TcG
theorem scx_letter_pairs : FnScope ["letters", "low", "high"] ["letters"] (defScope s_letter_pairs) :=
  ⟨rfl, rfl, rfl, by decide +kernel, rfl, by decide +kernel, by decide +kernel⟩
section
variable {P : Program} {w : World} {K : PySem.W.Frag} {mg : Str → Option Value} {base : Heap}
def sp_letter_pairs : Sp := fun vs H Q _ => ∃ ls : List Nat, vs = [.str (tx ls)] ∧ ls.length ≤ 100 ∧ ∀ (p : Addr) (H' : Hp), Same H H' → H p = none → H' p = some (.lst (txs (pairsOf ls))) → Q (.ref p) H'
theorem ok_letter_pairs {f : Addr} {fd : FuncData} {k : Nat} (F : Fun K "letter_pairs" "letter_pairs" s_letter_pairs f fd) : FnOk P w K mg base CX0 (k + 1) f fd ["letters"] sp_letter_pairs := by
  refine F.ok scx_letter_pairs (fun vs H Q E h => ?_) (fun cdv A outer s H vs Q E hr h => ?_)
  · obtain ⟨ls, rfl, _⟩ := h
    rfl
  · obtain ⟨ls, rfl, small, q⟩ := h
    have nd := scx_letter_pairs.nd
    refine ⟨_, pss_one (ps_ret (pe_lc2 (own := [("low", 1), ("high", 2)]) (vs1 := [2]) (g := gName 1) (g1 := gName 2) (tt := tYes) rfl nd (pi_str (pv 0))
      (blkOk_by (own := [("low", 1), ("high", 2)]) (N := ["letters", "low", "high"]) (sc := defScope s_letter_pairs) (by decide +kernel)) (by decide)
      (fun _ _ _ _ _ => pg_name (i := 1) nd rfl (Or.inl rfl)) (fun _ _ _ _ _ => pts_nil) (fun _ _ _ _ _ => pi_str (pv 0)) (fun _ _ _ _ _ => pg_name (i := 2) nd rfl (Or.inl rfl))
      (fun _ _ _ _ _ => pts_one (pt_cmpR op_lt_str (pv 1) (pv 2) (nomark _))) (fun _ _ _ _ _ => pe_op op_add_str (pv 1) (pv 2)))), ?_⟩
    refine ⟨.str (tx ls), rfl, tx ls, rfl, fun D nD => lc2_first (fun i H' => Same H H' ∧ H' D = some (.lst (txs ((ls.take i).flatMap (pairsWith ls))))) ⟨same_new nD, upd_same⟩ (fun i c H1 hc hW => ?_) (fun H1 hW => ?_)⟩
    · obtain ⟨sm, hD⟩ := hW
      refine ⟨rfl, ?_⟩
      refine ⟨.str (tx ls), rfl, tx ls, rfl, lc2_text (fun j H' => Same H H' ∧ H' D = some (.lst (txs ((ls.take i).flatMap (pairsWith ls) ++ ((ls.take j).filter fun y => decide (c < y)).map fun y => [c, y])))) ⟨sm, by simpa using hD⟩ (fun j d H2 hd hV => ?_) (fun H2 hV => ?_)⟩
      · obtain ⟨sm, hD⟩ := hV
        refine ⟨rfl, .str (tx [c]), rfl, .str (tx [d]), rfl, _, _, rfl, rfl, _, rfl, ?_⟩
        rw [tx_lt, take_next hd, List.filter_append]
        by_cases lt : c < d
        · rw [decide_eq_true lt]
          refine iteT ⟨.str (tx [c]), rfl, .str (tx [d]), rfl, _, _, rfl, rfl, by show (1 + 1 : Nat) ≤ sizeLine; decide, _, hD, ?_, ?_, ?_⟩
          · unfold txs
            rw [List.length_map, List.length_append, List.length_map]
            have h1 := flat_len ls (ls.take i)
            have h2 := List.length_filter_le (fun y => decide (c < y)) (ls.take j)
            have h3 : (ls.take i).length ≤ 100 := by rw [List.length_take]; omega
            have h4 : (ls.take j).length ≤ 100 := by rw [List.length_take]; omega
            have h5 : (ls.take i).length * ls.length ≤ 100 * 100 := Nat.mul_le_mul h3 small
            refine Nat.lt_of_le_of_lt (show _ ≤ 20000 by omega) (by decide)
          · intro b o e
            rw [upd_ne (ne_of_none e nD)]
            exact sm b o e
          · rw [upd_same, List.filter_cons, if_pos (decide_eq_true lt), tx_append]
            unfold txs
            simp
        · rw [decide_eq_false lt]
          refine iteF ⟨sm, ?_⟩
          rw [List.filter_cons, if_neg (by rw [decide_eq_false lt]; exact Bool.false_ne_true), List.filter_nil, List.append_nil]
          exact hD
      · obtain ⟨sm, hD⟩ := hV
        refine ⟨sm, ?_⟩
        rw [take_next hc, List.flatMap_append, hD, List.take_length]
        unfold pairsWith
        simp
    · obtain ⟨sm, hD⟩ := hW
      refine q D H1 sm nD ?_
      rw [hD, List.take_length]
      rfl
end
end Tc
namespace Tc
open PySem PySem.Spec PyProof.Rows L2 TcG
section
variable {P : Program} {w : World} {K : PySem.W.Frag} {mg : Str → Option Value} {base : Heap}
/-! taken_out -/
def sp_taken (Pt : Addr) : Sp := fun vs H Q _ => ∃ (a l : List Nat), vs = [.str (tx a), .str (tx l)] ∧ a.length ≤ 1000 ∧ GxR.TabG H Pt ∧ ∀ H', GxR.Tabbed Pt H H' → Q (.str (tx (a.filter fun c => decide (c ∈ l)))) H'
theorem ok_taken {f c Pt : Addr} {fd : FuncData} {k : Nat} (F : FunC K "taken_out" "taken_out" s_taken_out f fd c) (TB : GxR.TabB base mg c Pt) : FnOk P w K mg base CX0 (k + 1) f fd ["word", "letters"] (sp_taken Pt) := by
  refine F.ok sc_taken_out (fun vs H Q E h => ?_) (fun A outer s H vs Q E hr h => ?_)
  · obtain ⟨a, l, rfl, _⟩ := h
    rfl
  · obtain ⟨a, l, rfl, small, tab, q⟩ := h
    refine ⟨_, pss_one (ps_ret (pe_kept hr TB rfl (by show genOk (defScope s_taken_out).names _ _ = true; decide +kernel) (pv 0) (iy := 1) rfl (by rfl) (by rfl) (fun _ => rfl))), ?_⟩
    exact ⟨.str (tx a), rfl, tx a, rfl, tab, tx l, rfl, small, q⟩
end
end Tc
/-! parts. -/
namespace Tc
open PySem PySem.Spec PyProof.Rows L2 TcG
section
variable {P : Program} {w : World} {K : PySem.W.Frag} {mg : Str → Option Value} {base : Heap}
def sp_parts (K : PySem.W.Frag) (Pt : Addr) : Sp := fun vs H Q _ => ∃ (al : Addr) (a b ls : List Nat) (ps : List (List Nat)), vs = [.ref al, .str (tx a), .str (tx b)] ∧ Alpha K H al ls ps ∧ GxR.TabG H Pt ∧ ls.length ≤ 100 ∧ a.length ≤ 1000 ∧ b.length ≤ 1000 ∧
  ∀ (v : V) (H' : Hp), Mv [Pt] H H' → GxR.TabG H' Pt → PaperV H' v (partsM ls ps a b) → Q v H'
theorem ok_parts {f fL fI fT cT Pt : Addr} {fd fdL fdI fdT : FuncData} (F : Fun K "parts" "parts" s_parts f fd) (FL : Fun K "letter_pairs" "letter_pairs" s_letter_pairs fL fdL) (gL : mg "letter_pairs" = some (.ref fL))
    (FI : Fun K "independent" "independent" s_independent fI fdI) (gI : mg "independent" = some (.ref fI)) (FT : FunC K "taken_out" "taken_out" s_taken_out fT fdT cT) (gT : mg "taken_out" = some (.ref fT)) (TB : GxR.TabB base mg cT Pt)
    (mn : mg "min" = none) (mx : mg "max" = none) : FnOk P w K mg base CX0 2 f fd ["alphabet", "word", "other"] (sp_parts K Pt) := by
  have GL : FnOk P w K mg base CX0 1 fL fdL ["letters"] sp_letter_pairs := ok_letter_pairs FL
  have bL : Binds K fdL ["letters"] [] := FL.binds fun _ _ _ _ _ _ us hl => match us, hl with | [_], _ => rfl
  have GI : FnOk P w K mg base CX0 1 fI fdI ["alphabet", "x", "y"] (sp_independent K) := ok_independent FI mn mx
  have bI : Binds K fdI ["alphabet", "x", "y"] [] := FI.binds fun _ _ _ _ _ _ us hl => match us, hl with | [_, _, _], _ => rfl
  have GT : FnOk P w K mg base CX0 1 fT fdT ["word", "letters"] (sp_taken Pt) := ok_taken FT TB
  have bT : Binds K fdT ["word", "letters"] [] := FT.fun.binds fun _ _ _ _ _ _ us hl => match us, hl with | [_, _], _ => rfl
  refine F.ok sc_parts (fun vs H Q E h => ?_) (fun cdv A outer s H vs Q E hr h => ?_)
  · obtain ⟨al, a, b, ls, ps, rfl, _⟩ := h
    rfl
  · obtain ⟨al, a, b, ls, ps, rfl, hA, tab, sl, sa, sb, q⟩ := h
    have nd := sc_parts.nd
    refine ⟨_, pss_cons (ps_set (i := 3) nd rfl (.inl rfl) (pe_ix ix_tup (pv 0) pe_int (fun _ _ => rfl)))
      (pss_cons (ps_for PassesOwn.never rfl (pi_str (pv 3)) (pg_name (i := 4) nd rfl (.inl rfl))
        (pss_one (ps_if (pt_cmpR op_ne (pe_m1 PySem.F.slot_str_count PySem.F.type_str_count mt_count (pv 1) (pv 4)) (pe_m1 PySem.F.slot_str_count PySem.F.type_str_count mt_count (pv 2) (pv 4)) (nomark _))
          (pss_one (ps_ret (pe_tup (pa_cons pe_str (pa_cons (pv 4) pa_nil))))) pss_nil)))
      (pss_cons (ps_for PassesOwn.never rfl (pi_list (pe_call GL hr (by rfl) gL FL.kp bL .nil pass0 (pa_cons (pv 3) pa_nil))) (pg_name (i := 5) nd rfl (.inl rfl))
        (pss_cons (ps_asg (pv 5) (pg_unT rfl (pgs_cons (pg_name (i := 6) nd rfl (.inl rfl)) (pgs_cons (pg_name (i := 7) nd rfl (.inl rfl)) pgs_nil))))
        (pss_one (ps_if (PW.pt (pw_and (pt_not (pt_val (pe_call GI hr (by rfl) gI FI.kp bI .nil pass0 (pa_cons (pv 0) (pa_cons (pv 6) (pa_cons (pv 7) pa_nil))))))
            (pw_and1 (pt_cmpR op_ne (pe_call GT hr (by rfl) gT FT.kp bT .nil pass0 (pa_cons (pv 1) (pa_cons (pv 5) pa_nil))) (pe_call GT hr (by rfl) gT FT.kp bT .nil pass0 (pa_cons (pv 2) (pa_cons (pv 5) pa_nil))) (nomark _)))))
          (pss_one (ps_ret (pe_tup (pa_cons pe_str (pa_cons (pv 6) (pa_cons (pv 7) pa_nil)))))) pss_nil))))
      (pss_one (ps_ret pe_non)))), ?_⟩
    have hA0 := hA
    obtain ⟨pt, h1, h2⟩ := hA0
    refine ⟨.ref al, rfl, al, _, 1, .str (tx ls), rfl, rfl, h1, atI_nat (j := 1) rfl, ?_⟩
    -- the numbers of each letter
    refine ⟨.str (tx ls), rfl, tx ls, rfl, for_text (fun i σ H' => ∃ y4, σ = [some (.ref al), some (.str (tx a)), some (.str (tx b)), some (.str (tx ls)), y4, none, none, none] ∧ H' = H ∧ ∀ c ∈ ls.take i, countsApart a b c = false)
      ⟨none, rfl, rfl, fun c hc => by simp at hc⟩ (fun i c σ H1 hc hW => ?_) (fun σ H1 hW => ?_)⟩
    · obtain ⟨y4, rfl, rfl, before⟩ := hW
      refine ⟨.str (tx a), rfl, ⟨_, rfl⟩, .str (tx [c]), rfl, tx a, tx [c], rfl, rfl, .str (tx b), rfl, ⟨_, rfl⟩, .str (tx [c]), rfl, tx b, tx [c], rfl, rfl, rfl, _, rfl, ?_⟩
      rw [count_tx, count_tx]
      by_cases e : a.count c = b.count c
      · rw [e, decide_eq_true rfl]
        refine iteF ⟨some (.str (tx [c])), rfl, rfl, fun d hd => ?_⟩
        rw [take_next hc] at hd
        rcases List.mem_append.mp hd with hd | hd
        · exact before d hd
        · rw [List.mem_singleton.mp hd]
          unfold countsApart
          rw [e]
          exact decide_eq_false fun z => z rfl
      · rw [decide_eq_false (show ¬ (V.int (a.count c : Int) = V.int (b.count c : Int)) from fun z => e (by injection z with z; omega))]
        refine iteT ⟨.str (tx [c]), rfl, by show 2 ≤ sizeLine; decide, fun p np => ?_⟩
        have found : ls.find? (countsApart a b) = some c := find_at hc before (decide_eq_true e)
        refine q _ _ (Mv.new np) ?_ ?_
        · obtain ⟨rows, t1, t2⟩ := tab
          exact ⟨rows, by rw [upd_ne (ne_of_none t1 np)]; exact t1, t2⟩
        · rw [partsM_count found]
          exact ⟨p, rfl, upd_same⟩
    · obtain ⟨y4, rfl, rfl, before⟩ := hW
      rw [List.take_length] at before
      have none1 : ls.find? (countsApart a b) = none := find_no before
      rw [partsM_order none1] at q
      refine ⟨.str (tx ls), rfl, ls, rfl, sl, fun p H2 sm np hp => ?_⟩
      have tab2 : GxR.TabG H2 Pt := let ⟨rows, t1, t2⟩ := tab; ⟨rows, sm _ _ t1, t2⟩
      have pP : p ∉ [Pt] := fun z => by
        obtain ⟨rows, t1, _⟩ := tab2
        rw [List.mem_singleton.mp z, t1] at hp
        cases hp
      refine ⟨p, rfl, ⟨_, SqL.of hp⟩, for_list (xs := txs (pairsOf ls)) (fun i σ H' => ∃ y5 y6 y7, σ = [some (.ref al), some (.str (tx a)), some (.str (tx b)), some (.str (tx ls)), y4, y5, y6, y7] ∧ Mv [Pt] H2 H' ∧ GxR.TabG H' Pt ∧ ∀ d ∈ (pairsOf ls).take i, parted ps a b d = false)
        ⟨none, none, none, rfl, Mv.refl _ _, tab2, fun d hd => by simp at hd⟩ (fun i σ H3 _ hW => ?_) (fun i x σ H3 hx hW => ?_) (fun σ H3 hW => ?_)⟩
      · obtain ⟨y5, y6, y7, rfl, mv, tb, _⟩ := hW
        exact SqL.of (mv p _ pP hp)
      · obtain ⟨y5, y6, y7, rfl, mv, tb, before2⟩ := hW
        obtain ⟨d, hd, rfl⟩ : ∃ d, (pairsOf ls)[i]? = some d ∧ x = .str (tx d) := by
          unfold txs at hx
          rw [List.getElem?_map] at hx
          cases e : (pairsOf ls)[i]? with
          | none =>
            rw [e] at hx
            cases hx
          | some d =>
            rw [e] at hx
            cases hx
            exact ⟨d, rfl, rfl⟩
        obtain ⟨u, v, rfl, _, _, lt⟩ := pairsOf_mem (List.mem_of_getElem? hd)
        have hA3 : Alpha K H3 al ls ps := (hA.same sm).mvT tab2 mv
        refine ⟨.str (tx [u, v]), rfl, [u, v], rfl, rfl, .str (tx [u]), _, rfl, .str (tx [v]), _, rfl, rfl, ?_⟩
        refine ⟨.ref al, rfl, .str (tx [u]), rfl, .str (tx [v]), rfl, al, u, v, ls, ps, rfl, hA3, _, rfl, ?_⟩
        have stay : ∀ H4, Mv [Pt] H3 H4 → GxR.TabG H4 Pt → parted ps a b [u, v] = false → ∃ y5 y6 y7, [some (V.ref al), some (.str (tx a)), some (.str (tx b)), some (.str (tx ls)), y4, some (.str (tx [u, v])), some (.str (tx [u])), some (.str (tx [v]))] = [some (.ref al), some (.str (tx a)), some (.str (tx b)), some (.str (tx ls)), y4, y5, y6, y7] ∧ Mv [Pt] H2 H4 ∧ GxR.TabG H4 Pt ∧ ∀ d ∈ (pairsOf ls).take (i + 1), parted ps a b d = false := fun H4 m4 t4 no => by
          refine ⟨_, _, _, rfl, mv.trans m4, t4, fun d' hd' => ?_⟩
          rw [take_next hd] at hd'
          rcases List.mem_append.mp hd' with hd' | hd'
          · exact before2 d' hd'
          · rw [List.mem_singleton.mp hd']
            exact no
        by_cases free : ind ps u v = true
        · rw [free]
          refine iteF (iteF (stay H3 (Mv.refl _ _) tb ?_))
          rw [parted_two, free]
          rfl
        · rw [Bool.not_eq_true] at free
          rw [free]
          refine iteT ⟨.str (tx a), rfl, .str (tx [u, v]), rfl, a, [u, v], rfl, sa, tb, fun H4 tb4 => ?_⟩
          refine ⟨.str (tx b), rfl, .str (tx [u, v]), rfl, b, [u, v], rfl, sb, tb4.1, fun H5 tb5 => ⟨rfl, _, rfl, ?_⟩⟩
          have m5 : Mv [Pt] H3 H5 := (Mv.tabbed tb4).trans (Mv.tabbed tb5)
          rw [tx_eq]
          by_cases e : keepM [u, v] a = keepM [u, v] b
          · rw [show (decide ((a.filter fun c => decide (c ∈ [u, v])) = (b.filter fun c => decide (c ∈ [u, v])))) = true from decide_eq_true e]
            refine iteF (stay H5 m5 tb5.1 ?_)
            rw [parted_two, free]
            exact decide_eq_false fun z => z e
          · rw [show (decide ((a.filter fun c => decide (c ∈ [u, v])) = (b.filter fun c => decide (c ∈ [u, v])))) = false from decide_eq_false e]
            refine iteT ⟨.str (tx [u]), rfl, .str (tx [v]), rfl, by show 3 ≤ sizeLine; decide, fun r nr => ?_⟩
            have found : (pairsOf ls).find? (parted ps a b) = some [u, v] := find_at hd before2 (by
              rw [parted_two, free]
              exact decide_eq_true e)
            rw [found] at q
            refine q _ _ (((Mv.of_same sm).trans mv).trans (m5.trans (Mv.new nr))) ?_ ⟨r, rfl, upd_same⟩
            obtain ⟨rows, t1, t2⟩ := tb5.1
            exact ⟨rows, by rw [upd_ne (ne_of_none t1 nr)]; exact t1, t2⟩
      · obtain ⟨y5, y6, y7, rfl, mv, tb, before2⟩ := hW
        have len : (txs (pairsOf ls)).length = (pairsOf ls).length := by
          unfold txs
          rw [List.length_map]
        rw [len, List.take_length] at before2
        have none2 : (pairsOf ls).find? (parted ps a b) = none := find_no before2
        rw [none2] at q
        exact q _ _ ((Mv.of_same sm).trans mv) tb rfl
end
end Tc
/-! swapped, can_exchange, exchanges, distance. -/
namespace Tc
open PySem PySem.Spec PyProof.Rows L2 TcG
section
variable {P : Program} {w : World} {K : PySem.W.Frag} {mg : Str → Option Value} {base : Heap}
def sp_swapped : Sp := fun vs H Q _ => ∃ (a : List Nat) (k : Nat), vs = [.str (tx a), .int (k : Int)] ∧ k + 1 < a.length ∧ a.length ≤ 100 ∧ Q (.str (tx (swapAt a k))) H
theorem ok_swapped {f : Addr} {fd : FuncData} {k : Nat} (F : Fun K "swapped" "swapped" s_swapped f fd) : FnOk P w K mg base CX0 (k + 1) f fd ["word", "place"] sp_swapped := by
  refine F.ok sc_swapped (fun vs H Q E h => ?_) (fun cdv A outer s H vs Q E hr h => ?_)
  · obtain ⟨a, k, rfl, _⟩ := h
    rfl
  · obtain ⟨a, j, rfl, h2, la, q⟩ := h
    refine ⟨_, pss_one (ps_ret (pe_op op_add_str (pe_op op_add_str (pe_op op_add_str (pe_slice sl_str (pv 0) po_none (po_some (pv 1))) (pe_ix ix_str (pv 0) (pe_op op_add (pv 1) pe_int) (fun _ _ => rfl)))
        (pe_ix ix_str (pv 0) (pv 1) (fun _ _ => rfl))) (pe_slice sl_str (pv 0) (po_some (pe_op op_add (pv 1) pe_int)) po_none))), ?_⟩
    have h1 : j < a.length := by omega
    have g1 : a[j]? = some a[j] := List.getElem?_eq_getElem h1
    have g2 : a[j + 1]? = some a[j + 1] := List.getElem?_eq_getElem h2
    have zl : (tx a).length ≤ sizeLine := by
      rw [tx_length]
      exact small_line (by omega)
    have a2 : atI (tx a).cps.toList ((j : Int) + 1) = some a[j + 1] := at_eq (by omega) g2
    refine ⟨.str (tx a), rfl, .int j, rfl, (j : Int), rfl, tx a, rfl, zl, .str (tx a), rfl, .int j, rfl, (j : Int), 1, rfl, rfl, tx a, (j : Int) + 1, a[j + 1], rfl, rfl, zl, a2, ?_⟩
    rw [cut_to]
    have t1 : (a.take j).length ≤ 100 := by
      rw [List.length_take]
      omega
    refine ⟨tx (a.take j), tx [a[j + 1]], rfl, rfl, small_line (by rw [tx_length, tx_length]; simp at *; omega), .str (tx a), rfl, .int j, rfl, tx a, (j : Int), a[j], rfl, rfl, zl, atI_nat g1, ?_⟩
    rw [tx_append]
    refine ⟨tx (a.take j ++ [a[j + 1]]), tx [a[j]], rfl, rfl, small_line (by rw [tx_length, tx_length]; simp at *; omega), .str (tx a), rfl, .int j, rfl, (j : Int), 2, rfl, rfl, ((j + 2 : Nat) : Int), rfl, tx a, rfl, zl, ?_⟩
    rw [tx_append, cut_from]
    have t2 : (a.drop (j + 2)).length ≤ 100 := by
      rw [List.length_drop]
      omega
    refine ⟨tx (a.take j ++ [a[j + 1]] ++ [a[j]]), tx (a.drop (j + 2)), rfl, rfl, small_line (by rw [tx_length, tx_length]; simp at *; omega), ?_⟩
    rw [tx_append]
    rw [swapAt_eq g1 g2] at q
    exact q

def sp_can (K : PySem.W.Frag) : Sp := fun vs H Q _ => ∃ (al : Addr) (a ls : List Nat) (ps : List (List Nat)) (z : Int), vs = [.ref al, .str (tx a), .int z] ∧ Alpha K H al ls ps ∧ a.length ≤ 100 ∧ Q (.bl (canAt ps a z)) H
theorem ok_can {f fI : Addr} {fd fdI : FuncData} (F : Fun K "can_exchange" "can_exchange" s_can_exchange f fd) (FI : Fun K "independent" "independent" s_independent fI fdI) (gI : mg "independent" = some (.ref fI))
    (ml : mg "len" = none) (mn : mg "min" = none) (mx : mg "max" = none) : FnOk P w K mg base CX0 2 f fd ["alphabet", "word", "place"] (sp_can K) := by
  have GI : FnOk P w K mg base CX0 1 fI fdI ["alphabet", "x", "y"] (sp_independent K) := ok_independent FI mn mx
  have bI : Binds K fdI ["alphabet", "x", "y"] [] := FI.binds fun _ _ _ _ _ _ us hl => match us, hl with | [_, _, _], _ => rfl
  refine F.ok sc_can_exchange (fun vs H Q E h => ?_) (fun cdv A outer s H vs Q E hr h => ?_)
  · obtain ⟨al, a, ls, ps, z, rfl, _⟩ := h
    rfl
  · obtain ⟨al, a, ls, ps, z, rfl, hA, la, q⟩ := h
    refine ⟨_, pss_one (ps_ret (pe_and (pe_chain op_le op_lt pe_int (pv 2) (pe_op op_sub (pe_callB call_len_str (by rfl) ml PySem.boot_len (pa_cons (pv 1) pa_nil)) pe_int))
      (pe_one (pe_call GI hr (by rfl) gI FI.kp bI .nil pass0 (pa_cons (pv 0) (pa_cons (pe_ix ix_str (pv 1) (pv 2) (fun _ _ => rfl)) (pa_cons (pe_ix ix_str (pv 1) (pe_op op_add (pv 2) pe_int) (fun _ _ => rfl)) pa_nil))))))), ?_⟩
    have zl : (tx a).length ≤ sizeLine := by
      rw [tx_length]
      exact small_line (by omega)
    refine ⟨.int z, rfl, 0, z, rfl, rfl, _, rfl, ?_⟩
    by_cases lo : (0 : Int) ≤ z
    · rw [decide_eq_true lo]
      refine iteT ⟨.str (tx a), rfl, tx a, rfl, zl, ((tx a).length : Int), 1, rfl, rfl, z, _, rfl, rfl, ?_⟩
      rw [tx_length]
      refine ⟨decide (z < (a.length : Int) - 1), rfl, ?_⟩
      by_cases hi : z < (a.length : Int) - 1
      · rw [decide_eq_true hi]
        obtain ⟨j, rfl⟩ : ∃ j : Nat, z = (j : Int) := ⟨z.toNat, by omega⟩
        have h1 : j < a.length := by omega
        have h2 : j + 1 < a.length := by omega
        have g1 : a[j]? = some a[j] := List.getElem?_eq_getElem h1
        have g2 : a[j + 1]? = some a[j + 1] := List.getElem?_eq_getElem h2
        have a2 : atI (tx a).cps.toList ((j : Int) + 1) = some a[j + 1] := at_eq (by omega) g2
        rw [canAt_in g1 g2] at q
        exact iteT ⟨.ref al, rfl, .str (tx a), rfl, .int j, rfl, tx a, (j : Int), a[j], rfl, rfl, zl, atI_nat g1, .str (tx a), rfl, .int j, rfl, (j : Int), 1, rfl, rfl, tx a, (j : Int) + 1, a[j + 1], rfl, rfl, zl, a2, al, a[j], a[j + 1], ls, ps, rfl, hA, q⟩
      · rw [decide_eq_false hi]
        rw [canAt_out fun z => hi z.2] at q
        exact iteF q
    · rw [decide_eq_false lo]
      rw [canAt_out fun z => lo z.1] at q
      exact iteF ⟨false, rfl, iteF q⟩
end
end Tc
/-! exchanges, distance. -/
namespace Tc
open PySem PySem.Spec PyProof.Rows L2 TcG
theorem swap_mid (pre r s : List Nat) (x y : Nat) : swapAt (pre ++ (r ++ [y] ++ x :: s)) (pre.length + r.length) = pre ++ (r ++ x :: y :: s) := by
  have ew : pre ++ (r ++ [y] ++ x :: s) = (pre ++ r) ++ y :: x :: s := by simp
  have hy : ((pre ++ r) ++ y :: x :: s)[(pre ++ r).length]? = some y := by simp
  have hx : ((pre ++ r) ++ y :: x :: s)[(pre ++ r).length + 1]? = some x := by
    rw [List.getElem?_append_right (by omega), show (pre ++ r).length + 1 - (pre ++ r).length = 1 by omega]
    rfl
  rw [ew, ← List.length_append, swapAt_eq hy hx, List.take_left]
  have : ((pre ++ r) ++ y :: x :: s).drop ((pre ++ r).length + 2) = s := by
    rw [← List.drop_drop, List.drop_left]
    rfl
  rw [this]
  simp
theorem paper_none {H : Hp} {v : V} {m : Option Paper} (h : PaperV H v m) : decide (v = .non) = m.isNone := by
  cases m with
  | none =>
    have h : v = .non := h
    rw [h]
    rfl
  | some p =>
    cases p with
    | count x =>
      obtain ⟨r, e, hr⟩ := h
      rw [e]
      rfl
    | order x y =>
      obtain ⟨r, e, hr⟩ := h
      rw [e]
      rfl
def numsV (l : List Nat) : List V := l.map fun n : Nat => V.int (n : Int)
section
variable {P : Program} {w : World} {K : PySem.W.Frag} {mg : Str → Option Value} {base : Heap}
def sp_exchanges (K : PySem.W.Frag) (Pt : Addr) : Sp := fun vs H Q _ => ∃ (al : Addr) (a b ls : List Nat) (ps : List (List Nat)), vs = [.ref al, .str (tx a), .str (tx b)] ∧ Alpha K H al ls ps ∧ Pairs ls ps ∧ GxR.TabG H Pt ∧ ls.length ≤ 100 ∧ a.length ≤ 100 ∧ b.length ≤ 100 ∧ (∀ c ∈ a, c ∈ ls) ∧ (∀ c ∈ b, c ∈ ls) ∧
  (∀ H', Mv [Pt] H H' → GxR.TabG H' Pt → ¬ Exs ps a b → Q .non H') ∧ ∀ (p : Addr) (H' : Hp), Mv [Pt] H H' → GxR.TabG H' Pt → Exs ps a b → H' p = some (.tup (numsV (exL 0 a b))) → Q (.ref p) H'
theorem ok_exchanges {f fP fS Pt : Addr} {fd fdP fdS : FuncData} (F : Fun K "exchanges" "exchanges" s_exchanges f fd) (FP : Fun K "parts" "parts" s_parts fP fdP) (gP : mg "parts" = some (.ref fP)) (GP : FnOk P w K mg base CX0 2 fP fdP ["alphabet", "word", "other"] (sp_parts K Pt))
    (FS : Fun K "swapped" "swapped" s_swapped fS fdS) (gS : mg "swapped" = some (.ref fS)) (me : mg "enumerate" = none) (mr : mg "range" = none) (mt : mg "tuple" = none) : FnOk P w K mg base CX0 3 f fd ["alphabet", "word", "other"] (sp_exchanges K Pt) := by
  have bP : Binds K fdP ["alphabet", "word", "other"] [] := FP.binds fun _ _ _ _ _ _ us hl => match us, hl with | [_, _, _], _ => rfl
  have GS : FnOk P w K mg base CX0 1 fS fdS ["word", "place"] sp_swapped := ok_swapped FS
  have bS : Binds K fdS ["word", "place"] [] := FS.binds fun _ _ _ _ _ _ us hl => match us, hl with | [_, _], _ => rfl
  refine F.ok sc_exchanges (fun vs H Q E h => ?_) (fun cdv A outer s H vs Q E hr h => ?_)
  · obtain ⟨al, a, b, ls, ps, rfl, _⟩ := h
    rfl
  · obtain ⟨al, a, b, ls, ps, rfl, hA, pr, tab, l1, l2, l3, ia, ib, qn, qy⟩ := h
    have nd := sc_exchanges.nd
    have hr1 : Room 1 _ := hr.mono (by decide)
    refine ⟨_, pss_cons (ps_if (pt_cmpR op_notN (pe_call GP hr (by rfl) gP FP.kp bP .nil pass0 (pa_cons (pv 0) (pa_cons (pv 1) (pa_cons (pv 2) pa_nil)))) pe_non (nomark _)) (pss_one (ps_ret pe_non)) pss_nil)
      (pss_cons (ps_set (i := 3) nd rfl (.inl rfl) (pe_lst pa_nil))
      (pss_cons (ps_set (i := 4) nd rfl (.inl rfl) (pv 1))
      (pss_cons (ps_for PassesOwn.never rfl (pi_enumS (by rfl) me (pa_cons (pv 2) pa_nil)) (pg_tup (by rfl) (pgs_cons (pg_name (i := 5) nd rfl (.inl rfl)) (pgs_cons (pg_name (i := 6) nd rfl (.inl rfl)) pgs_nil)))
        (pss_cons (ps_set (i := 7) nd rfl (.inl rfl) (pe_bmS PySem.F.plainAttrs_str PySem.F.slot_str_index PySem.F.type_str_index (mt_indexFromX (by rfl) takes0) (pv 4) (pa_cons (pv 6) (pa_cons (pv 5) pa_nil))))
        (pss_one (ps_for PassesOwn.never rfl (pi_range3 (by rfl) mr (pa_cons (pe_op op_sub (pv 7) pe_int) (pa_cons (pe_op op_sub (pv 5) pe_int) (pa_cons (pe_un un_neg pe_int) pa_nil)))) (pg_name (i := 8) nd rfl (.inl rfl))
          (pss_cons (ps_expr (pe_bm PySem.F.plainAttrs_list PySem.F.slot_list_append PySem.F.type_list_append mt_append (pv 3) (pa_cons (pv 8) pa_nil)))
          (pss_one (ps_set (i := 4) nd rfl (.inl rfl) (pe_call GS hr1 (by rfl) gS FS.kp bS .nil pass0 (pa_cons (pv 4) (pa_cons (pv 8) pa_nil))))))))))
      (pss_one (ps_ret (pe_callTy call_tuple_of (by rfl) mt (by decide +kernel) (pa_cons (pv 3) pa_nil))))))), ?_⟩
    refine ⟨.ref al, rfl, .str (tx a), rfl, .str (tx b), rfl, al, a, b, ls, ps, rfl, hA, tab, l1, by omega, by omega, fun v H1 mv1 tab1 hv => ?_⟩
    refine ⟨rfl, _, rfl, ?_⟩
    rw [paper_none hv]
    have iff := partsM_none pr ia ib
    cases e : partsM ls ps a b with
    | some pp =>
      have no : ¬ Exs ps a b := fun z => by
        rw [iff.mpr z] at e
        cases e
      exact iteT (qn H1 mv1 tab1 no)
    | none =>
      have yes : Exs ps a b := iff.mp e
      refine iteF ⟨by show 0 ≤ sizeLine; decide, fun r nr => ?_⟩
      refine ⟨.str (tx a), rfl, ?_⟩
      have kp0 : KeepsA ps a b := yes.keepsA pr
      have bound : (exL 0 a b).length ≤ 100 * 101 := Nat.le_trans (exL_len b a 0) (Nat.mul_le_mul l3 (by omega))
      refine ⟨.str (tx b), rfl, tx b, rfl, for_enumS (fun i σ H' => ∃ (rest L : List Nat) (y5 y6 y7 y8 : Option V), σ = [some (.ref al), some (.str (tx a)), some (.str (tx b)), some (.ref r), some (.str (tx (b.take i ++ rest))), y5, y6, y7, y8] ∧
          KeepsA ps rest (b.drop i) ∧ L ++ exL i rest (b.drop i) = exL 0 a b ∧ (b.take i ++ rest).length ≤ 100 ∧ Same H1 H' ∧ H' r = some (.lst (numsV L)))
        ⟨a, [], none, none, none, none, rfl, kp0, rfl, l2, same_new nr, upd_same⟩ (fun i c σ H2 T hc hW nT => ?_) (fun σ H2 hW => ?_)⟩
      · obtain ⟨rest, L, y5, y6, y7, y8, rfl, kp, eL, lw, sm2, hr2⟩ := hW
        have rT : r ≠ T := ne_of_none hr2 nT
        have lt : i < b.length := (List.getElem?_eq_some_iff.mp hc).1
        have ed : b.drop i = c :: b.drop (i + 1) := by
          rw [List.drop_eq_getElem_cons lt]
          congr 1
          exact (List.getElem?_eq_some_iff.mp hc).2
        rw [ed] at kp eL
        obtain ⟨p, q, rfl, nx, free, kp2⟩ := keepsA_step pr kp
        have lpre : (b.take i).length = i := by
          rw [List.length_take]
          omega
        have exE : exL i (p ++ c :: q) (c :: b.drop (i + 1)) = desc i p.length ++ exL (i + 1) (p ++ q) (b.drop (i + 1)) := by
          rw [exL, idx_first nx, erase_first nx]
        rw [exE] at eL
        refine ⟨T, _, rfl, SqT.of upd_same, rfl, .int (i : Nat), _, rfl, .str (tx [c]), _, rfl, rfl, ?_⟩
        have sm3 : Same H1 (upd H2 T (.tup [.int (i : Nat), .str (tx [c])])) := sm2.trans (same_new nT)
        have hr3 : (upd H2 T (.tup [.int (i : Nat), .str (tx [c])])) r = some (.lst (numsV L)) := by
          rw [upd_ne rT]
          exact hr2
        have lp : p.length ≤ 100 := by
          rw [List.length_append, List.length_append] at lw
          omega
        -- found
        refine ⟨.str (tx (b.take i ++ (p ++ c :: q))), rfl, rfl, .str (tx [c]), rfl, .int (i : Nat), rfl, tx (b.take i ++ (p ++ c :: q)), tx [c], (i : Int), rfl, rfl, ?_, ?_⟩
        · intro k hk
          have ix := index_from (pre := b.take i) (q := q) nx
          rw [lpre] at ix
          rw [ix] at hk
          obtain rfl := Option.some.inj hk
          -- the letter goes to its place
          refine ⟨.int ((i + p.length : Nat) : Int), rfl, _, 1, rfl, rfl, .int (i : Nat), rfl, _, 1, rfl, rfl, 1, rfl, ((i + p.length : Nat) : Int) - 1, (i : Int) - 1, -1, _, rfl, RgC.neg (by omega) (by omega) (by omega) (by omega), ?_⟩
          have en : (((i + p.length : Nat) : Int) - 1 - ((i : Int) - 1)).toNat = p.length := by omega
          rw [en]
          refine for_rangeC (lo := ((i + p.length : Nat) : Int) - 1) (c := -1) (n := p.length) (fun t σ H' => ∃ (p1 p2 L1 : List Nat) (y8 : Option V), σ = [some (.ref al), some (.str (tx a)), some (.str (tx b)), some (.ref r), some (.str (tx (b.take i ++ (p1 ++ c :: (p2 ++ q))))), some (.int (i : Nat)), some (.str (tx [c])), some (.int ((i + p.length : Nat) : Int)), y8] ∧
              p = p1 ++ p2 ∧ p2.length = t ∧ L1 ++ desc i p1.length ++ exL (i + 1) (p ++ q) (b.drop (i + 1)) = exL 0 a b ∧ Same H1 H' ∧ H' r = some (.lst (numsV L1)))
            ⟨p, [], L, y8, rfl, by simp, rfl, by rw [List.append_assoc]; exact eL, sm3, hr3⟩ (fun t σ H4 ht hV => ?_) (fun σ H4 hV => ?_)
          · obtain ⟨p1, p2, L1, y8, rfl, ep, e2, eL1, sm4, hr4⟩ := hV
            have l1p : p1.length + t = p.length := by
              rw [ep, List.length_append, e2]
            obtain ⟨r1, y, rfl⟩ : ∃ r1 y, p1 = r1 ++ [y] := ⟨p1.dropLast, p1.getLast (fun z => by rw [z] at l1p; simp at l1p; omega), (List.dropLast_concat_getLast _).symm⟩
            have lr : (r1 ++ [y]).length = r1.length + 1 := by simp
            have pl : ((i + p.length : Nat) : Int) - 1 + (t : Nat) * -1 = ((i + r1.length : Nat) : Int) := by
              rw [lr] at l1p
              omega
            rw [pl]
            have few : L1.length ≤ 100 * 101 := by
              have := congrArg List.length eL1
              rw [List.length_append, List.length_append] at this
              omega
            have lw2 : (b.take i ++ (r1 ++ [y] ++ c :: (p2 ++ q))).length = (b.take i ++ (p ++ c :: q)).length := by
              rw [ep]
              simp only [List.length_append, List.length_cons, List.length_nil]
              omega
            refine ⟨.ref r, rfl, .inl ⟨rfl, _, SqL.of hr4⟩, .int _, rfl, r, _, _, rfl, rfl, hr4, by unfold numsV; rw [List.length_map]; exact Nat.lt_of_le_of_lt few (by decide), ?_⟩
            refine ⟨.str (tx (b.take i ++ (r1 ++ [y] ++ c :: (p2 ++ q)))), rfl, .int _, rfl, b.take i ++ (r1 ++ [y] ++ c :: (p2 ++ q)), i + r1.length, rfl, ?_, by rw [lw2]; exact lw, ?_⟩
            · simp only [List.length_append, List.length_cons, List.length_nil, lpre]
              omega
            · have sw := swap_mid (b.take i) r1 (p2 ++ q) c y
              rw [lpre] at sw
              rw [sw]
              refine ⟨r1, y :: p2, L1 ++ [i + r1.length], some (.int ((i + r1.length : Nat) : Int)), rfl, by rw [ep]; simp, by rw [List.length_cons, e2], ?_, fun x o ex => ?_, ?_⟩
              · rw [← eL1, lr]
                show _ = L1 ++ ((i + r1.length) :: desc i r1.length) ++ _
                simp
              · rw [upd_ne (ne_of_none ex nr)]
                exact sm4 x o ex
              · rw [upd_same]
                unfold numsV
                rw [List.map_append]
                rfl
          · obtain ⟨p1, p2, L1, y8, rfl, ep, e2, eL1, sm4, hr4⟩ := hV
            have l0 : p1 = [] := by
              have := congrArg List.length ep
              rw [List.length_append, e2] at this
              exact List.eq_nil_of_length_eq_zero (by omega)
            subst l0
            have ep : p = p2 := ep
            subst ep
            refine ⟨p ++ q, L1, some (.int (i : Nat)), some (.str (tx [c])), some (.int ((i + p.length : Nat) : Int)), y8, ?_, kp2, ?_, ?_, sm4, hr4⟩
            · have e5 : b.take (i + 1) = b.take i ++ [c] := take_next hc
              rw [e5]
              simp
            · simpa [desc] using eL1
            · have e5 : b.take (i + 1) = b.take i ++ [c] := take_next hc
              rw [e5]
              simp only [List.length_append, List.length_cons, List.length_nil] at lw ⊢
              omega
        · intro hk
          have ix := index_from (pre := b.take i) (q := q) nx
          rw [lpre] at ix
          rw [ix] at hk
          cases hk
      · obtain ⟨rest, L, y5, y6, y7, y8, rfl, kp, eL, lw, sm2, hr2⟩ := hW
        have e0 : b.drop b.length = [] := List.drop_length
        rw [e0] at eL
        have eL : L = exL 0 a b := by
          have : L ++ [] = exL 0 a b := eL
          rwa [List.append_nil] at this
        refine ⟨.ref r, rfl, r, _, rfl, .inl ⟨SqL.of hr2, fun p np => ?_⟩⟩
        have sm3 : Same H1 (upd H2 p (.tup (numsV L))) := sm2.trans (same_new np)
        refine qy p _ (mv1.trans (.of_same sm3)) ?_ yes (by rw [upd_same, eL])
        obtain ⟨rows, t1, t2⟩ := tab1
        exact ⟨rows, sm3 _ _ t1, t2⟩
end
end Tc
/-! distance; ExchangeFault; exchanged. -/
namespace Tc
open PySem PySem.Spec PyProof.Rows L2 TcG
section
variable {P : Program} {w : World} {K : PySem.W.Frag} {mg : Str → Option Value} {base : Heap}
def sp_distance (K : PySem.W.Frag) (Pt : Addr) : Sp := fun vs H Q _ => ∃ (al : Addr) (a b ls : List Nat) (ps : List (List Nat)), vs = [.ref al, .str (tx a), .str (tx b)] ∧ Alpha K H al ls ps ∧ Pairs ls ps ∧ GxR.TabG H Pt ∧ ls.length ≤ 100 ∧ a.length ≤ 100 ∧ b.length ≤ 100 ∧ (∀ c ∈ a, c ∈ ls) ∧ (∀ c ∈ b, c ∈ ls) ∧
  (∀ H', Mv [Pt] H H' → GxR.TabG H' Pt → ¬ Exs ps a b → Q .non H') ∧ ∀ (H' : Hp), Mv [Pt] H H' → GxR.TabG H' Pt → Exs ps a b → Q (.int ((exL 0 a b).length : Int)) H'
theorem ok_distance {f fX Pt : Addr} {fd fdX : FuncData} (F : Fun K "distance" "distance" s_distance f fd) (FX : Fun K "exchanges" "exchanges" s_exchanges fX fdX) (gX : mg "exchanges" = some (.ref fX)) (GX : FnOk P w K mg base CX0 3 fX fdX ["alphabet", "word", "other"] (sp_exchanges K Pt))
    (ml : mg "len" = none) : FnOk P w K mg base CX0 4 f fd ["alphabet", "word", "other"] (sp_distance K Pt) := by
  have bX : Binds K fdX ["alphabet", "word", "other"] [] := FX.binds fun _ _ _ _ _ _ us hl => match us, hl with | [_, _, _], _ => rfl
  refine F.ok sc_distance (fun vs H Q E h => ?_) (fun cdv A outer s H vs Q E hr h => ?_)
  · obtain ⟨al, a, b, ls, ps, rfl, _⟩ := h
    rfl
  · obtain ⟨al, a, b, ls, ps, rfl, hA, pr, tab, l1, l2, l3, ia, ib, qn, qy⟩ := h
    have nd := sc_distance.nd
    refine ⟨_, pss_cons (ps_set (i := 3) nd rfl (.inl rfl) (pe_call GX hr (by rfl) gX FX.kp bX .nil pass0 (pa_cons (pv 0) (pa_cons (pv 1) (pa_cons (pv 2) pa_nil)))))
      (pss_cons (ps_if (pt_cmpR op_isN (pv 3) pe_non (nomark _)) (pss_one (ps_ret pe_non)) pss_nil)
      (pss_one (ps_ret (pe_callB call_len_seq (by rfl) ml PySem.boot_len (pa_cons (pv 3) pa_nil))))), ?_⟩
    refine ⟨.ref al, rfl, .str (tx a), rfl, .str (tx b), rfl, al, a, b, ls, ps, rfl, hA, pr, tab, l1, l2, l3, ia, ib, fun H' mv tab' no => ?_, fun p H' mv tab' yes hp => ?_⟩
    · exact ⟨.non, rfl, rfl, true, rfl, iteT (qn H' mv tab' no)⟩
    · refine ⟨.ref p, rfl, rfl, false, rfl, iteF ⟨.ref p, rfl, p, _, rfl, .inr (SqT.of hp), ?_⟩⟩
      have e : (numsV (exL 0 a b)).length = (exL 0 a b).length := by
        unfold numsV
        rw [List.length_map]
      rw [e]
      exact qy H' mv tab' yes

theorem str_app (a b : Str) : (a ++ b).length = a.length + b.length := by
  rw [tx_of a, tx_of b, tx_append, tx_length, tx_length, tx_length, List.length_append]
end
end Tc
/-! exchanged. -/
namespace Tc
open PySem PySem.Spec PyProof.Rows L2 TcG
theorem ps_dead {X : Cx} {st : Stmt} : PS X st (fun _ _ _ => False) := ⟨fun _ _ _ _ _ _ h => h.elim⟩
section
variable {P : Program} {w : World} {K : PySem.W.Frag} {mg : Str → Option Value} {base : Heap}
def sp_exchanged (K : PySem.W.Frag) : Sp := fun vs H Q _ => ∃ (al pl : Addr) (a ls : List Nat) (ps : List (List Nat)) (zs : List Int), vs = [.ref al, .str (tx a), .ref pl] ∧ Alpha K H al ls ps ∧ SqT K H pl (zs.map V.int) ∧ a.length ≤ 100 ∧ zs.length ≤ 50 ∧
  (runEx ps a zs 0).2 = none ∧ ∀ H', Same H H' → Q (.str (tx (runEx ps a zs 0).1)) H'
theorem ok_exchanged {f fC fS fI : Addr} {fd fdC fdS fdI : FuncData} (F : Fun K "exchanged" "exchanged" s_exchanged f fd) (FC : Fun K "can_exchange" "can_exchange" s_can_exchange fC fdC) (gC : mg "can_exchange" = some (.ref fC)) (GC : FnOk P w K mg base CX0 2 fC fdC ["alphabet", "word", "place"] (sp_can K))
    (FS : Fun K "swapped" "swapped" s_swapped fS fdS) (gS : mg "swapped" = some (.ref fS)) (me : mg "enumerate" = none) :
    FnOk P w K mg base CX0 3 f fd ["alphabet", "word", "places"] (sp_exchanged K) := by
  have bC : Binds K fdC ["alphabet", "word", "place"] [] := FC.binds fun _ _ _ _ _ _ us hl => match us, hl with | [_, _, _], _ => rfl
  have GS : FnOk P w K mg base CX0 1 fS fdS ["word", "place"] sp_swapped := ok_swapped FS
  have bS : Binds K fdS ["word", "place"] [] := FS.binds fun _ _ _ _ _ _ us hl => match us, hl with | [_, _], _ => rfl
  refine F.ok sc_exchanged (fun vs H Q E h => ?_) (fun cdv A outer s H vs Q E hr h => ?_)
  · obtain ⟨al, pl, a, ls, ps, zs, rfl, _⟩ := h
    rfl
  · obtain ⟨al, pl, a, ls, ps, zs, rfl, hA, hZ, la, lz, fine, qy⟩ := h
    have nd := sc_exchanged.nd
    have hr1 : Room 1 _ := hr.mono (by decide)
    refine ⟨_, pss_cons (ps_set (i := 3) nd rfl (.inl rfl) (pv 1))
      (pss_cons (ps_for PassesOwn.never rfl (pi_enumT (by rfl) me (pa_cons (pv 2) pa_nil)) (pg_tup (by rfl) (pgs_cons (pg_name (i := 4) nd rfl (.inl rfl)) (pgs_cons (pg_name (i := 5) nd rfl (.inl rfl)) pgs_nil)))
        (pss_cons (ps_if (pt_not (pt_val (pe_call GC hr (by rfl) gC FC.kp bC .nil pass0 (pa_cons (pv 0) (pa_cons (pv 3) (pa_cons (pv 5) pa_nil))))))
          (pss_one ps_dead) pss_nil)
        (pss_one (ps_set (i := 3) nd rfl (.inl rfl) (pe_call GS hr1 (by rfl) gS FS.kp bS .nil pass0 (pa_cons (pv 3) (pa_cons (pv 5) pa_nil)))))))
      (pss_one (ps_ret (pv 3)))), ?_⟩
    refine ⟨.str (tx a), rfl, ?_⟩
    refine ⟨.ref pl, rfl, pl, zs.map V.int, rfl, hZ, for_enumT (fun i σ H' => ∃ (a' : List Nat) (y4 y5 : Option V), σ = [some (.ref al), some (.str (tx a)), some (.ref pl), some (.str (tx a')), y4, y5] ∧ a'.length ≤ 100 ∧ runEx ps a zs 0 = runEx ps a' (zs.drop i) i ∧ Same H H')
      ⟨a, none, none, rfl, la, rfl, Same.refl _⟩ (fun i σ H' hW => ?_) (fun i x σ H1 T1 hx hW nT => ?_) (fun σ H1 hW => ?_)⟩
    · obtain ⟨_, _, _, _, _, _, sm⟩ := hW
      exact Same.seqT sm hZ
    · obtain ⟨a', y4, y5, rfl, la', er, sm⟩ := hW
      obtain ⟨z, hz, rfl⟩ : ∃ z, zs[i]? = some z ∧ x = .int z := by
        rw [List.getElem?_map] at hx
        cases e : zs[i]? with
        | none =>
          rw [e] at hx
          cases hx
        | some z =>
          rw [e] at hx
          cases hx
          exact ⟨z, rfl, rfl⟩
      have lt : i < zs.length := (List.getElem?_eq_some_iff.mp hz).1
      have ed : zs.drop i = z :: zs.drop (i + 1) := by
        rw [List.drop_eq_getElem_cons lt]
        congr 1
        exact (List.getElem?_eq_some_iff.mp hz).2
      rw [ed] at er
      have sm1 : Same H (upd H1 T1 (.tup [.int (i : Nat), .int z])) := sm.trans (same_new nT)
      refine ⟨T1, _, rfl, SqT.of upd_same, rfl, .int (i : Nat), _, rfl, .int z, _, rfl, rfl, ?_⟩
      refine ⟨.ref al, rfl, .str (tx a'), rfl, .int z, rfl, al, a', ls, ps, z, rfl, hA.same sm1, la', _, rfl, ?_⟩
      cases can : canAt ps a' z with
      | false =>
        rw [runEx_no _ _ can] at er
        rw [er] at fine
        cases fine
      | true =>
        rw [runEx_go _ _ can] at er
        obtain ⟨k, rfl, lk⟩ := canAt_bounds can
        refine iteF ⟨.str (tx a'), rfl, .int (k : Int), rfl, a', k, rfl, lk, la', swapAt a' k, some (.int (i : Nat)), some (.int (k : Int)), rfl, ?_, er, sm1⟩
        rw [swapAt_len lk]
        exact la'
    · obtain ⟨a', y4, y5, rfl, la', er, sm⟩ := hW
      have e0 : zs.drop (zs.map V.int).length = [] := by
        rw [List.length_map]
        exact List.drop_length
      rw [e0] at er
      have q := qy H1 sm
      rw [er] at q
      exact ⟨_, rfl, q⟩
end
end Tc
/-! for x, y in zip(text, list). -/
namespace TcG
open PySem PySem.Spec PyProof.Rows L2
/-- signs of a text with the items of the list at b -/
def ItZ (K : PySem.W.Frag) (z : Str) (b : Addr) (ys : List V) : It :=
  ⟨fun i H => i < z.cps.size ∧ i < ys.length ∧ SqL K H b ys, fun i H v H' => ∃ T c y, z.cps[i]? = some c ∧ ys[i]? = some y ∧ v = .ref T ∧ H T = none ∧ H' = upd H T (.tup [.str ⟨#[c]⟩, y]), fun i H => SqL K H b ys ∧ (z.cps.size ≤ i ∨ ys.length ≤ i)⟩
section
variable {P : Program} {w : World} {K : PySem.W.Frag} {elts : List Expr} {kk : Nat} {tpos : Pos}
theorem turn_zipS (z : Str) (t : Tok) (b : Addr) (ys : List V) {zz TI TO i1 i2 : Addr} (S : ZipSep2 zz TI TO i1 i2 [i1] [i2, b]) (nb : b ≠ i2) :
    Turn P w K (.Tuple elts kk tpos) (ItZ K z b ys) [zz, TI, TO, i1, i2] zz (fun i h => IsZip h zz TI TO .none ∧ IsTupOf2 h TI (.ref i1) (.ref i2) ∧ (∃ x y, IsTupOf2 h TO x y) ∧ h.IsStrIter i1 (strIterType z) z t i ∧ h.IsListIter i2 b i ∧ i ≤ z.cps.size ∧ i ≤ ys.length) where
  mem := by simp
  obj := fun i h st c hc => by
    obtain ⟨hz, hTI, ⟨x, y, hTO⟩, ⟨o1, e1, _, d1⟩, ⟨o2, e2, _, d2⟩, _⟩ := st
    have e' : c = zz ∨ c = TI ∨ c = TO ∨ c = i1 ∨ c = i2 := by simpa using hc
    rcases e' with q | q | q | q | q
    · rw [q]; exact ⟨_, hz, fun v q => nomatch q⟩
    · rw [q]; exact ⟨_, hTI, fun v q => nomatch q⟩
    · rw [q]; exact ⟨_, hTO, fun v q => nomatch q⟩
    · rw [q]; exact ⟨o1, e1, fun v q => by rw [d1] at q; cases q⟩
    · rw [q]; exact ⟨o2, e2, fun v q => by rw [d2] at q; cases q⟩
  keep := fun i h h' st k => by
    obtain ⟨hz, hTI, ⟨x, y, hTO⟩, ⟨o1, e1, r1⟩, ⟨o2, e2, r2⟩, l1, l2⟩ := st
    exact ⟨k zz (by simp) _ hz, k TI (by simp) _ hTI, ⟨x, y, k TO (by simp) _ hTO⟩, ⟨o1, k i1 (by simp) _ e1, r1⟩, ⟨o2, k i2 (by simp) _ e2, r2⟩, l1, l2⟩
  item := by
    intro X hP hw hK hc i pins s σ H E I hf st hg
    subst hP hw hK
    obtain ⟨hz, hTI, ⟨x0, y0, hTO⟩, h1, h2, l1, l2⟩ := st
    obtain ⟨g1, g2, hq⟩ := hg
    obtain ⟨its, rv, p, _⟩ := I.list hq
    have len : its.toArray.size = ys.length := by
      rw [List.size_toArray]
      exact rv.length.symm
    have hh : X.A.in1.handled = none := I.ok.hd hc
    have D1 := Draws.text (prog := X.prog) (w := X.w) hh i1 z t
    have D2 := Draws.list (prog := X.prog) (w := X.w) hh i2 b nb its.toArray
    have hzl : zz < s.heap.objs.size := Heap.lt_size hz
    refine wpAny_pyNext_zipD2_item S D1 D2 hz hTI hTO h1 ⟨h2, p.isList⟩ g1 (by rw [len]; exact g2) fun u1 u2 h' tk hu1 hu2 z' TO' st1 st2 hT size keep => ?_
    obtain ⟨c, t2, hc2, rfl⟩ := hu1
    have hy : ys[i]? = some ys[i] := List.getElem?_eq_getElem g2
    obtain ⟨u, hu, ru⟩ := rv.get hy
    have e2 : its[i]? = some u2 := by simpa using hu2
    rw [hu] at e2
    cases e2
    refine ⟨_, rfl, wpAny_letOwnedTupleGo_zip (s := { s with heap := h', toks := tk }) z' fun h'' z'' sb => ?_⟩
    have hT2 : h''.get? s.heap.objs.size = some { cls := .type "tuple", data := .seq #[.str ⟨#[c]⟩ t2, u2] } := (sb.2 _ (Nat.ne_of_gt hzl)).trans hT
    have new : ObjOk X.prog X.w (upd H s.heap.objs.size (.tup [.str ⟨#[c]⟩, ys[i]])) h'' s.heap.objs.size (.tup [.str ⟨#[c]⟩, ys[i]]) :=
      ⟨by show 2 ≤ sizeLine; decide, [.str ⟨#[c]⟩ t2, u2], .cons ⟨_, rfl⟩ (.cons ru .nil), ⟨_, hT2, rfl, _, rfl⟩⟩
    have I1 : Inv X pins σ (upd H s.heap.objs.size (.tup [.str ⟨#[c]⟩, ys[i]])) { s with heap := h'', toks := tk } :=
      I.turnedNew (ch := [zz, TI, TO, i1, i2]) (fun c o hb q => (sb.2 c (fun q' => hb (by simp [q']))).trans (keep c o (fun q' => hb (by simp [q'])) (fun q' => hb (by simp [q'])) (fun q' => hb (by simp [q'])) (fun q' => hb (by simp [q'])) q)) hf (Nat.le_refl _) new
    have i1z : i1 ≠ zz := fun e => S.zf1 (by rw [← e]; exact List.mem_cons_self)
    have i2z : i2 ≠ zz := fun e => S.zf2 (by rw [← e]; exact List.mem_cons_self)
    refine ⟨.ref s.heap.objs.size, _, I1, rfl, ⟨_, c, ys[i], hc2, hy, rfl, I.hok.fresh (Nat.le_refl _), rfl⟩, ⟨z'', ?_, ⟨.str ⟨#[c]⟩ t2, u2, ?_⟩, ?_, ?_, g1, g2⟩, fun c hcm => ?_⟩
    · exact (sb.2 _ S.TIz).trans (keep _ _ S.TIz S.TITO S.TIi1 S.TIi2 hTI)
    · exact (sb.2 _ S.TOz).trans TO'
    · obtain ⟨o, e, r⟩ := st1
      exact ⟨o, (sb.2 _ i1z).trans e, r⟩
    · obtain ⟨o, e, r⟩ := st2.1
      exact ⟨o, (sb.2 _ i2z).trans e, r⟩
    · have hlt : c < s.heap.objs.size := by
        have e' : c = zz ∨ c = TI ∨ c = TO ∨ c = i1 ∨ c = i2 := by simpa using hcm
        rcases e' with q | q | q | q | q
        · rw [q]; exact hzl
        · rw [q]; exact Heap.lt_size hTI
        · rw [q]; exact Heap.lt_size hTO
        · rw [q]; obtain ⟨_, e1, _⟩ := h1; exact Heap.lt_size e1
        · rw [q]; obtain ⟨_, e2, _⟩ := h2; exact Heap.lt_size e2
      rw [upd_ne (Nat.ne_of_lt hlt)]
      exact (hf c hcm).1
  done := by
    intro X hP hw hK hc i pins s σ H E I hf st hg
    subst hP hw hK
    obtain ⟨hz, hTI, ⟨x0, y0, hTO⟩, h1, h2, l1, l2⟩ := st
    obtain ⟨hq, hend⟩ := hg
    obtain ⟨its, rv, p, _⟩ := I.list hq
    have len : its.toArray.size = ys.length := by
      rw [List.size_toArray]
      exact rv.length.symm
    have hh : X.A.in1.handled = none := I.ok.hd hc
    have D1 := Draws.text (prog := X.prog) (w := X.w) hh i1 z t
    have D2 := Draws.list (prog := X.prog) (w := X.w) hh i2 b nb its.toArray
    exact wpAny_pyNext_zipD2_end S D1 D2 hz hTI hTO h1 ⟨h2, p.isList⟩ l1 (by rw [len]; exact l2) (by rw [len]; omega) fun h' tk hk => ⟨rfl, I.turnedL (t' := tk) (ch := [zz, TI, TO, i1, i2]) (fun c o hb q =>
      hk c o (fun q' => hb (by simp [q'])) (fun q' => hb (by simp [q'])) (fun q' => hb (by simp [q'])) (fun q' => hb (by simp [q'])) q) hf⟩
  self := fun A i s Q E st h => wpAny_pyIter_zip st.1 h
end
theorem ne_up {a b : Nat} (h : a < b) : a ≠ b := Nat.ne_of_lt h
theorem five_up {n c : Nat} (h : c = n + 4 ∨ c = n + 2 ∨ c = n + 3 ∨ c = n ∨ c = n + 1) : n ≤ c := by omega
theorem sep_of (n b : Nat) (h : b < n) : ZipSep2 (n + 4) (n + 2) (n + 3) n (n + 1) [n] [n + 1, b] := by
  have k1 : ∀ a c : Nat, a ≠ c → n + a ≠ n + c := fun a c h => by omega
  have k2 : ∀ a : Nat, a ≠ 0 → n + a ≠ n := fun a h => by omega
  have k3 : ∀ a : Nat, n + a ≠ b := fun a => by omega
  have k4 : n ≠ b := by omega
  have k5 : n ≠ n + 1 := by omega
  have one : ∀ a c : Nat, a ≠ c → a ∉ [c] := fun a c h z => h (List.mem_singleton.mp z)
  have two : ∀ a c d : Nat, a ≠ c → a ≠ d → a ∉ [c, d] := fun a c d h g z => by
    rcases List.mem_cons.mp z with z | z
    · exact h z
    · exact g (List.mem_singleton.mp z)
  exact ⟨k1 2 4 (by decide), k1 3 4 (by decide), k1 2 3 (by decide), k2 2 (by decide), List.mem_cons_self, one _ _ (k2 4 (by decide)), one _ _ (k2 3 (by decide)), k1 2 1 (by decide), List.mem_cons_self, two _ _ _ (k1 4 1 (by decide)) (k3 4), two _ _ _ (k1 3 1 (by decide)) (k3 3), two _ _ _ k5 k4, one _ _ (k2 1 (by decide))⟩
def iZipS (K : PySem.W.Frag) (ta : TA) : TI := fun σ H R => ta σ H fun vs H1 => ∃ (z : Str) (b : Addr) (ys : List V), vs = [.str z, .ref b] ∧ SqL K H1 b ys ∧ R (ItZ K z b ys) H1
theorem pi_zipS {X : Cx} {e e2 : Expr} {ta : TA} {p pos tpos : Pos} {elts : List Expr} {kk : Nat} (hg : Gl X "zip") (hm : X.mg "zip" = none) (ha : PA X [e, e2] ta)
    (hs : starEach [e, e2] X.env = (false, eval e X.env) :: starEach [e2] X.env := by rfl) (hpl : (backTo pos (starEach [e2] X.env)).any (·.1) = false := by rfl) :
    PI X (.Tuple elts kk tpos) (.Call (.Name "zip" p) [e, e2] [] pos) (iZipS X.K ta) := by
  refine ⟨fun pins s σ H R I h => ?_⟩
  refine Call_ (ld_blt I hg hm PyProof.Rows.boot_zip (PyProof.Rows.callWith_type1 (thn (ha.run pos pins s σ H _ I h) fun us s1 ⟨vs, H1, I1, r1, q1⟩ => ?_) hs hpl))
  obtain ⟨z, b, ys, ex, hq, q⟩ := q1
  subst ex
  obtain ⟨u1, u2, rfl, r1, r2⟩ := Vals.two r1
  obtain ⟨t, rfl⟩ := r1
  obtain rfl : u2 = Value.ref b := r2
  obtain ⟨its, rv, p, _⟩ := I1.list hq
  have lb : b < s1.heap.objs.size := p.lt
  refine zip_begins2 (begins_text z t) (begins_list b its.toArray) trivial p.isList fun h' hz hTI hTO h1 h2 hsz hk => wpAny_pyIter_zip hz ?_
  have I2 : Inv X pins σ H1 { s1 with heap := h' } := I1.kept (t' := s1.toks) hk
  have S := sep_of s1.heap.objs.size b lb
  refine ⟨s1.heap.objs.size + 4, [s1.heap.objs.size + 4, s1.heap.objs.size + 2, s1.heap.objs.size + 3, s1.heap.objs.size, s1.heap.objs.size + 1], _, _, H1, rfl, I2, turn_zipS z t b ys S (ne_up (Nat.lt_succ_of_lt lb)), ⟨hz, hTI, ⟨_, _, hTO⟩, ⟨_, h1, rfl, rfl⟩, ⟨_, h2, rfl, rfl⟩, Nat.zero_le _, Nat.zero_le _⟩, fun c hcm => ?_, q⟩
  have hle : s1.heap.objs.size ≤ c := five_up (by simpa using hcm)
  exact I1.fpOk hle (I1.hok.fresh hle)
/-- the turns -/
theorem for_zipS {K : PySem.W.Frag} {l : List Nat} {b : Addr} {ys : List V} {g : TG} {tb : TS} {D : Ends} {σ : L2.St} {H : Hp} (len : ys.length = l.length) (Pv : Nat → L2.St → Hp → Prop) (h0 : Pv 0 σ H) (stays : ∀ i σ H, Pv i σ H → SqL K H b ys)
    (turn : ∀ i c y σ H T, l[i]? = some c → ys[i]? = some y → Pv i σ H → H T = none → g (.ref T) σ (upd H T (.tup [.str (tx [c]), y])) fun σ2 H2 => tb { D with nx := Pv (i + 1), ct := Pv (i + 1), bk := D.nx } σ2 H2) (out : ∀ σ H, Pv l.length σ H → D.nx σ H) :
    ∃ W : Nat → Nat → L2.St → Hp → Prop, (∃ m, W 0 m σ H) ∧ ∀ i m σ H, W i m σ H →
      ((ItZ K (tx l) b ys).stop i H ∧ D.nx σ H) ∨ ((ItZ K (tx l) b ys).go i H ∧ ∃ N : L2.St → Hp → Prop, (∀ σ' H', N σ' H' → ∃ m', m' < m ∧ W (i + 1) m' σ' H') ∧ ∀ x H', (ItZ K (tx l) b ys).yld i H x H' → g x σ H' fun σ2 H2 => tb { D with nx := N, ct := N, bk := D.nx } σ2 H2) := by
  have size : (tx l).cps.size = l.length := tx_length l
  refine ⟨fun i m σ H => m = l.length - i ∧ i ≤ l.length ∧ Pv i σ H, ⟨l.length, by simp, Nat.zero_le _, h0⟩, ?_⟩
  rintro i m σ H ⟨rfl, hi, p⟩
  by_cases lt : i < l.length
  · refine .inr ⟨⟨by rw [size]; exact lt, by omega, stays i σ H p⟩, Pv (i + 1), fun σ' H' p' => ⟨l.length - (i + 1), by omega, rfl, lt, p'⟩, fun x H' y => ?_⟩
    obtain ⟨T, c, y, hc, hy, rfl, hT, rfl⟩ := y
    exact turn i c y σ H T (by simpa [tx] using hc) hy p hT
  · obtain rfl : i = l.length := by omega
    exact .inl ⟨⟨stays _ σ H p, .inl (by rw [size]; exact Nat.le_refl _)⟩, out σ H p⟩
end TcG
namespace Tc
open PySem PySem.Spec PyProof.Rows L2 TcG
section
variable {P : Program} {w : World} {K : PySem.W.Frag} {mg : Str → Option Value} {base : Heap}
theorem sc_levels7 : FnScope ["alphabet", "word", "found", "place", "letter", "below", "k"] ["alphabet", "word"] (defScope s_levels) :=
  ⟨rfl, rfl, rfl, by decide +kernel, rfl, by decide +kernel, by decide +kernel⟩
def sp_levels (K : PySem.W.Frag) : Sp := fun vs H Q _ => ∃ (al : Addr) (a ls : List Nat) (ps : List (List Nat)), vs = [.ref al, .str (tx a)] ∧ Alpha K H al ls ps ∧ a.length ≤ 1000 ∧
  ∀ (p : Addr) (H' : Hp), Same H H' → H p = none → H' p = some (.lst (natsV ((levL ps a).map (·.2)))) → Q (.ref p) H'
theorem ok_levels {f fI : Addr} {fd fdI : FuncData} (F : Fun K "levels" "levels" s_levels f fd) (FI : Fun K "independent" "independent" s_independent fI fdI) (gI : mg "independent" = some (.ref fI))
    (mn : mg "min" = none) (mx : mg "max" = none) (me : mg "enumerate" = none) (mr : mg "range" = none) : FnOk P w K mg base CX0 2 f fd ["alphabet", "word"] (sp_levels K) := by
  have GI : FnOk P w K mg base CX0 1 fI fdI ["alphabet", "x", "y"] (sp_independent K) := ok_independent FI mn mx
  have bI : Binds K fdI ["alphabet", "x", "y"] [] := FI.binds fun _ _ _ _ _ _ us hl => match us, hl with | [_, _, _], _ => rfl
  refine F.ok sc_levels7 (fun vs H Q E h => ?_) (fun cdv A outer s H vs Q E hr h => ?_)
  · obtain ⟨al, a, ls, ps, rfl, _⟩ := h
    rfl
  · obtain ⟨al, a, ls, ps, rfl, hA, small, q⟩ := h
    have nd := sc_levels7.nd
    refine ⟨_, pss_cons (ps_set (i := 2) nd rfl (.inr rfl) (pe_lst pa_nil))
      (pss_cons (ps_for PassesOwn.never rfl (pi_enumS (by rfl) me (pa_cons (pv 1) pa_nil)) (pg_tup (by rfl) (pgs_cons (pg_name (i := 3) nd rfl (.inl rfl)) (pgs_cons (pg_name (i := 4) nd rfl (.inr rfl)) pgs_nil)))
        (pss_cons (ps_setLc (i := 5) (own := [("k", 6)]) (g := gName 6) rfl nd rfl rfl (sw_true rfl rfl (by decide +kernel) (by decide +kernel)) (pi_range1 (by rfl) mr (pa_cons (pv 3) pa_nil))
            (blkOk_by (own := [("k", 6)]) (N := ["alphabet", "word", "found", "place", "letter", "below", "k"]) (sc := defScope s_levels) (by decide +kernel))
            (fun _ _ _ _ _ => pg_name (i := 6) nd rfl (Or.inl rfl))
            (fun _ _ _ _ _ => pts_one (pt_not (pt_val (pe_call GI hr (by rfl) gI FI.kp bI .nil pass0 (pa_cons (pv 0) (pa_cons (pe_ix ix_str (pv 1) (pv 6) (fun _ _ => rfl)) (pa_cons (pv 4) pa_nil)))))))
            (fun _ _ _ _ _ => pe_ix (r := rIxL K) ix_list (pv 2) (pv 6) (fun _ _ => rfl)))
          (pss_one (ps_expr (pe_bm PySem.F.plainAttrs_list PySem.F.slot_list_append PySem.F.type_list_append mt_append (pv 2)
            (pa_cons (pe_op op_add (pe_callBK (cr_maxN rfl (hu_of hr)) (by rfl) mx (by decide +kernel) (pa_cons (pv 5) pa_nil) (pk_cons pe_int pk_nil)) pe_int) pa_nil))))))
      (pss_one (ps_ret (pv 2)))), ?_⟩
    refine ⟨Nat.zero_le _, fun p np => ?_⟩
    have zla : (tx a).length ≤ sizeLine := by
      rw [tx_length]
      exact small_line (by omega)
    refine ⟨.str (tx a), rfl, tx a, rfl, for_enumS (fun i σ H' => ∃ y3 y4 y5, σ = [some (.ref al), some (.str (tx a)), some (.ref p), y3, y4, y5, none] ∧ Same H H' ∧ H' p = some (.lst (natsV ((levL ps (a.take i)).map (·.2)))))
      ⟨none, none, none, rfl, same_new np, upd_same⟩ (fun i c σ H2 T hc hW nT => ?_) (fun σ H2 hW => ?_)⟩
    · obtain ⟨y3, y4, y5, rfl, sm, hp⟩ := hW
      have lt : i < a.length := (List.getElem?_eq_some_iff.mp hc).1
      have sm3 : Same H (upd H2 T (.tup [.int (i : Nat), .str (tx [c])])) := sm.trans (same_new nT)
      have hp3 : (upd H2 T (.tup [.int (i : Nat), .str (tx [c])])) p = some (.lst (natsV ((levL ps (a.take i)).map (·.2)))) := by
        rw [upd_ne (ne_of_none hp nT)]
        exact hp
      refine ⟨T, _, rfl, SqT.of upd_same, rfl, .int (i : Nat), _, rfl, .str (tx [c]), _, rfl, rfl, ?_⟩
      generalize upd H2 T (.tup [.int (i : Nat), .str (tx [c])]) = H3 at sm3 hp3
      refine ⟨.int (i : Nat), rfl, (i : Int), rfl, by omega, by omega, ?_⟩
      refine fun D nD => lc_range (lo := 0) (n := i) (fun j H' => Same H3 H' ∧ H' D = some (.lst (natsV (nearL ps ((levL ps a).take j) c)))) ⟨same_new nD, upd_same⟩ (fun j H4 hj hV => ?_) (fun H4 hV => ?_)
      · obtain ⟨sm4, hD⟩ := hV
        have haj : a[j]? = some a[j] := List.getElem?_eq_getElem (by omega)
        generalize a[j] = x at haj
        obtain ⟨l, hl⟩ := levL_at (ps := ps) haj
        refine ⟨rfl, .ref al, rfl, .str (tx a), rfl, .int (0 + (j : Int)), rfl, tx a, 0 + (j : Int), x, rfl, rfl, zla, at_eq (by omega) haj, .str (tx [c]), rfl, al, x, c, ls, ps, rfl, hA.same (sm3.trans sm4), ind ps x c, rfl, ?_⟩
        rw [near_next hl]
        cases e : ind ps x c with
        | true =>
          refine iteF ⟨sm4, ?_⟩
          rw [if_pos rfl, List.append_nil]
          exact hD
        | false =>
          rw [if_neg Bool.false_ne_true]
          have hlv : ((levL ps (a.take i)).map (·.2))[j]? = some l := by
            rw [← levL_take, List.getElem?_map, List.getElem?_take, if_pos hj, hl]
            rfl
          refine iteT ⟨.ref p, rfl, .int (0 + (j : Int)), rfl, p, _, 0 + (j : Int), .int (l : Int), rfl, rfl, SqL.of (sm4 _ _ hp3), at_eq (by omega) (natsV_at hlv), _, hD, ?_, fun z o ez => ?_, ?_⟩
          · rw [natsV_len]
            unfold nearL
            rw [List.length_map]
            have := List.length_filter_le (fun p : Nat × Nat => !ind ps p.1 c) ((levL ps a).take j)
            rw [List.length_take, levL_len] at this
            exact Nat.lt_of_le_of_lt (show _ ≤ 1000 by omega) (by decide)
          · rw [upd_ne (ne_of_none ez nD)]
            exact sm4 z o ez
          · rw [upd_same, natsV_app]
            rfl
      · obtain ⟨sm4, hD⟩ := hV
        have hp4 := sm4 _ _ hp3
        refine ⟨.ref p, rfl, .inl ⟨rfl, _, SqL.of hp4⟩, .ref D, rfl, D, _, 0, rfl, rfl, SqL.of hD, ?_⟩
        rw [maxNd_zero]
        refine ⟨_, 1, rfl, rfl, p, _, _, rfl, rfl, hp4, ?_, ?_⟩
        · rw [natsV_len, List.length_map, levL_len, List.length_take]
          exact Nat.lt_of_le_of_lt (show _ ≤ 1000 by omega) (by decide)
        · refine ⟨_, _, _, rfl, fun z o ez => ?_, ?_⟩
          · rw [upd_ne (ne_of_none ez np)]
            exact sm4 _ _ (sm3 z o ez)
          · rw [upd_same, take_next hc, levL_snoc, levL_take]
            unfold putL
            rw [List.map_append, natsV_app]
            rfl
    · obtain ⟨y3, y4, y5, rfl, sm, hp⟩ := hW
      rw [List.take_length] at hp
      exact ⟨.ref p, rfl, q p H2 sm np hp⟩
/-! height -/
def sp_height (K : PySem.W.Frag) : Sp := fun vs H Q _ => ∃ (al : Addr) (a ls : List Nat) (ps : List (List Nat)), vs = [.ref al, .str (tx a)] ∧ Alpha K H al ls ps ∧ a.length ≤ 1000 ∧ ∀ H', Same H H' → Q (.int (heightM ps a : Nat)) H'
theorem ok_height {f fL fI : Addr} {fd fdL fdI : FuncData} (F : Fun K "height" "height" s_height f fd) (FL : Fun K "levels" "levels" s_levels fL fdL) (gL : mg "levels" = some (.ref fL)) (FI : Fun K "independent" "independent" s_independent fI fdI) (gI : mg "independent" = some (.ref fI))
    (mn : mg "min" = none) (mx : mg "max" = none) (me : mg "enumerate" = none) (mr : mg "range" = none) : FnOk P w K mg base CX0 3 f fd ["alphabet", "word"] (sp_height K) := by
  have GL : FnOk P w K mg base CX0 2 fL fdL ["alphabet", "word"] (sp_levels K) := ok_levels FL FI gI mn mx me mr
  have bL : Binds K fdL ["alphabet", "word"] [] := FL.binds fun _ _ _ _ _ _ us hl => match us, hl with | [_, _], _ => rfl
  refine F.ok sc_height (fun vs H Q E h => ?_) (fun cdv A outer s H vs Q E hr h => ?_)
  · obtain ⟨al, a, ls, ps, rfl, _⟩ := h
    rfl
  · obtain ⟨al, a, ls, ps, rfl, hA, small, q⟩ := h
    refine ⟨_, pss_one (ps_ret (pe_callBK (cr_maxN rfl (hu_of hr)) (by rfl) mx (by decide +kernel) (pa_cons (pe_call GL hr (by rfl) gL FL.kp bL .nil pass0 (pa_cons (pv 0) (pa_cons (pv 1) pa_nil))) pa_nil) (pk_cons pe_int pk_nil))), ?_⟩
    refine ⟨.ref al, rfl, .str (tx a), rfl, al, a, ls, ps, rfl, hA, small, fun p H1 sm np hp => ?_⟩
    refine ⟨p, _, 0, rfl, rfl, SqL.of hp, ?_⟩
    rw [maxNd_zero]
    exact q H1 sm
end
end Tc
namespace Tc
open PySem PySem.Spec PyProof.Rows L2 TcG
section
variable {P : Program} {w : World} {K : PySem.W.Frag} {mg : Str → Option Value} {base : Heap}
theorem sc_steps7 : FnScope ["alphabet", "word", "rows", "letter", "level", "_", "row"] ["alphabet", "word"] (defScope s_steps) :=
  ⟨rfl, rfl, rfl, by decide +kernel, rfl, by decide +kernel, by decide +kernel⟩
def sp_steps (K : PySem.W.Frag) : Sp := fun vs H Q _ => ∃ (al : Addr) (a ls : List Nat) (ps : List (List Nat)), vs = [.ref al, .str (tx a)] ∧ Alpha K H al ls ps ∧ a.length ≤ 1000 ∧
  ∀ (p : Addr) (H' : Hp), Same H H' → H p = none → H' p = some (.tup (wordsV (stepsM ps a))) → Q (.ref p) H'
theorem ok_steps {f fH fL fI : Addr} {fd fdH fdL fdI : FuncData} (F : Fun K "steps" "steps" s_steps f fd) (FH : Fun K "height" "height" s_height fH fdH) (gH : mg "height" = some (.ref fH)) (FL : Fun K "levels" "levels" s_levels fL fdL) (gL : mg "levels" = some (.ref fL)) (FI : Fun K "independent" "independent" s_independent fI fdI) (gI : mg "independent" = some (.ref fI))
    (mn : mg "min" = none) (mx : mg "max" = none) (me : mg "enumerate" = none) (mr : mg "range" = none) (mz : mg "zip" = none) (ms : mg "sorted" = none) (mt : mg "tuple" = none) : FnOk P w K mg base CX0 4 f fd ["alphabet", "word"] (sp_steps K) := by
  have GL : FnOk P w K mg base CX0 2 fL fdL ["alphabet", "word"] (sp_levels K) := ok_levels FL FI gI mn mx me mr
  have bL : Binds K fdL ["alphabet", "word"] [] := FL.binds fun _ _ _ _ _ _ us hl => match us, hl with | [_, _], _ => rfl
  have GH : FnOk P w K mg base CX0 3 fH fdH ["alphabet", "word"] (sp_height K) := ok_height FH FL gL FI gI mn mx me mr
  have bH : Binds K fdH ["alphabet", "word"] [] := FH.binds fun _ _ _ _ _ _ us hl => match us, hl with | [_, _], _ => rfl
  refine F.ok sc_steps7 (fun vs H Q E h => ?_) (fun cdv A outer s H vs Q E hr h => ?_)
  · obtain ⟨al, a, ls, ps, rfl, _⟩ := h
    rfl
  · obtain ⟨al, a, ls, ps, rfl, hA, small, q⟩ := h
    have nd := sc_steps7.nd
    refine ⟨_, pss_cons (ps_setLc (i := 2) (own := [("_", 5)]) (g := gName 5) (tt := tYes) (te := tLst tNil) rfl nd rfl rfl (sw_true rfl rfl (by decide +kernel) (by decide +kernel)) (pi_range1 (by rfl) mr (pa_cons (pe_call GH hr (by rfl) gH FH.kp bH .nil pass0 (pa_cons (pv 0) (pa_cons (pv 1) pa_nil))) pa_nil))
          (blkOk_by (own := [("_", 5)]) (N := ["alphabet", "word", "rows", "letter", "level", "_", "row"]) (sc := defScope s_steps) (by decide +kernel))
          (fun _ _ _ _ _ => pg_name (i := 5) nd rfl (Or.inl rfl)) (fun _ _ _ _ _ => pts_nil) (fun _ _ _ _ _ => pe_lst pa_nil))
      (pss_cons (ps_for PassesOwn.never rfl (pi_zipS (by rfl) mz (pa_cons (pv 1) (pa_cons (pe_call GL (hr.mono (by decide)) (by rfl) gL FL.kp bL .nil pass0 (pa_cons (pv 0) (pa_cons (pv 1) pa_nil))) pa_nil)))
          (pg_tup (by rfl) (pgs_cons (pg_name (i := 3) nd rfl (.inl rfl)) (pgs_cons (pg_name (i := 4) nd rfl (.inl rfl)) pgs_nil)))
        (pss_one (ps_expr (pe_bm PySem.F.plainAttrs_list PySem.F.slot_list_append PySem.F.type_list_append mt_append (pe_ix ix_list (pv 2) (pe_op op_sub (pv 4) pe_int) (fun _ _ => rfl)) (pa_cons (pv 3) pa_nil)))))
      (pss_one (ps_ret (pe_callTy call_tuple_of (by rfl) mt (by decide +kernel) (pa_cons (pe_lc (own := [("row", 6)]) (g := gName 6) (tt := tYes) (te := tM1 (rJoin K) (tC (.str (tx []))) (tCB (rSortedA K) (tCons (tVar 6) tNil))) rfl nd (pi_list (pv 2))
          (blkOk_by (own := [("row", 6)]) (N := ["alphabet", "word", "rows", "letter", "level", "_", "row"]) (sc := defScope s_steps) (by decide +kernel))
          (fun _ _ _ _ _ => pg_name (i := 6) nd rfl (Or.inl rfl)) (fun _ _ _ _ _ => pts_nil)
          (fun _ _ _ _ _ => pe_join pe_str (pe_callB (r := rSortedA K) cr_sortedA (by rfl) ms (by decide +kernel) (pa_cons (pv 6) pa_nil)))) pa_nil))))), ?_⟩
    have hl := height_le (ps := ps) a
    have ok := lev_ok (ps := ps) a
    refine ⟨.ref al, rfl, .str (tx a), rfl, al, a, ls, ps, rfl, hA, small, fun H1 sm1 => ⟨(heightM ps a : Int), rfl, by omega, by omega, fun D nD => ?_⟩⟩
    refine lc_range (lo := 0) (n := heightM ps a) (fun j H' => ∃ qs : List Addr, qs.length = j ∧ Same H1 H' ∧ H' D = some (.lst (qs.map V.ref)) ∧ qs.Nodup ∧ ∀ q ∈ qs, H1 q = none ∧ H' q = some (.lst []) ∧ q ≠ D)
      ⟨[], rfl, same_new nD, upd_same, List.nodup_nil, fun q hq => nomatch hq⟩ (fun j H2 hj hV => ?_) (fun H2 hV => ?_)
    · obtain ⟨qs, lq, sm2, hD, ndq, hq⟩ := hV
      refine ⟨rfl, tYes_of ⟨Nat.zero_le _, fun r nr => ?_⟩⟩
      have rD : r ≠ D := fun z => by rw [z, hD] at nr; cases nr
      refine ⟨qs.map V.ref, by rw [upd_ne (Ne.symm rD)]; exact hD, ?_, qs ++ [r], ?_, fun z o ez => ?_, ?_, ?_, fun q' hq' => ?_⟩
      · rw [List.length_map]
        exact Nat.lt_of_le_of_lt (show qs.length ≤ 1000 by omega) (by decide)
      · rw [List.length_append, lq]
        rfl
      · rw [upd_ne (ne_of_none ez nD), upd_ne (ne_of_none (sm2 z o ez) nr)]
        exact sm2 z o ez
      · rw [upd_same, List.map_append]
        rfl
      · refine List.nodup_append.mpr ⟨ndq, by simp, fun x hx y hy => ?_⟩
        rw [List.mem_singleton.mp hy]
        intro z
        rw [z] at hx
        rw [(hq r hx).2.1] at nr
        cases nr
      · rcases List.mem_append.mp hq' with h | h
        · obtain ⟨h1, h2, h3⟩ := hq q' h
          refine ⟨h1, ?_, h3⟩
          rw [upd_ne h3, upd_ne (ne_of_none h2 nr)]
          exact h2
        · rw [List.mem_singleton.mp h]
          refine ⟨?_, ?_, rD⟩
          · cases e : H1 r with
            | none => rfl
            | some o =>
              rw [sm2 r o e] at nr
              cases nr
          · rw [upd_ne rD, upd_same]
    · obtain ⟨qs, lq, sm2, hD, ndq, hq⟩ := hV
      have sm12 := sm1.trans sm2
      refine ⟨.str (tx a), rfl, .ref al, rfl, .str (tx a), rfl, al, a, ls, ps, rfl, hA.same sm12, small, fun lv H3 sm3 nlv hlv => ?_⟩
      have lvq : ∀ q ∈ qs, lv ≠ q := fun q h z => by rw [z, (hq q h).2.1] at nlv; cases nlv
      have new0 : ∀ q ∈ qs, H q = none := fun q h => by
        cases e : H q with
        | none => rfl
        | some o =>
          have := (hq q h).1
          rw [sm1 q o e] at this
          cases this
      refine ⟨tx a, lv, natsV ((levL ps a).map (·.2)), rfl, SqL.of hlv, for_zipS (by rw [natsV_len, List.length_map, levL_len]) (fun i σ H' => ∃ y3 y4, σ = [some (.ref al), some (.str (tx a)), some (.ref D), y3, y4, none, none] ∧ Mv qs H3 H' ∧ ∀ k q, qs[k]? = some q → H' q = some (.lst ((rowL ((levL ps a).take i) (k + 1)).map fun c => .str (tx [c]))))
        ⟨none, none, rfl, fun _ _ _ e => e, fun k q hk => sm3 _ _ (hq q (List.mem_of_getElem? hk)).2.1⟩ (fun i σ H' hW => ?_) (fun i c y σ H4 T hc hy hW nT => ?_) (fun σ H4 hW => ?_)⟩
      · obtain ⟨_, _, _, mv, _⟩ := hW
        exact SqL.of (mv _ _ (fun z => lvq lv z rfl) hlv)
      · obtain ⟨y3, y4, rfl, mv, rows⟩ := hW
        obtain ⟨l, hl2⟩ := levL_at (ps := ps) hc
        have ey : y = .int (l : Int) := by
          have := natsV_at (l := (levL ps a).map (·.2)) (i := i) (n := l) (by rw [List.getElem?_map, hl2]; rfl)
          rw [this] at hy
          exact (Option.some.inj hy).symm
        subst ey
        have mem : (c, l) ∈ levL ps a := List.mem_of_getElem? hl2
        have l1 := ok.pos _ mem
        have lh : l ≤ heightM ps a := top_lev _ mem
        have l1 : 1 ≤ l := l1
        have hk : l - 1 < qs.length := by omega
        have hqk : qs[l - 1]? = some qs[l - 1] := List.getElem?_eq_getElem hk
        generalize qs[l - 1] = r at hqk
        have keepT : ∀ {b : Addr} {o : HO}, H4 b = some o → (upd H4 T (.tup [.str (tx [c]), .int (l : Int)])) b = some o := fun {b o} e => by
          rw [upd_ne (ne_of_none e nT)]
          exact e
        have hD4 : (upd H4 T (.tup [.str (tx [c]), .int (l : Int)])) D = some (.lst (qs.map V.ref)) := keepT (mv _ _ (fun z => (hq D z).2.2 rfl) (sm3 _ _ hD))
        have hr4 := keepT (rows _ _ hqk)
        refine ⟨T, _, rfl, SqT.of upd_same, rfl, .str (tx [c]), _, rfl, .int (l : Int), _, rfl, rfl, ?_⟩
        refine ⟨.ref D, rfl, .int (l : Int), rfl, (l : Int), 1, rfl, rfl, D, _, (l : Int) - 1, .ref r, rfl, rfl, SqL.of hD4, at_eq (j := l - 1) (by omega) (by rw [List.getElem?_map, hqk]; rfl), .inl ⟨rfl, _, SqL.of hr4⟩, .str (tx [c]), rfl, r, _, _, rfl, rfl, hr4, ?_, ?_⟩
        · rw [List.length_map]
          unfold rowL
          rw [List.length_map]
          have := List.length_filter_le (fun p : Nat × Nat => decide (p.2 = l - 1 + 1)) ((levL ps a).take i)
          rw [List.length_take, levL_len] at this
          exact Nat.lt_of_le_of_lt (show _ ≤ 1000 by omega) (by decide)
        · refine ⟨_, _, rfl, fun z o nz ez => ?_, fun k q' hk' => ?_⟩
          · rw [upd_ne (fun e => nz (by rw [e]; exact List.mem_of_getElem? hqk))]
            exact keepT (mv z o nz ez)
          · rw [take_next hl2, rowL_app, rowL_one]
            by_cases e : q' = r
            · subst e
              have ek : k = l - 1 := nodup_at ndq hk' hqk
              subst ek
              rw [upd_same, if_pos (by omega), List.map_append]
              rfl
            · rw [upd_ne e, if_neg (fun z => e ?_), List.append_nil]
              · exact keepT (rows k q' hk')
              · have : k = l - 1 := by omega
                rw [this, hqk] at hk'
                exact (Option.some.inj hk').symm
      · obtain ⟨y3, y4, rfl, mv, rows⟩ := hW
        rw [show a.length = (levL ps a).length from (levL_len a).symm, List.take_length] at rows
        have hD4 : H4 D = some (.lst (qs.map V.ref)) := mv _ _ (fun z => (hq D z).2.2 rfl) (sm3 _ _ hD)
        have same0 : Same H H4 := fun z o ez => mv z o (fun hz => by rw [new0 z hz] at ez; cases ez) (sm3 _ _ (sm12 z o ez))
        refine ⟨.ref D, rfl, D, rfl, ⟨_, SqL.of hD4⟩, fun W nW => lc_it (walk_list (xs := qs.map V.ref)) (fun j H' => Same H4 H' ∧ H' W = some (.lst (wordsV ((stepsM ps a).take j)))) ⟨same_new nW, upd_same⟩ (fun j H' _ hV => SqL.of (hV.1 _ _ hD4)) (fun j x H5 H5' hj hV hY => ?_) (fun H5 hV => ?_)⟩
        · obtain ⟨sm5, hW5⟩ := hV
          obtain ⟨rfl, hx⟩ := hY
          rw [List.length_map] at hj
          have hqj : qs[j]? = some qs[j] := List.getElem?_eq_getElem hj
          generalize qs[j] = r at hqj
          rw [List.getElem?_map, hqj] at hx
          have ex : V.ref r = x := Option.some.inj hx
          subst ex
          have hr5 := sm5 _ _ (rows j r hqj)
          have few : (rowL (levL ps a) (j + 1)).length ≤ 1000 := by
            unfold rowL
            rw [List.length_map]
            have := List.length_filter_le (fun p : Nat × Nat => decide (p.2 = j + 1)) (levL ps a)
            rw [levL_len] at this
            omega
          refine ⟨rfl, tYes_of ⟨⟨tx [], rfl⟩, .ref r, rfl, r, ones (rowL (levL ps a) (j + 1)), rfl, SqL.of (by rw [hr5, ones_V]), ?_, fun ys t pm so nt => ?_⟩⟩
          · rw [ones_len]
            exact small_line (by omega)
          · obtain ⟨m, rfl, pm2, hm⟩ := ones_sorted pm so
            have em : m = sortN (rowL (levL ps a) (j + 1)) := sortN_of pm2 hm
            refine ⟨tx [], t, ones m, rfl, rfl, .inl (SqL.of upd_same), ?_, ?_⟩
            · rw [ones_sum, ones_len, pm2.length_eq, show (tx ([] : List Nat)).length = 0 from rfl]
              exact small_line (by omega)
            · rw [TcG.join_ones, em]
              have hs : (stepsM ps a)[j]? = some (sortN (rowL (levL ps a) (j + 1))) := by
                unfold stepsM
                rw [List.getElem?_map, List.getElem?_range (by omega)]
                rfl
              have tW : W ≠ t := fun z => by rw [← z, hW5] at nt; cases nt
              refine ⟨_, by rw [upd_ne tW]; exact hW5, ?_, fun z o ez => ?_, ?_⟩
              · rw [wordsV_len, List.length_take]
                exact Nat.lt_of_le_of_lt (show _ ≤ 1000 by omega) (by decide)
              · rw [upd_ne (ne_of_none ez nW), upd_ne (ne_of_none (sm5 z o ez) nt)]
                exact sm5 z o ez
              · rw [upd_same, take_next hs, wordsV_app]
                rfl
        · obtain ⟨sm5, hW5⟩ := hV
          rw [List.length_map, lq, show heightM ps a = (stepsM ps a).length from (stepsM_len a).symm, List.take_length] at hW5
          refine ⟨W, _, rfl, .inl ⟨SqL.of hW5, fun t nt => ?_⟩⟩
          have same5 := same0.trans sm5
          refine q t _ (same5.trans (same_new nt)) ?_ upd_same
          cases e : H t with
          | none => rfl
          | some o =>
            rw [same5 t o e] at nt
            cases nt
end
end Tc
namespace Tc
open PySem PySem.Spec PyProof.Rows L2 TcG
section
variable {P : Program} {w : World} {K : PySem.W.Frag} {mg : Str → Option Value} {base : Heap}
theorem kitF {a b : String} (h : kitB a b = some false := by decide +kernel) : PySem.W.kitOne K (.type a) (.type b) = some false := kit_ty h
theorem kitT {a b : String} (h : kitB a b = some true := by decide +kernel) : PySem.W.kitOne K (.type a) (.type b) = some true := kit_ty h

/-- isinstance(x, T), T a built-in type that is named -/
theorem pe_isi {X : Cx} {T : String} {i : Nat} {x n : Str} {p1 p2 p3 p4 : Pos} (mi : X.mg "isinstance" = none) (gi : Gl X "isinstance") (gT : Gl X n) (mT : X.mg n = none) (bT : bootBuiltins n = some (.type T)) (hv : PE X (.Name x p1) (tVar i))
    (hn : n ≠ "__name__" := by decide) (hd : (n == ("__debug__" : Str)) = false := by decide)
    (he : starEach [.Name x p1, .Name n p2] X.env = (false, eval (.Name x p1) X.env) :: starEach [.Name n p2] X.env := by rfl) (hpl : (backTo p4 (starEach [.Name n p2] X.env)).any (·.1) = false := by rfl)
    (he2 : starEach [.Name n p2] X.env = (false, eval (.Name n p2) X.env) :: starEach [] X.env := by rfl) :
    PE X (.Call (.Name "isinstance" p3) [.Name x p1, .Name n p2] [] p4) (tCB (rIsi X.K) (tCons (tVar i) (tCons (tC (.ty T)) tNil))) :=
  pe_callB call_isi gi mi (by decide +kernel) (pa_cons hv (pa_cons (pe_bltn gT mT bT rfl hn hd) pa_nil)) (by decide) (by decide) he hpl

def sp_same (K : PySem.W.Frag) (n : Nat) : Sp := fun vs H Q _ => ∃ x y : V, vs = [x, y] ∧ SameR K H n x y ∧ Q (.bl true) H
structure SameM (mg : Str → Option Value) : Prop where
  isi : mg "isinstance" = none
  tup : mg "tuple" = none
  bool : mg "bool" = none
  int : mg "int" = none
  str : mg "str" = none
  len : mg "len" = none
  range : mg "range" = none
theorem ok_same {f : Addr} {fd : FuncData} (F : Fun K "_law_same" "_law_same" s_law_same f fd) (gS : mg "_law_same" = some (.ref f)) (M : SameM mg) : ∀ n, FnOk P w K mg base CX0 n f fd ["actual", "expected"] (sp_same K n)
  | 0 => ⟨fun vs H Q E h => by obtain ⟨x, y, _, z, _⟩ := h; exact z.elim, fun A outer s H args us vs Q E hr e0 hb r h => by obtain ⟨x, y, _, z, _⟩ := h; exact z.elim⟩
  | n + 1 => by
    have GS : FnOk P w K mg base CX0 n f fd ["actual", "expected"] (sp_same K n) := ok_same F gS M n
    have bS : Binds K fd ["actual", "expected"] [] := F.binds fun _ _ _ _ _ _ us hl => match us, hl with | [_, _], _ => rfl
    refine F.ok sc_law_same (fun vs H Q E h => ?_) (fun cdv A outer s H vs Q E hr h => ?_)
    · obtain ⟨x, y, rfl, _⟩ := h
      rfl
    · obtain ⟨x, y, rfl, hs, q⟩ := h
      have nd := sc_law_same.nd
      refine ⟨_, pss_cons (ps_if (pt_val (pe_isi (T := "tuple") M.isi (by rfl) (by rfl) M.tup (by decide +kernel) (pv 1)))
          (pss_cons (ps_if (PW.pt (pw_or (pt_not (pt_val (pe_isi (T := "tuple") M.isi (by rfl) (by rfl) M.tup (by decide +kernel) (pv 0))))
              (pw_or1 (pt_cmpR op_ne (pe_callB call_len_seq (by rfl) M.len PySem.boot_len (pa_cons (pv 0) pa_nil)) (pe_callB call_len_seq (by rfl) M.len PySem.boot_len (pa_cons (pv 1) pa_nil)) (nomark _)))))
            (pss_one (ps_ret pe_bl)) pss_nil)
          (pss_cons (ps_for PassesOwn.never rfl (pi_range1 (by rfl) M.range (pa_cons (pe_callB call_len_seq (by rfl) M.len PySem.boot_len (pa_cons (pv 1) pa_nil)) pa_nil)) (pg_name (i := 2) nd rfl (.inl rfl))
            (pss_one (ps_if (pt_not (pt_val (pe_call GS hr (by rfl) gS F.kp bS .nil pass0 (pa_cons (pe_ix ix_tup (pv 0) (pv 2) (fun _ _ => rfl)) (pa_cons (pe_ix ix_tup (pv 1) (pv 2) (fun _ _ => rfl)) pa_nil))))) (pss_one (ps_ret pe_bl)) pss_nil)))
          (pss_one (ps_ret pe_bl)))) pss_nil)
        (pss_cons (ps_if (pt_cmpR op_isN (pv 1) pe_non (nomark _)) (pss_one (ps_ret (pe_cmpR op_isN (pv 0) pe_non (nomark _)))) pss_nil)
        (pss_cons (ps_if (pt_val (pe_isi (T := "bool") M.isi (by rfl) (by rfl) M.bool (by decide +kernel) (pv 1))) (pss_one (ps_ret (pe_and (pe_isi (T := "bool") M.isi (by rfl) (by rfl) M.bool (by decide +kernel) (pv 0)) (pe_one (pe_cmpR op_eq (pv 0) (pv 1) (nomark _)))))) pss_nil)
        (pss_cons (ps_if (pt_val (pe_isi (T := "int") M.isi (by rfl) (by rfl) M.int (by decide +kernel) (pv 1))) (pss_one (ps_ret (pe_and (pe_isi (T := "int") M.isi (by rfl) (by rfl) M.int (by decide +kernel) (pv 0))
            (pe_and (pe_not (pe_isi (T := "bool") M.isi (by rfl) (by rfl) M.bool (by decide +kernel) (pv 0))) (pe_one (pe_cmpR op_eq (pv 0) (pv 1) (nomark _))))))) pss_nil)
        (pss_one (ps_ret (pe_and (pe_isi (T := "str") M.isi (by rfl) (by rfl) M.str (by decide +kernel) (pv 0)) (pe_one (pe_cmpR op_eq (pv 0) (pv 1) (nomark _))))))))), ?_⟩
      rcases hs with ⟨rfl, fl⟩ | ⟨a, b, xs, ys, rfl, rfl, hx, hy, el, small, all⟩
      · cases x with
        | non =>
          exact ⟨.non, rfl, .non, .ty "tuple", .type "NoneType", _, false, rfl, .ty _, .base .non, kitF, false, rfl, iteF ⟨.non, rfl, rfl, true, rfl, iteT ⟨.non, rfl, rfl, q⟩⟩⟩
        | bl b =>
          refine ⟨.bl b, rfl, .bl b, .ty "tuple", .type "bool", _, false, rfl, .ty _, .base (.bl b), kitF, false, rfl, iteF ⟨.bl b, rfl, rfl, false, rfl, iteF ⟨.bl b, rfl, .bl b, .ty "bool", .type "bool", _, true, rfl, .ty _, .base (.bl b), kitT, true, rfl, iteT
            ⟨.bl b, rfl, .bl b, .ty "bool", .type "bool", _, true, rfl, .ty _, .base (.bl b), kitT, true, rfl, iteT ⟨.bl b, rfl, .bl b, rfl, rfl, ?_⟩⟩⟩⟩⟩
          rw [decide_eq_true rfl]
          exact q
        | int i =>
          refine ⟨.int i, rfl, .int i, .ty "tuple", .type "int", _, false, rfl, .ty _, .base (.int i), kitF, false, rfl, iteF ⟨.int i, rfl, rfl, false, rfl, iteF ⟨.int i, rfl, .int i, .ty "bool", .type "int", _, false, rfl, .ty _, .base (.int i), kitF, false, rfl, iteF
            ⟨.int i, rfl, .int i, .ty "int", .type "int", _, true, rfl, .ty _, .base (.int i), kitT, true, rfl, iteT ⟨.int i, rfl, .int i, .ty "int", .type "int", _, true, rfl, .ty _, .base (.int i), kitT, true, rfl, iteT
              ⟨.int i, rfl, .int i, .ty "bool", .type "int", _, false, rfl, .ty _, .base (.int i), kitF, false, rfl, true, rfl, iteT ⟨.int i, rfl, .int i, rfl, rfl, ?_⟩⟩⟩⟩⟩⟩⟩
          rw [decide_eq_true rfl]
          exact q
        | str z =>
          refine ⟨.str z, rfl, .str z, .ty "tuple", .type "str", _, false, rfl, .ty _, .base (.str z), kitF, false, rfl, iteF ⟨.str z, rfl, rfl, false, rfl, iteF ⟨.str z, rfl, .str z, .ty "bool", .type "str", _, false, rfl, .ty _, .base (.str z), kitF, false, rfl, iteF
            ⟨.str z, rfl, .str z, .ty "int", .type "str", _, false, rfl, .ty _, .base (.str z), kitF, false, rfl, iteF ⟨.str z, rfl, .str z, .ty "str", .type "str", _, true, rfl, .ty _, .base (.str z), kitT, true, rfl, iteT ⟨.str z, rfl, .str z, rfl, rfl, ?_⟩⟩⟩⟩⟩⟩
          rw [decide_eq_true rfl]
          exact q
        | _ => cases fl
      · refine ⟨.ref b, rfl, .ref b, .ty "tuple", .type "tuple", _, true, rfl, .ty _, tyx_tup hy, kitT, true, rfl, iteT ?_⟩
        refine ⟨.ref a, rfl, .ref a, .ty "tuple", .type "tuple", _, true, rfl, .ty _, tyx_tup hx, kitT, true, rfl, iteF ?_⟩
        refine ⟨.ref a, rfl, a, xs, rfl, .inr hx, .ref b, rfl, b, ys, rfl, .inr hy, rfl, _, rfl, ?_⟩
        rw [el, decide_eq_true rfl]
        refine iteF ⟨.ref b, rfl, b, ys, rfl, .inr hy, (ys.length : Int), rfl, by omega, by omega, ?_⟩
        refine for_range (lo := 0) (n := ((ys.length : Int)).toNat) (fun i σ H' => ∃ y2, σ = [some (.ref a), some (.ref b), y2] ∧ H' = H) ⟨none, rfl, rfl⟩ (fun i σ H1 hi hW => ?_) (fun σ H1 hW => ?_)
        · obtain ⟨y2, rfl, rfl⟩ := hW
          have hi2 : i < ys.length := by omega
          have hi1 : i < xs.length := by omega
          refine ⟨.ref a, rfl, .int (0 + (i : Int)), rfl, a, xs, 0 + (i : Int), xs[i], rfl, rfl, hx, at_eq (by omega) (List.getElem?_eq_getElem hi1), .ref b, rfl, .int (0 + (i : Int)), rfl, b, ys, 0 + (i : Int), ys[i], rfl, rfl, hy, at_eq (by omega) (List.getElem?_eq_getElem hi2), ?_⟩
          exact ⟨xs[i], ys[i], rfl, all i _ _ (List.getElem?_eq_getElem hi1) (List.getElem?_eq_getElem hi2), true, rfl, iteF ⟨some (.int (0 + (i : Int))), rfl, rfl⟩⟩
        · obtain ⟨y2, rfl, rfl⟩ := hW
          exact q
end
end Tc
namespace Tc
open PySem PySem.Spec PyProof.Rows L2 TcG
theorem same_strs {K : PySem.W.Frag} {H : Hp} {n : Nat} {xs : List V} (h : xs.all flatV = true) : ∀ (i : Nat) (a b : V), xs[i]? = some a → xs[i]? = some b → SameR K H (n + 1) a b := fun i a b ha hb => by
  rw [ha] at hb
  cases hb
  exact .inl ⟨rfl, List.all_eq_true.mp h a (List.mem_of_getElem? ha)⟩
theorem shaped_tup (a : List Str) (h : ∀ s ∈ a, PyData.strOk s = true) : SeqAt.shaped (.tuple (a.map .str)) = true := by
  unfold SeqAt.shaped
  rw [PyData.canLay0, lay_strs a h, PyData.depth, deep_strs a]
  rfl
theorem eqv_tup (a b : List Str) : PyData.eqv (.tuple (a.map .str)) (.tuple (b.map .str)) = decide (a = b) := by
  rw [PyData.eqv]
  exact eqv_strs _ _
theorem words_txs (l : List (List Nat)) : wordsV l = (l.map tx).map V.str := by
  rw [List.map_map]
  rfl
theorem txs_inj {a b : List (List Nat)} (h : a.map tx = b.map tx) : a = b := (List.map_inj_right fun x y e => tx_inj e).mp h
theorem nums_int (l : List Nat) : numsV l = (l.map Int.ofNat).map V.int := by
  rw [List.map_map]
  rfl
theorem gr_mv {S : List Addr} {Pt : Addr} {H H' : Hp} (t : Tabs S H) (mem : Pt ∈ S) (mv : Mv [Pt] H H') (tab : GxR.TabG H' Pt) : Gr S H H' := by
  obtain ⟨ps0, e0, r0⟩ := t Pt mem
  refine ⟨fun P hP => ?_, fun a o _ nt e => ?_, fun a n => ?_⟩
  · by_cases e : P = Pt
    · rw [e]
      exact tab
    · obtain ⟨ps, e1, r⟩ := t P hP
      exact ⟨ps, mv P _ (fun z => e (List.mem_singleton.mp z)) e1, r⟩
  · refine mv a o (fun z => ?_) e
    rw [List.mem_singleton.mp z, e0] at e
    exact nt ps0 (Option.some.inj e).symm
  · by_cases e : a = Pt
    · obtain ⟨ps, e1, _⟩ := tab
      rw [e, e1] at n
      cases n
    · cases h : H a with
      | none => rfl
      | some o =>
        rw [mv a o (fun z => e (List.mem_singleton.mp z)) h] at n
        cases n
structure Text (K : PySem.W.Frag) (mg : Str → Option Value) (base : Heap) (Pf Pt : Addr) where
  fCell : Addr
  dCell : FuncData
  cell : Fun K "_law_cell" "_law_cell" s_law_cell fCell dCell
  gCell : mg "_law_cell" = some (.ref fCell)
  fDigits : Addr
  dDigits : FuncData
  digits : Fun K "_law_digits" "_law_digits" s_law_digits fDigits dDigits
  gDigits : mg "_law_digits" = some (.ref fDigits)
  fBox : Addr
  dBox : FuncData
  box : Fun K "_law_box" "_law_box" s_law_box fBox dBox
  gBox : mg "_law_box" = some (.ref fBox)
  fDraw : Addr
  dDraw : FuncData
  draw : Fun K "_law_draw" "_law_draw" s_law_draw fDraw dDraw
  gDraw : mg "_law_draw" = some (.ref fDraw)
  fAlpha : Addr
  dAlpha : FuncData
  alpha : Fun K "_law_alphabet" "_law_alphabet" s_law_alphabet fAlpha dAlpha
  gAlpha : mg "_law_alphabet" = some (.ref fAlpha)
  fWord : Addr
  dWord : FuncData
  word : Fun K "_law_word" "_law_word" s_law_word fWord dWord
  gWord : mg "_law_word" = some (.ref fWord)
  fLFree : Addr
  dLFree : FuncData
  lfree : Fun K "_law_free" "_law_free" s_law_free fLFree dLFree
  gLFree : mg "_law_free" = some (.ref fLFree)
  fSame : Addr
  dSame : FuncData
  same : Fun K "_law_same" "_law_same" s_law_same fSame dSame
  gSame : mg "_law_same" = some (.ref fSame)
  fMixed : Addr
  dMixed : FuncData
  mixed : Fun K "_law_mixed" "_law_mixed" s_law_mixed fMixed dMixed
  gMixed : mg "_law_mixed" = some (.ref fMixed)
  fOnly : Addr
  dOnly : FuncData
  only : Fun K "_law_only" "_law_only" s_law_only fOnly dOnly
  gOnly : mg "_law_only" = some (.ref fOnly)
  fReally : Addr
  dReally : FuncData
  really : Fun K "_law_really" "_law_really" s_law_really fReally dReally
  gReally : mg "_law_really" = some (.ref fReally)
  fFar : Addr
  dFar : FuncData
  far : Fun K "_law_exchange_far" "_law_exchange_far" s_law_exchange_far fFar dFar
  gFar : mg "_law_exchange_far" = some (.ref fFar)
  fPairs : Addr
  dPairs : FuncData
  pairs : Fun K "letter_pairs" "letter_pairs" s_letter_pairs fPairs dPairs
  gPairs : mg "letter_pairs" = some (.ref fPairs)
  fInd : Addr
  dInd : FuncData
  ind : Fun K "independent" "independent" s_independent fInd dInd
  gInd : mg "independent" = some (.ref fInd)
  fParts : Addr
  dParts : FuncData
  parts : Fun K "parts" "parts" s_parts fParts dParts
  gParts : mg "parts" = some (.ref fParts)
  fExchanges : Addr
  dExchanges : FuncData
  exchanges : Fun K "exchanges" "exchanges" s_exchanges fExchanges dExchanges
  gExchanges : mg "exchanges" = some (.ref fExchanges)
  fSwapped : Addr
  dSwapped : FuncData
  swapped : Fun K "swapped" "swapped" s_swapped fSwapped dSwapped
  gSwapped : mg "swapped" = some (.ref fSwapped)
  fExchanged : Addr
  dExchanged : FuncData
  exchanged : Fun K "exchanged" "exchanged" s_exchanged fExchanged dExchanged
  gExchanged : mg "exchanged" = some (.ref fExchanged)
  fCan : Addr
  dCan : FuncData
  can : Fun K "can_exchange" "can_exchange" s_can_exchange fCan dCan
  gCan : mg "can_exchange" = some (.ref fCan)
  fDistance : Addr
  dDistance : FuncData
  distance : Fun K "distance" "distance" s_distance fDistance dDistance
  gDistance : mg "distance" = some (.ref fDistance)
  fFirsts : Addr
  dFirsts : FuncData
  firsts : Fun K "firsts" "firsts" s_firsts fFirsts dFirsts
  gFirsts : mg "firsts" = some (.ref fFirsts)
  fLevels : Addr
  dLevels : FuncData
  levels : Fun K "levels" "levels" s_levels fLevels dLevels
  gLevels : mg "levels" = some (.ref fLevels)
  fHeight : Addr
  dHeight : FuncData
  height : Fun K "height" "height" s_height fHeight dHeight
  gHeight : mg "height" = some (.ref fHeight)
  fWays : Addr
  dWays : FuncData
  ways : Fun K "ways_off" "ways_off" s_ways_off fWays dWays
  gWays : mg "ways_off" = some (.ref fWays)
  fMore : Addr
  dMore : FuncData
  more : Fun K "one_more_off" "one_more_off" s_one_more_off fMore dMore
  gMore : mg "one_more_off" = some (.ref fMore)
  fOff : Addr
  dOff : FuncData
  off : Fun K "first_off" "first_off" s_first_off fOff dOff
  gOff : mg "first_off" = some (.ref fOff)
  fLeast : Addr
  dLeast : FuncData
  least : Fun K "least" "least" s_least fLeast dLeast
  gLeast : mg "least" = some (.ref fLeast)
  fGreatest : Addr
  dGreatest : FuncData
  greatest : Fun K "greatest" "greatest" s_greatest fGreatest dGreatest
  gGreatest : mg "greatest" = some (.ref fGreatest)
  fTurn : Addr
  dTurn : FuncData
  turn : Fun K "taken_in_turn" "taken_in_turn" s_taken_in_turn fTurn dTurn
  gTurn : mg "taken_in_turn" = some (.ref fTurn)
  fSteps : Addr
  dSteps : FuncData
  steps : Fun K "steps" "steps" s_steps fSteps dSteps
  gSteps : mg "steps" = some (.ref fSteps)
  fWords : Addr
  dWords : FuncData
  words : Fun K "words_of" "words_of" s_words_of fWords dWords
  gWords : mg "words_of" = some (.ref fWords)
  fWFrom : Addr
  dWFrom : FuncData
  wFrom : Fun K "words_from" "words_from" s_words_from fWFrom dWFrom
  gWFrom : mg "words_from" = some (.ref fWFrom)
  fFree : Addr
  dFree : FuncData
  cFree : Addr
  free : FunC K "free" "free" s_free fFree dFree cFree
  gFree : mg "free" = some (.ref fFree)
  tFree : GxR.TabB base mg cFree Pf
  fTaken : Addr
  dTaken : FuncData
  cTaken : Addr
  taken : FunC K "taken_out" "taken_out" s_taken_out fTaken dTaken cTaken
  gTaken : mg "taken_out" = some (.ref fTaken)
  tTaken : GxR.TabB base mg cTaken Pt
  mlen : mg "len" = none
  mrange : mg "range" = none
  mint : mg "int" = none
  mmin : mg "min" = none
  mmax : mg "max" = none
  msorted : mg "sorted" = none
  mtuple : mg "tuple" = none
  mbool : mg "bool" = none
  mstr : mg "str" = none
  misi : mg "isinstance" = none
  mall : mg "all" = none
  mrev : mg "reversed" = none
  mlist : mg "list" = none
  menum : mg "enumerate" = none
  mzip : mg "zip" = none
section
variable {P : Program} {w : World} {K : PySem.W.Frag} {mg : Str → Option Value} {base : Heap}
def Text.firstsAt {Pf Pt : Addr} (T : Text K mg base Pf Pt) : FirstsAt K mg base [Pf, Pt] := ⟨T.fFirsts, T.dFirsts, T.firsts, T.gFirsts, T.fFree, T.dFree, T.cFree, T.free, T.gFree, Pf, T.tFree, List.mem_cons_self, T.fInd, T.dInd, T.ind, T.gInd, T.mall, T.mmin, T.mmax, T.msorted⟩
def sp_law (K : PySem.W.Frag) (Pf Pt : Addr) : Sp := fun vs H Q _ => ∃ (a : Addr) (ns : List Int), vs = [.ref a] ∧ SqL K H a (ns.map V.int) ∧ GxR.TabG H Pf ∧ GxR.TabG H Pt ∧ ∀ H', Q (.bl true) H'
theorem ok_law {f Pf Pt : Addr} {fd : FuncData} (F : Fun K "law" "law" s_law f fd) (T : Text K mg base Pf Pt) : FnOk P w K mg base CX0 8 f fd ["script"] (sp_law K Pf Pt) := by
  have GB : FnOk P w K mg base CX0 3 T.fBox T.dBox ["script", "first", "last"] (sp_box K) := ok_box T.box T.cell T.gCell T.digits T.gDigits T.mlen T.mrange T.mint
  have bB : Binds K T.dBox ["script", "first", "last"] [] := T.box.binds fun _ _ _ _ _ _ us hl => match us, hl with | [_, _, _], _ => rfl
  have GA : FnOk P w K mg base CX0 2 T.fAlpha T.dAlpha ["box", "most"] (sp_alphabet K) := ok_alphabet T.alpha T.draw T.gDraw T.mlen T.mint T.mrange T.msorted T.mtuple
  have bA : Binds K T.dAlpha ["box", "most"] [] := T.alpha.binds fun _ _ _ _ _ _ us hl => match us, hl with | [_, _], _ => rfl
  have GW : FnOk P w K mg base CX0 2 T.fWord T.dWord ["box", "alphabet", "most"] (sp_word K) := ok_word T.word T.draw T.gDraw T.mlen T.mint T.mrange
  have bW : Binds K T.dWord ["box", "alphabet", "most"] [] := T.word.binds fun _ _ _ _ _ _ us hl => match us, hl with | [_, _, _], _ => rfl
  have GM : FnOk P w K mg base CX0 2 T.fMixed T.dMixed ["box", "alphabet", "word"] (sp_mixed K) := ok_mixed T.mixed T.draw T.gDraw T.lfree T.gLFree T.mlen T.mint T.mrange
  have bM : Binds K T.dMixed ["box", "alphabet", "word"] [] := T.mixed.binds fun _ _ _ _ _ _ us hl => match us, hl with | [_, _, _], _ => rfl
  have GC : FnOk P w K mg base CX0 2 T.fFar T.dFar ["alphabet", "word"] (sp_far K) := ok_far T.far T.lfree T.gLFree T.mlen T.mrange
  have bC : Binds K T.dFar ["alphabet", "word"] [] := T.far.binds fun _ _ _ _ _ _ us hl => match us, hl with | [_, _], _ => rfl
  have GS : FnOk P w K mg base CX0 2 T.fSame T.dSame ["actual", "expected"] (sp_same K 2) := ok_same T.same T.gSame ⟨T.misi, T.mtuple, T.mbool, T.mint, T.mstr, T.mlen, T.mrange⟩ 2
  have bS : Binds K T.dSame ["actual", "expected"] [] := T.same.binds fun _ _ _ _ _ _ us hl => match us, hl with | [_, _], _ => rfl
  have GO : FnOk P w K mg base CX0 7 T.fWords T.dWords ["alphabet", "word"] (sp_words K [Pf, Pt]) := ok_words T.words T.wFrom T.gWFrom T.ways T.gWays T.more T.gMore T.firstsAt T.off T.gOff T.mrev T.mtuple
  have bO : Binds K T.dWords ["alphabet", "word"] [] := T.words.binds fun _ _ _ _ _ _ us hl => match us, hl with | [_, _], _ => rfl
  have GL : FnOk P w K mg base CX0 6 T.fLeast T.dLeast ["alphabet", "word"] (sp_least K [Pf, Pt] false) := ok_least T.least T.turn T.gTurn T.firstsAt T.off T.gOff
  have bL : Binds K T.dLeast ["alphabet", "word"] [] := T.least.binds fun _ _ _ _ _ _ us hl => match us, hl with | [_, _], _ => rfl
  have GG : FnOk P w K mg base CX0 6 T.fGreatest T.dGreatest ["alphabet", "word"] (sp_least K [Pf, Pt] true) := ok_greatest T.greatest T.turn T.gTurn T.firstsAt T.off T.gOff
  have bG : Binds K T.dGreatest ["alphabet", "word"] [] := T.greatest.binds fun _ _ _ _ _ _ us hl => match us, hl with | [_, _], _ => rfl
  have GP : FnOk P w K mg base CX0 2 T.fParts T.dParts ["alphabet", "word", "other"] (sp_parts K Pt) := ok_parts T.parts T.pairs T.gPairs T.ind T.gInd T.taken T.gTaken T.tTaken T.mmin T.mmax
  have bP : Binds K T.dParts ["alphabet", "word", "other"] [] := T.parts.binds fun _ _ _ _ _ _ us hl => match us, hl with | [_, _, _], _ => rfl
  have GX : FnOk P w K mg base CX0 3 T.fExchanges T.dExchanges ["alphabet", "word", "other"] (sp_exchanges K Pt) := ok_exchanges T.exchanges T.parts T.gParts GP T.swapped T.gSwapped T.menum T.mrange T.mtuple
  have bX : Binds K T.dExchanges ["alphabet", "word", "other"] [] := T.exchanges.binds fun _ _ _ _ _ _ us hl => match us, hl with | [_, _, _], _ => rfl
  have GD : FnOk P w K mg base CX0 4 T.fDistance T.dDistance ["alphabet", "word", "other"] (sp_distance K Pt) := ok_distance T.distance T.exchanges T.gExchanges GX T.mlen
  have bD : Binds K T.dDistance ["alphabet", "word", "other"] [] := T.distance.binds fun _ _ _ _ _ _ us hl => match us, hl with | [_, _, _], _ => rfl
  have GN : FnOk P w K mg base CX0 2 T.fCan T.dCan ["alphabet", "word", "place"] (sp_can K) := ok_can T.can T.ind T.gInd T.mlen T.mmin T.mmax
  have GE : FnOk P w K mg base CX0 3 T.fExchanged T.dExchanged ["alphabet", "word", "places"] (sp_exchanged K) := ok_exchanged (fI := T.fInd) (fdI := T.dInd) T.exchanged T.can T.gCan GN T.swapped T.gSwapped T.menum
  have bE : Binds K T.dExchanged ["alphabet", "word", "places"] [] := T.exchanged.binds fun _ _ _ _ _ _ us hl => match us, hl with | [_, _, _], _ => rfl
  have GR : FnOk P w K mg base CX0 2 T.fReally T.dReally ["word", "other", "paper"] (sp_really K) := ok_really T.really T.only T.gOnly T.mlen T.mlist
  have bR : Binds K T.dReally ["word", "other", "paper"] [] := T.really.binds fun _ _ _ _ _ _ us hl => match us, hl with | [_, _, _], _ => rfl
  have GK : FnOk P w K mg base CX0 1 T.fLFree T.dLFree ["alphabet", "x", "y"] (sp_free K) := ok_free T.lfree
  have bK : Binds K T.dLFree ["alphabet", "x", "y"] [] := T.lfree.binds fun _ _ _ _ _ _ us hl => match us, hl with | [_, _, _], _ => rfl
  have GT : FnOk P w K mg base CX0 4 T.fSteps T.dSteps ["alphabet", "word"] (sp_steps K) := ok_steps T.steps T.height T.gHeight T.levels T.gLevels T.ind T.gInd T.mmin T.mmax T.menum T.mrange T.mzip T.msorted T.mtuple
  have bT : Binds K T.dSteps ["alphabet", "word"] [] := T.steps.binds fun _ _ _ _ _ _ us hl => match us, hl with | [_, _], _ => rfl
  refine F.ok sc_law (fun vs H Q E h => ?_) (fun cdv A outer s H vs Q E hr h => ?_)
  · obtain ⟨a, ns, rfl, _⟩ := h
    rfl
  · obtain ⟨sc, ns, rfl, hS, tabf, tabt, q⟩ := h
    have nd := sc_law.nd
    have hr6 : Room 6 _ := hr.mono (by decide)
    have hr4 : Room 4 _ := hr.mono (by decide)
    have hr3 : Room 3 _ := hr.mono (by decide)
    have hr2 : Room 2 _ := hr.mono (by decide)
    have hr1 : Room 1 _ := hr.mono (by decide)
    refine ⟨_, pss_cons (ps_set (i := 1) nd rfl (.inl rfl) (pe_call GB hr3 (by rfl) T.gBox T.box.kp bB .nil pass0 (pa_cons (pv 0) (pa_cons pe_int (pa_cons pe_int pa_nil)))))
      (pss_cons (ps_set (i := 2) nd rfl (.inl rfl) (pe_call GA hr2 (by rfl) T.gAlpha T.alpha.kp bA .nil pass0 (pa_cons (pv 1) (pa_cons pe_int pa_nil))))
      (pss_cons (ps_set (i := 3) nd rfl (.inl rfl) (pe_call GW hr2 (by rfl) T.gWord T.word.kp bW .nil pass0 (pa_cons (pv 1) (pa_cons (pv 2) (pa_cons pe_int pa_nil)))))
      (pss_cons (ps_set (i := 4) nd rfl (.inl rfl) (pe_call GC hr2 (by rfl) T.gFar T.far.kp bC .nil pass0 (pa_cons (pv 2) (pa_cons (pv 3) pa_nil))))
      (pss_cons (ps_set (i := 5) nd rfl (.inl rfl) (pe_callB cr_sortedA (by rfl) T.msorted (by decide +kernel) (pa_cons (pe_callTy (call_listD rfl) (by rfl) T.mlist (by decide +kernel) (pa_cons (pv 4) pa_nil)) pa_nil)))
      (pss_cons (ps_if (pt_not (pt_val (pe_call GS hr2 (by rfl) T.gSame T.same.kp bS .nil pass0 (pa_cons (pe_call GO hr (by rfl) T.gWords T.words.kp bO .nil pass0 (pa_cons (pv 2) (pa_cons (pv 3) pa_nil))) (pa_cons (pe_callTy call_tuple_of (by rfl) T.mtuple (by decide +kernel) (pa_cons (pv 5) pa_nil)) pa_nil)))))
        (pss_one (ps_ret pe_bl)) pss_nil)
      (pss_cons (ps_if (PW.pt (pw_or (pt_not (pt_val (pe_call GS hr2 (by rfl) T.gSame T.same.kp bS .nil pass0 (pa_cons (pe_call GL hr6 (by rfl) T.gLeast T.least.kp bL .nil pass0 (pa_cons (pv 2) (pa_cons (pv 3) pa_nil))) (pa_cons (pe_ix ix_list (pv 5) pe_int (fun _ _ => rfl)) pa_nil)))))
          (pw_or1 (pt_not (pt_val (pe_call GS hr2 (by rfl) T.gSame T.same.kp bS .nil pass0 (pa_cons (pe_call GG hr6 (by rfl) T.gGreatest T.greatest.kp bG .nil pass0 (pa_cons (pv 2) (pa_cons (pv 3) pa_nil))) (pa_cons (pe_ix ix_list (pv 5) (pe_op op_sub (pe_callB call_len_seq (by rfl) T.mlen PySem.boot_len (pa_cons (pv 5) pa_nil)) pe_int) (fun _ _ => rfl)) pa_nil))))))))
        (pss_one (ps_ret pe_bl)) pss_nil)
      (pss_cons (ps_set (i := 6) nd rfl (.inl rfl) (pe_lst (pa_cons (pe_call GM hr2 (by rfl) T.gMixed T.mixed.kp bM .nil pass0 (pa_cons (pv 1) (pa_cons (pv 2) (pa_cons (pv 3) pa_nil))))
        (pa_cons (pe_ix ix_list (pv 5) pe_int (fun _ _ => rfl)) (pa_cons (pe_ix ix_list (pv 5) (pe_op op_sub (pe_callB call_len_seq (by rfl) T.mlen PySem.boot_len (pa_cons (pv 5) pa_nil)) pe_int) (fun _ _ => rfl))
        (pa_cons (pe_revS (pv 3)) (pa_cons (pe_call GW hr2 (by rfl) T.gWord T.word.kp bW .nil pass0 (pa_cons (pv 1) (pa_cons (pv 2) (pa_cons pe_int pa_nil)))) pa_nil)))))))
      (pss_cons (ps_for PassesOwn.never rfl (pi_list (pv 6)) (pg_name (i := 7) nd rfl (.inl rfl))
        (pss_cons (ps_set (i := 8) nd rfl (.inl rfl) (pe_call GX hr3 (by rfl) T.gExchanges T.exchanges.kp bX .nil pass0 (pa_cons (pv 2) (pa_cons (pv 3) (pa_cons (pv 7) pa_nil)))))
        (pss_cons (ps_set (i := 9) nd rfl (.inl rfl) (pe_call GP hr2 (by rfl) T.gParts T.parts.kp bP .nil pass0 (pa_cons (pv 2) (pa_cons (pv 3) (pa_cons (pv 7) pa_nil)))))
        (pss_cons (ps_if (PW.pt (pw_or (pt_cmpR op_eq (pe_cmpR op_isN (pv 8) pe_non (nomark _)) (pe_cmpR op_isN (pv 9) pe_non (nomark _)) (nomark _))
            (pw_or1 (pt_cmpR op_ne (pe_cmpR op_isN (pv 9) pe_non (nomark _)) (pe_cmp (pc_din (hu_of hr) (pv 7) (pv 4))) (nomark _)))))
          (pss_one (ps_ret pe_bl)) pss_nil)
        (pss_cons (ps_if (pt_not (pt_val (pe_call GS hr2 (by rfl) T.gSame T.same.kp bS .nil pass0 (pa_cons (pe_call GD hr4 (by rfl) T.gDistance T.distance.kp bD .nil pass0 (pa_cons (pv 2) (pa_cons (pv 3) (pa_cons (pv 7) pa_nil)))) (pa_cons (pe_dget1 (hu_of hr) (pv 4) (pv 7) ⟨by rfl, by rfl, by rfl, by rfl⟩) pa_nil)))))
          (pss_one (ps_ret pe_bl)) pss_nil)
        (pss_cons (ps_if (pt_cmpR op_notN (pv 8) pe_non (nomark _))
          (pss_one (ps_if (PW.pt (pw_or (pt_not (pt_val (pe_isi (T := "tuple") T.misi (by rfl) (by rfl) T.mtuple (by decide +kernel) (pv 8))))
              (pw_or (pt_cmpR op_ne (pe_callB call_len_seq (by rfl) T.mlen PySem.boot_len (pa_cons (pv 8) pa_nil)) (pe_dget (hu_of hr) (pv 4) (pv 7) (fun _ _ => rfl)) (nomark _))
              (pw_or1 (pt_cmpR op_ne (pe_call GE hr3 (by rfl) T.gExchanged T.exchanged.kp bE .nil pass0 (pa_cons (pv 2) (pa_cons (pv 3) (pa_cons (pv 8) pa_nil)))) (pv 7) (nomark _))))))
            (pss_one (ps_ret pe_bl)) pss_nil))
          (pss_one (ps_if (pt_not (pt_val (pe_call GR hr2 (by rfl) T.gReally T.really.kp bR .nil pass0 (pa_cons (pv 3) (pa_cons (pv 7) (pa_cons (pv 9) pa_nil))))))
            (pss_one (ps_ret pe_bl))
            (pss_one (ps_if (PW.pt (pw_and (pt_cmpR op_eq (pe_ix ix_tup (pv 9) pe_int (fun _ _ => rfl)) pe_str (nomark _))
                (pw_and1 (pt_val (pe_call GK hr1 (by rfl) T.gLFree T.lfree.kp bK .nil pass0 (pa_cons (pv 2) (pa_cons (pe_ix ix_tup (pv 9) pe_int (fun _ _ => rfl)) (pa_cons (pe_ix ix_tup (pv 9) pe_int (fun _ _ => rfl)) pa_nil))))))))
              (pss_one (ps_ret pe_bl)) pss_nil)))))
        (pss_cons (ps_if (pt_cmpR op_ne (pe_cmpR op_eq (pe_call GL hr6 (by rfl) T.gLeast T.least.kp bL .nil pass0 (pa_cons (pv 2) (pa_cons (pv 3) pa_nil))) (pe_call GL hr6 (by rfl) T.gLeast T.least.kp bL .nil pass0 (pa_cons (pv 2) (pa_cons (pv 7) pa_nil))) (nomark _))
            (pe_cmp (pc_din (hu_of hr) (pv 7) (pv 4))) (nomark _))
          (pss_one (ps_ret pe_bl)) pss_nil)
        (pss_one (ps_if (pt_cmpR op_ne (pe_cmpR (op_eqD hr.units) (pe_call GT hr4 (by rfl) T.gSteps T.steps.kp bT .nil pass0 (pa_cons (pv 2) (pa_cons (pv 3) pa_nil))) (pe_call GT hr4 (by rfl) T.gSteps T.steps.kp bT .nil pass0 (pa_cons (pv 2) (pa_cons (pv 7) pa_nil))) (nomark _))
            (pe_cmp (pc_din (hu_of hr) (pv 7) (pv 4))) (nomark _))
          (pss_one (ps_ret pe_bl)) pss_nil)))))))))
      (pss_one (ps_ret pe_bl)))))))))), ?_⟩
    refine ⟨.ref sc, rfl, sc, ns, rfl, hS, fun b dl H1 sm1 nb hB1 => ?_⟩
    have tab1 : Tabs [Pf, Pt] H1 := Tabs.same (fun P hP => by
      rcases List.mem_cons.mp hP with e | e
      · rw [e]
        exact tabf
      · rw [List.mem_singleton.mp e]
        exact tabt) sm1
    refine ⟨.ref b, rfl, b, dl, 4, rfl, hB1, by decide, by decide, fun al n ps H3 n4 dr mv3 hB3 hA3 => ?_⟩
    have l4 : (alph n).length = n := alph_len (by omega)
    have pr := dr.pairs
    have low : ∀ c ∈ alph n, c < 1000 := by
      intro c hc
      obtain ⟨k, hk⟩ := List.mem_iff_getElem?.mp hc
      have lt := (List.getElem?_eq_some_iff.mp hk).1
      rw [alph_at (by omega) (by omega)] at hk
      have := Option.some.inj hk
      omega
    have tab3 : Tabs [Pf, Pt] H3 := hB1.tabs mv3 tab1
    refine ⟨.ref b, rfl, .ref al, rfl, b, dl, al, 6, alph n, ps, rfl, hB3, hA3, by rw [l4]; exact dr.some, by rw [l4]; omega, by decide, by decide, fun a H4 la ia mv4 hB4 => ?_⟩
    have la6 : a.length ≤ 6 := by omega
    have hA4 := hA3.mvB hB3 mv4
    have tab4 : Tabs [Pf, Pt] H4 := hB3.tabs mv4 tab3
    have few := all_small (ps := ps) (w := a) (n := a.length) rfl (by omega)
    have ne := all_ne (ps := ps) a.length a rfl
    refine ⟨.ref al, rfl, .str (tx a), rfl, al, a, alph n, ps, rfl, hA4, pr, by omega, by omega, ia, fun fp r H5 sm5 hfp ndr memr dist => ?_⟩
    have same : ∀ v, v ∈ keysR r ↔ v ∈ allM ps a.length a := fun v => (memr v).trans (mem_all pr a.length a v rfl ia).symm
    have lr : (keysR r).length ≤ 3628800 := Nat.le_trans (len_le_of_mem ndr fun v hv => (same v).mp hv) few
    have eK : (rowK r).map (fun kv => kV kv.1) = ((keysR r).map tx).map V.str := by
      unfold rowK keysR
      rw [List.map_map, List.map_map, List.map_map]
      rfl
    refine ⟨.ref fp, rfl, fp, rowK r, rfl, .inl hfp, fun p np => ⟨p, (keysR r).map tx, rfl, SqL.of (by rw [upd_same, eK]), by rw [List.length_map]; exact Nat.le_trans lr (by show 3628800 ≤ sizeLine; decide), fun ys d pm so nd5 => ?_⟩⟩
    rw [words_sorted ndr same (all_rising _ _) pm so]
    have eW : ((allM ps a.length a).map tx).map V.str = wordsV (allM ps a.length a) := by
      rw [List.map_map]
      rfl
    rw [eW]
    have sm6 : Same H4 (upd (upd H5 p (.lst ((rowK r).map fun kv => kV kv.1))) d (.lst (wordsV (allM ps a.length a)))) := sm5.trans ((same_new np).trans (same_new nd5))
    have hd6 : (upd (upd H5 p (.lst ((rowK r).map fun kv => kV kv.1))) d (.lst (wordsV (allM ps a.length a)))) d = some (.lst (wordsV (allM ps a.length a))) := upd_same
    have hf6 : (upd (upd H5 p (.lst ((rowK r).map fun kv => kV kv.1))) d (.lst (wordsV (allM ps a.length a)))) fp = some (.dK (rowK r)) := ((same_new np).trans (same_new nd5)) _ _ hfp
    have ndb : d ≠ b := by
      obtain ⟨ds, nn, hb, _⟩ := (hB4.same sm5).same (same_new (o := .lst ((rowK r).map fun kv => kV kv.1)) np)
      exact fun z => by rw [← z, nd5] at hb; cases hb
    have nfb : fp ≠ b := by
      obtain ⟨ds, nn, hb, _⟩ := hB4.same sm5
      exact fun z => by rw [← z, hfp] at hb; cases hb
    have hA6 := hA4.same sm6
    have hB6 := hB4.same sm6
    have tab6 := tab4.same sm6
    generalize upd (upd H5 p (.lst ((rowK r).map fun kv => kV kv.1))) d (.lst (wordsV (allM ps a.length a))) = H6 at hd6 hf6 hA6 hB6 tab6
    have l50 : (alph n).length ≤ 50 := by rw [l4]; omega
    -- words_of
    refine ⟨.ref al, rfl, .str (tx a), rfl, al, a, alph n, ps, rfl, hA6, ia, l50, by omega, tab6, fun t1 H7 g7 nt1 ht1 => ?_⟩
    refine ⟨.ref d, rfl, d, _, rfl, .inl ⟨SqL.of (g7.lst hd6), fun t2 nt2 => ?_⟩⟩
    have g8 : Gr [Pf, Pt] H6 (upd H7 t2 (.tup (wordsV (allM ps a.length a)))) := g7.trans (.new g7.tab nt2)
    have ht2 : (upd H7 t2 (.tup (wordsV (allM ps a.length a)))) t1 = some (.tup (wordsV (allM ps a.length a))) := by
      rw [upd_ne fun z => by rw [← z, ht1] at nt2; cases nt2]
      exact ht1
    refine ⟨_, _, rfl, .inr ⟨t1, t2, _, _, rfl, rfl, SqT.of ht2, SqT.of upd_same, rfl, by rw [wordsV_len]; omega, same_strs (txs_flat _)⟩, true, rfl, iteF ?_⟩
    generalize upd H7 t2 (.tup (wordsV (allM ps a.length a))) = H8 at g8 ht2
    have first : (wordsV (allM ps a.length a))[0]? = some (.str (tx (turnM ps false a.length a))) := by
      have := least_head (ps := ps) a.length a rfl
      rw [List.head?_eq_getElem?] at this
      unfold wordsV
      rw [List.getElem?_map, this]
      rfl
    have last : (wordsV (allM ps a.length a))[(wordsV (allM ps a.length a)).length - 1]? = some (.str (tx (turnM ps true a.length a))) := by
      have := greatest_last (ps := ps) a.length a rfl
      rw [List.getLast?_eq_getElem?] at this
      rw [wordsV_len]
      unfold wordsV
      rw [List.getElem?_map, this]
      rfl
    have some1 : 0 < (wordsV (allM ps a.length a)).length := by
      rw [wordsV_len]
      exact List.length_pos_iff.mpr ne
    -- least, greatest
    refine ⟨.ref al, rfl, .str (tx a), rfl, al, a, alph n, ps, rfl, hA6.gr g8, ia, l50, by omega, g8.tab, fun H9 g9 => ?_⟩
    have g69 := g8.trans g9
    refine ⟨.ref d, rfl, d, _, 0, _, rfl, rfl, SqL.of (g69.lst hd6), atI_nat (j := 0) first, ?_⟩
    refine ⟨_, _, rfl, .inl ⟨rfl, rfl⟩, true, rfl, iteF ?_⟩
    refine ⟨.ref al, rfl, .str (tx a), rfl, al, a, alph n, ps, rfl, hA6.gr g69, ia, l50, by omega, g69.tab, fun H10 g10 => ?_⟩
    have g610 := g69.trans g10
    have hd10 := g610.lst hd6
    refine ⟨.ref d, rfl, .ref d, rfl, d, _, rfl, .inl (SqL.of hd10), ((wordsV (allM ps a.length a)).length : Int), 1, rfl, rfl, d, _, ((wordsV (allM ps a.length a)).length : Int) - 1, _, rfl, rfl, SqL.of hd10, at_eq (j := (wordsV (allM ps a.length a)).length - 1) (by omega) last, ?_⟩
    refine ⟨_, _, rfl, .inl ⟨rfl, rfl⟩, true, rfl, iteF ?_⟩
    -- the words that are tried
    refine ⟨.ref b, rfl, .ref al, rfl, .str (tx a), rfl, b, dl, al, a, alph n, ps, rfl, hB6.gr g610, hA6.gr g610, pr, by omega, fun o1 H11 ex1 mv11 hB11 => ?_⟩
    have hA11 : Alpha K H11 al (alph n) ps := (hA6.gr g610).mvB (hB6.gr g610) mv11
    have tab11 : Tabs [Pf, Pt] H11 := (hB6.gr g610).tabs mv11 g610.tab
    have hd11 : H11 d = some (.lst (wordsV (allM ps a.length a))) := mv11 d _ (fun z => ndb (List.mem_singleton.mp z)) hd10
    have hf11 : H11 fp = some (.dK (rowK r)) := mv11 fp _ (fun z => nfb (List.mem_singleton.mp z)) (g610.dK hf6)
    refine ⟨.ref d, rfl, d, _, 0, _, rfl, rfl, SqL.of hd11, atI_nat (j := 0) first, ?_⟩
    refine ⟨.ref d, rfl, .ref d, rfl, d, _, rfl, .inl (SqL.of hd11), ((wordsV (allM ps a.length a)).length : Int), 1, rfl, rfl, d, _, ((wordsV (allM ps a.length a)).length : Int) - 1, _, rfl, rfl, SqL.of hd11, at_eq (j := (wordsV (allM ps a.length a)).length - 1) (by omega) last, ?_⟩
    refine ⟨.str (tx a), rfl, a, rfl, by omega, ?_⟩
    refine ⟨.ref b, rfl, .ref al, rfl, b, dl, al, 6, alph n, ps, rfl, hB11, hA11, by rw [l4]; exact dr.some, by rw [l4]; omega, by decide, by decide, fun u H12 lu iu mv12 hB12 => ?_⟩
    refine ⟨by show 5 ≤ sizeLine; decide, fun tr ntr => ?_⟩
    have hA12 := hA11.mvB hB11 mv12
    have tab12 : Tabs [Pf, Pt] H12 := hB11.tabs mv12 tab11
    have hf12 : H12 fp = some (.dK (rowK r)) := mv12 fp _ (fun z => nfb (List.mem_singleton.mp z)) hf11
    have inAll : ∀ v, v ∈ allM ps a.length a → v.length ≤ 6 ∧ ∀ c ∈ v, c ∈ alph n := fun v hv => by
      have e := (mem_all pr a.length a v rfl ia).mp hv
      exact ⟨by rw [← e.perm.length_eq]; exact la6, fun c hc => ia c (e.perm.mem_iff.mpr hc)⟩
    have okW : ∀ o ∈ [o1, turnM ps false a.length a, turnM ps true a.length a, a.reverse, u], o.length ≤ 6 ∧ ∀ c ∈ o, c ∈ alph n := fun o ho => by
      simp only [List.mem_cons, List.not_mem_nil, or_false] at ho
      rcases ho with rfl | rfl | rfl | rfl | rfl
      · exact ⟨by rw [← ex1.perm.length_eq]; exact la6, fun c hc => ia c (ex1.perm.mem_iff.mpr hc)⟩
      · exact inAll _ (List.mem_of_head? (least_head (ps := ps) a.length a rfl))
      · exact inAll _ (List.mem_of_getLast? (greatest_last (ps := ps) a.length a rfl))
      · exact ⟨by rw [List.length_reverse]; exact la6, fun c hc => ia c (List.mem_reverse.mp hc)⟩
      · exact ⟨by omega, iu⟩
    have eT : [V.str (tx o1), V.str (tx (turnM ps false a.length a)), V.str (tx (turnM ps true a.length a)), V.str (tx a.reverse), V.str (tx u)] = wordsV [o1, turnM ps false a.length a, turnM ps true a.length a, a.reverse, u] := rfl
    rw [eT]
    generalize [o1, turnM ps false a.length a, turnM ps true a.length a, a.reverse, u] = ws at okW
    have hA13 := hA12.same (same_new (o := .lst (wordsV ws)) ntr)
    have tab13 : Tabs [Pf, Pt] (upd H12 tr (.lst (wordsV ws))) := tab12.same (same_new ntr)
    have hf13 := (same_new (o := .lst (wordsV ws)) ntr) _ _ hf12
    have ht13 : (upd H12 tr (.lst (wordsV ws))) tr = some (.lst (wordsV ws)) := upd_same
    generalize upd H12 tr (.lst (wordsV ws)) = H13 at hA13 tab13 hf13 ht13
    have Ptm : Pt ∈ [Pf, Pt] := List.mem_cons_of_mem _ List.mem_cons_self
    refine ⟨.ref tr, rfl, tr, rfl, ⟨_, SqL.of ht13⟩, for_it (walk_list (xs := wordsV ws)) (fun i σ H' => ∃ y7 y8 y9, σ = [some (.ref sc), some (.ref b), some (.ref al), some (.str (tx a)), some (.ref fp), some (.ref d), some (.ref tr), y7, y8, y9] ∧ Gr [Pf, Pt] H13 H')
      ⟨none, none, none, rfl, .refl tab13⟩ (fun i σ H' _ hW => by obtain ⟨_, _, _, _, g⟩ := hW; exact SqL.of (g.lst ht13)) (fun i x σ H14 H14' hi hW hY => ?_) (fun σ H14 hW => ?_)⟩
    · obtain ⟨y7, y8, y9, rfl, g14⟩ := hW
      obtain ⟨rfl, hx⟩ := hY
      obtain ⟨o, ho, rfl⟩ := wordsV_at hx
      obtain ⟨lo, io⟩ := okW o (List.mem_of_getElem? ho)
      have hA14 := hA13.gr g14
      have gives : ∀ {H' : Hp}, Gr [Pf, Pt] H13 H' → DGet H' fp (.str (tx o)) ((getR r o).map fun n => V.int (n : Int)) := fun {H'} g => by
        have := DGet.k (k := Sum.inr (tx o)) (g.dK hf13)
        rw [rowK_get] at this
        exact this
      by_cases ex : Exs ps a o
      · -- alike words
        obtain ⟨pr2, hpr, epr⟩ := List.mem_map.mp ((memr o).mpr ex)
        have hpr2 : (o, pr2.2) ∈ r := by rw [← epr]; exact hpr
        have hg : getR r o = some (exL 0 a o).length := by
          rw [getR_some ndr hpr2, dist o _ hpr2]
        have gives2 : ∀ {H' : Hp}, Gr [Pf, Pt] H13 H' → DGet H' fp (.str (tx o)) (some (.int ((exL 0 a o).length : Int))) := fun {H'} g => by
          have := gives g
          rw [hg] at this
          exact this
        have none_ : partsM (alph n) ps a o = none := (partsM_none pr ia io).mpr ex
        refine ⟨.ref al, rfl, .str (tx a), rfl, .str (tx o), rfl, al, a, o, alph n, ps, rfl, hA14, pr, g14.tab Pt Ptm, by omega, by omega, by omega, ia, io, fun H' _ _ no => absurd ex no, fun tp H15 mv15 tab15 _ htp => ?_⟩
        have g15 : Gr [Pf, Pt] H13 H15 := g14.trans (gr_mv g14.tab Ptm mv15 tab15)
        refine ⟨.ref al, rfl, .str (tx a), rfl, .str (tx o), rfl, al, a, o, alph n, ps, rfl, hA13.gr g15, tab15, by omega, by omega, by omega, fun v H16 mv16 tab16 hv => ?_⟩
        rw [none_] at hv
        have ev : v = .non := hv
        subst ev
        have gm16 := gr_mv g15.tab Ptm mv16 tab16
        have g16 := g15.trans gm16
        have htp16 := gm16.tup htp
        refine ⟨.ref tp, rfl, rfl, .non, rfl, rfl, rfl, _, rfl, ?_⟩
        refine iteF ⟨.non, rfl, rfl, .str (tx o), rfl, .ref fp, rfl, fp, _, rfl, gives2 g16, rfl, _, rfl, iteF ?_⟩
        -- distance
        refine ⟨.ref al, rfl, .str (tx a), rfl, .str (tx o), rfl, al, a, o, alph n, ps, rfl, hA13.gr g16, pr, tab16, by omega, by omega, by omega, ia, io, fun H' _ _ no => absurd ex no, fun H17 mv17 tab17 _ => ?_⟩
        have gm17 := gr_mv g16.tab Ptm mv17 tab17
        have g17 := g16.trans gm17
        have htp17 := gm17.tup htp16
        have ld : IsD H17 fp := .inl ⟨_, .inl (g17.dK hf13)⟩
        refine ⟨.ref fp, rfl, fp, rfl, ld, .str (tx o), rfl, _, gives2 g17, ?_⟩
        refine ⟨_, _, rfl, .inl ⟨rfl, rfl⟩, true, rfl, iteF ?_⟩
        refine ⟨.ref tp, rfl, rfl, _, rfl, iteT ?_⟩
        refine ⟨.ref tp, rfl, .ref tp, .ty "tuple", .type "tuple", _, true, rfl, .ty _, tyx_tup (SqT.of htp17), kitT, true, rfl, iteF ?_⟩
        refine ⟨.ref tp, rfl, tp, _, rfl, .inr (SqT.of htp17), .ref fp, rfl, .str (tx o), rfl, fp, _, rfl, gives2 g17, rfl, _, rfl, ?_⟩
        rw [decide_eq_true (show V.int ((numsV (exL 0 a o)).length : Int) = V.int ((exL 0 a o).length : Int) by unfold numsV; rw [List.length_map])]
        refine iteF ?_
        obtain ⟨k, run, _⟩ := run_exL pr o a [] 0 (ex.keepsA pr)
        have run' : runEx ps a ((exL 0 a o).map Int.ofNat) 0 = (o, none) := run
        have htp17' := htp17
        rw [nums_int] at htp17'
        have lx : (exL 0 a o).length ≤ 50 := by
          have h1 := exL_len o a 0
          have h2 : o.length * (a.length + 1) ≤ 6 * 7 := Nat.mul_le_mul lo (by omega)
          omega
        refine ⟨.ref al, rfl, .str (tx a), rfl, .ref tp, rfl, al, tp, a, alph n, ps, (exL 0 a o).map Int.ofNat, rfl, hA13.gr g17, SqT.of htp17', by omega, by rw [List.length_map]; exact lx, by rw [run'], fun H18 sm18 => ?_⟩
        rw [run']
        have g18 := g17.trans (.same g17.tab sm18)
        refine ⟨.str (tx o), rfl, rfl, _, rfl, ?_⟩
        rw [decide_eq_true (show V.str (tx o) = V.str (tx o) from rfl)]
        refine iteF ?_
        -- least
        have eL : decide (V.str (tx (turnM ps false a.length a)) = V.str (tx (turnM ps false o.length o))) = true := decide_eq_true (congrArg (fun l => V.str (tx l)) (least_alike pr ia ex))
        refine ⟨.ref al, rfl, .str (tx a), rfl, al, a, alph n, ps, rfl, hA13.gr g18, ia, l50, by omega, g18.tab, fun H19 gm19 => ?_⟩
        have g19 := g18.trans gm19
        refine ⟨.ref al, rfl, .str (tx o), rfl, al, o, alph n, ps, rfl, hA13.gr g19, io, l50, by omega, g19.tab, fun H20 gm20 => ?_⟩
        have g20 := g19.trans gm20
        refine ⟨rfl, .str (tx o), rfl, .ref fp, rfl, fp, _, rfl, gives2 g20, rfl, _, rfl, ?_⟩
        rw [eL]
        refine iteF ?_
        -- steps
        have sw : ∀ w : List Nat, (∀ c ∈ w, c ∈ alph n) → ∀ z ∈ (stepsM ps w).map tx, PyData.strOk z = true := fun w iw z hz => by
          obtain ⟨st, hst, rfl⟩ := List.mem_map.mp hz
          unfold PyData.strOk
          rw [Array.all_eq_true_iff_forall_mem]
          intro c hc
          have hc2 : c ∈ st := by
            have : c ∈ st.toArray := hc
            exact List.mem_toArray.mp this
          have h1 : c ∈ w := (steps_exs (ps := ps) w).perm.mem_iff.mpr (List.mem_flatten.mpr ⟨st, hst, hc2⟩)
          have h2 := low c (iw c h1)
          exact decide_eq_true (by omega)
        refine ⟨.ref al, rfl, .str (tx a), rfl, al, a, alph n, ps, rfl, hA13.gr g20, by omega, fun p1 H21 sm21 np1 hp1 => ?_⟩
        have g21 := g20.trans (.same g20.tab sm21)
        refine ⟨.ref al, rfl, .str (tx o), rfl, al, o, alph n, ps, rfl, hA13.gr g21, by omega, fun p2 H22 sm22 np2 hp2 => ?_⟩
        have g22 := g21.trans (.same g21.tab sm22)
        have hp1' := sm22 _ _ hp1
        rw [words_txs] at hp1' hp2
        refine ⟨.tuple (((stepsM ps a).map tx).map .str), .tuple (((stepsM ps o).map tx).map .str), .tup (SqT.of hp1') (dp_strs _), .tup (SqT.of hp2) (dp_strs _), shaped_tup _ (sw a ia), shaped_tup _ (sw o io), .str (tx o), rfl, .ref fp, rfl, fp, _, rfl, gives2 g22, rfl, _, rfl, ?_⟩
        rw [eqv_tup]
        have eS : decide ((stepsM ps a).map tx = (stepsM ps o).map tx) = true := decide_eq_true (congrArg _ (steps_alike ex))
        rw [eS]
        exact iteF ⟨_, _, _, rfl, g22⟩
      · -- words that are not alike
        have hg : getR r o = none := getR_none fun z => ex ((memr o).mp z)
        have gives2 : ∀ {H' : Hp}, Gr [Pf, Pt] H13 H' → DGet H' fp (.str (tx o)) none := fun {H'} g => by
          have := gives g
          rw [hg] at this
          exact this
        obtain ⟨m, hm⟩ : ∃ m, partsM (alph n) ps a o = some m := by
          cases e : partsM (alph n) ps a o with
          | none => exact absurd ((partsM_none pr ia io).mp e) ex
          | some m => exact ⟨m, rfl⟩
        refine ⟨.ref al, rfl, .str (tx a), rfl, .str (tx o), rfl, al, a, o, alph n, ps, rfl, hA14, pr, g14.tab Pt Ptm, by omega, by omega, by omega, ia, io, fun H15 mv15 tab15 _ => ?_, fun tp H' _ _ yes _ => absurd yes ex⟩
        have g15 : Gr [Pf, Pt] H13 H15 := g14.trans (gr_mv g14.tab Ptm mv15 tab15)
        refine ⟨.ref al, rfl, .str (tx a), rfl, .str (tx o), rfl, al, a, o, alph n, ps, rfl, hA13.gr g15, tab15, by omega, by omega, by omega, fun v H16 mv16 tab16 hv => ?_⟩
        rw [hm] at hv
        have gm16 := gr_mv g15.tab Ptm mv16 tab16
        have g16 := g15.trans gm16
        obtain ⟨p, rfl⟩ : ∃ p, v = .ref p := by
          cases m with
          | count x =>
            obtain ⟨p, e, _⟩ := hv
            exact ⟨p, e⟩
          | order x y =>
            obtain ⟨p, e, _⟩ := hv
            exact ⟨p, e⟩
        refine ⟨.non, rfl, rfl, .ref p, rfl, rfl, rfl, _, rfl, ?_⟩
        refine iteF ⟨.ref p, rfl, rfl, .str (tx o), rfl, .ref fp, rfl, fp, _, rfl, gives2 g16, rfl, _, rfl, iteF ?_⟩
        -- distance
        refine ⟨.ref al, rfl, .str (tx a), rfl, .str (tx o), rfl, al, a, o, alph n, ps, rfl, hA13.gr g16, pr, tab16, by omega, by omega, by omega, ia, io, fun H17 mv17 tab17 _ => ?_, fun H' _ _ yes => absurd yes ex⟩
        have gm17 := gr_mv g16.tab Ptm mv17 tab17
        have g17 := g16.trans gm17
        have ld : IsD H17 fp := .inl ⟨_, .inl (g17.dK hf13)⟩
        refine ⟨.ref fp, rfl, fp, rfl, ld, .str (tx o), rfl, _, gives2 g17, ?_⟩
        refine ⟨_, _, rfl, .inl ⟨rfl, rfl⟩, true, rfl, iteF ?_⟩
        refine ⟨.non, rfl, rfl, _, rfl, iteF ?_⟩
        have hv17 : PaperV H17 (.ref p) (some m) := by
          cases m with
          | count x =>
            obtain ⟨q, e, hq⟩ := hv
            exact ⟨q, e, gm17.tup hq⟩
          | order x y =>
            obtain ⟨q, e, hq⟩ := hv
            exact ⟨q, e, gm17.tup hq⟩
        refine ⟨.str (tx a), rfl, .str (tx o), rfl, .ref p, rfl, .ref p, a, o, alph n, ps, m, rfl, hv17, hm, by omega, by omega, fun H18 sm18 => ⟨true, rfl, iteF ?_⟩⟩
        have g18 := g17.trans (.same g17.tab sm18)
        have lu : decide (V.str (tx (turnM ps false a.length a)) = V.str (tx (turnM ps false o.length o))) = false := decide_eq_false fun z => ex (by
          have e := tx_inj (V.str.inj z)
          have h1 := least_exs (ps := ps) pr ia
          have h2 := least_exs (ps := ps) pr io
          unfold leastM at h1 h2
          rw [e] at h1
          exact h1.trans h2.symm)
        have su : decide ((stepsM ps a).map tx = (stepsM ps o).map tx) = false := decide_eq_false fun z => ex (steps_iff.mp (txs_inj z))
        cases m with
        | count x =>
          obtain ⟨q, e, hq⟩ := hv17
          cases e
          have hq18 := sm18 _ _ hq
          refine ⟨.ref p, rfl, p, _, 0, .str "count", rfl, rfl, SqT.of hq18, atI_nat (j := 0) rfl, rfl, _, rfl, ?_⟩
          rw [decide_eq_false (show ¬ V.str "count" = V.str "order" from fun z => by have := V.str.inj z; revert this; decide)]
          refine iteF (iteF ?_)
          -- least
          have eL : decide (V.str (tx (turnM ps false a.length a)) = V.str (tx (turnM ps false o.length o))) = false := lu
          refine ⟨.ref al, rfl, .str (tx a), rfl, al, a, alph n, ps, rfl, hA13.gr g18, ia, l50, by omega, g18.tab, fun H19 gm19 => ?_⟩
          have g19 := g18.trans gm19
          refine ⟨.ref al, rfl, .str (tx o), rfl, al, o, alph n, ps, rfl, hA13.gr g19, io, l50, by omega, g19.tab, fun H20 gm20 => ?_⟩
          have g20 := g19.trans gm20
          refine ⟨rfl, .str (tx o), rfl, .ref fp, rfl, fp, _, rfl, gives2 g20, rfl, _, rfl, ?_⟩
          rw [eL]
          refine iteF ?_
          -- steps
          have sw : ∀ w : List Nat, (∀ c ∈ w, c ∈ alph n) → ∀ z ∈ (stepsM ps w).map tx, PyData.strOk z = true := fun w iw z hz => by
            obtain ⟨st, hst, rfl⟩ := List.mem_map.mp hz
            unfold PyData.strOk
            rw [Array.all_eq_true_iff_forall_mem]
            intro c hc
            have hc2 : c ∈ st := by
              have : c ∈ st.toArray := hc
              exact List.mem_toArray.mp this
            have h1 : c ∈ w := (steps_exs (ps := ps) w).perm.mem_iff.mpr (List.mem_flatten.mpr ⟨st, hst, hc2⟩)
            have h2 := low c (iw c h1)
            exact decide_eq_true (by omega)
          refine ⟨.ref al, rfl, .str (tx a), rfl, al, a, alph n, ps, rfl, hA13.gr g20, by omega, fun p1 H21 sm21 np1 hp1 => ?_⟩
          have g21 := g20.trans (.same g20.tab sm21)
          refine ⟨.ref al, rfl, .str (tx o), rfl, al, o, alph n, ps, rfl, hA13.gr g21, by omega, fun p2 H22 sm22 np2 hp2 => ?_⟩
          have g22 := g21.trans (.same g21.tab sm22)
          have hp1' := sm22 _ _ hp1
          rw [words_txs] at hp1' hp2
          refine ⟨.tuple (((stepsM ps a).map tx).map .str), .tuple (((stepsM ps o).map tx).map .str), .tup (SqT.of hp1') (dp_strs _), .tup (SqT.of hp2) (dp_strs _), shaped_tup _ (sw a ia), shaped_tup _ (sw o io), .str (tx o), rfl, .ref fp, rfl, fp, _, rfl, gives2 g22, rfl, _, rfl, ?_⟩
          rw [eqv_tup]
          have eS : decide ((stepsM ps a).map tx = (stepsM ps o).map tx) = false := su
          rw [eS]
          exact iteF ⟨_, _, _, rfl, g22⟩
        | order x y =>
          obtain ⟨q, e, hq⟩ := hv17
          cases e
          have hq18 := sm18 _ _ hq
          obtain ⟨hi, _⟩ := parts_order hm
          refine ⟨.ref p, rfl, p, _, 0, .str "order", rfl, rfl, SqT.of hq18, atI_nat (j := 0) rfl, rfl, _, rfl, ?_⟩
          rw [decide_eq_true (show V.str "order" = V.str "order" from rfl)]
          refine iteT ⟨.ref al, rfl, .ref p, rfl, p, _, 1, .str (tx [x]), rfl, rfl, SqT.of hq18, atI_nat (j := 1) rfl, .ref p, rfl, p, _, 2, .str (tx [y]), rfl, rfl, SqT.of hq18, atI_nat (j := 2) rfl, al, x, y, alph n, ps, rfl, hA13.gr g18, pr, _, rfl, ?_⟩
          rw [hi]
          refine iteF ?_
          -- least
          have eL : decide (V.str (tx (turnM ps false a.length a)) = V.str (tx (turnM ps false o.length o))) = false := lu
          refine ⟨.ref al, rfl, .str (tx a), rfl, al, a, alph n, ps, rfl, hA13.gr g18, ia, l50, by omega, g18.tab, fun H19 gm19 => ?_⟩
          have g19 := g18.trans gm19
          refine ⟨.ref al, rfl, .str (tx o), rfl, al, o, alph n, ps, rfl, hA13.gr g19, io, l50, by omega, g19.tab, fun H20 gm20 => ?_⟩
          have g20 := g19.trans gm20
          refine ⟨rfl, .str (tx o), rfl, .ref fp, rfl, fp, _, rfl, gives2 g20, rfl, _, rfl, ?_⟩
          rw [eL]
          refine iteF ?_
          -- steps
          have sw : ∀ w : List Nat, (∀ c ∈ w, c ∈ alph n) → ∀ z ∈ (stepsM ps w).map tx, PyData.strOk z = true := fun w iw z hz => by
            obtain ⟨st, hst, rfl⟩ := List.mem_map.mp hz
            unfold PyData.strOk
            rw [Array.all_eq_true_iff_forall_mem]
            intro c hc
            have hc2 : c ∈ st := by
              have : c ∈ st.toArray := hc
              exact List.mem_toArray.mp this
            have h1 : c ∈ w := (steps_exs (ps := ps) w).perm.mem_iff.mpr (List.mem_flatten.mpr ⟨st, hst, hc2⟩)
            have h2 := low c (iw c h1)
            exact decide_eq_true (by omega)
          refine ⟨.ref al, rfl, .str (tx a), rfl, al, a, alph n, ps, rfl, hA13.gr g20, by omega, fun p1 H21 sm21 np1 hp1 => ?_⟩
          have g21 := g20.trans (.same g20.tab sm21)
          refine ⟨.ref al, rfl, .str (tx o), rfl, al, o, alph n, ps, rfl, hA13.gr g21, by omega, fun p2 H22 sm22 np2 hp2 => ?_⟩
          have g22 := g21.trans (.same g21.tab sm22)
          have hp1' := sm22 _ _ hp1
          rw [words_txs] at hp1' hp2
          refine ⟨.tuple (((stepsM ps a).map tx).map .str), .tuple (((stepsM ps o).map tx).map .str), .tup (SqT.of hp1') (dp_strs _), .tup (SqT.of hp2) (dp_strs _), shaped_tup _ (sw a ia), shaped_tup _ (sw o io), .str (tx o), rfl, .ref fp, rfl, fp, _, rfl, gives2 g22, rfl, _, rfl, ?_⟩
          rw [eqv_tup]
          have eS : decide ((stepsM ps a).map tx = (stepsM ps o).map tx) = false := su
          rw [eS]
          exact iteF ⟨_, _, _, rfl, g22⟩
    · obtain ⟨_, _, _, rfl, _⟩ := hW
      exact q _
end
end Tc
/-! The end: where each def stands. -/
namespace Tc
open PySem PySem.Spec PyProof.Rows L2 TcG
open LamX in
theorem all_mk {l : PySem.W.OpenLaw} {w : World} {K : PySem.W.Frag} {h : Heap} {mg : Str → Option Value} {fa : Addr} (X : K.In h) (G : h.Ns mainGlobals mg) (hfa : mg "law" = some (.ref fa))
    {f0 : Addr} {od0 an0 : Option Addr} {sl0 : Array (Option Value)} {oc0 kV0 dc0 pm0 cd0 ct0 : Value}
    {f1 : Addr} {od1 an1 : Option Addr} {sl1 : Array (Option Value)} {oc1 kV1 dc1 pm1 cd1 ct1 : Value}
    {f2 : Addr} {od2 an2 : Option Addr} {sl2 : Array (Option Value)} {oc2 kV2 dc2 pm2 cd2 ct2 : Value}
    {f3 : Addr} {od3 an3 : Option Addr} {sl3 : Array (Option Value)} {oc3 kV3 dc3 pm3 cd3 ct3 : Value}
    {f4 : Addr} {od4 an4 : Option Addr} {sl4 : Array (Option Value)} {oc4 kV4 dc4 pm4 cd4 ct4 : Value}
    {f5 : Addr} {od5 an5 : Option Addr} {sl5 : Array (Option Value)} {oc5 kV5 dc5 pm5 cd5 ct5 : Value}
    {f6 : Addr} {od6 an6 : Option Addr} {sl6 : Array (Option Value)} {oc6 kV6 dc6 pm6 cd6 ct6 : Value}
    {f7 : Addr} {od7 an7 : Option Addr} {sl7 : Array (Option Value)} {oc7 kV7 dc7 pm7 cd7 ct7 : Value}
    {f8 : Addr} {od8 an8 : Option Addr} {sl8 : Array (Option Value)} {oc8 kV8 dc8 pm8 cd8 ct8 : Value}
    {f9 : Addr} {od9 an9 : Option Addr} {sl9 : Array (Option Value)} {oc9 kV9 dc9 pm9 cd9 ct9 : Value}
    {f10 : Addr} {od10 an10 : Option Addr} {sl10 : Array (Option Value)} {oc10 kV10 dc10 pm10 cd10 ct10 : Value}
    {f11 : Addr} {od11 an11 : Option Addr} {sl11 : Array (Option Value)} {oc11 kV11 dc11 pm11 cd11 ct11 : Value}
    {f12 : Addr} {od12 an12 : Option Addr} {sl12 : Array (Option Value)} {oc12 kV12 dc12 pm12 cd12 ct12 : Value}
    {f13 : Addr} {od13 an13 : Option Addr} {sl13 : Array (Option Value)} {oc13 kV13 dc13 pm13 cd13 ct13 : Value}
    {f14 : Addr} {od14 an14 : Option Addr} {sl14 : Array (Option Value)} {oc14 kV14 dc14 pm14 cd14 ct14 : Value}
    {f15 : Addr} {od15 an15 : Option Addr} {sl15 : Array (Option Value)} {oc15 kV15 dc15 pm15 cd15 ct15 : Value}
    {f16 : Addr} {od16 an16 : Option Addr} {sl16 : Array (Option Value)} {oc16 kV16 dc16 pm16 cd16 ct16 : Value}
    {f17 : Addr} {od17 an17 : Option Addr} {sl17 : Array (Option Value)} {oc17 kV17 dc17 pm17 cd17 ct17 : Value}
    {f18 : Addr} {od18 an18 : Option Addr} {sl18 : Array (Option Value)} {oc18 kV18 dc18 pm18 cd18 ct18 : Value}
    {f19 : Addr} {od19 an19 : Option Addr} {sl19 : Array (Option Value)} {oc19 kV19 dc19 pm19 cd19 ct19 : Value}
    {f20 : Addr} {od20 an20 : Option Addr} {sl20 : Array (Option Value)} {oc20 kV20 dc20 pm20 cd20 ct20 : Value}
    {f21 : Addr} {od21 an21 : Option Addr} {sl21 : Array (Option Value)} {oc21 kV21 dc21 pm21 cd21 ct21 : Value}
    {f22 : Addr} {od22 an22 : Option Addr} {sl22 : Array (Option Value)} {oc22 kV22 dc22 pm22 cd22 ct22 : Value}
    {f23 : Addr} {od23 an23 : Option Addr} {sl23 : Array (Option Value)} {oc23 kV23 dc23 pm23 cd23 ct23 : Value}
    {f24 : Addr} {od24 an24 : Option Addr} {sl24 : Array (Option Value)} {oc24 kV24 dc24 pm24 cd24 ct24 : Value}
    {f25 : Addr} {od25 an25 : Option Addr} {sl25 : Array (Option Value)} {oc25 kV25 dc25 pm25 cd25 ct25 : Value}
    {f26 : Addr} {od26 an26 : Option Addr} {sl26 : Array (Option Value)} {oc26 kV26 dc26 pm26 cd26 ct26 : Value}
    {f27 : Addr} {od27 an27 : Option Addr} {sl27 : Array (Option Value)} {oc27 kV27 dc27 pm27 cd27 ct27 : Value}
    {f28 : Addr} {od28 an28 : Option Addr} {sl28 : Array (Option Value)} {oc28 kV28 dc28 pm28 cd28 ct28 : Value}
    {f29 : Addr} {od29 an29 : Option Addr} {sl29 : Array (Option Value)} {oc29 kV29 dc29 pm29 cd29 ct29 : Value}
    {f30 : Addr} {od30 an30 : Option Addr} {sl30 : Array (Option Value)} {oc30 kV30 dc30 pm30 cd30 ct30 : Value}
    {f31 : Addr} {od31 an31 : Option Addr} {sl31 : Array (Option Value)} {oc31 kV31 dc31 pm31 cd31 ct31 : Value}
    {f32 : Addr} {od32 an32 : Option Addr} {sl32 : Array (Option Value)} {oc32 kV32 dc32 pm32 cd32 ct32 : Value}
    {F0 C0 P0 : Addr} {OD0 AN0 DD0 : Option Addr} {SL0 TL0 : Array (Option Value)} {OC0 KV0 DC0 PM0 CT0 E0 : Value} {VS0 : Array Value}
    {F1 C1 P1 : Addr} {OD1 AN1 DD1 : Option Addr} {SL1 TL1 : Array (Option Value)} {OC1 KV1 DC1 PM1 CT1 E1 : Value} {VS1 : Array Value}
    (a0 : PySem.W.nsIn K mainGlobals "_law_cell" = some (some (.ref f0))) (l0 : K.lookup f0 = some ⟨oc0, od0, .func (PySem.W.fnOf "_law_cell" "_law_cell" (defArgs s_law_cell) (defBody s_law_cell) (defScope s_law_cell) .none kV0 dc0 pm0 an0 cd0 ct0), sl0⟩) (c0 : PySem.W.codeIn K cd0 "_law_cell" = true) (k0 : PySem.W.keepIn K (.ref f0) = true)
    (a1 : PySem.W.nsIn K mainGlobals "_law_digits" = some (some (.ref f1))) (l1 : K.lookup f1 = some ⟨oc1, od1, .func (PySem.W.fnOf "_law_digits" "_law_digits" (defArgs s_law_digits) (defBody s_law_digits) (defScope s_law_digits) .none kV1 dc1 pm1 an1 cd1 ct1), sl1⟩) (c1 : PySem.W.codeIn K cd1 "_law_digits" = true) (k1 : PySem.W.keepIn K (.ref f1) = true)
    (a2 : PySem.W.nsIn K mainGlobals "_law_box" = some (some (.ref f2))) (l2 : K.lookup f2 = some ⟨oc2, od2, .func (PySem.W.fnOf "_law_box" "_law_box" (defArgs s_law_box) (defBody s_law_box) (defScope s_law_box) .none kV2 dc2 pm2 an2 cd2 ct2), sl2⟩) (c2 : PySem.W.codeIn K cd2 "_law_box" = true) (k2 : PySem.W.keepIn K (.ref f2) = true)
    (a3 : PySem.W.nsIn K mainGlobals "_law_draw" = some (some (.ref f3))) (l3 : K.lookup f3 = some ⟨oc3, od3, .func (PySem.W.fnOf "_law_draw" "_law_draw" (defArgs s_law_draw) (defBody s_law_draw) (defScope s_law_draw) .none kV3 dc3 pm3 an3 cd3 ct3), sl3⟩) (c3 : PySem.W.codeIn K cd3 "_law_draw" = true) (k3 : PySem.W.keepIn K (.ref f3) = true)
    (a4 : PySem.W.nsIn K mainGlobals "_law_alphabet" = some (some (.ref f4))) (l4 : K.lookup f4 = some ⟨oc4, od4, .func (PySem.W.fnOf "_law_alphabet" "_law_alphabet" (defArgs s_law_alphabet) (defBody s_law_alphabet) (defScope s_law_alphabet) .none kV4 dc4 pm4 an4 cd4 ct4), sl4⟩) (c4 : PySem.W.codeIn K cd4 "_law_alphabet" = true) (k4 : PySem.W.keepIn K (.ref f4) = true)
    (a5 : PySem.W.nsIn K mainGlobals "_law_word" = some (some (.ref f5))) (l5 : K.lookup f5 = some ⟨oc5, od5, .func (PySem.W.fnOf "_law_word" "_law_word" (defArgs s_law_word) (defBody s_law_word) (defScope s_law_word) .none kV5 dc5 pm5 an5 cd5 ct5), sl5⟩) (c5 : PySem.W.codeIn K cd5 "_law_word" = true) (k5 : PySem.W.keepIn K (.ref f5) = true)
    (a6 : PySem.W.nsIn K mainGlobals "_law_free" = some (some (.ref f6))) (l6 : K.lookup f6 = some ⟨oc6, od6, .func (PySem.W.fnOf "_law_free" "_law_free" (defArgs s_law_free) (defBody s_law_free) (defScope s_law_free) .none kV6 dc6 pm6 an6 cd6 ct6), sl6⟩) (c6 : PySem.W.codeIn K cd6 "_law_free" = true) (k6 : PySem.W.keepIn K (.ref f6) = true)
    (a7 : PySem.W.nsIn K mainGlobals "_law_same" = some (some (.ref f7))) (l7 : K.lookup f7 = some ⟨oc7, od7, .func (PySem.W.fnOf "_law_same" "_law_same" (defArgs s_law_same) (defBody s_law_same) (defScope s_law_same) .none kV7 dc7 pm7 an7 cd7 ct7), sl7⟩) (c7 : PySem.W.codeIn K cd7 "_law_same" = true) (k7 : PySem.W.keepIn K (.ref f7) = true)
    (a8 : PySem.W.nsIn K mainGlobals "_law_mixed" = some (some (.ref f8))) (l8 : K.lookup f8 = some ⟨oc8, od8, .func (PySem.W.fnOf "_law_mixed" "_law_mixed" (defArgs s_law_mixed) (defBody s_law_mixed) (defScope s_law_mixed) .none kV8 dc8 pm8 an8 cd8 ct8), sl8⟩) (c8 : PySem.W.codeIn K cd8 "_law_mixed" = true) (k8 : PySem.W.keepIn K (.ref f8) = true)
    (a9 : PySem.W.nsIn K mainGlobals "_law_only" = some (some (.ref f9))) (l9 : K.lookup f9 = some ⟨oc9, od9, .func (PySem.W.fnOf "_law_only" "_law_only" (defArgs s_law_only) (defBody s_law_only) (defScope s_law_only) .none kV9 dc9 pm9 an9 cd9 ct9), sl9⟩) (c9 : PySem.W.codeIn K cd9 "_law_only" = true) (k9 : PySem.W.keepIn K (.ref f9) = true)
    (a10 : PySem.W.nsIn K mainGlobals "_law_really" = some (some (.ref f10))) (l10 : K.lookup f10 = some ⟨oc10, od10, .func (PySem.W.fnOf "_law_really" "_law_really" (defArgs s_law_really) (defBody s_law_really) (defScope s_law_really) .none kV10 dc10 pm10 an10 cd10 ct10), sl10⟩) (c10 : PySem.W.codeIn K cd10 "_law_really" = true) (k10 : PySem.W.keepIn K (.ref f10) = true)
    (a11 : PySem.W.nsIn K mainGlobals "_law_exchange_far" = some (some (.ref f11))) (l11 : K.lookup f11 = some ⟨oc11, od11, .func (PySem.W.fnOf "_law_exchange_far" "_law_exchange_far" (defArgs s_law_exchange_far) (defBody s_law_exchange_far) (defScope s_law_exchange_far) .none kV11 dc11 pm11 an11 cd11 ct11), sl11⟩) (c11 : PySem.W.codeIn K cd11 "_law_exchange_far" = true) (k11 : PySem.W.keepIn K (.ref f11) = true)
    (a12 : PySem.W.nsIn K mainGlobals "letter_pairs" = some (some (.ref f12))) (l12 : K.lookup f12 = some ⟨oc12, od12, .func (PySem.W.fnOf "letter_pairs" "letter_pairs" (defArgs s_letter_pairs) (defBody s_letter_pairs) (defScope s_letter_pairs) .none kV12 dc12 pm12 an12 cd12 ct12), sl12⟩) (c12 : PySem.W.codeIn K cd12 "letter_pairs" = true) (k12 : PySem.W.keepIn K (.ref f12) = true)
    (a13 : PySem.W.nsIn K mainGlobals "independent" = some (some (.ref f13))) (l13 : K.lookup f13 = some ⟨oc13, od13, .func (PySem.W.fnOf "independent" "independent" (defArgs s_independent) (defBody s_independent) (defScope s_independent) .none kV13 dc13 pm13 an13 cd13 ct13), sl13⟩) (c13 : PySem.W.codeIn K cd13 "independent" = true) (k13 : PySem.W.keepIn K (.ref f13) = true)
    (a14 : PySem.W.nsIn K mainGlobals "parts" = some (some (.ref f14))) (l14 : K.lookup f14 = some ⟨oc14, od14, .func (PySem.W.fnOf "parts" "parts" (defArgs s_parts) (defBody s_parts) (defScope s_parts) .none kV14 dc14 pm14 an14 cd14 ct14), sl14⟩) (c14 : PySem.W.codeIn K cd14 "parts" = true) (k14 : PySem.W.keepIn K (.ref f14) = true)
    (a15 : PySem.W.nsIn K mainGlobals "exchanges" = some (some (.ref f15))) (l15 : K.lookup f15 = some ⟨oc15, od15, .func (PySem.W.fnOf "exchanges" "exchanges" (defArgs s_exchanges) (defBody s_exchanges) (defScope s_exchanges) .none kV15 dc15 pm15 an15 cd15 ct15), sl15⟩) (c15 : PySem.W.codeIn K cd15 "exchanges" = true) (k15 : PySem.W.keepIn K (.ref f15) = true)
    (a16 : PySem.W.nsIn K mainGlobals "swapped" = some (some (.ref f16))) (l16 : K.lookup f16 = some ⟨oc16, od16, .func (PySem.W.fnOf "swapped" "swapped" (defArgs s_swapped) (defBody s_swapped) (defScope s_swapped) .none kV16 dc16 pm16 an16 cd16 ct16), sl16⟩) (c16 : PySem.W.codeIn K cd16 "swapped" = true) (k16 : PySem.W.keepIn K (.ref f16) = true)
    (a17 : PySem.W.nsIn K mainGlobals "exchanged" = some (some (.ref f17))) (l17 : K.lookup f17 = some ⟨oc17, od17, .func (PySem.W.fnOf "exchanged" "exchanged" (defArgs s_exchanged) (defBody s_exchanged) (defScope s_exchanged) .none kV17 dc17 pm17 an17 cd17 ct17), sl17⟩) (c17 : PySem.W.codeIn K cd17 "exchanged" = true) (k17 : PySem.W.keepIn K (.ref f17) = true)
    (a18 : PySem.W.nsIn K mainGlobals "can_exchange" = some (some (.ref f18))) (l18 : K.lookup f18 = some ⟨oc18, od18, .func (PySem.W.fnOf "can_exchange" "can_exchange" (defArgs s_can_exchange) (defBody s_can_exchange) (defScope s_can_exchange) .none kV18 dc18 pm18 an18 cd18 ct18), sl18⟩) (c18 : PySem.W.codeIn K cd18 "can_exchange" = true) (k18 : PySem.W.keepIn K (.ref f18) = true)
    (a19 : PySem.W.nsIn K mainGlobals "distance" = some (some (.ref f19))) (l19 : K.lookup f19 = some ⟨oc19, od19, .func (PySem.W.fnOf "distance" "distance" (defArgs s_distance) (defBody s_distance) (defScope s_distance) .none kV19 dc19 pm19 an19 cd19 ct19), sl19⟩) (c19 : PySem.W.codeIn K cd19 "distance" = true) (k19 : PySem.W.keepIn K (.ref f19) = true)
    (a20 : PySem.W.nsIn K mainGlobals "firsts" = some (some (.ref f20))) (l20 : K.lookup f20 = some ⟨oc20, od20, .func (PySem.W.fnOf "firsts" "firsts" (defArgs s_firsts) (defBody s_firsts) (defScope s_firsts) .none kV20 dc20 pm20 an20 cd20 ct20), sl20⟩) (c20 : PySem.W.codeIn K cd20 "firsts" = true) (k20 : PySem.W.keepIn K (.ref f20) = true)
    (a21 : PySem.W.nsIn K mainGlobals "levels" = some (some (.ref f21))) (l21 : K.lookup f21 = some ⟨oc21, od21, .func (PySem.W.fnOf "levels" "levels" (defArgs s_levels) (defBody s_levels) (defScope s_levels) .none kV21 dc21 pm21 an21 cd21 ct21), sl21⟩) (c21 : PySem.W.codeIn K cd21 "levels" = true) (k21 : PySem.W.keepIn K (.ref f21) = true)
    (a22 : PySem.W.nsIn K mainGlobals "height" = some (some (.ref f22))) (l22 : K.lookup f22 = some ⟨oc22, od22, .func (PySem.W.fnOf "height" "height" (defArgs s_height) (defBody s_height) (defScope s_height) .none kV22 dc22 pm22 an22 cd22 ct22), sl22⟩) (c22 : PySem.W.codeIn K cd22 "height" = true) (k22 : PySem.W.keepIn K (.ref f22) = true)
    (a23 : PySem.W.nsIn K mainGlobals "ways_off" = some (some (.ref f23))) (l23 : K.lookup f23 = some ⟨oc23, od23, .func (PySem.W.fnOf "ways_off" "ways_off" (defArgs s_ways_off) (defBody s_ways_off) (defScope s_ways_off) .none kV23 dc23 pm23 an23 cd23 ct23), sl23⟩) (c23 : PySem.W.codeIn K cd23 "ways_off" = true) (k23 : PySem.W.keepIn K (.ref f23) = true)
    (a24 : PySem.W.nsIn K mainGlobals "one_more_off" = some (some (.ref f24))) (l24 : K.lookup f24 = some ⟨oc24, od24, .func (PySem.W.fnOf "one_more_off" "one_more_off" (defArgs s_one_more_off) (defBody s_one_more_off) (defScope s_one_more_off) .none kV24 dc24 pm24 an24 cd24 ct24), sl24⟩) (c24 : PySem.W.codeIn K cd24 "one_more_off" = true) (k24 : PySem.W.keepIn K (.ref f24) = true)
    (a25 : PySem.W.nsIn K mainGlobals "first_off" = some (some (.ref f25))) (l25 : K.lookup f25 = some ⟨oc25, od25, .func (PySem.W.fnOf "first_off" "first_off" (defArgs s_first_off) (defBody s_first_off) (defScope s_first_off) .none kV25 dc25 pm25 an25 cd25 ct25), sl25⟩) (c25 : PySem.W.codeIn K cd25 "first_off" = true) (k25 : PySem.W.keepIn K (.ref f25) = true)
    (a26 : PySem.W.nsIn K mainGlobals "least" = some (some (.ref f26))) (l26 : K.lookup f26 = some ⟨oc26, od26, .func (PySem.W.fnOf "least" "least" (defArgs s_least) (defBody s_least) (defScope s_least) .none kV26 dc26 pm26 an26 cd26 ct26), sl26⟩) (c26 : PySem.W.codeIn K cd26 "least" = true) (k26 : PySem.W.keepIn K (.ref f26) = true)
    (a27 : PySem.W.nsIn K mainGlobals "greatest" = some (some (.ref f27))) (l27 : K.lookup f27 = some ⟨oc27, od27, .func (PySem.W.fnOf "greatest" "greatest" (defArgs s_greatest) (defBody s_greatest) (defScope s_greatest) .none kV27 dc27 pm27 an27 cd27 ct27), sl27⟩) (c27 : PySem.W.codeIn K cd27 "greatest" = true) (k27 : PySem.W.keepIn K (.ref f27) = true)
    (a28 : PySem.W.nsIn K mainGlobals "taken_in_turn" = some (some (.ref f28))) (l28 : K.lookup f28 = some ⟨oc28, od28, .func (PySem.W.fnOf "taken_in_turn" "taken_in_turn" (defArgs s_taken_in_turn) (defBody s_taken_in_turn) (defScope s_taken_in_turn) .none kV28 dc28 pm28 an28 cd28 ct28), sl28⟩) (c28 : PySem.W.codeIn K cd28 "taken_in_turn" = true) (k28 : PySem.W.keepIn K (.ref f28) = true)
    (a29 : PySem.W.nsIn K mainGlobals "steps" = some (some (.ref f29))) (l29 : K.lookup f29 = some ⟨oc29, od29, .func (PySem.W.fnOf "steps" "steps" (defArgs s_steps) (defBody s_steps) (defScope s_steps) .none kV29 dc29 pm29 an29 cd29 ct29), sl29⟩) (c29 : PySem.W.codeIn K cd29 "steps" = true) (k29 : PySem.W.keepIn K (.ref f29) = true)
    (a30 : PySem.W.nsIn K mainGlobals "words_of" = some (some (.ref f30))) (l30 : K.lookup f30 = some ⟨oc30, od30, .func (PySem.W.fnOf "words_of" "words_of" (defArgs s_words_of) (defBody s_words_of) (defScope s_words_of) .none kV30 dc30 pm30 an30 cd30 ct30), sl30⟩) (c30 : PySem.W.codeIn K cd30 "words_of" = true) (k30 : PySem.W.keepIn K (.ref f30) = true)
    (a31 : PySem.W.nsIn K mainGlobals "words_from" = some (some (.ref f31))) (l31 : K.lookup f31 = some ⟨oc31, od31, .func (PySem.W.fnOf "words_from" "words_from" (defArgs s_words_from) (defBody s_words_from) (defScope s_words_from) .none kV31 dc31 pm31 an31 cd31 ct31), sl31⟩) (c31 : PySem.W.codeIn K cd31 "words_from" = true) (k31 : PySem.W.keepIn K (.ref f31) = true)
    (a32 : PySem.W.nsIn K mainGlobals "law" = some (some (.ref f32))) (l32 : K.lookup f32 = some ⟨oc32, od32, .func (PySem.W.fnOf "law" "law" (defArgs s_law) (defBody s_law) (defScope s_law) .none kV32 dc32 pm32 an32 cd32 ct32), sl32⟩) (c32 : PySem.W.codeIn K cd32 "law" = true) (k32 : PySem.W.keepIn K (.ref f32) = true)
    (A0 : PySem.W.nsIn K mainGlobals "free" = some (some (.ref F0))) (L0 : K.lookup F0 = some ⟨OC0, OD0, .func (PySem.W.fnOf "free" "free" (defArgs s_free) (defBody s_free) (defScope s_free) .none KV0 DC0 PM0 AN0 (.ref C0) CT0), SL0⟩) (I0 : PySem.W.codeIn K (.ref C0) "free" = true) (G0 : PySem.W.keepIn K (.ref F0) = true)
    (R0 : K.lookup C0 = some ⟨E0, DD0, .fields VS0, TL0⟩) (Q0 : VS0[11]? = some (.ref P0)) (N0 : K.lookup P0 = none) (Y0 : TabOf mg h "free")
    (A1 : PySem.W.nsIn K mainGlobals "taken_out" = some (some (.ref F1))) (L1 : K.lookup F1 = some ⟨OC1, OD1, .func (PySem.W.fnOf "taken_out" "taken_out" (defArgs s_taken_out) (defBody s_taken_out) (defScope s_taken_out) .none KV1 DC1 PM1 AN1 (.ref C1) CT1), SL1⟩) (I1 : PySem.W.codeIn K (.ref C1) "taken_out" = true) (G1 : PySem.W.keepIn K (.ref F1) = true)
    (R1 : K.lookup C1 = some ⟨E1, DD1, .fields VS1, TL1⟩) (Q1 : VS1[11]? = some (.ref P1)) (N1 : K.lookup P1 = none) (Y1 : TabOf mg h "taken_out")
    (z0 : PySem.W.nsIn K mainGlobals "len" = some none)
    (z1 : PySem.W.nsIn K mainGlobals "range" = some none)
    (z2 : PySem.W.nsIn K mainGlobals "int" = some none)
    (z3 : PySem.W.nsIn K mainGlobals "min" = some none)
    (z4 : PySem.W.nsIn K mainGlobals "max" = some none)
    (z5 : PySem.W.nsIn K mainGlobals "sorted" = some none)
    (z6 : PySem.W.nsIn K mainGlobals "tuple" = some none)
    (z7 : PySem.W.nsIn K mainGlobals "bool" = some none)
    (z8 : PySem.W.nsIn K mainGlobals "str" = some none)
    (z9 : PySem.W.nsIn K mainGlobals "isinstance" = some none)
    (z10 : PySem.W.nsIn K mainGlobals "all" = some none)
    (z11 : PySem.W.nsIn K mainGlobals "reversed" = some none)
    (z12 : PySem.W.nsIn K mainGlobals "list" = some none)
    (z13 : PySem.W.nsIn K mainGlobals "enumerate" = some none)
    (z14 : PySem.W.nsIn K mainGlobals "zip" = some none)
    : LawAtS l w K CX0 8 63 "script" mg fa h := by
  have e := hfa.symm.trans (PySem.W.mg_of X G a32)
  cases e
  have F100 := fun_mk (st := s_law_cell) l0 c0 k0
  have F101 := fun_mk (st := s_law_digits) l1 c1 k1
  have F102 := fun_mk (st := s_law_box) l2 c2 k2
  have F103 := fun_mk (st := s_law_draw) l3 c3 k3
  have F104 := fun_mk (st := s_law_alphabet) l4 c4 k4
  have F105 := fun_mk (st := s_law_word) l5 c5 k5
  have F106 := fun_mk (st := s_law_free) l6 c6 k6
  have F107 := fun_mk (st := s_law_same) l7 c7 k7
  have F108 := fun_mk (st := s_law_mixed) l8 c8 k8
  have F109 := fun_mk (st := s_law_only) l9 c9 k9
  have F110 := fun_mk (st := s_law_really) l10 c10 k10
  have F111 := fun_mk (st := s_law_exchange_far) l11 c11 k11
  have F112 := fun_mk (st := s_letter_pairs) l12 c12 k12
  have F113 := fun_mk (st := s_independent) l13 c13 k13
  have F114 := fun_mk (st := s_parts) l14 c14 k14
  have F115 := fun_mk (st := s_exchanges) l15 c15 k15
  have F116 := fun_mk (st := s_swapped) l16 c16 k16
  have F117 := fun_mk (st := s_exchanged) l17 c17 k17
  have F118 := fun_mk (st := s_can_exchange) l18 c18 k18
  have F119 := fun_mk (st := s_distance) l19 c19 k19
  have F120 := fun_mk (st := s_firsts) l20 c20 k20
  have F121 := fun_mk (st := s_levels) l21 c21 k21
  have F122 := fun_mk (st := s_height) l22 c22 k22
  have F123 := fun_mk (st := s_ways_off) l23 c23 k23
  have F124 := fun_mk (st := s_one_more_off) l24 c24 k24
  have F125 := fun_mk (st := s_first_off) l25 c25 k25
  have F126 := fun_mk (st := s_least) l26 c26 k26
  have F127 := fun_mk (st := s_greatest) l27 c27 k27
  have F128 := fun_mk (st := s_taken_in_turn) l28 c28 k28
  have F129 := fun_mk (st := s_steps) l29 c29 k29
  have F130 := fun_mk (st := s_words_of) l30 c30 k30
  have F131 := fun_mk (st := s_words_from) l31 c31 k31
  have F132 := fun_mk (st := s_law) l32 c32 k32
  have T0 := tab_at X Y0 (PySem.W.mg_of X G A0) L0 rfl R0 Q0
  have D0 := func_mk (st := s_free) L0 I0 G0
  have T1 := tab_at X Y1 (PySem.W.mg_of X G A1) L1 rfl R1 Q1
  have D1 := func_mk (st := s_taken_out) L1 I1 G1
  refine ⟨PySem.W.fnOf "law" "law" (defArgs s_law) (defBody s_law) (defScope s_law) .none kV32 dc32 pm32 an32 cd32 ct32, [(C0, P0), (C1, P1)], sp_law K P0 P1, ?_, ?_, ?_, fun s u => .of_eq rfl, ?_, ?_⟩
  · intro p hp
    simp only [List.mem_cons, List.not_mem_nil, or_false] at hp
    rcases hp with rfl | rfl
    · exact T0.2
    · exact T1.2
  · intro p hp
    simp only [List.mem_cons, List.not_mem_nil, or_false] at hp
    rcases hp with rfl | rfl
    · exact N0
    · exact N1
  · intro p hp
    simp only [List.mem_cons, List.not_mem_nil, or_false] at hp
    rcases hp with rfl | rfl
    · exact T0.1
    · exact T1.1
  · intro H a ns hl _ hT hS
    exact ⟨a, ns, rfl, hS, ⟨#[], hT (C0, P0) (by simp), trivial⟩, ⟨#[], hT (C1, P1) (by simp), trivial⟩, fun _ => rfl⟩
  · intro base _ _ TB
    have z100 := TB (C0, P0) (by simp)
    have B0 : GxR.TabB base mg C0 P0 := ⟨z100.code, z100.bm, z100.gP⟩
    have z101 := TB (C1, P1) (by simp)
    have B1 : GxR.TabB base mg C1 P1 := ⟨z101.code, z101.bm, z101.gP⟩
    exact ok_law F132 {
      fCell := f0
      dCell := _
      cell := F100
      gCell := PySem.W.mg_of X G a0
      fDigits := f1
      dDigits := _
      digits := F101
      gDigits := PySem.W.mg_of X G a1
      fBox := f2
      dBox := _
      box := F102
      gBox := PySem.W.mg_of X G a2
      fDraw := f3
      dDraw := _
      draw := F103
      gDraw := PySem.W.mg_of X G a3
      fAlpha := f4
      dAlpha := _
      alpha := F104
      gAlpha := PySem.W.mg_of X G a4
      fWord := f5
      dWord := _
      word := F105
      gWord := PySem.W.mg_of X G a5
      fLFree := f6
      dLFree := _
      lfree := F106
      gLFree := PySem.W.mg_of X G a6
      fSame := f7
      dSame := _
      same := F107
      gSame := PySem.W.mg_of X G a7
      fMixed := f8
      dMixed := _
      mixed := F108
      gMixed := PySem.W.mg_of X G a8
      fOnly := f9
      dOnly := _
      only := F109
      gOnly := PySem.W.mg_of X G a9
      fReally := f10
      dReally := _
      really := F110
      gReally := PySem.W.mg_of X G a10
      fFar := f11
      dFar := _
      far := F111
      gFar := PySem.W.mg_of X G a11
      fPairs := f12
      dPairs := _
      pairs := F112
      gPairs := PySem.W.mg_of X G a12
      fInd := f13
      dInd := _
      ind := F113
      gInd := PySem.W.mg_of X G a13
      fParts := f14
      dParts := _
      parts := F114
      gParts := PySem.W.mg_of X G a14
      fExchanges := f15
      dExchanges := _
      exchanges := F115
      gExchanges := PySem.W.mg_of X G a15
      fSwapped := f16
      dSwapped := _
      swapped := F116
      gSwapped := PySem.W.mg_of X G a16
      fExchanged := f17
      dExchanged := _
      exchanged := F117
      gExchanged := PySem.W.mg_of X G a17
      fCan := f18
      dCan := _
      can := F118
      gCan := PySem.W.mg_of X G a18
      fDistance := f19
      dDistance := _
      distance := F119
      gDistance := PySem.W.mg_of X G a19
      fFirsts := f20
      dFirsts := _
      firsts := F120
      gFirsts := PySem.W.mg_of X G a20
      fLevels := f21
      dLevels := _
      levels := F121
      gLevels := PySem.W.mg_of X G a21
      fHeight := f22
      dHeight := _
      height := F122
      gHeight := PySem.W.mg_of X G a22
      fWays := f23
      dWays := _
      ways := F123
      gWays := PySem.W.mg_of X G a23
      fMore := f24
      dMore := _
      more := F124
      gMore := PySem.W.mg_of X G a24
      fOff := f25
      dOff := _
      off := F125
      gOff := PySem.W.mg_of X G a25
      fLeast := f26
      dLeast := _
      least := F126
      gLeast := PySem.W.mg_of X G a26
      fGreatest := f27
      dGreatest := _
      greatest := F127
      gGreatest := PySem.W.mg_of X G a27
      fTurn := f28
      dTurn := _
      turn := F128
      gTurn := PySem.W.mg_of X G a28
      fSteps := f29
      dSteps := _
      steps := F129
      gSteps := PySem.W.mg_of X G a29
      fWords := f30
      dWords := _
      words := F130
      gWords := PySem.W.mg_of X G a30
      fWFrom := f31
      dWFrom := _
      wFrom := F131
      gWFrom := PySem.W.mg_of X G a31
      fFree := F0
      dFree := _
      cFree := C0
      free := D0
      gFree := PySem.W.mg_of X G A0
      tFree := B0
      fTaken := F1
      dTaken := _
      cTaken := C1
      taken := D1
      gTaken := PySem.W.mg_of X G A1
      tTaken := B1
      mlen := PySem.W.mg_none_of X G z0
      mrange := PySem.W.mg_none_of X G z1
      mint := PySem.W.mg_none_of X G z2
      mmin := PySem.W.mg_none_of X G z3
      mmax := PySem.W.mg_none_of X G z4
      msorted := PySem.W.mg_none_of X G z5
      mtuple := PySem.W.mg_none_of X G z6
      mbool := PySem.W.mg_none_of X G z7
      mstr := PySem.W.mg_none_of X G z8
      misi := PySem.W.mg_none_of X G z9
      mall := PySem.W.mg_none_of X G z10
      mrev := PySem.W.mg_none_of X G z11
      mlist := PySem.W.mg_none_of X G z12
      menum := PySem.W.mg_none_of X G z13
      mzip := PySem.W.mg_none_of X G z14 }
end Tc
open PySem PySem.W PyProof.Rows
set_option maxRecDepth 100000 in
set_option maxHeartbeats 0 in
theorem PySem.Challenge.cw_traceclasses_k96_whole_alike_or_parted_holds : PySem.Challenge.rw_traceclasses_k96_whole_alike_or_parted.Holds := by
  w_on; o_law; k_head; (case hw => w_witness2)
  k_fill
  refine TcG.walk_ofMany (l := PySem.Challenge.rw_traceclasses_k96_whole_alike_or_parted) (n := 63) (k := 8) (x := "script") (CX := fun _ => L2.CX0) rfl (by decide) rfl ⟨rfl, by decide, by decide⟩ (fun w h Y => PySem.W.kIn_of Y) ?F (fun _ _ _ _ _ h => h)
  case F =>
    intro w mg fa h KX G hmg tabs
    refine' Tc.all_mk KX G hmg ?a0 ?l0 ?c0 ?k0 ?a1 ?l1 ?c1 ?k1 ?a2 ?l2 ?c2 ?k2 ?a3 ?l3 ?c3 ?k3 ?a4 ?l4 ?c4 ?k4 ?a5 ?l5 ?c5 ?k5 ?a6 ?l6 ?c6 ?k6 ?a7 ?l7 ?c7 ?k7 ?a8 ?l8 ?c8 ?k8 ?a9 ?l9 ?c9 ?k9 ?a10 ?l10 ?c10 ?k10 ?a11 ?l11 ?c11 ?k11 ?a12 ?l12 ?c12 ?k12 ?a13 ?l13 ?c13 ?k13 ?a14 ?l14 ?c14 ?k14 ?a15 ?l15 ?c15 ?k15 ?a16 ?l16 ?c16 ?k16 ?a17 ?l17 ?c17 ?k17 ?a18 ?l18 ?c18 ?k18 ?a19 ?l19 ?c19 ?k19 ?a20 ?l20 ?c20 ?k20 ?a21 ?l21 ?c21 ?k21 ?a22 ?l22 ?c22 ?k22 ?a23 ?l23 ?c23 ?k23 ?a24 ?l24 ?c24 ?k24 ?a25 ?l25 ?c25 ?k25 ?a26 ?l26 ?c26 ?k26 ?a27 ?l27 ?c27 ?k27 ?a28 ?l28 ?c28 ?k28 ?a29 ?l29 ?c29 ?k29 ?a30 ?l30 ?c30 ?k30 ?a31 ?l31 ?c31 ?k31 ?a32 ?l32 ?c32 ?k32 ?A0 ?L0 ?I0 ?G0 ?R0 ?Q0 ?N0 ?Y0 ?A1 ?L1 ?I1 ?G1 ?R1 ?Q1 ?N1 ?Y1 ?z0 ?z1 ?z2 ?z3 ?z4 ?z5 ?z6 ?z7 ?z8 ?z9 ?z10 ?z11 ?z12 ?z13 ?z14
    (case a0 => k_is); (case l0 => k_is); (case c0 => k_is); (case k0 => k_is); (case a1 => k_is); (case l1 => k_is); (case c1 => k_is); (case k1 => k_is); (case a2 => k_is); (case l2 => k_is); (case c2 => k_is); (case k2 => k_is); (case a3 => k_is); (case l3 => k_is); (case c3 => k_is); (case k3 => k_is); (case a4 => k_is); (case l4 => k_is); (case c4 => k_is); (case k4 => k_is); (case a5 => k_is); (case l5 => k_is); (case c5 => k_is); (case k5 => k_is); (case a6 => k_is); (case l6 => k_is); (case c6 => k_is); (case k6 => k_is); (case a7 => k_is); (case l7 => k_is); (case c7 => k_is); (case k7 => k_is); (case a8 => k_is); (case l8 => k_is); (case c8 => k_is); (case k8 => k_is); (case a9 => k_is); (case l9 => k_is); (case c9 => k_is); (case k9 => k_is); (case a10 => k_is); (case l10 => k_is); (case c10 => k_is); (case k10 => k_is); (case a11 => k_is); (case l11 => k_is); (case c11 => k_is); (case k11 => k_is); (case a12 => k_is); (case l12 => k_is); (case c12 => k_is); (case k12 => k_is); (case a13 => k_is); (case l13 => k_is); (case c13 => k_is); (case k13 => k_is); (case a14 => k_is); (case l14 => k_is); (case c14 => k_is); (case k14 => k_is); (case a15 => k_is); (case l15 => k_is); (case c15 => k_is); (case k15 => k_is); (case a16 => k_is); (case l16 => k_is); (case c16 => k_is); (case k16 => k_is); (case a17 => k_is); (case l17 => k_is); (case c17 => k_is); (case k17 => k_is); (case a18 => k_is); (case l18 => k_is); (case c18 => k_is); (case k18 => k_is); (case a19 => k_is); (case l19 => k_is); (case c19 => k_is); (case k19 => k_is); (case a20 => k_is); (case l20 => k_is); (case c20 => k_is); (case k20 => k_is); (case a21 => k_is); (case l21 => k_is); (case c21 => k_is); (case k21 => k_is); (case a22 => k_is); (case l22 => k_is); (case c22 => k_is); (case k22 => k_is); (case a23 => k_is); (case l23 => k_is); (case c23 => k_is); (case k23 => k_is); (case a24 => k_is); (case l24 => k_is); (case c24 => k_is); (case k24 => k_is); (case a25 => k_is); (case l25 => k_is); (case c25 => k_is); (case k25 => k_is); (case a26 => k_is); (case l26 => k_is); (case c26 => k_is); (case k26 => k_is); (case a27 => k_is); (case l27 => k_is); (case c27 => k_is); (case k27 => k_is); (case a28 => k_is); (case l28 => k_is); (case c28 => k_is); (case k28 => k_is); (case a29 => k_is); (case l29 => k_is); (case c29 => k_is); (case k29 => k_is); (case a30 => k_is); (case l30 => k_is); (case c30 => k_is); (case k30 => k_is); (case a31 => k_is); (case l31 => k_is); (case c31 => k_is); (case k31 => k_is); (case a32 => k_is); (case l32 => k_is); (case c32 => k_is); (case k32 => k_is)
    (case A0 => k_is); (case L0 => k_is); (case I0 => k_is); (case G0 => k_is); (case R0 => k_is)
    (case Q0 => rfl); (case N0 => first | rfl | decide +kernel); (case Y0 => exact tabs _ (by decide +kernel))
    (case A1 => k_is); (case L1 => k_is); (case I1 => k_is); (case G1 => k_is); (case R1 => k_is)
    (case Q1 => rfl); (case N1 => first | rfl | decide +kernel); (case Y1 => exact tabs _ (by decide +kernel))
    (case z0 => k_is); (case z1 => k_is); (case z2 => k_is); (case z3 => k_is); (case z4 => k_is); (case z5 => k_is); (case z6 => k_is); (case z7 => k_is); (case z8 => k_is); (case z9 => k_is); (case z10 => k_is); (case z11 => k_is); (case z12 => k_is); (case z13 => k_is); (case z14 => k_is)
